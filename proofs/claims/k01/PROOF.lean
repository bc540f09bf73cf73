import PyProof.Rows.All
import Wide.All
import OpenK.AllK
import Wide.FinOn
import PyProof.EqAt
import PyProof.EqKinds
import PyProof.TupleCall
import PyProof.ReprRoads
import HandS.ForMost
import HandS.Evl
import HandS.Defaults
import HandS.SetFor
import HandS.Strs
import HandS.TupSets
import HandS.IsInst
import HandS.NoneIn
import HandS.Style
import HandS.TupAny
import HandS.Conv
import HandS.Ends
import PyProof.Rows.StrJoinMade
import PySem.Challenge.RW_apartcalls_k01_nets
set_option Elab.async false
set_option linter.all false
set_option maxRecDepth 110000
set_option maxHeartbeats 0
/-! Rules of our own: defs that are called where no guard stands (for repr), repr of data, powers, calls by keywords alone. -/
namespace Vf
open PySem PySem.Spec PyProof.Rows L2

/-! ### defs that are called where no guard stands -/
structure FnG (P : Program) (w : World) (K : PySem.W.Frag) (mg : Str → Option Value) (base : Heap) (CX : CXT) (k : Nat) (f : Addr) (fd : FuncData) (ps : List Str) (sp : Sp) : Prop where
  lenG : ∀ vs H Q E, sp vs H Q E → vs.length = ps.length
  runG : ∀ (A : Around) (outer : List Env) (s : Shared) (H : Hp) (args : Args) (us : List Value) (vs : List V) (Q : VK) (E : XK),
    A.guards = some [] → Room k A → Env0 P w K mg base A outer s H → BindsTo s fd args (ps.zip us) → Vals vs us → sp vs H Q E →
      codeAny (model P w) A (.call (.ref f) args) (CR CX outer P w H s Q E) s

theorem FnG.of {P : Program} {w : World} {K : PySem.W.Frag} {mg : Str → Option Value} {base : Heap} {CX : CXT} {k : Nat} {f : Addr} {fd : FuncData} {ps : List Str} {sp : Sp}
    (F : FnOk P w K mg base CX k f fd ps sp) : FnG P w K mg base CX k f fd ps sp :=
  ⟨F.len, fun A outer s H args us vs Q E _ => F.run A outer s H args us vs Q E⟩

section
variable {P : Program} {w : World} {K : PySem.W.Frag} {mg : Str → Option Value} {base : Heap}
theorem okG {x qual : Str} {st : Stmt} {f : Addr} {fd : FuncData} {N ps : List Str} {k : Nat} {sp : Sp} (F : Fun K x qual st f fd) (S : FnScope N ps (defScope st))
    (len : ∀ vs H Q E, sp vs H Q E → vs.length = ps.length)
    (hbody : ∀ (cdv : Value) (A : Around) (outer : List Env) (s : Shared) (H : Hp) (vs : List V) (Q : VK) (E : XK), A.guards = some [] →
      Room k (A.deeper (envOfC qual (defScope st) s.heap.objs.size f cdv)) → sp vs H Q E →
      ∃ t, PSs (cxOf CX0 P w K mg base N qual (defScope st) f cdv A outer s H E).nox (defBody st) t ∧ t { nx := fun _ H' => Q .non H', rt := Q } (start N vs) H) :
    FnG P w K mg base CX0 (k + 1) f fd ps sp := by
  obtain ⟨oc, od, kV, doc, pm, an, cdv, ct, osl, rfl, lk, hcd⟩ := F.ex
  refine ⟨len, fun A outer s H args us vs Q E hg hr e0 hb r hsp => ?_⟩
  have KX : K.In s.heap := e0.mod.kin.keeps fun b o e => (e0.bs b o e).1
  have lim : s.heap.NoLimit := e0.mod.nolimit.keeps fun b o e => (e0.bs b o e).1
  have hkind : ∀ y ∈ ps.zip us, (defScope st).names.lookup y.1 = some .local ∨
      ((defScope st).names.lookup y.1 = some .cell ∧ ((cellsFrom (s.heap.objs.size + 1) (defScope st).names []).lookup y.1).isSome = true) := by
    rintro ⟨n, v⟩ hy
    rcases S.par n (List.of_mem_zip hy).1 with q | q
    · exact .inl q
    · exact .inr ⟨q, PySem.W.cellsFrom_some _ _ _ (.inl q)⟩
  refine codeAny_call_function hr.depth (KX _ _ lk) rfl S.co S.gen rfl (PySem.W.codeRec_of KX hcd)
    (hb _ _ _ _ (wpAny_newFunctionEnv_cells S.kind hkind fun env he s1 x => ?_))
  subst he
  refine ⟨lim.keeps x.toInCall.keep, codeAny_func ?_⟩
  obtain ⟨t, ht0, hq⟩ := hbody cdv A outer s H vs Q E hg (hr.deeper _) hsp
  have ht := ht0.nox
  have I := inv_start (CX := CX0) (E := E) S hr.hd e0 (len _ _ _ _ hsp) r x
  refine wpAny_mono (ht.run [] s1 (start N vs) H _ I hq) ?_ (fun e s' hs => hs)
  intro fl s' hs
  cases fl with
  | ret u =>
    obtain ⟨v, σ', H', J, rv, q⟩ := hs
    exact ⟨v, H', J.os, J.bare, J.base, J.hok, rv, q⟩
  | next =>
    obtain ⟨σ', H', J, q⟩ := hs
    exact ⟨V.non, H', J.os, J.bare, J.base, J.hok, rfl, q⟩
  | brk =>
    obtain ⟨_, _, _, q⟩ := hs
    exact q.elim
  | cont =>
    obtain ⟨_, _, _, q⟩ := hs
    exact q.elim
end

section
variable {X : Cx} {CX : CXT} {k : Nat} {f : Addr} {fd : FuncData} {ps : List Str} {sp : Sp} {dvs : List V} {ds : List Value} {E : XK} {x : Str} {p pos : Pos} {e : Expr} {es : List Expr} {t : TA}
theorem runG_fn {pins : List (Addr × Obj)} {σ : L2.St} {H : Hp} {s : Shared} {Q : VK} {us : List Value} {vs : List V}
    (F : FnG X.prog X.w X.K X.mg X.base CX0 k f fd ps sp) (hgd : X.A.guards = some []) (hr : Room k X.A) (hb : Binds X.K fd ps []) (I : Inv X pins σ H s) (r : Vals vs us) (h : sp vs H Q E0) :
    wpAny (model X.prog X.w) X.A (call (.ref f) us) (EP X pins σ Q) X.xe s := by
  have hl : us.length = ps.length := by rw [← r.length]; exact F.lenG _ _ _ _ h
  have hb' := hb s us I.kIn (by rw [List.append_nil]; exact hl)
  rw [List.append_nil] at hb'
  refine wpAny_call (codeAny_mono (F.runG X.A X.stack s H ⟨us, []⟩ us vs Q E0 hgd hr I.env0 hb' r h) ?_)
  intro r s' hq
  cases r with
  | error e => exact False.elim hq
  | ok fl =>
    cases fl with
    | ret u => exact I.after hq
    | next => exact False.elim hq
    | brk => exact False.elim hq
    | cont => exact False.elim hq
/-- f(e, ..), f such a def -/
theorem pe_callG (F : FnG X.prog X.w X.K X.mg X.base CX0 k f fd ps sp) (hgd : X.A.guards = some []) (hr : Room k X.A) (hg : Gl X x) (hm : X.mg x = some (.ref f)) (hk : PySem.W.keepIn X.K (.ref f) = true) (hb : Binds X.K fd ps [])
    (ha : PA X (e :: es) t) (hdb : (x == ("__debug__" : Str)) = false := by decide) (he : starEach (e :: es) X.env = (false, eval e X.env) :: starEach es X.env := by rfl)
    (hpl : (backTo pos (starEach es X.env)).any (·.1) = false := by rfl) :
    PE X (.Call (.Name x p) (e :: es) [] pos) (tCall sp [] E0 t) := by
  refine ⟨fun pins s σ H Q I h => wpAny_Call_Name_kw (ld_glob I hg hm ?_ hdb)⟩
  refine PySem.W.callWith_K (h₀ := X.base) I.ok.mod.kin hk (thn (ha.run pos pins s σ H _ I h) fun us s1 ⟨vs, H1, I1, r, q⟩ => ⟨I1.kIn, ?_⟩) he hpl
  simp only [List.append_nil] at q
  exact runG_fn F hgd hr hb I1 r q
end

/-! ### calls by keywords alone -/
section
variable {X : Cx} {CX : CXT} {k : Nat} {f : Addr} {fd : FuncData} {ps ks : List Str} {sp : Sp} {E : XK} {x : Str} {p pos : Pos} {kws : List Keyword} {tk : TA}
variable {g : List Value → List Value → List Value} {gV : List V → List V → List V}
/-- f(k = v, ..) -/
theorem pe_callK0 (F : FnOk X.prog X.w X.K X.mg X.base CX k f fd ps sp) (hr : Room k X.A) (hg : Gl X x) (hm : X.mg x = some (.ref f)) (hk : PySem.W.keepIn X.K (.ref f) = true) (hb : KBinds X.K fd ps ks g gV) (hx : Passes CX X E)
    (hkw : PK X kws tk) (hall : (backToKw pos (keywordEach kws X.env)).all (·.1.isSome) = true := by rfl) (hks : (backToKw pos (keywordEach kws X.env)).filterMap (·.1) = ks := by rfl)
    (hdb : (x == ("__debug__" : Str)) = false := by decide) :
    PE X (.Call (.Name x p) [] kws pos) (tCallK sp gV E tNil tk) := by
  refine ⟨fun pins s σ H Q I h => wpAny_Call_Name_kw (ld_glob I hg hm ?_ hdb)⟩
  refine PySem.W.callWith_KW0 (h₀ := X.base) I.ok.mod.kin hk hall (thn (hkw.run pos pins s σ H _ I h) fun ws s2 ⟨zs, H2, I2, rz, q2⟩ => ⟨I2.kIn, ?_⟩) (by
    show (false || (backToKw pos (keywordEach kws X.env)).any (·.1.isNone)) = false
    have h1 := List.all_eq_true.mp hall
    simp only [Bool.false_or, List.any_eq_false]
    intro y hy hz
    have h2 := h1 y hy
    cases hh : y.1 with
    | none => rw [hh] at h2; exact absurd h2 (by decide)
    | some z => rw [hh] at hz; simp at hz)
  rw [hks]
  exact run_fnk (us := []) F hr hb hx I2 .nil rz q2
end

/-- two parameters, told by name in the other order -/
def swap2 {α : Type} : List α → List α → List α
  | [], [a, b] => [b, a]
  | _, _ => []
theorem swap2_binds {K : PySem.W.Frag} {fd : FuncData} {p1 p2 : Str} (h : ∀ a b : Value, bindArgs fd ⟨[], [(p2, a), (p1, b)]⟩ = pure [(p1, b), (p2, a)]) :
    KBinds K fd [p1, p2] [p2, p1] swap2 swap2 := by
  refine ⟨fun s us ws _ hl => ?_, fun {vs us zs ws} r1 r2 => ?_⟩
  · match us, ws, hl with
    | [], [a, b], _ => exact .of_eq (h a b)
    | [], [], hl => exact absurd hl (by simp [swap2])
    | [], [_], hl => exact absurd hl (by simp [swap2])
    | [], _ :: _ :: _ :: _, hl => exact absurd hl (by simp [swap2])
    | _ :: _, _, hl => exact absurd hl (by simp [swap2])
  · cases r1 with
    | cons _ _ => exact .nil
    | nil =>
      cases r2 with
      | nil => exact .nil
      | cons a ra =>
        cases ra with
        | nil => exact .nil
        | cons b rb =>
          cases rb with
          | nil => exact .cons b (.cons a .nil)
          | cons _ _ => exact .nil

/-! ### powers of any size -/
section
variable {X : Cx}
def CPowW (i j : Int) : Prop := 0 ≤ j ∧ (Builtin.Int.intBits i : Int) * j ≤ 2 ^ 27
theorem op_powW : OpR X (binaryOp .Pow) (rI CPowW fun i j => .int (i ^ j.toNat)) := opI fun _ _ _ _ _ _ _ hc q => pow_int hc.1 hc.2 q
end

/-! ### repr of data -/
section
variable {X : Cx}
def rRepr (K : PySem.W.Frag) : List V → Hp → VK → Prop := fun xs H Q => ∃ (a : Addr) (d : PyData), xs = [.ref a] ∧ Dp K H (.ref a) d ∧ d.showable = true ∧ d.hasDict = false ∧ d.depth ≤ 60 ∧ d.shown.length ≤ sizeLine ∧ Q (.str d.shown) H
theorem call_repr_D {k : Nat} (hgd : X.A.guards = some []) (hr : Room k X.A) : CallR X (.builtin "repr") (rRepr X.K) := by
  intro pins s σ H xs us Q I r h
  obtain ⟨a, d, rfl, hd, hs, hn, hdp, hz, q⟩ := h
  obtain ⟨u, rfl, ru⟩ := vals1 r
  cases (show u = Value.ref a from ru)
  obtain ⟨as, rd⟩ := Dp.reads I d (.ref a) (.ref a) hd rfl
  refine PySem.repr_of_reads' rd hs (fun z => absurd z (by rw [hn]; decide)) hgd (by have := hr.un; omega) (fun _ _ e => e) (fun h' u tk hk => ?_) hz
  exact ⟨.str d.shown, H, I.kept (t' := tk) hk, ⟨u, rfl⟩, q⟩
end
end Vf

/-! set(xs) of a list of ints, kept as an object. -/
namespace Vf
open PySem PySem.Spec PyProof.Rows L2

/-- an empty set, as it is made -/
abbrev freshSet (w : World) : Obj := { cls := .type "set", dict := none, data := .set #[] 0 (.fresh 0 0 (!w.params.followText "set-order")) }
section
variable {P : Program} {w : World} {A : Around} {E : Value → Shared → Prop} {s : Shared}
theorem mk_set_list {l : Addr} {items : Array Value} (ns : List Int) {Q : Value → Shared → Prop} (hh : A.handled = none) (hl : s.heap.IsList l items)
    (hit : IntsAre items.toList ns) (hb : ns.length + 1 < scanBound)
    (h : ∀ (h' : Heap) (tk c : Nat), SetR w h' s.heap.objs.size (fun j => decide (j ∈ ns)) c → c ≤ ns.length →
      (∀ b o, s.heap.get? b = some o → h'.get? b = some o) → Q (.ref s.heap.objs.size) { s with heap := h', toks := tk }) :
    wpAny (model P w) A (call (.type "set") [.ref l]) Q E s := by
  have hisz : items.size = ns.length := (Array.length_toList (xs := items)).symm.trans (IntsAre.length hit)
  obtain ⟨c, tl, hmro⟩ := F.called_set.mro
  have hmade := F.called_set.made
  have hsub := F.called_set.sub
  refine wpAny_call (codeAny_of_tree ?_)
  show wpAny _ _ (callAny (.type "set") _) _ _ _
  refine wpAny_pure ⟨Code.quiet_builtin _ (by decide +kernel), codeAny_builtin F.entry_type_call ?_⟩
  rw [Around.under_plain (weight_type_call_type "set" [.ref l] []) rfl]
  have k1 := F.called_set.notType
  have k2 := F.called_set.canCreate
  have k3 := F.typeCall_set_1 (.ref l)
  repeat (any_goals (first | assumption | wp_step))
  refine codeAny_mono (code_set_led1 (.ref l) (E := E) (Q₁ := fun obj s₁ => obj = .ref s.heap.objs.size ∧ s₁ = { s with heap := s.heap.push (freshSet w) }) ⟨rfl, rfl⟩) ?_
  intro r s₁ hr
  cases r with
  | error e => exact hr
  | ok fl =>
    cases fl with
    | ret obj =>
      obtain ⟨rfl, rfl⟩ := hr
      have hS : (s.heap.push (freshSet w)).get? s.heap.objs.size = some (freshSet w) := Heap.get?_push_size _ rfl
      have hT : Shared.TypeIs { s with heap := s.heap.push (freshSet w) } (.ref s.heap.objs.size) "set" := ⟨_, hS, rfl⟩
      have k4 := F.called_set.init.lookup
      have k5 := F.called_set.init.bind (.ref s.heap.objs.size)
      repeat (any_goals (first | assumption | wp_step))
      let G : Value → Shared → Prop := fun r s₂ => r = .none ∧ ∃ h' tk c, s₂ = { s with heap := h', toks := tk } ∧
        SetR w h' s.heap.objs.size (fun j => decide (j ∈ ns)) c ∧ c ≤ ns.length ∧ (∀ b o, s.heap.get? b = some o → h'.get? b = some o)
      refine codeAny_mono (codeAny_call_builtin (R := wants G E) F.called_set.init.plain F.entry_set_init (check_set_init_1 hT ?_)) ?_
      · obtain ⟨ol, hol, hcl, nl, hdl⟩ := hl
        obtain ⟨ocls, odict, odata, oslots⟩ := ol
        simp only at hcl hdl
        subst hcl
        subst hdl
        have hol' : (s.heap.push (freshSet w)).get? l = some { cls := .type "list", dict := odict, data := .seq items nl, slots := oslots } := Heap.get?_push_of_some _ hol
        have k6 := F.sub_list_set
        have k7 := F.sub_list_frozenset
        have k8 : (Value.type "list" == Value.type "dict") = false := by decide
        have hl1 : (s.heap.push (freshSet w)).IsList l items := ⟨_, hol', rfl, nl, rfl⟩
        unfold Builtin.«set.__init__» noKeywords Builtin.Frozenset.updateFrom
        generalize hPI : pyIter = PI
        wp_walk
        subst hPI
        refine wpAny_pyIter_list hl1 (wpAny_bind (wpAny_runValue ?_))
        have hlS : l < s.heap.objs.size := Heap.lt_size hol
        have hh3 : A.in1.in1.in1.handled = none := by simp [hh]
        have hz : (s.heap.push (freshSet w)).objs.size = s.heap.objs.size + 1 := Heap.size_push ..
        have hneI : l ≠ (s.heap.push (freshSet w)).objs.size := by rw [hz]; exact Nat.ne_of_lt (Nat.lt_succ_of_lt hlS)
        have hSf : s.heap.objs.size ∉ [(s.heap.push (freshSet w)).objs.size, l] := by
          rw [hz]
          intro hm
          rcases List.mem_cons.mp hm with e | hm
          · exact absurd e (Nat.ne_of_lt (Nat.lt_succ_self _))
          · exact absurd (List.mem_singleton.mp hm) (Nat.ne_of_gt hlS)
        have hval : ∀ (i : Nat) (v : Value), items[i]? = some v → ∃ k t, ns[i]? = some k ∧ v = .int k t := by
          intro i v hv
          have hi : i < ns.length := hisz ▸ (Array.getElem?_eq_some_iff.mp hv).1
          obtain ⟨t, e⟩ := PyProof.Rows.IntsAre.int_at hit i v (by rw [Array.getElem?_toList]; exact hv)
          exact ⟨ns[i], t, List.getElem?_eq_getElem hi, by rw [e, List.getD_eq_getElem?_getD, List.getElem?_eq_getElem hi] <;> rfl⟩
        refine set_update_ints ((Walks.list hh3 _ l hneI items).toS) s.heap.objs.size hSf ns hisz hb hval (items.size - 0) 0 _ (by omega) (Nat.zero_le _)
          ⟨⟨_, Heap.get?_push_size _ rfl, rfl, rfl⟩, (hl1.push _)⟩ ⟨0, Nat.le_refl 0, setR_new_at (Heap.get?_push_of_some _ hS)⟩ ?_
        intro s' c' hm hc' hS'
        obtain ⟨h', g2, d', tk', os'⟩ := s'
        obtain rfl : g2 = s.gens := hm.gens
        obtain rfl : d' = s.drawn := hm.drawn
        obtain rfl : os' = s.os := hm.os
        show wpAny _ _ _ _ _ _
        refine wpAny_pure ?_
        show wpAny _ _ (ret Value.none) _ _ _
        rw [hisz] at hc'
        refine wpAny_pure ⟨rfl, h', tk', c', rfl, hS', hc', fun b o e => ?_⟩
        have hb0 : b < s.heap.objs.size := Heap.lt_size e
        refine hm.heap b o (fun hmem => ?_) (Heap.get?_push_of_some _ (Heap.get?_push_of_some _ e))
        rcases List.mem_cons.mp hmem with e1 | hmem
        · exact absurd e1 (Nat.ne_of_lt hb0)
        · have e1 := List.mem_singleton.mp hmem
          rw [hz] at e1
          exact absurd e1 (Nat.ne_of_lt (Nat.lt_succ_of_lt hb0))
      · intro r₂ s₂ hr₂
        cases r₂ with
        | error e => exact hr₂
        | ok fl₂ =>
          cases fl₂ with
          | ret r =>
            obtain ⟨rfl, h', tk, c', rfl, hS', hc', hk'⟩ := hr₂
            repeat (any_goals (first | assumption | wp_step))
            exact h _ _ _ hS' hc' hk'
          | _ => exact hr₂.elim
    | _ => exact hr.elim
end
section
variable {X : Cx}
/-- set(xs), ints -/
def rSetOfI (K : PySem.W.Frag) (w : World) : List V → Hp → VK → Prop := fun xs H Q => ∃ (p : Addr) (ns : List Int), xs = [.ref p] ∧ SqL K H p (ns.map V.int) ∧ ns.length ≤ 1000 ∧
  ∀ a c, H a = none → c ≤ ns.length → Q (.ref a) (upd H a (SetO w a (fun j => decide (j ∈ ns)) c))
theorem cr_setOfI (hc : X.calm = true) : CallR X (.type "set") (rSetOfI X.K X.w) := by
  intro pins s σ H xs us Q I r h
  obtain ⟨p, ns, rfl, hs, hl, q⟩ := h
  obtain ⟨its, rv, pl, _⟩ := I.list hs
  rw [Vals.ref1 r]
  refine mk_set_list ns (I.ok.hd hc) pl.isList rv.ints (by unfold scanBound; omega) fun h' tk c R hcn k => ?_
  have hf : H s.heap.objs.size = none := I.hok.fresh (Nat.le_refl _)
  exact ⟨.ref s.heap.objs.size, _, I.laid (t' := tk) k (Nat.le_refl _) (setO_new R), rfl, q _ c hf hcn⟩
end
end Vf

/-! Sets of tuples of ints, of more than a thousand members: in, add. -/
namespace Vf
open PySem PySem.Spec PyProof.Rows L2

/-! ### the round of a table's slots, larger tables -/
def MaskW (m : Nat) : Prop := m = 7 ∨ m = 31 ∨ m = 127 ∨ m = 511 ∨ m = 2047
def mark (m : Nat) : Nat → Nat → Nat → Nat
  | 0, _, acc => acc
  | k + 1, x, acc => mark m k ((x * 5 + 1) % (m + 1)) (acc ||| (1 <<< x))
def walkT (m : Nat) : Nat → Nat → Nat
  | 0, x => x
  | k + 1, x => walkT m k ((x * 5 + 1) % (m + 1))
theorem lcgI_shift (m x : Nat) : ∀ k, lcgI m ((x * 5 + 1) % (m + 1)) k = lcgI m x (k + 1)
  | 0 => rfl
  | k + 1 => by
    have ih := lcgI_shift m x k
    show (lcgI m ((x * 5 + 1) % (m + 1)) k * 5 + 1) % (m + 1) = (lcgI m x (k + 1) * 5 + 1) % (m + 1)
    rw [ih]
theorem lcgI_plus (m x a : Nat) : ∀ k, lcgI m (lcgI m x a) k = lcgI m x (a + k)
  | 0 => rfl
  | k + 1 => by
    have ih := lcgI_plus m x a k
    show (lcgI m (lcgI m x a) k * 5 + 1) % (m + 1) = (lcgI m x (a + k) * 5 + 1) % (m + 1)
    rw [ih]
theorem walkT_eq (m : Nat) : ∀ k x, walkT m k x = lcgI m x k
  | 0, _ => rfl
  | k + 1, x => by
    show walkT m k ((x * 5 + 1) % (m + 1)) = _
    rw [walkT_eq m k, lcgI_shift]
theorem mark_bit (m j : Nat) : ∀ k x acc, (mark m k x acc).testBit j = true → acc.testBit j = true ∨ ∃ c, c < k ∧ lcgI m x c = j
  | 0, _, _, h => .inl h
  | k + 1, x, acc, h => by
    rcases mark_bit m j k _ _ h with h1 | ⟨c, hc, e⟩
    · rw [Nat.testBit_or, Bool.or_eq_true] at h1
      rcases h1 with h1 | h1
      · exact .inl h1
      · refine .inr ⟨0, Nat.succ_pos _, ?_⟩
        rw [Nat.one_shiftLeft, Nat.testBit_two_pow] at h1
        exact of_decide_eq_true h1
    · exact .inr ⟨c + 1, Nat.succ_lt_succ hc, by rw [← lcgI_shift]; exact e⟩
theorem mark_all {m : Nat} (h : mark m (m + 1) 0 0 = 2 ^ (m + 1) - 1) {j : Nat} (hj : j ≤ m) : ∃ c, c ≤ m ∧ lcgI m 0 c = j := by
  have hb : (mark m (m + 1) 0 0).testBit j = true := by
    rw [h, Nat.testBit_two_pow_sub_one]
    exact decide_eq_true (Nat.lt_succ_of_le hj)
  rcases mark_bit m j _ _ _ hb with h1 | ⟨c, hc, e⟩
  · rw [Nat.zero_testBit] at h1
    exact absurd h1 (by decide)
  · exact ⟨c, Nat.le_of_lt_succ hc, e⟩
theorem seen_slots {m : Nat} (hm : MaskW m) {j : Nat} (hj : j ≤ m) : ∃ c, c ≤ m ∧ lcgI m 0 c = j := by
  rcases hm with e | e | e | e | e
  · subst e; exact mark_all (by decide +kernel) hj
  · subst e; exact mark_all (by decide +kernel) hj
  · subst e; exact mark_all (by decide +kernel) hj
  · subst e; exact mark_all (by decide +kernel) hj
  · subst e; exact mark_all (by decide +kernel) hj
theorem round_slots {m : Nat} (hm : MaskW m) : lcgI m 0 (m + 1) = 0 := by
  rw [← walkT_eq]
  rcases hm with e | e | e | e | e
  · subst e; decide +kernel
  · subst e; decide +kernel
  · subst e; decide +kernel
  · subst e; decide +kernel
  · subst e; decide +kernel
theorem from_any {m : Nat} (hm : MaskW m) {i j : Nat} (hi : i ≤ m) (hj : j ≤ m) : ∃ k, k ≤ m ∧ lcgI m i k = j := by
  obtain ⟨a, ha, ea⟩ := seen_slots hm hi
  obtain ⟨b, hb, eb⟩ := seen_slots hm hj
  by_cases c : a ≤ b
  · refine ⟨b - a, Nat.le_trans (Nat.sub_le _ _) hb, ?_⟩
    rw [← ea, lcgI_plus, Nat.add_sub_cancel' c, eb]
  · refine ⟨m + 1 + b - a, by omega, ?_⟩
    rw [← ea, lcgI_plus, Nat.add_sub_cancel' (by omega), ← lcgI_plus, round_slots hm, eb]
theorem runs_meet {m : Nat} (hm : MaskW m) (h : Int) {j : Nat} (hj : j ≤ m) : ∃ n, n ≤ m + 12 ∧ runI m (SetTable.bits h) n = j := by
  obtain ⟨k, hk, e⟩ := from_any hm (runI_le m (SetTable.bits h) 12) hj
  refine ⟨12 + k, by omega, ?_⟩
  rw [runI_tail (bits_lt h), e]
theorem way_top (m : Nat) (h : Int) (k : Nat) : way m h k ≤ m := by
  have h0 : SetTable.bits h % (m + 1) ≤ m := Nat.le_of_lt_succ (Nat.mod_lt _ (Nat.succ_pos m))
  have h1 := runEnd_bd h0
  have h2 := nth_in (m := m) k (runAt m (SetTable.bits h % (m + 1)) (SetTable.bits h)) (by
    simp only [runAt]
    omega)
  exact Nat.le_trans (Nat.le_add_right _ _) h2
theorem way_meets {m : Nat} (hm : MaskW m) (h : Int) {j : Nat} (hj : j ≤ m) : ∃ k, k < 10 * SetTable.turns m ∧ way m h k = j := by
  obtain ⟨n, hn, e⟩ := runs_meet hm h hj
  obtain ⟨k, hk, e2⟩ := run_nth m (SetTable.bits h) n
  refine ⟨k, by unfold SetTable.turns; omega, ?_⟩
  unfold way
  rw [e2]
  exact e

/-! ### the table -/
structure TabW (t : SetTable) (hs : List Int) : Prop where
  ris : Ris t.place.toList
  dm : t.dummies = #[]
  sz : t.place.size = hs.length
  msk : MaskW t.mask
  top : ∀ x ∈ t.place.toList, x ≤ t.mask
  led : ∀ (i : Nat) (h : Int) (j : Nat), hs[i]? = some h → t.place.toList[i]? = some j → ∃ k, way t.mask h k = j ∧ ∀ c, c < k → way t.mask h c ∈ t.place.toList
theorem TabW.free {t : SetTable} {hs : List Int} (T : TabW t hs) (hl : hs.length ≤ t.mask) (h : Int) :
    ∃ K, K < 10 * SetTable.turns t.mask ∧ way t.mask h K ∉ t.place.toList ∧ ∀ c, c < K → way t.mask h c ∈ t.place.toList := by
  obtain ⟨j, hj, hn⟩ := st_missing t.place.toList (t.mask + 1) (by rw [Array.length_toList, T.sz]; omega)
  obtain ⟨k, hk, e⟩ := way_meets T.msk h (Nat.le_of_lt_succ hj)
  obtain ⟨K, a1, a2, a3⟩ := st_least (p := fun c => way t.mask h c ∉ t.place.toList) k (fun z => hn (e ▸ z))
  exact ⟨K, Nat.lt_of_le_of_lt a1 hk, a2, fun c hc => Classical.byContradiction (a3 c hc)⟩
theorem TabW.ahead {t : SetTable} {hs : List Int} (T : TabW t hs) {h : Int} {K i j : Nat} (hK : way t.mask h K ∉ t.place.toList) (hi : hs[i]? = some h) (hj : t.place.toList[i]? = some j) :
    ∃ c, c < K ∧ way t.mask h c = j := by
  obtain ⟨c, e, hb⟩ := T.led i h j hi hj
  refine ⟨c, Nat.lt_of_not_le fun z => hK ?_, e⟩
  rcases Nat.lt_or_eq_of_le z with y | y
  · exact hb K y
  · rw [y, e]
    exact List.mem_of_getElem? hj
theorem TabW.put {t : SetTable} {hs : List Int} (T : TabW t hs) {h : Int} {K : Nat} (hK : way t.mask h K ∉ t.place.toList) (hb : ∀ c, c < K → way t.mask h c ∈ t.place.toList) :
    SetTable.below t.place (way t.mask h K) ≤ hs.length ∧ (t.put (way t.mask h K)).1.fill = hs.length + 1 ∧
    TabW (t.put (way t.mask h K)).1 (hs.take (SetTable.below t.place (way t.mask h K)) ++ h :: hs.drop (SetTable.below t.place (way t.mask h K))) := by
  have top := way_top t.mask h K
  have cut := (below_cut T.ris (way t.mask h K)).1
  generalize hw : way t.mask h K = j at *
  have e1 : SetTable.below t.place j ≤ t.place.toList.length := by rw [Array.length_toList]; exact cut
  have e2 : SetTable.below t.place j ≤ hs.length := T.sz ▸ cut
  have pp := put_place t j
  have sz : (t.put j).1.place.size = hs.length + 1 := by
    rw [← Array.length_toList, pp, len_ins _ e1, Array.length_toList, T.sz]
  have nw : t.place[SetTable.below t.place j]? ≠ some j := fun e => hK (List.mem_of_getElem? ((Array.getElem?_toList (xs := t.place)).trans e))
  have more : ∀ x, x ∈ t.place.toList → x ∈ (t.put j).1.place.toList := fun x hx => by
    rw [pp]
    exact mem_ins.2 (.inr hx)
  refine ⟨e2, ?_, ris_insert T.ris nw, put_dm T.dm j, ?_, T.msk, ?_, ?_⟩
  · show (t.put j).1.place.size + (t.put j).1.dummies.size = _
    rw [sz, put_dm T.dm j]
    rfl
  · rw [sz, len_ins _ e2]
  · intro x hx
    rw [pp] at hx
    rcases mem_ins.1 hx with z | z
    · rw [z]; exact top
    · exact T.top x z
  · intro i h' j' h1 h2
    rw [tins_get hs e2] at h1
    rw [pp, tins_get _ e1] at h2
    show ∃ k, way t.mask h' k = j' ∧ _
    split at h1
    · rename_i c
      rw [if_pos c] at h2
      obtain ⟨k, a, b⟩ := T.led i h' j' h1 h2
      exact ⟨k, a, fun c hc => more _ (b c hc)⟩
    · rename_i c
      rw [if_neg c] at h2
      split at h1
      · rename_i d
        rw [if_pos d] at h2
        cases h1
        cases h2
        exact ⟨K, hw, fun c hc => more _ (hb c hc)⟩
      · rename_i d
        rw [if_neg d] at h2
        obtain ⟨k, a, b⟩ := T.led (i - 1) h' j' h1 h2
        exact ⟨k, a, fun c hc => more _ (b c hc)⟩

/-! ### the table laid anew -/
theorem slot_free {m : Nat} (hm : MaskW m) (owner : Array (Option Nat)) (h : Int) {j : Nat} (hj : j ≤ m) (hf : oAt owner j = none) :
    ∃ K, SetTable.layClean.free m owner (SetTable.turns m) (SetTable.bits h % (m + 1)) (SetTable.bits h) = some (way m h K) ∧ oAt owner (way m h K) = none ∧ ∀ k, k < K → oAt owner (way m h k) ≠ none := by
  obtain ⟨n, hn, e⟩ := runs_meet hm h hj
  have e2 : way m h (off m (SetTable.bits h % (m + 1)) (SetTable.bits h) n) = j := by
    unfold way
    rw [nth_off, itL_run]
    exact e
  obtain ⟨K, a1, a2, a3⟩ := st_least (p := fun k => oAt owner (way m h k) = none) _ (show oAt owner (way m h (off m (SetTable.bits h % (m + 1)) (SetTable.bits h) n)) = none by rw [e2]; exact hf)
  refine ⟨K, free_spec m owner _ n _ _ K (by unfold SetTable.turns; omega) a1 (fun k hk => ?_) ?_, a2, a3⟩
  · have z := a3 k hk
    revert z
    unfold way
    cases oAt owner (nth m (runAt m (SetTable.bits h % (m + 1)) (SetTable.bits h)) k).j with
    | none => intro z; exact absurd rfl z
    | some _ => intro _; rfl
  · have z : oAt owner (nth m (runAt m (SetTable.bits h % (m + 1)) (SetTable.bits h)) K).j = none := a2
    rw [z]
    rfl
theorem own_next {m : Nat} (hm : MaskW m) {done : List Int} {owner : Array (Option Nat)} (W : Own m done owner) (hl : done.length ≤ m) (h : Int) :
    ∃ j, SetTable.layClean.free m owner (SetTable.turns m) (SetTable.bits h % (m + 1)) (SetTable.bits h) = some j ∧ Own m (done ++ [h]) (owner.setIfInBounds j (some done.length)) := by
  obtain ⟨ps, hps, hin⟩ := W.ps
  obtain ⟨j0, h0, hn0⟩ := st_missing ps (m + 1) (by omega)
  have hj0 : oAt owner j0 = none := by
    cases z : oAt owner j0 with
    | none => rfl
    | some k => exact absurd (hin j0 (Nat.le_of_lt_succ h0) (fun e => by rw [z] at e; cases e)) hn0
  obtain ⟨K, e1, e2, e3⟩ := slot_free hm owner h (Nat.le_of_lt_succ h0) hj0
  have hjm := way_top m h K
  refine ⟨way m h K, e1, ?_⟩
  have self : oAt (owner.setIfInBounds (way m h K) (some done.length)) (way m h K) = some done.length := oAt_set_self _ (by rw [W.sz]; exact Nat.lt_succ_of_le hjm)
  have other : ∀ i, i ≠ way m h K → oAt (owner.setIfInBounds (way m h K) (some done.length)) i = oAt owner i := fun i hi => oAt_set_ne _ hi
  have size2 : (owner.setIfInBounds (way m h K) (some done.length)).size = m + 1 := by rw [Array.size_setIfInBounds]; exact W.sz
  generalize owner.setIfInBounds (way m h K) (some done.length) = own2 at *
  have keep : ∀ i, oAt owner i ≠ none → oAt own2 i ≠ none := fun i hi => by
    by_cases c : i = way m h K
    · rw [c, self]
      exact fun z => nomatch z
    · rw [other i c]
      exact hi
  refine ⟨size2, ?_, ?_, way m h K :: ps, by simp [hps], ?_⟩
  · intro j k hj e
    by_cases c : j = way m h K
    · rw [c, self] at e
      cases e
      exact ⟨h, K, by simp, c.symm, fun k' hk' => keep _ (e3 k' hk')⟩
    · rw [other j c] at e
      obtain ⟨h', K', a1, a2, a3⟩ := W.at_ j k hj e
      have hk : k < done.length := (List.getElem?_eq_some_iff.mp a1).1
      exact ⟨h', K', by rw [List.getElem?_append_left hk]; exact a1, a2, fun k' hk' => keep _ (a3 k' hk')⟩
  · intro k hk
    by_cases c : k < done.length
    · obtain ⟨j, hj, e⟩ := W.all k c
      exact ⟨j, hj, by rw [other j (fun z => by rw [z, e2] at e; cases e)]; exact e⟩
    · have ek : k = done.length := by
        rw [List.length_append, List.length_singleton] at hk
        omega
      exact ⟨way m h K, hjm, by rw [ek]; exact self⟩
  · intro j hj e
    by_cases c : j = way m h K
    · rw [c]; exact List.mem_cons_self
    · rw [other j c] at e
      exact List.mem_cons_of_mem _ (hin j hj e)
theorem owns_all {m : Nat} (hm : MaskW m) : ∀ (rest done : List Int) (owner : Array (Option Nat)), Own m done owner → done.length + rest.length ≤ m →
    ∃ own2, rest.foldl (stepF m) (some (owner, done.length)) = some (own2, (done ++ rest).length) ∧ Own m (done ++ rest) own2
  | [], done, owner, W, _ => ⟨owner, by simp, by simpa using W⟩
  | h :: rest, done, owner, W, hl => by
    simp only [List.length_cons] at hl
    obtain ⟨j, e, W2⟩ := own_next hm W (by omega) h
    obtain ⟨own2, a, b⟩ := owns_all hm rest (done ++ [h]) _ W2 (by simp; omega)
    have e1 : done ++ [h] ++ rest = done ++ h :: rest := by simp
    have e2 : (done ++ [h]).length = done.length + 1 := by simp
    rw [e1, e2] at a
    rw [e1] at b
    exact ⟨own2, by rw [List.foldl_cons, stepF_some e]; exact a, b⟩
theorem clean_all {m : Nat} (hm : MaskW m) {hs : Array Int} (hn : hs.size ≤ m) : ∃ owner, SetTable.layClean m hs = some owner ∧ Own m hs.toList owner := by
  obtain ⟨owner, a, b⟩ := owns_all hm hs.toList [] _ (Own.init m) (by simpa using hn)
  refine ⟨owner, ?_, by simpa using b⟩
  have a2 : hs.toList.foldl (stepF m) (some (Array.replicate (m + 1) none, 0)) = some (owner, ([] ++ hs.toList).length) := a
  rw [layClean_eq, a2]
  rfl
theorem relaid_all (t : SetTable) {hs : Array Int} {wanted M : Nat} (hw : SetTable.sizeAbove wanted - 1 = M) (hM : MaskW M) (hn : hs.size ≤ M) :
    ∃ t2 order, t.relaid hs wanted = some (t2, order) ∧ order.toList.Perm (List.range hs.size) ∧ TabW t2 (order.toList.map fun i => hs.getD i 0) ∧ t2.mask = M ∧ t2.led = t.led ∧ t2.plain = t.plain := by
  obtain ⟨owner, e, W⟩ := clean_all hM hn
  have two := ris_live (fun j => owner.getD j none) (List.range (M + 1)) (by
    unfold Ris
    exact List.pairwise_lt_range)
  have up : Ris ((liveOf M owner).map (·.1)) := two.1
  have inr : ∀ x ∈ (liveOf M owner).map (·.1), x ∈ List.range (M + 1) := two.2
  have mem : ∀ j k, (j, k) ∈ liveOf M owner ↔ j ≤ M ∧ oAt owner j = some k := fun j k => mem_live W.sz
  have every : ∀ k, k < hs.size → k ∈ (liveOf M owner).map (·.2) := fun k hk => by
    obtain ⟨j, a, b⟩ := W.all k (by simpa using hk)
    exact List.mem_map.mpr ⟨(j, k), (mem j k).2 ⟨a, b⟩, rfl⟩
  have len : (liveOf M owner).length = hs.size := by
    refine Nat.le_antisymm ?_ ?_
    · obtain ⟨ps, a, b⟩ := W.ps
      have nd : ((liveOf M owner).map (·.1)).Nodup := List.Pairwise.imp (fun z => Nat.ne_of_lt z) up
      have z := nat_nodup_len _ ps nd (by
        intro x hx
        obtain ⟨⟨y, k⟩, hq, rfl⟩ := List.mem_map.mp hx
        obtain ⟨c1, c2⟩ := (mem y k).1 hq
        exact b y c1 (fun z => by rw [z] at c2; cases c2))
      simpa [a] using z
    · have z := nat_nodup_len (List.range hs.size) ((liveOf M owner).map (·.2)) List.nodup_range fun k hk => every k (List.mem_range.mp hk)
      simpa using z
  refine ⟨tabOf t M owner, ((liveOf M owner).map (·.2)).toArray, ?_, perm_range hs.size _ (by simpa using len) every, ⟨up, rfl, ?_, hM, ?_, ?_⟩, rfl, rfl, rfl⟩
  · rw [relaid_eq, hw, e]
    rfl
  · show ((liveOf M owner).map (·.1)).toArray.size = _
    simp
  · intro x hx
    exact Nat.le_of_lt_succ (List.mem_range.mp (inr x hx))
  · intro i h j h1 h2
    have h1' : (((liveOf M owner).map (·.2)).map fun i => hs.getD i 0)[i]? = some h := h1
    have h2' : ((liveOf M owner).map (·.1))[i]? = some j := h2
    simp only [List.getElem?_map, Option.map_eq_some_iff] at h1' h2'
    obtain ⟨k, ⟨⟨y, k'⟩, g1, rfl⟩, rfl⟩ := h1'
    obtain ⟨q, g2, rfl⟩ := h2'
    rw [g1] at g2
    cases g2
    obtain ⟨c1, c2⟩ := (mem y k').1 (List.mem_of_getElem? g1)
    obtain ⟨h0, K, a1, a2, a3⟩ := W.at_ y k' c1 c2
    have eh : hs.getD k' 0 = h0 := by
      rw [Array.getElem?_toList] at a1
      rw [Array.getD_eq_getD_getElem?, a1]
      rfl
    refine ⟨K, by show way M (hs.getD k' 0) K = y; rw [eh]; exact a2, fun c hc => ?_⟩
    show way M (hs.getD k' 0) c ∈ (liveOf M owner).map (·.1)
    rw [eh]
    cases z : oAt owner (way M h0 c) with
    | none => exact absurd z (a3 c hc)
    | some k2 => exact List.mem_map.mpr ⟨(way M h0 c, k2), (mem _ _).2 ⟨way_top M h0 c, z⟩, rfl⟩

/-! ### the set -/
/-- what the object at a holds: the tuples at L's addresses, told by their ints -/
def SetW0 (P : Program) (w : World) (h : Heap) (a : Addr) (L : List (Addr × List Int)) (es : Array (Int × Value)) (ep : Nat) (t : SetTable) : Prop :=
  (∃ o, h.get? a = some o ∧ o.ExactSet ∧ o.data = .set es ep t) ∧ es.toList = rowsOf P w L ∧ TabW t (L.map fun p => thash P w p.2) ∧ t.plain = true ∧
    (w.params.followText "set-order" = true ∨ t.led = true) ∧ L.length * 5 < t.mask * 3 ∧ L.length ≤ 1200
section
variable {P : Program} {w : World} {A : Around} {E : Value → Shared → Prop} {s : Shared} {a : Addr} {L : List (Addr × List Int)} {es : Array (Int × Value)} {ep : Nat} {t : SetTable}
theorem rows_size (h : es.toList = rowsOf P w L) : es.size = L.length := by
  rw [← Array.length_toList, h]
  simp [rowsOf]
theorem rows_at (h : es.toList = rowsOf P w L) {i : Nat} {p : Addr × List Int} (hp : L[i]? = some p) : es[i]? = some (thash P w p.2, Value.ref p.1) := by
  rw [← Array.getElem?_toList, h]
  simp [rowsOf, hp]
theorem fits_of (T : TabW t (L.map fun p => thash P w p.2)) (hr : es.toList = rowsOf P w L) (hl : L.length ≤ t.mask) : t.fits es.size = true := by
  have h1 := T.sz
  rw [List.length_map] at h1
  unfold SetTable.fits SetTable.fill
  rw [T.dm, Bool.and_eq_true, beq_iff_eq, decide_eq_true_eq, rows_size hr, h1]
  exact ⟨rfl, hl⟩
theorem stands (T : TabW t (L.map fun p => thash P w p.2)) : ¬ t.gaveWay = true := by
  unfold SetTable.gaveWay
  rcases T.msk with e | e | e | e | e <;> rw [e] <;> decide
/-- the search, from the c-th slot of its way on -/
theorem seek (R : SetW0 P w s.heap a L es ep t) (tup : ∀ p ∈ L, IsT P w s.heap p.2 p.1) (ad : Bool) {x : Addr} {k : List Int} (hx : IsT P w s.heap k x) (hu : A.units < cLine) {K : Nat} (hf0 : K < 10 * SetTable.turns t.mask)
    (hK : way t.mask (thash P w k) K ∉ t.place.toList) (hKb : ∀ c, c < K → way t.mask (thash P w k) c ∈ t.place.toList) {Q : SetFound → Shared → Prop}
    (hin : k ∈ L.map (·.2) → ∀ oi, (ad = false → oi ≠ none) → Q (.there oi) s) (hout : k ∉ L.map (·.2) → Q (.free (way t.mask (thash P w k) K) false) s) :
    ∀ (f c : Nat) (stand : Option SetTable.Probe), stand.getD (t.probeStart (thash P w k)) = nth t.mask (runAt t.mask (SetTable.bits (thash P w k) % (t.mask + 1)) (SetTable.bits (thash P w k))) c → c ≤ K → K - c < f →
      (∀ (i : Nat) p, L[i]? = some p → p.2 = k → ∃ c', c ≤ c' ∧ c' < K ∧ t.place.toList[i]? = some (way t.mask (thash P w k) c')) →
      wpAny (model P w) A (setSearchFrom a (.ref x) (thash P w k) ad f stand) Q E s
  | 0, c, stand, _, _, hf, _ => absurd hf (Nat.not_lt_zero _)
  | f + 1, c, stand, hst, hc, hf, hre => by
    obtain ⟨⟨o, ho, hex, hd⟩, rows, T, pl, ld, room, few⟩ := id R
    have fit : t.fits es.size = true := fits_of T rows (by omega)
    generalize hpr : runAt t.mask (SetTable.bits (thash P w k) % (t.mask + 1)) (SetTable.bits (thash P w k)) = pr at hst
    have wy : ∀ q, (nth t.mask pr q).j = way t.mask (thash P w k) q := fun q => by rw [← hpr]
    have shift : ∀ q, nth t.mask (nth t.mask pr c) q = nth t.mask pr (c + q) := fun q => (nth_add t.mask c pr q).symm
    have nodummy : ∀ (n : Nat) (p : SetTable.Probe), p.dummy = none → (nth t.mask p n).dummy = none := by
      intro n
      induction n with
      | zero => exact fun p h => h
      | succ n ih =>
        refine fun p h => ih (adv t.mask p) ?_
        unfold adv
        split <;> exact h
    have spec := go_spec t T.ris T.dm (fun i => (es[i]?.map (·.1)).getD 0) (thash P w k) (10 * SetTable.turns t.mask) (K - c) (nth t.mask pr c) (nodummy c pr (by rw [← hpr]; rfl)) (by omega)
      (fun q hq => by rw [shift, wy]; exact hKb _ (by omega)) (by rw [shift, wy, Nat.add_sub_cancel' hc]; exact hK)
    have hashAt : ∀ (i : Nat) p, L[i]? = some p → ((es[i]?.map (·.1)).getD 0) = thash P w p.2 := fun i p hp => by rw [rows_at rows hp]; rfl
    rw [setSearchFrom_succ]
    refine wpAny_bind (wpAny_setState_of ho hd fit ?_)
    dsimp only
    refine wp_if_neg (stands T) ?_
    try refine wpAny_bind (wpAny_pure ?_)
    have probe_is : ∀ r, SetTable.probe.go t (fun i => (es[i]?.map (·.1)).getD 0) (thash P w k) (10 * SetTable.turns t.mask) (nth t.mask pr c) = r →
        t.probe (fun i => (es[i]?.map (·.1)).getD 0) (thash P w k) (stand.getD (t.probeStart (thash P w k))) = r := fun r e => by rw [hst]; exact e
    rcases spec with ⟨q, i, hq, hi, hh, hno, pe⟩ | ⟨hno, pe⟩
    · rw [probe_is _ pe]
      dsimp only
      rw [shift, wy] at hi
      have hil : i < L.length := by
        have h1 : i < t.place.toList.length := (List.getElem?_eq_some_iff.mp hi).1
        rw [Array.length_toList, T.sz, List.length_map] at h1
        exact h1
      obtain ⟨p, hp⟩ : ∃ p, L[i]? = some p := ⟨_, List.getElem?_eq_getElem hil⟩
      have hm : p ∈ L := List.mem_of_getElem? hp
      have rest : wpAny (model P w) A (searchRest a (.ref x) (thash P w k) ad f es t (nth t.mask (nth t.mask pr c) q).j i (nth t.mask (nth t.mask pr c) (q + 1))) Q E s := by
        unfold searchRest
        rw [rows_at rows hp]
        dsimp only
        refine wpAny_bind (wpAny_holding (wpAny_eqBool_tuple hu (tup p hm) hx ?_))
        refine wpAny_bind (wpAny_setState_of ho hd fit ?_)
        dsimp only
        have slot : t.slot (nth t.mask (nth t.mask pr c) q).j = .live i := by
          rw [shift, wy]
          exact slot_live T.ris hi
        by_cases hkk : p.2 = k
        · have mem : k ∈ L.map (·.2) := List.mem_map.mpr ⟨p, hm, hkk⟩
          cases ad with
          | true =>
            refine wp_if_pos (by simp [hkk]) ?_
            exact wpAny_pure (hin mem none (fun z => nomatch z))
          | false =>
            refine wp_if_neg (by simp) ?_
            try refine wpAny_bind (wpAny_pure ?_)
            rw [sameMem]
            dsimp only
            simp only [if_true, slot, rows_at rows hp]
            refine wpAny_bind (wpAny_isSame_ref_self (wpAny_bind (wpAny_pure ?_)))
            simp only [if_true]
            refine wp_if_pos (by simp [hkk]) ?_
            exact wpAny_pure (hin mem (some i) (fun _ z => nomatch z))
        · refine wp_if_neg (by simp [hkk]) ?_
          try refine wpAny_bind (wpAny_pure ?_)
          rw [sameMem]
          dsimp only
          simp only [if_true, slot, rows_at rows hp]
          refine wpAny_bind (wpAny_isSame_ref_self (wpAny_bind (wpAny_pure ?_)))
          simp only [if_true]
          refine wp_if_neg (by simp [hkk]) ?_
          refine seek R tup ad hx hu hf0 hK hKb hin hout f (c + (q + 1)) _ (by rw [hpr]; exact shift (q + 1)) (by omega) (by omega) fun i0 p0 h0 hk0 => ?_
          obtain ⟨c', a1, a2, a3⟩ := hre i0 p0 h0 hk0
          refine ⟨c', ?_, a2, a3⟩
          have z1 : ¬ c' < c + q := fun y => by
            refine hno (c' - c) i0 (by omega) (by rw [shift, wy, Nat.add_sub_cancel' a1]; exact a3) ?_
            exact (hashAt i0 p0 h0).trans (congrArg (thash P w) hk0)
          have z2 : c' ≠ c + q := fun y => by
            have s1 := slot_live T.ris a3
            rw [y, slot_live T.ris hi] at s1
            cases s1
            rw [hp] at h0
            cases h0
            exact hkk hk0
          omega
      by_cases hl : t.led = true
      · refine wp_if_neg (by simp [hl]) ?_
        try refine wpAny_bind (wpAny_pure ?_)
        exact rest
      · refine wp_if_pos (by simp [hl]) ?_
        refine wpAny_bind (seen_tup hx (fun y hy => ?_) ?_)
        · obtain ⟨e, he, rfl⟩ := List.mem_map.mp hy
          have he2 : e ∈ es.toList := by
            have z : e ∈ es ∧ e.1 = thash P w k := by simpa using he
            simpa using z.1
          rw [rows] at he2
          obtain ⟨p2, hp2, rfl⟩ := List.mem_map.mp he2
          exact ⟨p2.2, p2.1, rfl, tup p2 hp2⟩
        · refine wp_if_neg (by decide) ?_
          try refine wpAny_bind (wpAny_pure ?_)
          exact rest
    · rw [probe_is _ pe]
      dsimp only
      rw [shift, wy, Nat.add_sub_cancel' hc]
      refine wpAny_pure (hout fun hm => ?_)
      obtain ⟨p0, h0, hk0⟩ := List.mem_map.mp hm
      obtain ⟨i0, hi0, e0⟩ := List.getElem_of_mem h0
      have h00 : L[i0]? = some p0 := by rw [List.getElem?_eq_getElem hi0, e0]
      obtain ⟨c', a1, a2, a3⟩ := hre i0 p0 h00 hk0
      refine hno (c' - c) i0 (by omega) (by rw [shift, wy, Nat.add_sub_cancel' a1]; exact a3) ?_
      exact (hashAt i0 p0 h00).trans (congrArg (thash P w) hk0)
theorem seek_all (R : SetW0 P w s.heap a L es ep t) (tup : ∀ p ∈ L, IsT P w s.heap p.2 p.1) (ad : Bool) {x : Addr} {k : List Int} (hx : IsT P w s.heap k x) (hu : A.units < cLine) {Q : SetFound → Shared → Prop}
    (hin : k ∈ L.map (·.2) → ∀ oi, (ad = false → oi ≠ none) → Q (.there oi) s)
    (hout : ∀ K, k ∉ L.map (·.2) → way t.mask (thash P w k) K ∉ t.place.toList → (∀ c, c < K → way t.mask (thash P w k) c ∈ t.place.toList) → Q (.free (way t.mask (thash P w k) K) false) s) :
    wpAny (model P w) A (setSearch a (.ref x) (thash P w k) ad) Q E s := by
  obtain ⟨_, rows, T, _, _, room, _⟩ := id R
  obtain ⟨K, a1, a2, a3⟩ := T.free (by rw [List.length_map]; omega) (thash P w k)
  have big : K < 100000 := by
    have z : 10 * SetTable.turns t.mask < 100000 := by
      unfold SetTable.turns
      rcases T.msk with e | e | e | e | e <;> omega
    omega
  unfold setSearch
  refine seek R tup ad hx hu a1 a2 a3 hin (fun z => hout K z a2 a3) 100000 0 none rfl (Nat.zero_le _) (by omega) fun i p hp hk => ?_
  have hil : i < t.place.toList.length := by
    rw [Array.length_toList, T.sz, List.length_map]
    exact (List.getElem?_eq_some_iff.mp hp).1
  obtain ⟨c, hc, e⟩ := T.ahead (h := thash P w k) a2 (by rw [List.getElem?_map, hp, ← hk]; rfl) (List.getElem?_eq_getElem hil)
  exact ⟨c, Nat.zero_le _, hc, by rw [e]; exact List.getElem?_eq_getElem hil⟩
end

/-! ### adding -/
section
variable {P : Program} {w : World} {A : Around} {E : Value → Shared → Prop} {s : Shared} {a : Addr} {L : List (Addr × List Int)} {es : Array (Int × Value)} {ep : Nat} {t : SetTable}
theorem size_w20 : SetTable.sizeAbove (SetTable.grown 5) = 32 := by decide +kernel
theorem size_w76 : SetTable.sizeAbove (SetTable.grown 19) = 128 := by decide +kernel
theorem size_w308 : SetTable.sizeAbove (SetTable.grown 77) = 512 := by decide +kernel
theorem size_w1228 : SetTable.sizeAbove (SetTable.grown 307) = 2048 := by decide +kernel
theorem relay_all {o : Obj} (ho : s.heap.get? a = some o) (hex : o.ExactSet) (hd : o.data = .set es ep t) (rows : es.toList = rowsOf P w L) (T : TabW t (L.map fun p => thash P w p.2)) (pl : t.plain = true)
    (ld : w.params.followText "set-order" = true ∨ t.led = true) (few : L.length ≤ 1200) (hlm : L.length ≤ t.mask) {wanted M : Nat} (hw : SetTable.sizeAbove wanted = M + 1) (hM : MaskW M) (hn : L.length * 5 < M * 3) {Q : Unit → Shared → Prop}
    (hQ : ∀ h' L' es' ep' t', Heap.SameBut a s.heap h' → SetW0 P w h' a L' es' ep' t' → L'.Perm L → Q () { s with heap := h' }) : wpAny (model P w) A (setRelay a wanted) Q E s := by
  have hsz := rows_size rows
  have bigM : M ≤ 2047 := by rcases hM with e | e | e | e | e <;> omega
  obtain ⟨t2, order, e, pm, T2, m2, l2, p2⟩ := relaid_all t (hs := es.map (·.1)) (wanted := wanted) (M := M) (by rw [hw]; rfl) hM (by rw [Array.size_map, hsz]; omega)
  rw [Array.size_map, hsz] at pm
  obtain ⟨L2, r1, r2, r3⟩ := order_rows L es order rows pm
  rw [← r3] at T2
  have hs2 : (order.filterMap (es[·]?)).size = es.size := by rw [rows_size r1, r2.length_eq, hsz]
  rw [setRelay_eq]
  refine wpAny_bind (wpAny_setState_of ho hd (fits_of T rows hlm) ?_)
  dsimp only
  refine wp_if_neg (by rw [hw, sizeLine_eq]; omega) ?_
  try refine wpAny_bind (wpAny_pure ?_)
  rw [e]
  dsimp only
  refine wpAny_bind ?_
  refine wp_if_neg (by rw [hs2]; simp) ?_
  try refine wpAny_bind (wpAny_pure ?_)
  refine wpAny_pure ?_
  dsimp only
  refine wpAny_storeSet_of ho hd ?_ (by rw [hs2, hsz, sizeLine_eq]; omega)
  refine hQ _ L2 (order.filterMap (es[·]?)) (ep + 1) t2 (Heap.SameBut.update ..) ⟨⟨_, store_at ho hd, ⟨hex.1, hex.2.1, hex.2.2⟩, rfl⟩, r1, T2, by rw [p2]; exact pl, by rw [l2]; exact ld, ?_, ?_⟩ r2
  · rw [r2.length_eq, m2]; exact hn
  · rw [r2.length_eq]; exact few
theorem add_all (R : SetW0 P w s.heap a L es ep t) (tup : ∀ p ∈ L, IsT P w s.heap p.2 p.1) {x : Addr} {k : List Int} (hx : IsT P w s.heap k x) (hu : A.units < cLine) (hfew : L.length < 1200) {Q : Bool → Shared → Prop}
    (hQ : ∀ b h' L' es' ep' t', Heap.SameBut a s.heap h' → SetW0 P w h' a L' es' ep' t' → (k ∈ L.map (·.2) → L' = L) → (k ∉ L.map (·.2) → L'.Perm ((x, k) :: L)) → Q b { s with heap := h' }) :
    wpAny (model P w) A (setAddHashed a (.ref x) (thash P w k)) Q E s := by
  obtain ⟨⟨o, ho, hex, hd⟩, rows, T, pl, ld, room, few⟩ := id R
  have fit : t.fits es.size = true := fits_of T rows (by omega)
  have hsl := rows_size rows
  unfold setAddHashed
  refine wpAny_holding ?_
  rw [show (100000 : Nat) = 99999 + 1 from rfl, setAddHashedIn_succ]
  refine wpAny_bind (wpAny_setState_of ho hd fit ?_)
  dsimp only
  refine wp_if_neg (by simp [byScan, Value.scannable]) ?_
  try refine wpAny_bind (wpAny_pure ?_)
  refine wpAny_bind (seek_all R tup true hx hu (fun hm oi _ => ?_) fun K hm hK hb => ?_)
  · dsimp only
    exact wpAny_pure (hQ false s.heap L es ep t (Heap.SameBut.refl a s.heap) R (fun _ => rfl) fun z => absurd hm z)
  · dsimp only
    refine wpAny_bind (wpAny_setState_of ho hd fit ?_)
    dsimp only
    obtain ⟨q1, q2, q3⟩ := T.put hK hb
    have b1 : (t.put (way t.mask (thash P w k) K)).1.plain = true := pl
    have b2 : (t.put (way t.mask (thash P w k) K)).1.mask = t.mask := rfl
    have b3 : (t.put (way t.mask (thash P w k) K)).1.led = t.led := rfl
    have b4 : (t.put (way t.mask (thash P w k) K)).2 = SetTable.below t.place (way t.mask (thash P w k) K) := rfl
    generalize hpt : t.put (way t.mask (thash P w k) K) = pt at q2 q3 b1 b2 b3 b4 ⊢
    obtain ⟨t1, p⟩ := pt
    dsimp only at q2 q3 b1 b2 b3 b4 ⊢
    rw [← b4] at q1 q3
    clear b4
    first
      | (refine wpAny_bind ?_; refine wp_if_pos b1 ?_; refine hashBy_tup hx ?_)
      | refine wp_if_pos b1 (wpAny_bind (hashBy_tup hx ?_))
    simp only [if_true]
    rw [List.length_map] at q1 q2
    have r1 : (SetTable.insertAt es p (thash P w k, Value.ref x)).toList = rowsOf P w (L.take p ++ (x, k) :: L.drop p) := by
      rw [SetTable.toList_insertAt, rows_put, rows]
    have pm := put_perm L p (x, k)
    have hl1 : (L.take p ++ (x, k) :: L.drop p).length = L.length + 1 := pm.length_eq
    have q4 : TabW t1 ((L.take p ++ (x, k) :: L.drop p).map fun p => thash P w p.2) := by
      rw [List.map_append, List.map_cons, List.map_take, List.map_drop]
      exact q3
    have s1 := rows_size r1
    rw [hl1] at s1
    generalize SetTable.insertAt es p (thash P w k, Value.ref x) = es1 at r1 s1 ⊢
    generalize L.take p ++ (x, k) :: L.drop p = L1 at r1 pm hl1 q4
    refine wpAny_bind (wpAny_storeSet_of ho hd ?_ (by rw [s1, sizeLine_eq]; omega))
    have sb : Heap.SameBut a s.heap (s.heap.update a (Obj.putSet es1 t1)) := Heap.SameBut.update ..
    have ho1 := store_at (es' := es1) (t' := t1) ho hd
    generalize s.heap.update a (Obj.putSet es1 t1) = h1 at sb ho1 ⊢
    have ex1 : ({ o with data := .set es1 (ep + 1) t1 } : Obj).ExactSet := ⟨hex.1, hex.2.1, hex.2.2⟩
    have ld1 : w.params.followText "set-order" = true ∨ t1.led = true := by rw [b3]; exact ld
    by_cases hf : t1.tooFull = true
    · first
        | (refine wpAny_bind ?_; refine wp_if_pos (by simp [hf]) ?_)
        | (refine wp_if_pos (by simp [hf]) ?_; refine wpAny_bind ?_)
      have full : (L.length + 1) * 5 ≥ t.mask * 3 := by
        have z := hf
        unfold SetTable.tooFull at z
        rw [decide_eq_true_eq, q2, b2] at z
        exact z
      rw [hsl]
      have go : ∀ M, SetTable.sizeAbove (SetTable.grown (L.length + 1)) = M + 1 → MaskW M → (L.length + 1) * 5 < M * 3 →
          wpAny (model P w) A (setRelay a (SetTable.grown (L.length + 1))) (fun _ s' => wpAny (model P w) A (pure true) Q E s') E { s with heap := h1 } := fun M e1 e2 e3 => by
        refine relay_all (s := { s with heap := h1 }) ho1 ex1 rfl r1 q4 b1 ld1 (by rw [hl1]; exact hfew) (by rw [hl1, b2]; omega) e1 e2 (by rw [hl1]; exact e3) fun h2 L2 es2 ep2 t2 sb2 R2 pm2 => ?_
        exact wpAny_pure (hQ true h2 L2 es2 ep2 t2 (sb.trans sb2) R2 (fun z => absurd z hm) fun _ => pm2.trans pm)
      rcases T.msk with e | e | e | e | e
      · have e2 : L.length + 1 = 5 := by omega
        exact go 31 (by rw [e2, size_w20]) (.inr (.inl rfl)) (by omega)
      · have e2 : L.length + 1 = 19 := by omega
        exact go 127 (by rw [e2, size_w76]) (.inr (.inr (.inl rfl))) (by omega)
      · have e2 : L.length + 1 = 77 := by omega
        exact go 511 (by rw [e2, size_w308]) (.inr (.inr (.inr (.inl rfl)))) (by omega)
      · have e2 : L.length + 1 = 307 := by omega
        exact go 2047 (by rw [e2, size_w1228]) (.inr (.inr (.inr (.inr rfl)))) (by omega)
      · exfalso
        omega
    · first
        | refine wp_if_neg (by simp [hf]) ?_
        | (refine wpAny_bind ?_; refine wp_if_neg (by simp [hf]) ?_; refine wpAny_pure ?_)
      refine wpAny_pure (hQ true h1 L1 es1 (ep + 1) t1 sb ⟨⟨_, ho1, ex1, rfl⟩, r1, q4, b1, ld1, ?_, by rw [hl1]; exact hfew⟩ (fun z => absurd z hm) fun _ => pm)
      have z := hf
      unfold SetTable.tooFull at z
      rw [decide_eq_true_eq, q2, b2] at z
      rw [hl1, b2]
      omega
end
end Vf

/-! Sets of tuples of ints over the layer: set(), add, in, not in. -/
namespace Vf
open PySem PySem.Spec PyProof.Rows L2
def SetWO (P : Program) (w : World) (a : Addr) (L : List (Addr × List Int)) : HO := .ext fun h => ∃ es ep t, SetW0 P w h a L es ep t
theorem setW_at {P : Program} {w : World} {h h' : Heap} {a : Addr} {L : List (Addr × List Int)} (R : ∃ es ep t, SetW0 P w h a L es ep t) (k : ∀ o, h.get? a = some o → h'.get? a = some o) : ∃ es ep t, SetW0 P w h' a L es ep t := by
  obtain ⟨es, ep, t, ⟨o, ho, r⟩, z⟩ := R
  exact ⟨es, ep, t, ⟨o, k o ho, r⟩, z⟩
theorem setWO_new {w : World} {P : Program} {H : Hp} {h : Heap} {a : Addr} {L : List (Addr × List Int)} (R : ∃ es ep t, SetW0 P w h a L es ep t) : ObjOk P w H h a (SetWO P w a L) := by
  refine ⟨R, ?_, fun h1 h2 p k => setW_at p k⟩
  obtain ⟨es, ep, t, ⟨o, ho, r⟩, z⟩ := R
  exact ⟨o, ho⟩
section
variable {X : Cx}
theorem setWO_get {pins : List (Addr × Obj)} {σ : L2.St} {H : Hp} {s : Shared} {a : Addr} {L : List (Addr × List Int)} (I : Inv X pins σ H s) (ha : H a = some (SetWO X.prog X.w a L)) : ∃ es ep t, SetW0 X.prog X.w s.heap a L es ep t := (I.hok a _ ha).1
/-- set() -/
def rSet0W (P : Program) (w : World) : List V → Hp → VK → Prop := fun xs H Q => xs = [] ∧ ∀ p, H p = none → Q (.ref p) (upd H p (SetWO P w p []))
theorem cr_set0W : CallR X (.type "set") (rSet0W X.prog X.w) := by
  intro pins s σ H xs us Q I r h
  obtain ⟨rfl, q⟩ := h
  cases r
  refine setR_new fun new => ?_
  refine ⟨.ref s.heap.objs.size, upd H s.heap.objs.size (SetWO X.prog X.w s.heap.objs.size []), I.laid (t' := s.toks) (fun b u e => Heap.get?_push_of_some _ e) (Nat.le_refl _) (setWO_new ?_), rfl, q _ (I.hok.fresh (Nat.le_refl _))⟩
  refine ⟨#[], 0, .fresh 0 0 (!X.w.params.followText "set-order"), ⟨_, Heap.get?_push_size _ rfl, ⟨rfl, rfl, rfl⟩, rfl⟩, rfl, ⟨List.Pairwise.nil, rfl, rfl, .inl rfl, (fun x hx => by cases hx), (fun i h j h1 _ => by simp at h1)⟩, rfl, ?_, (by show 0 * 5 < 7 * 3; decide), (by show 0 ≤ 1200; decide)⟩
  cases X.w.params.followText "set-order"
  · exact .inr rfl
  · exact .inl rfl
/-- found.add(t) -/
def rSAddW (K : PySem.W.Frag) (P : Program) (w : World) : V → List V → Hp → VK → Prop := fun x xs H Q => ∃ (a b : Addr) (k : List Int) (L : List (Addr × List Int)), x = V.ref a ∧ xs = [V.ref b] ∧
  H a = some (SetWO P w a L) ∧ SqT K H b (k.map V.int) ∧ (∀ p ∈ L, SqT K H p.1 (p.2.map V.int)) ∧ L.length < 1200 ∧
  ∀ L', (k ∈ L.map (·.2) → L' = L) → (k ∉ L.map (·.2) → L'.Perm ((b, k) :: L)) → Q .non (upd H a (SetWO P w a L'))
theorem mt_saddW (hu : X.A.units + 10 < cLine) : MtR X "set.add" (rSAddW X.K X.prog X.w) := by
  intro pins s σ H x xs v us Q I rx rxs h
  obtain ⟨a, b, k, L, rfl, rfl, ha, hb, hL, few, q⟩ := h
  cases rx
  cases rxs with
  | cons ry rt =>
    cases rt
    cases (show _ = Value.ref b from ry)
    obtain ⟨es, ep, t, R⟩ := setWO_get I ha
    obtain ⟨⟨o, ho, hex, hd⟩, _⟩ := id R
    have ty : s.TypeIs (.ref a) "set" := ⟨o, ho, hex.1⟩
    refine wpAny_call_entry F.slot_set_add ty F.entry_set_add ?_ (F.args_set_add_2 _ _)
    unfold Builtin.«set.add» Builtin.Frozenset.oneOther
    simp only [List.isEmpty_nil, bind_assoc]
    unfold Builtin.Frozenset.addrOf setAdd
    refine wpAny_bind (wpAny_pure ?_)
    try dsimp only
    refine wpAny_bind (wpAny_pure ?_)
    try dsimp only
    refine wpAny_bind ?_
    refine wpAny_holding ?_
    refine wpAny_bind (wpAny_pyHash_tuple (by show X.A.units + 1 < cLine; omega) (I.isT hb) ?_)
    refine add_all (s := { s with toks := s.toks + (k.length + 1) }) R (fun p hp => I.isT (hL p hp)) (I.isT hb) (by show X.A.units + 1 < cLine; omega) few fun bb h' L' es' ep' t' sb R' z1 z2 => ?_
    show wpAny _ _ (ret Value.none) _ _ _
    refine wpAny_pure ⟨_, rfl, ?_⟩
    have he : ∃ u, h'.get? a = some u := by
      obtain ⟨⟨o', ho', _⟩, _⟩ := R'
      exact ⟨o', ho'⟩
    exact ⟨.non, _, I.write (e := a) (t' := s.toks + (k.length + 1)) (by rw [ha]; trivial) (.inl rfl) (fun c u hc hu => (sb.2 c hc).trans hu) he (setWO_new ⟨es', ep', t', R'⟩), rfl, q L' z1 z2⟩
def tSAddW (K : PySem.W.Frag) (P : Program) (w : World) (to : TE) (t : TA) : TE := fun σ H Q => to σ H fun x H1 => (∃ a L, x = V.ref a ∧ H1 a = some (SetWO P w a L)) ∧ t σ H1 fun xs H2 => rSAddW K P w x xs H2 Q
variable {o e : Expr} {es : List Expr} {to : TE} {t : TA} {apos cpos : Pos}
theorem pe_saddW (hu : X.A.units + 10 < cLine) (ho : PE X o to) (ha : PA X (e :: es) t)
    (hbase : attributeBase o "add" X.env (eval o X.env) = eval o X.env := by rfl)
    (hfew : ((backTo cpos (starEach (e :: es) X.env)).all (fun x => !x.1) && (backToKw cpos (keywordEach [] X.env)).all (fun x => x.1.isSome)
      && decide ((e :: es).length + ([] : List Keyword).length + (if ([] : List Keyword).isEmpty then 0 else 1) < 30)) = true := by rfl)
    (hline : (apos.endLine == cpos.line) = true := by rfl) (hs : starEach (e :: es) X.env = (false, eval e X.env) :: starEach es X.env := by rfl)
    (hplain : (backTo cpos (starEach es X.env)).any (·.1) = false := by rfl) :
    PE X (.Call (.Attribute o "add" apos) (e :: es) [] cpos) (tSAddW X.K X.prog X.w to t) := by
  refine ⟨fun pins s σ H Q I h => wpAny_Call_method_late hbase hfew hline rfl (thn (ho.run pins s σ H _ I h) fun v s1 ⟨x, H1, I1, r1, ty, q1⟩ => ?_)⟩
  obtain ⟨a, L, rfl, hka⟩ := ty
  obtain ⟨es', ep, tb, R⟩ := setWO_get I1 hka
  obtain ⟨⟨oo, hoo, hex, hd⟩, _⟩ := id R
  cases r1
  refine ⟨"set", "set.add", F.plainAttrs_set, F.slot_set_add, F.type_set_add, ⟨oo, hoo, hex.1⟩, ?_, ?_⟩
  · intro c e
    injection e with e
    subst e
    exact ⟨oo, hoo, hex.2.1⟩
  have hA := ha.run cpos pins s1 σ H1 _ I1 q1
  rw [hs] at hA ⊢
  refine Calls.callWith_builtin (by
    show (false || (backTo cpos (starEach es X.env)).any (·.1)) = false
    rw [hplain]
    rfl) (Calls.evalArgs_plain (thn hA ?_))
  exact fun us s2 ⟨vs, H2, I2, r2, q2⟩ => mt_saddW hu pins s2 σ H2 (.ref a) vs (.ref a) us Q I2 rfl r2 q2
/-- t in found -/
def rInW (K : PySem.W.Frag) (P : Program) (w : World) : R2 := fun x y H Q => ∃ (a b : Addr) (k : List Int) (L : List (Addr × List Int)), x = V.ref b ∧ y = V.ref a ∧
  H a = some (SetWO P w a L) ∧ SqT K H b (k.map V.int) ∧ (∀ p ∈ L, SqT K H p.1 (p.2.map V.int)) ∧ Q (.bl (decide (k ∈ L.map (·.2)))) H
theorem op_inW (hu : X.A.units + 10 < cLine) : OpR X (compareOp .In) (rInW X.K X.prog X.w) := by
  intro pins s σ H x y v u Q I rx ry h
  obtain ⟨a, b, k, L, rfl, rfl, ha, hb, hL, q⟩ := h
  cases rx
  cases ry
  obtain ⟨es, ep, t, R⟩ := setWO_get I ha
  obtain ⟨⟨o, ho, hex, hd⟩, rows, T, pl, ld, room, few⟩ := id R
  have ty : s.TypeIs (.ref a) "set" := ⟨o, ho, hex.1⟩
  show wpAny _ _ (do return Value.bool (← contains (.ref a) (.ref b))) _ _ s
  refine wpAny_bind ?_
  unfold contains
  try with_reducible refine wpAny_holding ?_
  refine wpAny_bind (wpAny_specialOf ty F.slot_set_contains.lookup ?_)
  show wpAny _ _ (if (some (Value.builtin "set.__contains__") == some Value.none) = true then _ else _) _ _ s
  rw [if_neg (by rw [beq_builtin_none]; exact Bool.false_ne_true)]
  refine wpAny_bind (wpAny_callSpecialUnlessNone?_slot (name := Str.ofString "__contains__") ty F.slot_set_contains
    (wpAny_call_entry F.slot_set_contains ty entry_set_contains ?_ (F.args_set_contains_2 _ _)))
  unfold Builtin.«frozenset.__contains__» Builtin.Frozenset.oneOther
  simp only [List.isEmpty_nil, bind_assoc]
  unfold Builtin.Frozenset.addrOf Builtin.Frozenset.withSetAsKey setContains
  refine wpAny_bind (wpAny_pure ?_)
  try dsimp only
  refine wpAny_bind (wpAny_pure ?_)
  try dsimp only
  refine wpAny_bind (wpAny_tryCatch ?_)
  refine wpAny_holding ?_
  refine wpAny_bind (wpAny_pyHash_tuple (by show X.A.units + 1 < cLine; omega) (I.isT hb) ?_)
  have tup : ∀ p ∈ L, IsT X.prog X.w s.heap p.2 p.1 := fun p hp => I.isT (hL p hp)
  have hx : IsT X.prog X.w s.heap k b := I.isT hb
  have fit : ∀ n : Nat, t.fits es.size = true := fun _ => fits_of T rows (by omega)
  refine wpAny_bind ?_
  unfold setFind
  rw [show (100000 : Nat) = 99999 + 1 from rfl]
  unfold setFindIn
  refine wpAny_bind (wpAny_setState_of (s := { s with toks := s.toks + (k.length + 1) }) ho hd (fit 0) ?_)
  dsimp only
  refine wp_if_neg (by simp [byScan, Value.scannable]) ?_
  have fin : ∀ oi : Option Nat, oi.isSome = decide (k ∈ L.map (·.2)) → ∃ v, Fin.done (Flow.ret (Value.bool oi.isSome)) = Fin.done (Flow.ret v) ∧
      wpAny (model X.prog X.w) X.A (truthy v) (fun c s' => wpAny (model X.prog X.w) X.A (pure (Value.bool c)) (EP X pins σ Q) X.xe s') X.xe { s with toks := s.toks + (k.length + 1) } := fun oi e =>
    ⟨_, rfl, wpAny_truthy_bool (wpAny_pure ⟨.bl _, H, I.tok _, rfl, by rw [e]; exact q⟩)⟩
  refine wpAny_bind (seek_all (s := { s with toks := s.toks + (k.length + 1) }) R tup false hx (by show X.A.units + 1 < cLine; omega) (fun hm oi hoi => ?_) fun K hm _ _ => ?_)
  · dsimp only
    refine wpAny_pure (wpAny_pure ?_)
    show wpAny _ _ (ret (Value.bool oi.isSome)) _ _ _
    refine wpAny_pure (fin oi ?_)
    have ne := hoi rfl
    cases oi with
    | none => exact absurd rfl ne
    | some z => exact (decide_eq_true hm).symm
  · dsimp only
    refine wpAny_pure (wpAny_pure ?_)
    show wpAny _ _ (ret (Value.bool (none : Option Nat).isSome)) _ _ _
    exact wpAny_pure (fin none (decide_eq_false hm).symm)
end
end Vf

/-! Loops and small readings. -/
namespace Vf
open PySem PySem.Spec PyProof.Rows L2 Evl
theorem hu10 {A : Around} {k : Nat} (hr : Room k A) : A.units + 10 < cLine := Nat.lt_of_le_of_lt (Nat.add_le_add_left (by decide : 10 ≤ 64) _) hr.units
/-- for i, x in enumerate(xs) -/
theorem for_enumL {K : PySem.W.Frag} {a : Addr} {xs : List V} {g : TG} {tb : TS} {D : Ends} {σ : L2.St} {H : Hp} (Pv : Nat → L2.St → Hp → Prop) (h0 : Pv 0 σ H) (hl : ∀ i σ H, Pv i σ H → SqL K H a xs)
    (hs : ∀ (i : Nat) (x : V) (T : Addr) (σ : L2.St) (H : Hp), xs[i]? = some x → Pv i σ H → H T = none → g (.ref T) σ (upd H T (.tup [.int (i : Nat), x])) fun σ2 H2 => tb { D with nx := Pv (i + 1), ct := Pv (i + 1), bk := D.nx } σ2 H2)
    (hd : ∀ σ H, Pv xs.length σ H → D.nx σ H) :
    ∃ W : Nat → Nat → L2.St → Hp → Prop, (∃ m, W 0 m σ H) ∧ ∀ i m σ H, W i m σ H →
      ((Ite K a).stop i H ∧ D.nx σ H) ∨ ((Ite K a).go i H ∧ ∃ N : L2.St → Hp → Prop, (∀ σ' H', N σ' H' → ∃ m', m' < m ∧ W (i + 1) m' σ' H') ∧
        ∀ v H', (Ite K a).yld i H v H' → g v σ H' fun σ2 H2 => tb { D with nx := N, ct := N, bk := D.nx } σ2 H2) := by
  refine ⟨fun i m σ H => i + m = xs.length ∧ Pv i σ H, ⟨xs.length, Nat.zero_add _, h0⟩, ?_⟩
  rintro i m σ H ⟨him, p⟩
  have q := hl i σ H p
  rcases Nat.lt_or_ge i xs.length with hi | hi
  · refine .inr ⟨⟨xs, xs[i], q, List.getElem?_eq_getElem hi⟩, Pv (i + 1), fun σ' H' p' => ⟨m - 1, by omega, by omega, p'⟩, fun v H' y => ?_⟩
    obtain ⟨T, x, rfl, nT, rfl, f⟩ := y
    exact hs i x T σ H (f xs q) p nT
  · refine .inl ⟨⟨xs, q, hi⟩, hd σ H ?_⟩
    have e : i = xs.length := by omega
    rwa [← e]
theorem Ex.set {H H' : Hp} {p : Addr} {o : HO} (e : Ex H H') (h : H p = none) : Ex H (upd H' p o) := Ex.mut e h
theorem take_snoc {α : Type} {l : List α} {i : Nat} {x : α} (h : l[i]? = some x) : l.take (i + 1) = l.take i ++ [x] := by
  rw [List.take_add_one, h]
  rfl
theorem map_at {α : Type} {ns : List α} {f : α → V} {i : Nat} {x : V} (h : (ns.map f)[i]? = some x) : ∃ n, ns[i]? = some n ∧ x = f n := by
  rw [List.getElem?_map, Option.map_eq_some_iff] at h
  obtain ⟨n, h1, h2⟩ := h
  exact ⟨n, h1, h2.symm⟩
theorem nodup_at {α : Type} {l : List α} (nd : l.Nodup) {i : Nat} {x : α} (h : l[i]? = some x) : x ∉ l.take i := by
  intro hm
  obtain ⟨j, hj, e⟩ := List.getElem_of_mem hm
  obtain ⟨hi, e2⟩ := List.getElem?_eq_some_iff.mp h
  have hj2 : j < i := by
    rw [List.length_take] at hj
    omega
  rw [List.getElem_take] at e
  exact absurd ((List.getElem_inj nd).mp (e.trans e2.symm)) (Nat.ne_of_lt hj2)
/-- a tuple stays while another object changes -/
theorem sqT_upd {K : PySem.W.Frag} {H : Hp} {a p : Addr} {xs : List V} {o o' : HO} (h : SqT K H a xs) (hp : H p = some o) (no : ∀ ys, o ≠ .tup ys) (nf : ∀ ob u, o ≠ .frz ob u) : SqT K (upd H p o') a xs := by
  rcases h with (h | ⟨ob, h⟩) | h
  · have ne : a ≠ p := fun e => by
      rw [e, hp] at h
      exact no _ (Option.some.inj h)
    exact .inl (.inl (by rw [upd_ne ne]; exact h))
  · have ne : a ≠ p := fun e => by
      rw [e, hp] at h
      exact nf _ _ (Option.some.inj h)
    exact .inl (.inr ⟨ob, by rw [upd_ne ne]; exact h⟩)
  · exact .inr h
/-- a list stays while another object, that is no list, changes; or a new one -/
theorem sqL_upd {K : PySem.W.Frag} {H : Hp} {a p : Addr} {xs : List V} {o o' : HO} (h : SqL K H a xs) (hp : H p = some o) (no : ∀ ys, o ≠ .lst ys) (nf : ∀ ob u, o ≠ .frz ob u) : SqL K (upd H p o') a xs := by
  rcases h with (h | ⟨ob, h⟩) | h
  · have ne : a ≠ p := fun e => by
      rw [e, hp] at h
      exact no _ (Option.some.inj h)
    exact .inl (.inl (by rw [upd_ne ne]; exact h))
  · have ne : a ≠ p := fun e => by
      rw [e, hp] at h
      exact nf _ _ (Option.some.inj h)
    exact .inl (.inr ⟨ob, by rw [upd_ne ne]; exact h⟩)
  · exact .inr h
end Vf

/-! The end of a law's row whose defs want that no guard stands. -/
namespace Vf
open PySem PySem.Spec PyProof.Rows L2
theorem law_runs {P : Program} {w : World} {K : PySem.W.Frag} {mg mb : Str → Option Value} {k : Nat} {fa a : Addr} {fd : FuncData} {x : Str} {sp : Sp} {s₁ : Shared} {vs : List Value} {ns : List Int}
    (KX : K.In s₁.heap) (hns : s₁.heap.Ns mainGlobals mg) (hb : s₁.heap.Ns builtinsNs mb) (hbb : ∀ x : Str, x ≠ "__name__" → mb x = bootBuiltins x) (hlim : s₁.heap.NoLimit) (hg : s₁.gens = #[])
    (ha : s₁.heap.get? a = some { cls := .type "list", data := .seq vs.toArray }) (hi : IntsAre vs ns) (hl : ns.length ≤ sizeLine) (hr : Room k callerA)
    (F : ∀ base : Heap, K.In base → base.Ns mainGlobals mg → FnG P w K mg base CX0 k fa fd [x] sp) (hbind : ∀ (s : Shared) (u : Value), BindsTo s fd ⟨[u], []⟩ [(x, u)])
    (hsp : ∀ H : Hp, Only H → SqL K H a (ns.map V.int) → sp [.ref a] H (fun v _ => v = .bl true) fun _ _ _ => False) :
    codeAny (model P w) callerA (.call (.ref fa) ⟨[.ref a], []⟩) (fun r s' => r = .ok (.ret (.bool true)) ∧ OldK s₁.heap s'.heap ∧ s'.os = s₁.os ∧ AllBare s'.gens) s₁ := by
  let ob : Obj := { cls := .type "list", data := .seq vs.toArray }
  have main : ∀ H : Hp, (∀ b, H b = none ∨ (b = a ∧ K.lookup a = none ∧ H b = some (.frz ob (.lst (ns.map V.int))))) → SqL K H a (ns.map V.int) →
      codeAny (model P w) callerA (.call (.ref fa) ⟨[.ref a], []⟩) (fun r s' => r = .ok (.ret (.bool true)) ∧ OldK s₁.heap s'.heap ∧ s'.os = s₁.os ∧ AllBare s'.gens) s₁ := by
    intro H hH hS
    have only : Only H := fun b => (hH b).elim .inl fun z => .inr ⟨_, _, z.2.2⟩
    have hok : HOk P w H s₁.heap := by
      intro b o e
      rcases hH b with z | ⟨rfl, _, z⟩
      · rw [z] at e; cases e
      · rw [z] at e
        cases e
        exact ⟨ha, by rw [List.length_map]; exact hl, vs, _, vals_ints hi, ha⟩
    have free : ∀ {b : Addr} {o : Obj}, s₁.heap.get? b = some o → (∀ it n, o.data ≠ .seq it n) → H b = none := by
      intro b o e d
      rcases hH b with z | ⟨rfl, _, _⟩
      · exact z
      · rw [ha] at e
        cases e
        exact absurd rfl (d _ _)
    have ns_at : ∀ {b : Addr} {m : Str → Option Value}, s₁.heap.Ns b m → (hidT s₁.heap H).Ns b m := by
      rintro b m ⟨o, es, ep, e, d, r⟩
      exact ⟨o, es, ep, hidT_get e (free e fun it n z => by rw [d] at z; cases z), d, r⟩
    have Kb : K.In (hidT s₁.heap H) := by
      intro b o e
      refine hidT_get (KX b o e) ?_
      rcases hH b with z | ⟨rfl, z, _⟩
      · exact z
      · rw [z] at e; cases e
    obtain ⟨mc, c1, c2⟩ := hlim
    have hM : Mod K mg (hidT s₁.heap H) := ⟨Kb, ns_at hns, ⟨mb, ns_at hb, hbb⟩, ⟨mc, ns_at c1, c2⟩⟩
    have none0 : ∀ b ∈ frs [], H b = none := fun b z => nomatch (show b ∈ ([] : List Addr) from z)
    have e0 : Env0 P w K mg (hidT s₁.heap H) callerA [] s₁ H := ⟨rfl, hM, fun b o e => of_hidT e, Nat.le_of_eq (hidT_size _ _), trivial, none0, hok, .of_eq hg⟩
    refine codeAny_mono ((F _ Kb (ns_at hns)).runG callerA [] s₁ H ⟨[.ref a], []⟩ [.ref a] [.ref a] _ _ rfl hr e0 (hbind s₁ (.ref a)) (.cons rfl .nil) (hsp H only hS)) ?_
    intro r s' h
    cases r with
    | error e => exact False.elim h
    | ok fl =>
      cases fl with
      | next => exact False.elim h
      | brk => exact False.elim h
      | cont => exact False.elim h
      | ret u =>
        obtain ⟨v, H', os, bare, un, hok', rv, rfl⟩ := h
        cases (show u = Value.bool true from rv)
        refine ⟨rfl, OldK.of_keep ?_, os, bare⟩
        intro b o e
        rcases hH b with z | ⟨rfl, _, z⟩
        · exact un.keep b o e z (fun y => nomatch (show b ∈ ([] : List Addr) from y)) (fun y => nomatch y)
        · obtain ⟨e2, _⟩ := hok' _ _ (un.frzs _ _ _ z)
          rw [ha] at e
          cases e
          exact e2
  cases hk : K.lookup a with
  | some o =>
    have e := KX a o hk
    rw [ha] at e
    cases e
    refine main (fun _ => none) (fun _ => .inl rfl) (.inr ⟨ob, vs.toArray, _, hk, rfl, rfl, rfl, ?_, by simpa using vals_ints hi⟩)
    rw [List.size_toArray, hi.length]
    exact hl
  | none =>
    refine main (fun b => if b = a then some (.frz ob (.lst (ns.map V.int))) else none) (fun b => ?_) (.inl (.inr ⟨ob, if_pos rfl⟩))
    by_cases c : b = a
    · exact .inr ⟨c, hk, if_pos c⟩
    · exact .inl (if_neg c)
/-- the goal that k_head leaves -/
theorem walkG_of {l : PySem.W.OpenLaw} {n k : Nat} {q : Program} {loose : List Str} {XP : (Str → Option Value) → Heap → Prop} {YP : World → Heap → Prop} {d : DefRec} {K : Params → PySem.W.Frag} {sp : PySem.W.Frag → Sp} {x : Str}
    (hn : l.most = some n) (hn2 : n ≤ sizeLine) (hdf : d.params.defaults = []) (hr : Room k callerA) (hY : ∀ (w : World) (h : Heap), YP w h → (K w.params).In h)
    (F : ∀ (w : World) (mg : Str → Option Value) (fa : Addr) (h : Heap), (K w.params).In h → h.Ns mainGlobals mg → mg d.name = some (.ref fa) →
      ∃ fd : FuncData, (∀ (s : Shared) (u : Value), BindsTo s fd ⟨[u], []⟩ [(x, u)]) ∧
        ∀ base : Heap, (K w.params).In base → base.Ns mainGlobals mg → FnG l.prog w (K w.params) mg base CX0 k fa fd [x] (sp (K w.params)))
    (hsp : ∀ (K : PySem.W.Frag) (H : Hp) (a : Addr) (ns : List Int), ns.length ≤ n → Only H → SqL K H a (ns.map V.int) → sp K [.ref a] H (fun v _ => v = .bl true) fun _ _ _ => False) :
    PySem.W.WalkO q loose XP YP l.row.toRowW d [] (fun f vs => PySem.call f vs) := by
  refine Att.attach_call hn hdf fun w s₀ s₁ mg mb fa o pm cd doc a vs ns G Y ho hd hcd hmg hobj hints hlen hg => ?_
  obtain ⟨fd, hb, hF⟩ := F w mg fa _ (hY w _ Y) G.T.g hmg
  exact law_runs (hY w _ Y) G.T.g G.T.b G.T.builtins G.T.nolimit hg hobj hints (Nat.le_trans hlen hn2) hr hF hb (fun H hO hS => hsp _ H a ns hlen hO hS)
end Vf

/-! Comprehensions over ranges; a new list of new lists. -/
namespace Vf
open PySem PySem.Spec PyProof.Rows L2 Evl
section
variable {K : PySem.W.Frag} {σ : L2.St} {H H' : Hp} {ta : TA} {te : TE} {t : TT}
theorem el_lcR2 {j : Nat} {vs : List Nat} {lo n : Int} (f : Nat → Bool) (v : Nat → V) (h : EvA ta σ H [.int lo, .int n]) (hn : -40000 ≤ lo ∧ lo ≤ 40000 ∧ -40000 ≤ n ∧ n - lo ≤ 40000)
    (hw : ∀ x, wipe ((wipe σ vs).set j (some x)) vs = wipe σ vs) (ht : ∀ (i : Nat) H1, Ex H H1 → lo + (i : Int) < n → EvT t ((wipe σ vs).set j (some (.int (lo + (i : Int))))) H1 (f i))
    (he : ∀ (i : Nat) H1, Ex H H1 → lo + (i : Int) < n → f i = true → Ev te ((wipe σ vs).set j (some (.int (lo + (i : Int))))) H1 (v i)) :
    EvL (tLc (iRng2 ta) (gName j) t te vs) σ H (given (n - lo).toNat f v) := by
  intro H0 e Q q
  refine h H0 e _ fun H1 e1 => ⟨lo, n, rfl, by omega, fun Dl hD => ?_⟩
  refine lc_range (lo := lo) (n := (n - lo).toNat) (Cw H1 f v Dl) ⟨hD, Ex.new hD, upd_same⟩ (fun i H' hi p => ⟨hw _, ?_⟩) fun H' p => q Dl H' (fresh_back e1 p.1) (e1.trans p.2.1) p.2.2
  exact cw_turn p (by omega) (ht i H1 (e.trans e1) (by omega)) fun hf => he i H1 (e.trans e1) (by omega) hf

/-- a new list of new lists, seen from H -/
def LLAt (H H2 : Hp) (D : Addr) (ls : List (List V)) : Prop :=
  ∃ ps : List Addr, H2 D = some (.lst (ps.map V.ref)) ∧ ps.length = ls.length ∧ D ∉ ps ∧ ∀ (i : Nat) (p : Addr) (l : List V), ps[i]? = some p → ls[i]? = some l → H p = none ∧ H2 p = some (.lst l)
def EvLL (te : TE) (σ : L2.St) (H : Hp) (ls : List (List V)) : Prop := ∀ H1, Ex H H1 → ∀ Q : VK, (∀ D H2, H1 D = none → Ex H1 H2 → LLAt H1 H2 D ls → Q (.ref D) H2) → te σ H1 Q
def RetLL (ls : List (List V)) (H : Hp) (Q : VK) : Prop := ∀ D H2, H D = none → Ex H H2 → LLAt H H2 D ls → Q (.ref D) H2
theorem LLAt.back {H H1 H2 : Hp} {D : Addr} {ls : List (List V)} (e : Ex H H1) (h : LLAt H1 H2 D ls) : LLAt H H2 D ls := by
  obtain ⟨ps, a, b, c, d⟩ := h
  exact ⟨ps, a, b, c, fun i p l x y => ⟨fresh_back e (d i p l x y).1, (d i p l x y).2⟩⟩
theorem LLAt.on {H H2 H3 : Hp} {D : Addr} {ls : List (List V)} (h : LLAt H H2 D ls) (e : Ex H2 H3) : LLAt H H3 D ls := by
  obtain ⟨ps, a, b, c, d⟩ := h
  exact ⟨ps, e _ _ a, b, c, fun i p l x y => ⟨(d i p l x y).1, e _ _ (d i p l x y).2⟩⟩
theorem RetLL.go {ls : List (List V)} {Q : VK} (k : RetLL ls H Q) (e : Ex H H') {D : Addr} {H2 : Hp} (hD : H' D = none) (e2 : Ex H' H2) (h : LLAt H' H2 D ls) : Q (.ref D) H2 :=
  k D H2 (fresh_back e hD) (e.trans e2) (h.back e)
/-- the rows so far -/
def Rw (H : Hp) (f : Nat → Bool) (L : Nat → List V) (Dl : Addr) (i : Nat) (H' : Hp) : Prop := H Dl = none ∧ Ex H H' ∧ LLAt H H' Dl (((List.range i).filter f).map L)
theorem rw_turn {H H' : Hp} {f : Nat → Bool} {L : Nat → List V} {Dl : Addr} {i : Nat} {σ2 : L2.St} (p : Rw H f L Dl i H') (hi : i < 50000) (ht : EvT t σ2 H (f i)) (he : f i = true → EvL te σ2 H (L i)) :
    t σ2 H' fun b H3 => if b = true then te σ2 H3 fun y H4 => ∃ acc, H4 Dl = some (.lst acc) ∧ acc.length < sizeLine ∧ Rw H f L Dl (i + 1) (upd H4 Dl (.lst (acc ++ [y]))) else Rw H f L Dl (i + 1) H3 := by
  obtain ⟨p1, p2, p3⟩ := p
  refine ht H' p2 _ fun H3 e3 => ?_
  cases hf : f i with
  | true =>
    show te σ2 H3 fun y H4 => ∃ acc, H4 Dl = some (.lst acc) ∧ acc.length < sizeLine ∧ Rw H f L Dl (i + 1) (upd H4 Dl (.lst (acc ++ [y])))
    refine he hf H3 (p2.trans e3) _ fun q H4 nq e4 hq => ?_
    obtain ⟨ps, a, b, c, d⟩ := (p3.on e3).on e4
    have len : ps.length ≤ i := by
      rw [b, List.length_map]
      have z := List.length_filter_le f (List.range i)
      rwa [List.length_range] at z
    have neD : q ≠ Dl := fun z => by
      have a3 := (p3.on e3)
      obtain ⟨_, a3, _⟩ := a3
      rw [← z, nq] at a3
      cases a3
    refine ⟨ps.map V.ref, a, sz_lt (by rw [List.length_map]; omega), p1, Ex.mut ((p2.trans e3).trans e4) p1, ps ++ [q], ?_, ?_, ?_, ?_⟩
    · rw [upd_same, List.map_append]
      rfl
    · rw [List.range_succ, List.filter_append, List.filter_cons, if_pos (by rw [hf])]
      simp [b]
    · intro z
      rcases List.mem_append.mp z with z | z
      · exact c z
      · exact neD (List.mem_singleton.mp z).symm
    · intro k pp l hk hl
      rw [List.range_succ, List.filter_append, List.filter_cons, if_pos (by rw [hf])] at hl
      simp only [List.filter_nil, List.map_append, List.map_cons, List.map_nil] at hl
      by_cases hk2 : k < ps.length
      · rw [List.getElem?_append_left hk2] at hk
        rw [List.getElem?_append_left (by rw [← b]; exact hk2)] at hl
        obtain ⟨d1, d2⟩ := d k pp l hk hl
        exact ⟨d1, by rw [upd_ne (show pp ≠ Dl from fun z => c (by rw [← z]; exact List.mem_of_getElem? hk))]; exact d2⟩
      · have ek : k = ps.length := by
          have z := (List.getElem?_eq_some_iff.mp hk).1
          rw [List.length_append, List.length_singleton] at z
          omega
        rw [ek, List.getElem?_append_right (Nat.le_refl _), Nat.sub_self] at hk
        rw [ek, b, List.getElem?_append_right (Nat.le_refl _), Nat.sub_self] at hl
        cases hk
        cases hl
        exact ⟨fresh_back (p2.trans e3) nq, by rw [upd_ne neD]; exact hq⟩
  | false =>
    show Rw H f L Dl (i + 1) H3
    refine ⟨p1, p2.trans e3, ?_⟩
    rw [List.range_succ, List.filter_append, List.filter_cons, if_neg (by rw [hf]; decide)]
    simpa using p3.on e3
theorem ell_lcR2 {j : Nat} {vs : List Nat} {lo n : Int} (f : Nat → Bool) (L : Nat → List V) (h : EvA ta σ H [.int lo, .int n]) (hn : -40000 ≤ lo ∧ lo ≤ 40000 ∧ -40000 ≤ n ∧ n - lo ≤ 40000)
    (hw : ∀ x, wipe ((wipe σ vs).set j (some x)) vs = wipe σ vs) (ht : ∀ (i : Nat) H1, Ex H H1 → lo + (i : Int) < n → EvT t ((wipe σ vs).set j (some (.int (lo + (i : Int))))) H1 (f i))
    (he : ∀ (i : Nat) H1, Ex H H1 → lo + (i : Int) < n → f i = true → EvL te ((wipe σ vs).set j (some (.int (lo + (i : Int))))) H1 (L i)) :
    EvLL (tLc (iRng2 ta) (gName j) t te vs) σ H (((List.range (n - lo).toNat).filter f).map L) := by
  intro H0 e Q q
  refine h H0 e _ fun H1 e1 => ⟨lo, n, rfl, by omega, fun Dl hD => ?_⟩
  refine lc_range (lo := lo) (n := (n - lo).toNat) (Rw H1 f L Dl) ⟨hD, Ex.new hD, [], upd_same, rfl, (by simp), (fun i p l x => by simp at x)⟩ (fun i H' hi p => ⟨hw _, ?_⟩)
    fun H' p => q Dl H' (fresh_back e1 p.1) (e1.trans p.2.1) (p.2.2.back e1)
  exact rw_turn p (by omega) (ht i H1 (e.trans e1) (by omega)) fun hf => he i H1 (e.trans e1) (by omega) hf
/-- over a list -/
theorem ell_lcL {a : Addr} {xs : List V} {tl : TE} {j : Nat} {vs : List Nat} (f : Nat → Bool) (L : Nat → List V) (h : Ev tl σ H (.ref a)) (hx : SqL K H a xs) (hz : xs.length ≤ 40000) (hw : ∀ x, wipe ((wipe σ vs).set j (some x)) vs = wipe σ vs)
    (ht : ∀ (i : Nat) (x : V) H1, Ex H H1 → xs[i]? = some x → EvT t ((wipe σ vs).set j (some x)) H1 (f i)) (he : ∀ (i : Nat) (x : V) H1, Ex H H1 → xs[i]? = some x → f i = true → EvL te ((wipe σ vs).set j (some x)) H1 (L i)) :
    EvLL (tLc (iList K tl) (gName j) t te vs) σ H (((List.range xs.length).filter f).map L) := by
  intro H0 e Q q
  refine h H0 e _ fun H1 e1 => ⟨a, rfl, ⟨xs, ex_l (e.trans e1) hx⟩, fun Dl hD => ?_⟩
  refine lc_list (xs := xs) (Rw H1 f L Dl) ⟨hD, Ex.new hD, [], upd_same, rfl, (by simp), (fun i p l x => by simp at x)⟩ (fun i H' _ p => ex_l ((e.trans e1).trans p.2.1) hx) (fun i x H' hi p => ⟨hw x, ?_⟩)
    fun H' p => q Dl H' (fresh_back e1 p.1) (e1.trans p.2.1) (p.2.2.back e1)
  have hlt := (List.getElem?_eq_some_iff.mp hi).1
  exact rw_turn p (by omega) (ht i x H1 (e.trans e1) hi) fun hf => he i x H1 (e.trans e1) hi hf
theorem et_yes : EvT tYes σ H true := fun H1 _ _ q => q H1 (Ex.refl H1)
theorem atI_int {l : List Int} {i : Int} (h0 : 0 ≤ i) (h1 : i < l.length) : atI (l.map V.int) i = some (.int (l.getD i.toNat 0)) := by
  obtain ⟨k, rfl⟩ : ∃ k : Nat, i = (k : Int) := ⟨i.toNat, by omega⟩
  have hk : k < l.length := by omega
  refine atI_nat ?_
  rw [List.getElem?_map, List.getElem?_eq_getElem hk, List.getD_eq_getElem?_getD, show ((k : Int)).toNat = k from rfl, List.getElem?_eq_getElem hk]
  rfl
/-- a built-in's call upon a new list -/
theorem ev_cbL {r : List V → Hp → VK → Prop} {xs : List V} {z : V} (h : EvL te σ H xs) (hr : ∀ p H1, Ex H H1 → H1 p = some (.lst xs) → RC r [.ref p] H1 z) : Ev (tCB r (tCons te tNil)) σ H z :=
  fun H1 e Q q => h H1 e _ fun p H2 _ e2 hp => hr p H2 (e.trans e2) hp H2 (Ex.refl H2) Q fun H3 e3 => q H3 (e2.trans e3)
theorem dec_vi (a b : Int) : decide (V.int a = V.int b) = decide (a = b) := by
  by_cases c : a = b
  · rw [decide_eq_true c, decide_eq_true (congrArg V.int c)]
  · rw [decide_eq_false c, decide_eq_false fun z => c (V.int.inj z)]
theorem given_ints (n : Nat) (f : Nat → Bool) (g : Nat → Int) : given n f (fun i => V.int (g i)) = (((List.range n).filter f).map g).map V.int := by
  unfold given
  rw [List.map_map]
  rfl
/-- [y for x in xs for y in x], the rows lists that stand -/
theorem el_flat {a : Addr} {as : List Addr} {rows : List (List V)} {tl : TE} {j j2 : Nat} {vs vs1 : List Nat} (h : Ev tl σ H (.ref a)) (hx : SqL K H a (as.map V.ref)) (hl : as.length = rows.length)
    (hr : ∀ (i : Nat) (b : Addr) (r : List V), as[i]? = some b → rows[i]? = some r → SqL K H b r) (hz : rows.flatten.length ≤ 40000) (hw : ∀ x, wipe ((wipe σ vs).set j (some x)) vs = wipe σ vs)
    (hw1 : ∀ x y, wipe ((wipe ((wipe σ vs).set j (some x)) vs1).set j2 (some y)) vs1 = wipe ((wipe σ vs).set j (some x)) vs1) (hj : ∀ x, ((wipe σ vs).set j (some x))[j]? = some (some x))
    (hj2 : ∀ x y, ((wipe ((wipe σ vs).set j (some x)) vs1).set j2 (some y))[j2]? = some (some y)) :
    EvL (tLc2 (iList K tl) (gName j) tYes (iList K (tVar j)) (gName j2) tYes (tVar j2) vs vs1) σ H rows.flatten := by
  intro H0 e Q q
  refine h H0 e _ fun H1 e1 => ⟨a, rfl, ⟨_, ex_l (e.trans e1) hx⟩, fun D hD => ?_⟩
  refine ⟨fun i m H' => i + m = rows.length ∧ Ex H1 H' ∧ H' D = some (.lst (rows.take i).flatten), ⟨rows.length, Nat.zero_add _, Ex.new hD, upd_same⟩, ?_⟩
  rintro i m H2 ⟨him, e2, h2⟩
  have hS2 : SqL K H2 a (as.map V.ref) := ex_l ((e.trans e1).trans e2) hx
  rcases Nat.lt_or_ge i rows.length with hi | hi
  · have hia : i < as.length := hl ▸ hi
    refine .inr ⟨⟨_, .ref as[i], hS2, by rw [List.getElem?_map, List.getElem?_eq_getElem hia]; rfl⟩, fun H' => Ex H1 H' ∧ H' D = some (.lst (rows.take (i + 1)).flatten), fun H' p => ⟨m - 1, by omega, by omega, p⟩, fun x H' hy => ?_⟩
    obtain ⟨rfl, hy⟩ := hy
    have ex : x = .ref as[i] := Option.some.inj ((hy _ hS2).symm.trans (by rw [List.getElem?_map, List.getElem?_eq_getElem hia]; rfl))
    subst ex
    have hb : as[i]? = some as[i] := List.getElem?_eq_getElem hia
    have hrow : rows[i]? = some rows[i] := List.getElem?_eq_getElem hi
    have hR : ∀ H', Ex H1 H' → SqL K H' as[i] rows[i] := fun H' e' => ex_l ((e.trans e1).trans e') (hr i _ _ hb hrow)
    refine ⟨hw _, ⟨_, hj _, as[i], rfl, ⟨_, hR _ e2⟩, ?_⟩⟩
    refine ⟨fun c k H' => c + k = rows[i].length ∧ Ex H1 H' ∧ H' D = some (.lst ((rows.take i).flatten ++ rows[i].take c)), ⟨rows[i].length, Nat.zero_add _, e2, by simpa using h2⟩, ?_⟩
    rintro c k H3 ⟨hck, e3, h3⟩
    rcases Nat.lt_or_ge c rows[i].length with hc | hc
    · refine .inr ⟨⟨_, rows[i][c], hR _ e3, List.getElem?_eq_getElem hc⟩, fun H' => Ex H1 H' ∧ H' D = some (.lst ((rows.take i).flatten ++ rows[i].take (c + 1))), fun H' p => ⟨k - 1, by omega, by omega, p⟩, fun y H' hy => ?_⟩
      obtain ⟨rfl, hy⟩ := hy
      have ey : y = rows[i][c] := Option.some.inj ((hy _ (hR _ e3)).symm.trans (List.getElem?_eq_getElem hc))
      subst ey
      refine ⟨hw1 _ _, ⟨_, hj2 _ _, _, h3, ?_, ?_, ?_⟩⟩
      · refine sz_lt ?_
        have z0 : rows.flatten = (rows.take (i + 1)).flatten ++ (rows.drop (i + 1)).flatten := by rw [← List.flatten_append, List.take_append_drop]
        rw [take_snoc hrow, List.flatten_append] at z0
        have z := congrArg List.length z0
        simp only [List.length_append, List.flatten_cons, List.flatten_nil, List.append_nil] at z
        rw [List.length_append, List.length_take]
        omega
      · exact Ex.mut e3 hD
      · rw [upd_same, take_snoc (List.getElem?_eq_getElem hc), List.append_assoc]
    · refine .inl ⟨⟨_, hR _ e3, hc⟩, e3, ?_⟩
      show H3 D = _
      rw [h3, List.take_of_length_le hc, take_snoc hrow, List.flatten_append]
      simp
  · refine .inl ⟨⟨_, hS2, by rw [List.length_map, hl]; exact hi⟩, q D H2 (fresh_back e1 hD) (e1.trans e2) ?_⟩
    rw [h2, List.take_of_length_le hi]
end
/-! ### rules told by the module's facts (a comprehension's block has them from its def) -/
section
variable {X : Cx} {K : PySem.W.Frag}
theorem ix_listK (h : X.K = K) : IxR X (rIxL K) := by subst h; exact ix_list
theorem ix_tupK (h : X.K = K) : IxR X (rIxT K) := by subst h; exact ix_tup
theorem op_inK (h : X.K = K) : OpR X (compareOp .In) (rIn K false) := by subst h; exact op_in_seq
theorem op_notInK (h : X.K = K) : OpR X (compareOp .NotIn) (rIn K true) := by subst h; exact op_notIn_seq
theorem sl_listK (h : X.K = K) : SlR X (rSlL K) := by subst h; exact sl_list
theorem call_lenK (h : X.K = K) : CallR X (.builtin "len") (rLenS K) := by subst h; exact call_len_seq
theorem call_listK (h : X.K = K) : CallR X (.type "list") (rListS K) := by subst h; exact call_list_of
theorem cr_sortedK (h : X.K = K) : CallR X (.builtin "sorted") (rSorted K) := by subst h; exact cr_sorted
theorem cr_maxK (hc : X.calm = true) (h : X.K = K) : CallR X (.builtin "max") (rMax K) := by subst h; exact cr_max hc
theorem cr_allK (hc : X.calm = true) (h : X.K = K) : CallR X (.builtin "all") (rAll K) := by subst h; exact cr_all hc
theorem mt_countK (h : X.K = K) : MtR X "list.count" (rCntI K) := by subst h; exact mt_lcount
theorem pe_revK {e : Expr} {te : TE} {k : Nat} {p1 p2 p3 pos : Pos} (h : X.K = K) (he : PE X e te) : PE X (.Subscript e (.Slice none none (some (.UnaryOp .USub (.Constant (.int 1) k p1) p2)) p3) pos) (tRevL K te) := by subst h; exact pe_revL he
theorem pi_listK {tg l : Expr} {tl : TE} (h : X.K = K) (hl : PE X l tl) : PI X tg l (iList K tl) := by subst h; exact pi_list hl
theorem pg_unlK {pos : Pos} {es : List Expr} {k : Nat} {t : TGs} {n : Nat} (h : X.K = K) (hc : X.calm = true) (hs : PGs X es t)
    (hn : (assignEach es X.env).length = n := by rfl) (hst : (assignEach es X.env).findIdx? (·.1) = none := by rfl) : PG X (.Tuple es k pos) (gUnl K n t) := by subst h; exact pg_unl hc hs hn hst
theorem pg_tupK {pos : Pos} {es : List Expr} {k : Nat} {t : TGs} {n : Nat} (h : X.K = K) (hc : X.calm = true) (hs : PGs X es t)
    (hn : (assignEach es X.env).length = n := by rfl) (hst : (assignEach es X.env).findIdx? (·.1) = none := by rfl) : PG X (.Tuple es k pos) (gTup K n t) := by subst h; exact pg_tup hc hs hn hst
theorem pe_bmK {o e : Expr} {es : List Expr} {to : TE} {t : TA} {apos cpos : Pos} {T id : String} {name : Str} {r : V → List V → Hp → VK → Prop} (h : X.K = K) (pa : PlainAttrs T) (slot : Slot T name id)
    (hty : typeOf (.builtin id) = pure (.type "method_descriptor")) (hm : MtR X id r) (ho : PE X o to) (ha : PA X (e :: es) t)
    (k1 : attributeBase o name X.env (eval o X.env) = eval o X.env := by rfl)
    (k2 : ((backTo cpos (starEach (e :: es) X.env)).all (fun x => !x.1) && (backToKw cpos (keywordEach [] X.env)).all (fun x => x.1.isSome) &&
      decide ((e :: es).length + ([] : List Keyword).length + (if ([] : List Keyword).isEmpty then 0 else 1) < 30)) = true := by rfl)
    (k3 : (apos.endLine == cpos.line) = true := by rfl) (k4 : starEach (e :: es) X.env = (false, eval e X.env) :: starEach es X.env := by rfl)
    (k5 : (backTo cpos (starEach es X.env)).any (·.1) = false := by rfl) : PE X (.Call (.Attribute o name apos) (e :: es) [] cpos) (tBM K T r to t) := by
  subst h
  exact pe_bm pa slot hty hm ho ha k1 k2 k3 k4 k5
end
end Vf

/-! Data at any depth: what may be compared and shown. -/
namespace Vf
open PySem PySem.Spec PyProof.Rows L2 Evl
/-- data of at most dep lists one in the other, shown by at most len signs -/
structure Dn (d : PyData) (len dep : Nat) : Prop where
  len_ : d.shown.length ≤ len
  show_ : d.showable = true
  dict_ : d.hasDict = false
  lay_ : d.canLay0 = true
  dep_ : d.depth ≤ dep
theorem Dn.mono {d : PyData} {len dep len' dep' : Nat} (h : Dn d len dep) (h1 : len ≤ len') (h2 : dep ≤ dep') : Dn d len' dep' :=
  ⟨Nat.le_trans h.len_ h1, h.show_, h.dict_, h.lay_, Nat.le_trans h.dep_ h2⟩
theorem Dn.int {i : Int} (h0 : 0 ≤ i) (h1 : i < 10 ^ 10) : Dn (.int i) 10 0 := by
  refine ⟨toString_length_le h0 (by decide) h1, ?_, rfl, rfl, Nat.le_refl _⟩
  refine decide_eq_true ?_
  have h2 : i.natAbs < 2 ^ 40 := by omega
  by_cases c : i.natAbs = 0
  · rw [c]; decide
  · exact Nat.lt_of_lt_of_le ((Nat.log2_lt c).2 h2) (by decide)
theorem Dn.bool (b : Bool) : Dn (.bool b) 5 0 := by
  refine ⟨?_, rfl, rfl, rfl, Nat.le_refl _⟩
  cases b <;> decide
theorem textFrom_le : ∀ (ts : List Str) (k : Nat) (acc : Str), (textFrom k acc ts).length ≤ acc.length + piled ts
  | [], _, _ => Nat.le_add_right _ _
  | t :: r, k, acc => by
    have h := textFrom_le r (k + 1) (acc ++ (if k > 0 then ", " else "" : String) ++ t)
    have e : (acc ++ (if k > 0 then ", " else "" : String) ++ t).length ≤ acc.length + 2 + t.length := by
      rw [strLen_append, strLen_append]
      split
      · exact Nat.le_refl _
      · show acc.length + 0 + t.length ≤ _
        omega
    rw [piled_cons]
    show (textFrom (k + 1) _ r).length ≤ _
    omega
theorem dn_all {len dep : Nat} : ∀ {ds : List PyData}, (∀ d ∈ ds, Dn d len dep) →
    piled (PyData.shownAll ds) ≤ (len + 2) * ds.length ∧ PyData.showableAll ds = true ∧ PyData.hasDictAll ds = false ∧ PyData.canLayAll0 ds = true ∧ PyData.depthAll ds ≤ dep
  | [], _ => ⟨Nat.zero_le _, rfl, rfl, rfl, Nat.zero_le _⟩
  | d :: ds, h => by
    obtain ⟨a1, a2, a3, a4, a5⟩ := h d List.mem_cons_self
    obtain ⟨b1, b2, b3, b4, b5⟩ := dn_all (ds := ds) fun x hx => h x (List.mem_cons_of_mem _ hx)
    refine ⟨?_, ?_, ?_, ?_, ?_⟩
    · show piled (d.shown :: PyData.shownAll ds) ≤ _
      rw [piled_cons, List.length_cons, Nat.mul_add]
      omega
    · show (d.showable && PyData.showableAll ds) = true
      rw [a2, b2]; rfl
    · show (d.hasDict || PyData.hasDictAll ds) = false
      rw [a3, b3]; rfl
    · show (d.canLay0 && PyData.canLayAll0 ds) = true
      rw [a4, b4]; rfl
    · show max d.depth (PyData.depthAll ds) ≤ dep
      omega
theorem Dn.list {ds : List PyData} {len dep : Nat} (h : ∀ d ∈ ds, Dn d len dep) : Dn (.list ds) ((len + 2) * ds.length + 2) (dep + 1) := by
  obtain ⟨b1, b2, b3, b4, b5⟩ := dn_all h
  refine ⟨?_, b2, b3, b4, Nat.succ_le_succ b5⟩
  show (textFrom 0 "[" (PyData.shownAll ds) ++ "]").length ≤ _
  have z := textFrom_le (PyData.shownAll ds) 0 "["
  rw [strLen_append]
  have e1 : (Str.ofString "[").length = 1 := by decide
  have e2 : (Str.ofString "]").length = 1 := by decide
  rw [e1] at z
  rw [e2]
  omega
abbrev dInts (ns : List Int) : PyData := .list (ns.map .int)
abbrev dRows (ls : List (List Int)) : PyData := .list (ls.map dInts)
theorem dn_ints {ns : List Int} (h : ∀ x ∈ ns, 0 ≤ x ∧ x < 10 ^ 10) : Dn (dInts ns) (12 * ns.length + 2) 1 := by
  have z := Dn.list (ds := ns.map .int) (len := 10) (dep := 0) fun d hd => by
    obtain ⟨x, hx, rfl⟩ := List.mem_map.mp hd
    exact Dn.int (h x hx).1 (h x hx).2
  rw [List.length_map] at z
  exact z
theorem dn_rows {ls : List (List Int)} {m : Nat} (h : ∀ l ∈ ls, l.length ≤ m ∧ ∀ x ∈ l, 0 ≤ x ∧ x < 10 ^ 10) : Dn (dRows ls) ((12 * m + 4) * ls.length + 2) 2 := by
  have z := Dn.list (ds := ls.map dInts) (len := 12 * m + 2) (dep := 1) fun d hd => by
    obtain ⟨l, hl, rfl⟩ := List.mem_map.mp hd
    exact (dn_ints (h l hl).2).mono (by have := (h l hl).1; omega) (Nat.le_refl _)
  rw [List.length_map] at z
  exact z
section
variable {K : PySem.W.Frag} {H H' : Hp}
theorem dp_list (ns : List Int) : DpAll K H (ns.map V.int) (ns.map .int) := by
  induction ns with
  | nil => exact .nil
  | cons n ns ih => exact .cons (.int n) ih
theorem dp_ints {a : Addr} {ns : List Int} (h : SqL K H a (ns.map V.int)) : Dp K H (.ref a) (dInts ns) := .lst h (dp_list ns)
theorem dp_rows {a : Addr} {ps : List Addr} {ls : List (List Int)} (h : SqL K H a (ps.map V.ref)) (hl : ps.length = ls.length) (hr : ∀ (i : Nat) (p : Addr) (l : List Int), ps[i]? = some p → ls[i]? = some l → SqL K H p (l.map V.int)) :
    Dp K H (.ref a) (dRows ls) := by
  refine .lst h ?_
  clear h
  induction ps generalizing ls with
  | nil =>
    cases ls with
    | nil => exact .nil
    | cons l ls => cases hl
  | cons p ps ih =>
    cases ls with
    | nil => cases hl
    | cons l ls =>
      exact .cons (dp_ints (hr 0 p l rfl rfl)) (ih (by simpa using hl) fun i p' l' h1 h2 => hr (i + 1) p' l' h1 h2)
mutual
theorem Dp.on (e : Ex H H') : ∀ (d : PyData) (v : V), Dp K H v d → Dp K H' v d
  | .none, _, h => by cases h; exact .non
  | .bool b, _, h => by cases h; exact .bl b
  | .int i, _, h => by cases h; exact .int i
  | .str x, _, h => by cases h; exact .str x
  | .list ds, _, h => by
    cases h with
    | lst hs ha => exact .lst (ex_l e hs) (DpAll.on e ds _ ha)
  | .tuple ds, _, h => by
    cases h with
    | tup hs ha => exact .tup (ex_t e hs) (DpAll.on e ds _ ha)
  | .dict _, _, h => by cases h
theorem DpAll.on (e : Ex H H') : ∀ (ds : List PyData) (vs : List V), DpAll K H vs ds → DpAll K H' vs ds
  | [], _, h => by cases h; exact .nil
  | d :: ds, _, h => by
    cases h with
    | cons h1 h2 => exact .cons (Dp.on e d _ h1) (DpAll.on e ds _ h2)
end
/-- what may be compared, item by item -/
def Sh (K : PySem.W.Frag) (H : Hp) (x : V) : Prop := ∃ e, Dp K H x e ∧ PyData.canLay0 e = true ∧ PyData.depth e ≤ 8
theorem Sh.int (i : Int) : Sh K H (.int i) := ⟨.int i, .int i, rfl, by simp [PyData.depth]⟩
theorem Sh.pair {a : Addr} {x y : Int} (h : SqL K H a [.int x, .int y]) : Sh K H (.ref a) :=
  ⟨dInts [x, y], dp_ints h, rfl, by simp [dInts, PyData.depth, PyData.depthAll]⟩
theorem sh_all : ∀ {xs : List V}, (∀ x ∈ xs, Sh K H x) → ∃ ds, DpAll K H xs ds ∧ ds.length = xs.length ∧ PyData.canLayAll0 ds = true ∧ PyData.depthAll ds ≤ 8
  | [], _ => ⟨[], .nil, rfl, rfl, by simp [PyData.depthAll]⟩
  | x :: xs, h => by
    obtain ⟨e, e1, e2, e3⟩ := h x List.mem_cons_self
    obtain ⟨ds, d1, d2, d3, d4⟩ := sh_all (xs := xs) fun y hy => h y (List.mem_cons_of_mem _ hy)
    refine ⟨e :: ds, .cons e1 d1, by simp [d2], ?_, ?_⟩
    · simp [PyData.canLayAll0, e2, d3]
    · simp only [PyData.depthAll]
      omega
/-- xs != [], the empty list new -/
theorem ne_nil {l p : Addr} {xs : List V} {Q : VK} (hl : SqL K H l xs) (hp : H p = some (.lst [])) (hx : ∀ x ∈ xs, Sh K H x) (q : Q (.bl (!xs.isEmpty)) H) : rNeD K (.ref l) (.ref p) H Q := by
  obtain ⟨ds, d1, d2, d3, d4⟩ := sh_all hx
  refine ⟨.list ds, .list [], .lst hl d1, .lst (.inl (.inl hp)) .nil, ?_, rfl, ?_⟩
  · refine Bool.and_eq_true_iff.mpr ⟨d3, decide_eq_true ?_⟩
    have z : (PyData.list ds).depth = PyData.depthAll ds + 1 := by simp only [PyData.depth]
    omega
  · have e : PyData.eqv (.list ds) (.list []) = xs.isEmpty := by
      cases ds with
      | nil =>
        cases xs with
        | nil => rfl
        | cons _ _ => cases d2
      | cons _ _ =>
        cases xs with
        | nil => cases d2
        | cons _ _ => rfl
    rw [e]
    exact q
end
end Vf

namespace K01
open PySem PySem.Spec PyProof.Rows L2 Vf Evl
def topS (i : Nat) : Stmt := PySem.Challenge.pw_apartcalls_k01_nets.main.body.getD i (.Pass ⟨0, 0, 0, 0⟩)
abbrev s_is_from_one : Stmt := topS 6
theorem sc_is_from_one : FnScope ["thing", "most"] ["thing", "most"] (defScope s_is_from_one) :=
  ⟨rfl, rfl, rfl, by decide +kernel, rfl, by decide +kernel, by decide +kernel⟩
abbrev s_first_wrong : Stmt := topS 7
theorem sc_first_wrong : FnScope ["things", "most", "seen", "at", "thing"] ["things", "most"] (defScope s_first_wrong) :=
  ⟨rfl, rfl, rfl, by decide +kernel, rfl, by decide +kernel, by decide +kernel⟩
abbrev s_check_count : Stmt := topS 8
theorem sc_check_count : FnScope ["number"] ["number"] (defScope s_check_count) :=
  ⟨rfl, rfl, rfl, by decide +kernel, rfl, by decide +kernel, by decide +kernel⟩
abbrev s_is_tie : Stmt := topS 9
theorem sc_is_tie : FnScope ["thing", "seats"] ["thing", "seats"] (defScope s_is_tie) :=
  ⟨rfl, rfl, rfl, by decide +kernel, rfl, by decide +kernel, by decide +kernel⟩
abbrev s_check_ties : Stmt := topS 10
theorem sc_check_ties : FnScope ["ties", "seats", "tied", "at", "tie", "pair"] ["ties", "seats"] (defScope s_check_ties) :=
  ⟨rfl, rfl, rfl, by decide +kernel, rfl, by decide +kernel, by decide +kernel⟩
abbrev s_check_net : Stmt := topS 11
theorem sc_check_net : FnScope ["seats", "ties"] ["seats", "ties"] (defScope s_check_net) :=
  ⟨rfl, rfl, rfl, by decide +kernel, rfl, by decide +kernel, by decide +kernel⟩
abbrev s_parts : Stmt := topS 13
theorem sc_parts : FnScope ["seats", "ties"] ["seats", "ties"] (defScope s_parts) :=
  ⟨rfl, rfl, rfl, by decide +kernel, rfl, by decide +kernel, by decide +kernel⟩
abbrev s_is_wood : Stmt := topS 14
theorem sc_is_wood : FnScope ["seats", "ties"] ["seats", "ties"] (defScope s_is_wood) :=
  ⟨rfl, rfl, rfl, by decide +kernel, rfl, by decide +kernel, by decide +kernel⟩
abbrev s_is_row : Stmt := topS 15
theorem sc_is_row : FnScope ["seats", "ties"] ["seats", "ties"] (defScope s_is_row) :=
  ⟨rfl, rfl, rfl, by decide +kernel, rfl, by decide +kernel, by decide +kernel⟩
abbrev s_parts_of : Stmt := topS 16
theorem sc_parts_of : FnScope ["seats", "ties", "least", "first", "seat"] ["seats", "ties"] (defScope s_parts_of) :=
  ⟨rfl, rfl, rfl, by decide +kernel, rfl, by decide +kernel, by decide +kernel⟩
abbrev s_is_wood_of : Stmt := topS 17
theorem sc_is_wood_of : FnScope ["seats", "ties"] ["seats", "ties"] (defScope s_is_wood_of) :=
  ⟨rfl, rfl, rfl, by decide +kernel, rfl, by decide +kernel, by decide +kernel⟩
abbrev s_is_row_of : Stmt := topS 18
theorem sc_is_row_of : FnScope ["seats", "ties", "ends", "tie", "seat"] ["seats", "ties"] (defScope s_is_row_of) :=
  ⟨rfl, rfl, rfl, by decide +kernel, rfl, by decide +kernel, by decide +kernel⟩
abbrev s_least_together : Stmt := topS 19
theorem sc_least_together : FnScope ["seats", "ties", "least", "one", "two", "low", "high", "seat"] ["seats", "ties"] (defScope s_least_together) :=
  ⟨rfl, rfl, rfl, by decide +kernel, rfl, by decide +kernel, by decide +kernel⟩
abbrev s_l_draws : Stmt := topS 21
theorem sc_l_draws : FnScope ["_law_cell"] ["_law_cell"] (defScope s_l_draws) :=
  ⟨rfl, rfl, rfl, by decide +kernel, rfl, by decide +kernel, by decide +kernel⟩
abbrev s_l_next : Stmt := topS 22
theorem sc_l_next : FnScope ["_law_draws_here", "_law_k", "_law_number"] ["_law_draws_here"] (defScope s_l_next) :=
  ⟨rfl, rfl, rfl, by decide +kernel, rfl, by decide +kernel, by decide +kernel⟩
abbrev s_l_mixed : Stmt := topS 23
theorem sc_l_mixed : FnScope ["_law_draws_here", "_law_some", "_law_left", "_law_told"] ["_law_draws_here", "_law_some"] (defScope s_l_mixed) :=
  ⟨rfl, rfl, rfl, by decide +kernel, rfl, by decide +kernel, by decide +kernel⟩
abbrev s_l_net : Stmt := topS 24
theorem sc_l_net : FnScope ["_law_draws_here", "_law_most", "_law_seats", "_law_kind", "_law_line", "_law_ties", "_law_at", "_law_pick", "_law_other"] ["_law_draws_here", "_law_most"] (defScope s_l_net) :=
  ⟨rfl, rfl, rfl, by decide +kernel, rfl, by decide +kernel, by decide +kernel⟩
abbrev s_l_parts : Stmt := topS 25
theorem sc_l_parts : FnScope ["_law_seats", "_law_ties", "_law_mark", "_law_one", "_law_two", "_law_low", "_law_high", "_law_each", "_law_least", "_law_seat"] ["_law_seats", "_law_ties"] (defScope s_l_parts) :=
  ⟨rfl, rfl, rfl, by decide +kernel, rfl, by decide +kernel, by decide +kernel⟩
abbrev s_l_right : Stmt := topS 26
theorem sc_l_right : FnScope ["_law_seats", "_law_ties", "_law_before", "_law_due", "_law_wood", "_law_most", "_law_row", "_law_told", "_law_part", "_law_seat", "_law_pair"] ["_law_seats", "_law_ties"] (defScope s_l_right) :=
  ⟨rfl, rfl, rfl, by decide +kernel, rfl, by decide +kernel, by decide +kernel⟩
abbrev s_law : Stmt := topS 27
theorem sc_law : FnScope ["_law_script", "_law_draws_here", "_law_most", "_law_seats", "_law_ties", "_law_turned", "_law_row", "_law_star", "_law_cell", "_law_pair", "_law_seat"] ["_law_script"] (defScope s_law) :=
  ⟨rfl, rfl, rfl, by decide +kernel, rfl, by decide +kernel, by decide +kernel⟩
structure Ad where
  (f_is_from_one f_first_wrong f_check_count f_is_tie f_check_ties f_check_net f_parts f_is_wood f_is_row f_parts_of f_is_wood_of f_is_row_of f_least_together f_l_draws f_l_next f_l_mixed f_l_net f_l_parts f_l_right f_law : Addr)
  (d_is_from_one d_first_wrong d_check_count d_is_tie d_check_ties d_check_net d_parts d_is_wood d_is_row d_parts_of d_is_wood_of d_is_row_of d_least_together d_l_draws d_l_next d_l_mixed d_l_net d_l_parts d_l_right d_law : FuncData)
  (t_LEAST_COUNT t_MOST_COUNT : Tok)
structure Txt (K : PySem.W.Frag) (mg : Str → Option Value) (A : Ad) : Prop where
  F_is_from_one : Fun K "is_from_one" "is_from_one" s_is_from_one A.f_is_from_one A.d_is_from_one
  g_is_from_one : mg "is_from_one" = some (.ref A.f_is_from_one)
  b_is_from_one : Binds K A.d_is_from_one ["thing", "most"] []
  F_first_wrong : Fun K "first_wrong" "first_wrong" s_first_wrong A.f_first_wrong A.d_first_wrong
  g_first_wrong : mg "first_wrong" = some (.ref A.f_first_wrong)
  b_first_wrong : Binds K A.d_first_wrong ["things", "most"] []
  F_check_count : Fun K "check_count" "check_count" s_check_count A.f_check_count A.d_check_count
  g_check_count : mg "check_count" = some (.ref A.f_check_count)
  b_check_count : Binds K A.d_check_count ["number"] []
  F_is_tie : Fun K "is_tie" "is_tie" s_is_tie A.f_is_tie A.d_is_tie
  g_is_tie : mg "is_tie" = some (.ref A.f_is_tie)
  b_is_tie : Binds K A.d_is_tie ["thing", "seats"] []
  F_check_ties : Fun K "check_ties" "check_ties" s_check_ties A.f_check_ties A.d_check_ties
  g_check_ties : mg "check_ties" = some (.ref A.f_check_ties)
  b_check_ties : Binds K A.d_check_ties ["ties", "seats"] []
  F_check_net : Fun K "check_net" "check_net" s_check_net A.f_check_net A.d_check_net
  g_check_net : mg "check_net" = some (.ref A.f_check_net)
  b_check_net : Binds K A.d_check_net ["seats", "ties"] []
  F_parts : Fun K "parts" "parts" s_parts A.f_parts A.d_parts
  g_parts : mg "parts" = some (.ref A.f_parts)
  b_parts : Binds K A.d_parts ["seats", "ties"] []
  kb_parts : KBinds K A.d_parts ["seats", "ties"] ["ties", "seats"] swap2 swap2
  F_is_wood : Fun K "is_wood" "is_wood" s_is_wood A.f_is_wood A.d_is_wood
  g_is_wood : mg "is_wood" = some (.ref A.f_is_wood)
  b_is_wood : Binds K A.d_is_wood ["seats", "ties"] []
  kb_is_wood : KBinds K A.d_is_wood ["seats", "ties"] ["ties", "seats"] swap2 swap2
  F_is_row : Fun K "is_row" "is_row" s_is_row A.f_is_row A.d_is_row
  g_is_row : mg "is_row" = some (.ref A.f_is_row)
  b_is_row : Binds K A.d_is_row ["seats", "ties"] []
  kb_is_row : KBinds K A.d_is_row ["seats", "ties"] ["ties", "seats"] swap2 swap2
  F_parts_of : Fun K "parts_of" "parts_of" s_parts_of A.f_parts_of A.d_parts_of
  g_parts_of : mg "parts_of" = some (.ref A.f_parts_of)
  b_parts_of : Binds K A.d_parts_of ["seats", "ties"] []
  F_is_wood_of : Fun K "is_wood_of" "is_wood_of" s_is_wood_of A.f_is_wood_of A.d_is_wood_of
  g_is_wood_of : mg "is_wood_of" = some (.ref A.f_is_wood_of)
  b_is_wood_of : Binds K A.d_is_wood_of ["seats", "ties"] []
  F_is_row_of : Fun K "is_row_of" "is_row_of" s_is_row_of A.f_is_row_of A.d_is_row_of
  g_is_row_of : mg "is_row_of" = some (.ref A.f_is_row_of)
  b_is_row_of : Binds K A.d_is_row_of ["seats", "ties"] []
  F_least_together : Fun K "least_together" "least_together" s_least_together A.f_least_together A.d_least_together
  g_least_together : mg "least_together" = some (.ref A.f_least_together)
  b_least_together : Binds K A.d_least_together ["seats", "ties"] []
  F_l_draws : Fun K "_law_draws" "_law_draws" s_l_draws A.f_l_draws A.d_l_draws
  g_l_draws : mg "_law_draws" = some (.ref A.f_l_draws)
  b_l_draws : Binds K A.d_l_draws ["_law_cell"] []
  F_l_next : Fun K "_law_next" "_law_next" s_l_next A.f_l_next A.d_l_next
  g_l_next : mg "_law_next" = some (.ref A.f_l_next)
  b_l_next : Binds K A.d_l_next ["_law_draws_here"] []
  F_l_mixed : Fun K "_law_mixed" "_law_mixed" s_l_mixed A.f_l_mixed A.d_l_mixed
  g_l_mixed : mg "_law_mixed" = some (.ref A.f_l_mixed)
  b_l_mixed : Binds K A.d_l_mixed ["_law_draws_here", "_law_some"] []
  F_l_net : Fun K "_law_net" "_law_net" s_l_net A.f_l_net A.d_l_net
  g_l_net : mg "_law_net" = some (.ref A.f_l_net)
  b_l_net : Binds K A.d_l_net ["_law_draws_here", "_law_most"] []
  F_l_parts : Fun K "_law_parts" "_law_parts" s_l_parts A.f_l_parts A.d_l_parts
  g_l_parts : mg "_law_parts" = some (.ref A.f_l_parts)
  b_l_parts : Binds K A.d_l_parts ["_law_seats", "_law_ties"] []
  F_l_right : Fun K "_law_right" "_law_right" s_l_right A.f_l_right A.d_l_right
  g_l_right : mg "_law_right" = some (.ref A.f_l_right)
  b_l_right : Binds K A.d_l_right ["_law_seats", "_law_ties"] []
  F_law : Fun K "law" "law" s_law A.f_law A.d_law
  g_law : mg "law" = some (.ref A.f_law)
  b_law : Binds K A.d_law ["_law_script"] []
  g_LEAST_COUNT : mg "LEAST_COUNT" = some (.int 3 A.t_LEAST_COUNT)
  g_MOST_COUNT : mg "MOST_COUNT" = some (.int 40 A.t_MOST_COUNT)
  z_isinstance : mg "isinstance" = none
  z_int : mg "int" = none
  z_bool : mg "bool" = none
  z_set : mg "set" = none
  z_enumerate : mg "enumerate" = none
  z_list : mg "list" = none
  z_len : mg "len" = none
  z_tuple : mg "tuple" = none
  z_sorted : mg "sorted" = none
  z_range : mg "range" = none
  z_all : mg "all" = none
  z_min : mg "min" = none
  z_max : mg "max" = none
  z_repr : mg "repr" = none
section
variable {P : Program} {w : World} {K : PySem.W.Frag} {mg : Str → Option Value} {base : Heap} {A : Ad}
def sp_is_from_one : Sp := fun vs H Q _ => ∃ i m : Int, vs = [.int i, .int m] ∧ RetV (.bl (decide (1 ≤ i ∧ i ≤ m))) H Q
theorem ok_is_from_one (T : Txt K mg A) : FnOk P w K mg base CX0 1 A.f_is_from_one A.d_is_from_one ["thing", "most"] sp_is_from_one := by
  refine T.F_is_from_one.ok sc_is_from_one (fun vs H Q E h => ?_) (fun cdv A' outer s H vs Q E hr h => ?_)
  · obtain ⟨i, m, rfl, _⟩ := h
    rfl
  · obtain ⟨i, m, rfl, q⟩ := h
    refine ⟨_, (pss_one (ps_ret (pe_and (pe_callB call_isi (by rfl) T.z_isinstance (by decide +kernel) (pa_cons (pv 0) (pa_cons (pe_bltn (v := .ty "int") (by rfl) T.z_int (by decide +kernel) rfl) pa_nil))) (pe_and (pe_not (pe_callB call_isi (by rfl) T.z_isinstance (by decide +kernel) (pa_cons (pv 0) (pa_cons (pe_bltn (v := .ty "bool") (by rfl) T.z_bool (by decide +kernel) rfl) pa_nil)))) (pe_one (pe_chain op_le op_le pe_int (pv 0) (pv 1))))))), ?_⟩
    refine ⟨_, rfl, _, _, .type "int", .type "int", true, rfl, .ty _, .base (.int i), kit_ty (by decide +kernel), true, rfl, iteT ?_⟩
    refine ⟨_, rfl, _, _, .type "int", .type "bool", false, rfl, .ty _, .base (.int i), kit_ty (by decide +kernel), false, rfl, true, rfl, iteT ?_⟩
    refine ⟨_, rfl, _, _, rfl, rfl, _, rfl, ?_⟩
    have e : decide (1 ≤ i ∧ i ≤ m) = (decide (1 ≤ i) && decide (i ≤ m)) := by
      by_cases c : 1 ≤ i <;> by_cases d : i ≤ m <;> simp [c, d]
    rw [e] at q
    by_cases c : 1 ≤ i
    · rw [decide_eq_true c] at q ⊢
      exact iteT ⟨_, rfl, _, _, rfl, rfl, q H (Ex.refl H)⟩
    · rw [decide_eq_false c] at q ⊢
      exact iteF (q H (Ex.refl H))
def sp_first_wrong (K : PySem.W.Frag) : Sp := fun vs H Q _ => ∃ (a : Addr) (ns : List Int) (m : Int), vs = [.ref a, .int m] ∧ SqL K H a (ns.map V.int) ∧ ns.Nodup ∧ (∀ x ∈ ns, 1 ≤ x ∧ x ≤ m) ∧ ns.length ≤ 1000 ∧ RetV .non H Q
theorem ok_first_wrong (T : Txt K mg A) : FnOk P w K mg base CX0 2 A.f_first_wrong A.d_first_wrong ["things", "most"] (sp_first_wrong K) := by
  have G_is_from_one : FnOk P w K mg base CX0 1 A.f_is_from_one A.d_is_from_one ["thing", "most"] sp_is_from_one := ok_is_from_one T
  refine T.F_first_wrong.ok sc_first_wrong (fun vs H Q E h => ?_) (fun cdv A' outer s H vs Q E hr h => ?_)
  · obtain ⟨a, ns, m, rfl, _⟩ := h
    rfl
  · obtain ⟨a, ns, m, rfl, hS, nd, hb, hl, q⟩ := h
    refine ⟨_, (pss_cons (ps_set (i := 2) sc_first_wrong.nd rfl (by first | exact .inl rfl | exact .inr rfl) (pe_callTy0 cr_set0 (by rfl) T.z_set (by decide +kernel)))
      (pss_cons (ps_for PassesOwn.never rfl (pi_enum (by rfl) T.z_enumerate (pa_cons (pv 0) pa_nil)) (pg_tupK (K := K) rfl rfl (pgs_cons (pg_name (i := 3) sc_first_wrong.nd rfl (by first | exact .inl rfl | exact .inr rfl)) (pgs_cons (pg_name (i := 4) sc_first_wrong.nd rfl (by first | exact .inl rfl | exact .inr rfl)) pgs_nil))) (pss_cons (ps_if (PW.pt (pw_or (pt_not (pt_val (pe_call G_is_from_one (hr.mono (by decide)) (by rfl) T.g_is_from_one T.F_is_from_one.kp T.b_is_from_one .nil pass0 (pa_cons (pv 4) (pa_cons (pv 1) pa_nil))))) (pw_or1 (pt_cmpR or_sin (pv 4) (pv 2) (by rfl))))) (pss_one (ps_ret (pv 3))) pss_nil)
      (pss_one (ps_expr (pe_sadd (pv 2) (pa_cons (pv 4) pa_nil))))))
      (pss_one (ps_ret pe_non)))), ?_⟩
    -- seen = set()
    refine ⟨rfl, fun p np => ?_⟩
    have e0 : Ex H (upd H p (SetO w p (fun _ => false) 0)) := Ex.new np
    -- for at, thing in enumerate(things)
    refine ⟨.ref a, rfl, a, ns.map V.int, rfl, ex_l e0 hS, ?_⟩
    refine for_enumL (xs := ns.map V.int) (fun i σ' H' => (∃ y3 y4, σ' = [some (.ref a), some (.int m), some (.ref p), y3, y4]) ∧ Ex H H' ∧
        ∃ S c, H' p = some (SetO w p S c) ∧ c ≤ i ∧ ∀ k, S k = true → k ∈ ns.take i)
      ⟨⟨none, none, rfl⟩, e0, _, _, upd_same, Nat.le_refl _, fun k z => nomatch z⟩ (fun i σ' H' z => ex_l z.2.1 hS) ?_ ?_
    · rintro i x Tt σ' H' hx ⟨⟨y3, y4, rfl⟩, e1, S, c, hp, hc, hSk⟩ nT
      obtain ⟨n, hn, rfl⟩ := map_at hx
      have mem : n ∈ ns := List.mem_of_getElem? hn
      have e2 : Ex H' (upd H' Tt (.tup [.int (i : Nat), .int n])) := Ex.new nT
      -- at, thing = the pair
      refine ⟨Tt, _, rfl, .inl (.inl upd_same), rfl, _, _, rfl, _, _, rfl, rfl, ?_⟩
      -- if not is_from_one(thing, most) or thing in seen
      refine ⟨_, rfl, _, rfl, n, m, rfl, fun H3 e3 => ?_⟩
      rw [decide_eq_true (hb n mem)]
      have hp3 : H3 p = some (SetO w p S c) := e3 _ _ (e2 _ _ hp)
      have hi : i < ns.length := (List.getElem?_eq_some_iff.mp hn).1
      refine ⟨true, rfl, iteF ⟨_, rfl, _, rfl, n, p, S, c, rfl, rfl, hp3, ?_⟩⟩
      have no : S n = false := by
        cases z : S n with
        | false => rfl
        | true => exact absurd (hSk n z) (nodup_at nd hn)
      rw [no]
      refine ⟨false, rfl, iteF ?_⟩
      -- seen.add(thing)
      refine ⟨_, rfl, ⟨p, S, c, rfl, hp3⟩, _, rfl, p, n, S, c, rfl, rfl, hp3, by unfold scanBound; omega, ?_⟩
      rw [no]
      refine ⟨⟨_, _, rfl⟩, Ex.mut ((e1.trans e2).trans e3) np, _, c + 1, upd_same, by omega, fun k hk => ?_⟩
      rw [take_snoc hn, List.mem_append]
      rcases Bool.or_eq_true_iff.mp hk with z | z
      · exact .inl (hSk k z)
      · exact .inr (by rw [of_decide_eq_true z]; exact List.mem_singleton.mpr rfl)
    · rintro σ' H' ⟨_, e1, _⟩
      exact q H' e1
end
end K01

namespace K01
open PySem PySem.Spec PyProof.Rows L2 Vf Evl
/-! ### ties -/
def nrm (t : Int × Int) : Int × Int := if t.1 ≤ t.2 then t else (t.2, t.1)
def key2 (t : Int × Int) : List Int := [(nrm t).1, (nrm t).2]
structure NetOk (n : Int) (ts : List (Int × Int)) : Prop where
  lo : 3 ≤ n
  hi : n ≤ 40
  ok : ∀ t ∈ ts, (1 ≤ t.1 ∧ t.1 ≤ n) ∧ (1 ≤ t.2 ∧ t.2 ≤ n) ∧ t.1 ≠ t.2
  nd : (ts.map nrm).Nodup
  few : ts.length ≤ 1000
theorem key2_inj {s t : Int × Int} (h : key2 s = key2 t) : nrm s = nrm t := by
  unfold key2 at h
  injection h with h1 h2
  injection h2 with h2 _
  exact Prod.ext h1 h2
theorem sorted_two {ns : List Int} {x y : Int} (h : ns.Perm [x, y]) (hs : ns.Pairwise (· ≤ ·)) : ns = key2 (x, y) := by
  have hl := h.length_eq
  match ns, hl with
  | [a, b], _ =>
    have hab : a ≤ b := by simpa using hs
    have ha : a ∈ [x, y] := h.mem_iff.mp (by simp)
    have hb : b ∈ [x, y] := h.mem_iff.mp (by simp)
    have hx : x ∈ [a, b] := h.mem_iff.mpr (by simp)
    have hy : y ∈ [a, b] := h.mem_iff.mpr (by simp)
    simp only [List.mem_cons, List.not_mem_nil, or_false] at ha hb hx hy
    unfold key2 nrm
    by_cases c : x ≤ y
    · simp only [c, if_true]
      have : a = x ∧ b = y := by omega
      rw [this.1, this.2]
    · simp only [c, if_false]
      have : a = y ∧ b = x := by omega
      rw [this.1, this.2]
def TiesAt (K : PySem.W.Frag) (H : Hp) (a : Addr) (ts : List (Int × Int)) : Prop :=
  ∃ as : List Addr, SqL K H a (as.map V.ref) ∧ as.length = ts.length ∧ ∀ (i : Nat) (b : Addr) (t : Int × Int), as[i]? = some b → ts[i]? = some t → SqL K H b [.int t.1, .int t.2]
theorem TiesAt.mono {K : PySem.W.Frag} {H H' : Hp} {a : Addr} {ts : List (Int × Int)} (e : Ex H H') (h : TiesAt K H a ts) : TiesAt K H' a ts := by
  obtain ⟨as, h1, h2, h3⟩ := h
  exact ⟨as, ex_l e h1, h2, fun i b t x y => ex_l e (h3 i b t x y)⟩
theorem ty_list {K : PySem.W.Frag} {H : Hp} {a : Addr} {xs : List V} (h : SqL K H a xs) : TyX K H (.ref a) (.type "list") := by
  rcases h with (h | ⟨o, h⟩) | ⟨o, its, n, h, hc, _⟩
  · exact .base (.lst h)
  · exact .base (.frz h)
  · exact .kList h hc
section
variable {P : Program} {w : World} {K : PySem.W.Frag} {mg : Str → Option Value} {base : Heap} {A : Ad}
def sp_check_count : Sp := fun vs H Q _ => ∃ n : Int, vs = [.int n] ∧ 3 ≤ n ∧ n ≤ 40 ∧ RetV .non H Q
theorem ok_check_count (T : Txt K mg A) : FnOk P w K mg base CX0 2 A.f_check_count A.d_check_count ["number"] sp_check_count := by
  have G_is_from_one : FnOk P w K mg base CX0 1 A.f_is_from_one A.d_is_from_one ["thing", "most"] sp_is_from_one := ok_is_from_one T
  refine T.F_check_count.ok sc_check_count (fun vs H Q E h => ?_) (fun cdv A' outer s H vs Q E hr h => ?_)
  · obtain ⟨n, rfl, _⟩ := h
    rfl
  · obtain ⟨n, rfl, h1, h2, q⟩ := h
    refine ⟨_, (pss_one (ps_if (PW.pt (pw_or (pt_not (pt_val (pe_call G_is_from_one (hr.mono (by decide)) (by rfl) T.g_is_from_one T.F_is_from_one.kp T.b_is_from_one .nil pass0 (pa_cons (pv 0) (pa_cons (pe_glob (v := .int 40) (by rfl) T.g_MOST_COUNT ⟨_, rfl⟩) pa_nil))))) (pw_or1 (pt_cmpR op_lt (pv 0) (pe_glob (v := .int 3) (by rfl) T.g_LEAST_COUNT ⟨_, rfl⟩) (nomark _))))) (pss_one ps_never) pss_nil)), ?_⟩
    refine ⟨_, rfl, n, 40, rfl, fun H1 e1 => ?_⟩
    rw [decide_eq_true (show 1 ≤ n ∧ n ≤ 40 by omega)]
    refine ⟨true, rfl, iteF ⟨_, rfl, _, _, rfl, rfl, _, rfl, ?_⟩⟩
    rw [decide_eq_false (show ¬ n < 3 by omega)]
    exact iteF (q H1 e1)
def sp_is_tie (K : PySem.W.Frag) : Sp := fun vs H Q _ => ∃ (b : Addr) (x y n : Int), vs = [.ref b, .int n] ∧ SqL K H b [.int x, .int y] ∧ (1 ≤ x ∧ x ≤ n) ∧ (1 ≤ y ∧ y ≤ n) ∧ x ≠ y ∧ RetV (.bl true) H Q
theorem ok_is_tie (T : Txt K mg A) : FnOk P w K mg base CX0 3 A.f_is_tie A.d_is_tie ["thing", "seats"] (sp_is_tie K) := by
  have G_first_wrong : FnOk P w K mg base CX0 2 A.f_first_wrong A.d_first_wrong ["things", "most"] (sp_first_wrong K) := ok_first_wrong T
  refine T.F_is_tie.ok sc_is_tie (fun vs H Q E h => ?_) (fun cdv A' outer s H vs Q E hr h => ?_)
  · obtain ⟨b, x, y, n, rfl, _⟩ := h
    rfl
  · obtain ⟨b, x, y, n, rfl, hS, hx, hy, ne, q⟩ := h
    refine ⟨_, (pss_one (ps_ret (pe_and (pe_callB call_isi (by rfl) T.z_isinstance (by decide +kernel) (pa_cons (pv 0) (pa_cons (pe_bltn (v := .ty "list") (by rfl) T.z_list (by decide +kernel) rfl) pa_nil))) (pe_and (pe_cmpR op_eq (pe_callB (call_lenK (K := K) rfl) (by rfl) T.z_len PySem.boot_len (pa_cons (pv 0) pa_nil)) pe_int (nomark _)) (pe_one (pe_cmp (pc_isN (pe_call G_first_wrong (hr.mono (by decide)) (by rfl) T.g_first_wrong T.F_first_wrong.kp T.b_first_wrong .nil pass0 (pa_cons (pv 0) (pa_cons (pv 1) pa_nil)))))))))), ?_⟩
    refine ⟨_, rfl, _, _, .type "list", .type "list", true, rfl, .ty _, ty_list hS, kit_ty (by decide +kernel), true, rfl, iteT ?_⟩
    refine ⟨_, rfl, b, _, rfl, .inl hS, rfl, true, rfl, iteT ?_⟩
    refine ⟨_, rfl, _, rfl, b, [x, y], n, rfl, hS, by simpa using ne, fun z hz => ?_, by show 2 ≤ 1000; decide, fun H1 e1 => q H1 e1⟩
    simp only [List.mem_cons, List.not_mem_nil, or_false] at hz
    rcases hz with rfl | rfl
    · exact hx
    · exact hy
def sp_check_ties (K : PySem.W.Frag) : Sp := fun vs H Q _ => ∃ (a : Addr) (ts : List (Int × Int)) (n : Int), vs = [.ref a, .int n] ∧ TiesAt K H a ts ∧ NetOk n ts ∧ RetV .non H Q
theorem ok_check_ties (T : Txt K mg A) : FnOk P w K mg base CX0 4 A.f_check_ties A.d_check_ties ["ties", "seats"] (sp_check_ties K) := by
  have G_is_tie : FnOk P w K mg base CX0 3 A.f_is_tie A.d_is_tie ["thing", "seats"] (sp_is_tie K) := ok_is_tie T
  refine T.F_check_ties.ok sc_check_ties (fun vs H Q E h => ?_) (fun cdv A' outer s H vs Q E hr h => ?_)
  · obtain ⟨a, ts, n, rfl, _⟩ := h
    rfl
  · obtain ⟨a, ts, n, rfl, hT, N, q⟩ := h
    obtain ⟨as, hS, hlen, hat⟩ := hT
    refine ⟨_, (pss_cons (ps_if (pt_not (pt_val (pe_callB call_isi (by rfl) T.z_isinstance (by decide +kernel) (pa_cons (pv 0) (pa_cons (pe_bltn (v := .ty "list") (by rfl) T.z_list (by decide +kernel) rfl) pa_nil))))) (pss_one ps_never) pss_nil)
      (pss_cons (ps_set (i := 2) sc_check_ties.nd rfl (by first | exact .inl rfl | exact .inr rfl) (pe_callTy0 cr_set0W (by rfl) T.z_set (by decide +kernel)))
      (pss_one (ps_for PassesOwn.never rfl (pi_enum (by rfl) T.z_enumerate (pa_cons (pv 0) pa_nil)) (pg_tupK (K := K) rfl rfl (pgs_cons (pg_name (i := 3) sc_check_ties.nd rfl (by first | exact .inl rfl | exact .inr rfl)) (pgs_cons (pg_name (i := 4) sc_check_ties.nd rfl (by first | exact .inl rfl | exact .inr rfl)) pgs_nil))) (pss_cons (ps_if (pt_not (pt_val (pe_call G_is_tie (hr.mono (by decide)) (by rfl) T.g_is_tie T.F_is_tie.kp T.b_is_tie .nil pass0 (pa_cons (pv 4) (pa_cons (pv 1) pa_nil))))) (pss_one ps_never) pss_nil)
      (pss_cons (ps_set (i := 5) sc_check_ties.nd rfl (by first | exact .inl rfl | exact .inr rfl) (pe_callTy call_tuple_of (by rfl) T.z_tuple (by decide +kernel) (pa_cons (pe_callB (cr_sortedK (K := K) rfl) (by rfl) T.z_sorted (by decide +kernel) (pa_cons (pv 4) pa_nil)) pa_nil)))
      (pss_cons (ps_if (pt_cmpR (op_inW (hu10 hr)) (pv 5) (pv 2) (by rfl)) (pss_one ps_never) pss_nil)
      (pss_one (ps_expr (pe_saddW (hu10 hr) (pv 2) (pa_cons (pv 5) pa_nil))))))))))), ?_⟩
    refine ⟨_, rfl, _, _, .type "list", .type "list", true, rfl, .ty _, ty_list hS, kit_ty (by decide +kernel), true, rfl, iteF ?_⟩
    refine ⟨rfl, fun p np => ?_⟩
    have e0 : Ex H (upd H p (SetWO P w p [])) := Ex.new np
    refine ⟨.ref a, rfl, a, as.map V.ref, rfl, ex_l e0 hS, ?_⟩
    refine for_enumL (xs := as.map V.ref) (fun i σ' H' => (∃ y3 y4 y5, σ' = [some (.ref a), some (.int n), some (.ref p), y3, y4, y5]) ∧ Ex H H' ∧
        ∃ L, H' p = some (SetWO P w p L) ∧ L.length ≤ i ∧ (∀ x ∈ L, SqT K H' x.1 (x.2.map V.int)) ∧ ∀ k, k ∈ L.map (·.2) → k ∈ (ts.take i).map key2)
      ⟨⟨none, none, none, rfl⟩, e0, [], upd_same, Nat.le_refl _, (fun x hx => by cases hx), (fun k hk => by cases hk)⟩ (fun i σ' H' z => ex_l z.2.1 hS) ?_ ?_
    · rintro i x Tt σ' H' hx ⟨⟨y3, y4, y5, rfl⟩, e1, L, hp, hLi, hLt, hLk⟩ nT
      obtain ⟨b, hb, rfl⟩ := map_at hx
      have hi : i < ts.length := by rw [← hlen]; exact (List.getElem?_eq_some_iff.mp hb).1
      obtain ⟨t, ht⟩ : ∃ t, ts[i]? = some t := ⟨_, List.getElem?_eq_getElem hi⟩
      have tok := N.ok t (List.mem_of_getElem? ht)
      have e2 : Ex H' (upd H' Tt (.tup [.int (i : Nat), .ref b])) := Ex.new nT
      refine ⟨Tt, _, rfl, .inl (.inl upd_same), rfl, _, _, rfl, _, _, rfl, rfl, ?_⟩
      -- if not is_tie(tie, seats)
      refine ⟨_, rfl, _, rfl, b, t.1, t.2, n, rfl, ex_l (e1.trans e2) (hat i b t hb ht), tok.1, tok.2.1, tok.2.2, fun H3 e3 => ?_⟩
      refine ⟨true, rfl, iteF ?_⟩
      -- pair = tuple(sorted(tie))
      refine ⟨_, rfl, b, [t.1, t.2], rfl, ex_l ((e1.trans e2).trans e3) (hat i b t hb ht), (by show 2 < 64; decide), fun ns' p4 pm sr np4 => ?_⟩
      obtain rfl := sorted_two pm sr
      have e4 : Ex H3 (upd H3 p4 (.lst ((key2 t).map V.int))) := Ex.new np4
      refine ⟨p4, _, rfl, .inl ⟨.inl (.inl upd_same), fun tp ntp => ?_⟩⟩
      have e5 : Ex (upd H3 p4 (.lst ((key2 t).map V.int))) (upd (upd H3 p4 (.lst ((key2 t).map V.int))) tp (.tup ((key2 t).map V.int))) := Ex.new ntp
      have eall := (e2.trans e3).trans (e4.trans e5)
      have tpat : SqT K (upd (upd H3 p4 (.lst ((key2 t).map V.int))) tp (.tup ((key2 t).map V.int))) tp ((key2 t).map V.int) := .inl (.inl upd_same)
      generalize upd (upd H3 p4 (.lst ((key2 t).map V.int))) tp (.tup ((key2 t).map V.int)) = H5 at e5 eall tpat
      have hp5 := eall _ _ hp
      have hL5 : ∀ x ∈ L, SqT K H5 x.1 (x.2.map V.int) := fun x hx => ex_t eall (hLt x hx)
      have fresh : key2 t ∉ L.map (·.2) := fun z => by
        obtain ⟨t', ht', e⟩ := List.mem_map.mp (hLk _ z)
        have e := key2_inj e
        have h1 : (ts.map nrm)[i]? = some (nrm t) := by rw [List.getElem?_map, ht]; rfl
        refine nodup_at N.nd h1 ?_
        rw [← List.map_take]
        exact List.mem_map.mpr ⟨t', ht', e⟩
      -- if pair in tied
      refine ⟨_, rfl, _, rfl, p, tp, key2 t, L, rfl, rfl, hp5, tpat, hL5, ?_⟩
      rw [decide_eq_false fresh]
      refine ⟨false, rfl, iteF ?_⟩
      -- tied.add(pair)
      have few := N.few
      refine ⟨_, rfl, ⟨p, L, rfl, hp5⟩, _, rfl, p, tp, key2 t, L, rfl, rfl, hp5, tpat, hL5, by omega, fun L' _ hL' => ?_⟩
      have pm := hL' fresh
      refine ⟨⟨_, _, _, rfl⟩, Ex.mut (e1.trans eall) np, L', upd_same, by rw [pm.length_eq]; simp; omega, fun x hx => ?_, fun k hk => ?_⟩
      · have e6 : SqT K H5 x.1 (x.2.map V.int) := by
          rcases List.mem_cons.mp (pm.mem_iff.mp hx) with rfl | hx
          · exact tpat
          · exact hL5 x hx
        exact sqT_upd e6 hp5 (fun ys z => by cases z) (fun ob u z => by cases z)
      · rw [take_snoc ht, List.map_append, List.mem_append]
        rcases List.mem_cons.mp ((pm.map (·.2)).mem_iff.mp hk) with rfl | hk
        · exact .inr (by simp)
        · exact .inl (hLk k hk)
    · rintro σ' H' ⟨_, e1, _⟩
      exact q H' e1
def sp_check_net (K : PySem.W.Frag) : Sp := fun vs H Q _ => ∃ (a : Addr) (ts : List (Int × Int)) (n : Int), vs = [.int n, .ref a] ∧ TiesAt K H a ts ∧ NetOk n ts ∧ RetV .non H Q
theorem ok_check_net (T : Txt K mg A) : FnOk P w K mg base CX0 5 A.f_check_net A.d_check_net ["seats", "ties"] (sp_check_net K) := by
  have G_check_count : FnOk P w K mg base CX0 2 A.f_check_count A.d_check_count ["number"] sp_check_count := ok_check_count T
  have G_check_ties : FnOk P w K mg base CX0 4 A.f_check_ties A.d_check_ties ["ties", "seats"] (sp_check_ties K) := ok_check_ties T
  refine T.F_check_net.ok sc_check_net (fun vs H Q E h => ?_) (fun cdv A' outer s H vs Q E hr h => ?_)
  · obtain ⟨a, ts, n, rfl, _⟩ := h
    rfl
  · obtain ⟨a, ts, n, rfl, hT, N, q⟩ := h
    refine ⟨_, (pss_cons (ps_expr (pe_call G_check_count (hr.mono (by decide)) (by rfl) T.g_check_count T.F_check_count.kp T.b_check_count .nil pass0 (pa_cons (pv 0) pa_nil)))
      (pss_one (ps_expr (pe_call G_check_ties (hr.mono (by decide)) (by rfl) T.g_check_ties T.F_check_ties.kp T.b_check_ties .nil pass0 (pa_cons (pv 1) (pa_cons (pv 0) pa_nil)))))), ?_⟩
    refine ⟨_, rfl, n, rfl, N.lo, N.hi, fun H1 e1 => ?_⟩
    refine ⟨_, rfl, _, rfl, a, ts, n, rfl, hT.mono e1, N, fun H2 e2 => ?_⟩
    exact q H2 (e1.trans e2)
end
end K01

namespace K01
open PySem PySem.Spec PyProof.Rows L2 Vf Evl
/-! ### the least seats -/
def startM (n : Nat) : List Int := (List.range (n + 1)).map fun i : Nat => (i : Int)
def merge (k : Int × Int) (l : List Int) : List Int := l.map fun s => if s = k.2 then k.1 else s
def stepM (l : List Int) (t : Int × Int) : List Int := merge (nrm (l.getD t.1.toNat 0, l.getD t.2.toNat 0)) l
def markF (n : Nat) (ts : List (Int × Int)) : List Int := ts.foldl stepM (startM n)
theorem stepM_len (l : List Int) (t : Int × Int) : (stepM l t).length = l.length := by
  unfold stepM merge
  rw [List.length_map]
theorem foldM_len (ts : List (Int × Int)) : ∀ l, (ts.foldl stepM l).length = l.length := by
  induction ts with
  | nil => exact fun _ => rfl
  | cons t ts ih =>
    intro l
    rw [List.foldl_cons, ih, stepM_len]
theorem markF_len (n : Nat) (ts : List (Int × Int)) : (markF n ts).length = n + 1 := by
  unfold markF
  rw [foldM_len]
  simp [startM]
theorem markF_more {n : Nat} {ts : List (Int × Int)} {i : Nat} {t : Int × Int} (h : ts[i]? = some t) : markF n (ts.take (i + 1)) = stepM (markF n (ts.take i)) t := by
  unfold markF
  rw [take_snoc h, List.foldl_append]
  rfl
theorem rgV_start {n : Int} (h : 0 ≤ n) : rgV 0 (n + 1) = (startM n.toNat).map V.int := by
  unfold rgV startM
  rw [List.map_map, show (n + 1 - 0).toNat = n.toNat + 1 by omega]
  exact List.map_congr_left fun i _ => by
    show V.int (0 + (i : Int)) = V.int (i : Int)
    rw [Int.zero_add]
theorem given_map (l : List Int) (F : Int → Int) : given (l.map V.int).length (fun _ => true) (fun i => V.int (F (l.getD i 0))) = (l.map F).map V.int := by
  unfold given
  rw [List.length_map, List.filter_eq_self.mpr (fun _ _ => rfl)]
  refine List.ext_getElem? fun i => ?_
  simp only [List.getElem?_map, List.getElem?_range]
  by_cases h : i < l.length
  · simp [h, List.getD_eq_getElem?_getD]
  · simp [h]
section
variable {P : Program} {w : World} {K : PySem.W.Frag} {mg : Str → Option Value} {base : Heap} {A : Ad}
def sp_least_together (K : PySem.W.Frag) : Sp := fun vs H Q _ => ∃ (a : Addr) (ts : List (Int × Int)) (n : Int), vs = [.int n, .ref a] ∧ TiesAt K H a ts ∧ NetOk n ts ∧ RetL ((markF n.toNat ts).map V.int) H Q
theorem ok_least_together (T : Txt K mg A) : FnOk P w K mg base CX0 1 A.f_least_together A.d_least_together ["seats", "ties"] (sp_least_together K) := by
  refine T.F_least_together.ok sc_least_together (fun vs H Q E h => ?_) (fun cdv A' outer s H vs Q E hr h => ?_)
  · obtain ⟨a, ts, n, rfl, _⟩ := h
    rfl
  · obtain ⟨a, ts, n, rfl, hT, N, q⟩ := h
    obtain ⟨as, hS, hlen, hat⟩ := hT
    have n1 := N.lo
    have n2 := N.hi
    refine ⟨_, (pss_cons (ps_set (i := 2) sc_least_together.nd rfl (by first | exact .inl rfl | exact .inr rfl) (pe_listRg rfl (by rfl) T.z_list (prg_1 (by rfl) T.z_range (pe_op op_add (pv 0) pe_int))))
      (pss_cons (ps_for PassesOwn.never rfl (pi_listK (K := K) rfl (pv 1)) (pg_unlK (K := K) rfl rfl (pgs_cons (pg_name (i := 3) sc_least_together.nd rfl (by first | exact .inl rfl | exact .inr rfl)) (pgs_cons (pg_name (i := 4) sc_least_together.nd rfl (by first | exact .inl rfl | exact .inr rfl)) pgs_nil))) (pss_cons (ps_asg (pe_callB (cr_sortedK (K := K) rfl) (by rfl) T.z_sorted (by decide +kernel) (pa_cons (pe_lst (pa_cons (pe_ix (ix_listK (K := K) rfl) (pv 2) (pv 3) (fun _ _ => rfl)) (pa_cons (pe_ix (ix_listK (K := K) rfl) (pv 2) (pv 4) (fun _ _ => rfl)) pa_nil))) pa_nil)) (pg_unlK (K := K) rfl rfl (pgs_cons (pg_name (i := 5) sc_least_together.nd rfl (by first | exact .inl rfl | exact .inr rfl)) (pgs_cons (pg_name (i := 6) sc_least_together.nd rfl (by first | exact .inl rfl | exact .inr rfl)) pgs_nil))))
      (pss_one (ps_if (pt_cmpR op_ne (pv 5) (pv 6) (nomark _)) (pss_one (ps_setLc (i := 2) (own := [("seat", 7)]) rfl sc_least_together.nd rfl rfl (sw_true rfl rfl rfl (by decide +kernel)) (pi_listK (K := K) rfl (pv 2)) (blkOk_by (by kernel_rfl)) (fun _ _ _ _ _ => (pg_name (i := 7) sc_least_together.nd rfl (by first | exact .inl rfl | exact .inr rfl))) (fun _ _ _ _ _ => pts_nil) (fun _ _ _ _ _ => (pe_ifExp (pt_cmpR op_eq (pv 7) (pv 6) (nomark _)) (pv 5) (pv 7))))) pss_nil))))
      (pss_one (ps_ret (pv 2))))), ?_⟩
    -- least = list(range(seats + 1))
    refine ⟨_, rfl, n, 1, rfl, rfl, _, rfl, ⟨by decide, by decide, by omega, by omega, by omega⟩, fun p np => ?_⟩
    rw [rgV_start (by omega)]
    have e0 : Ex H (upd H p (.lst ((startM n.toNat).map V.int))) := Ex.new np
    refine ⟨.ref a, rfl, a, rfl, ⟨_, ex_l e0 hS⟩, ?_⟩
    refine for_list (xs := as.map V.ref) (fun i σ' H' => Ex H H' ∧ ∃ p, H p = none ∧ ∃ y3 y4 y5 y6, σ' = [some (.int n), some (.ref a), some (.ref p), y3, y4, y5, y6, none] ∧
        H' p = some (.lst ((markF n.toNat (ts.take i)).map V.int)))
      ⟨e0, p, np, none, none, none, none, rfl, upd_same⟩ (fun i σ' H' _ z => ex_l z.1 hS) ?_ ?_
    · rintro i x σ' H' hx ⟨e1, p, fp, y3, y4, y5, y6, rfl, hp⟩
      obtain ⟨b, hb, rfl⟩ := map_at hx
      have hi : i < ts.length := by rw [← hlen]; exact (List.getElem?_eq_some_iff.mp hb).1
      obtain ⟨t, ht⟩ : ∃ t, ts[i]? = some t := ⟨_, List.getElem?_eq_getElem hi⟩
      have tok := N.ok t (List.mem_of_getElem? ht)
      have hl := markF_len n.toNat (ts.take i)
      generalize hm : markF n.toNat (ts.take i) = l at hp hl
      -- one, two = tie
      refine ⟨b, _, rfl, ex_l e1 (hat i b t hb ht), rfl, _, _, rfl, _, _, rfl, rfl, ?_⟩
      -- low, high = sorted([least[one], least[two]])
      refine ⟨_, rfl, _, rfl, p, _, t.1, _, rfl, rfl, .inl (.inl hp), atI_int (by omega) (by omega), _, rfl, _, rfl, p, _, t.2, _, rfl, rfl, .inl (.inl hp), atI_int (by omega) (by omega), (by show 2 ≤ sizeLine; decide), fun p2 np2 => ?_⟩
      have e2 : Ex H' (upd H' p2 (.lst [.int (l.getD t.1.toNat 0), .int (l.getD t.2.toNat 0)])) := Ex.new np2
      refine ⟨p2, [l.getD t.1.toNat 0, l.getD t.2.toNat 0], rfl, .inl (.inl upd_same), (by show 2 < 64; decide), fun ns' p3 pm sr np3 => ?_⟩
      obtain rfl := sorted_two pm sr
      have e3 := e2.trans (Ex.new (o := .lst ((key2 (l.getD t.1.toNat 0, l.getD t.2.toNat 0)).map V.int)) np3)
      refine ⟨p3, _, rfl, .inl (.inl upd_same), rfl, _, _, rfl, _, _, rfl, rfl, ?_⟩
      generalize hH3 : upd (upd H' p2 (.lst [.int (l.getD t.1.toNat 0), .int (l.getD t.2.toNat 0)])) p3 (.lst ((key2 (l.getD t.1.toNat 0, l.getD t.2.toNat 0)).map V.int)) = H3 at e3
      generalize hk : nrm (l.getD t.1.toNat 0, l.getD t.2.toNat 0) = k
      have hp3 : SqL K H3 p (l.map V.int) := .inl (.inl (e3 _ _ hp))
      -- if low != high
      refine ⟨_, rfl, _, rfl, rfl, _, rfl, ?_⟩
      by_cases ck : k.1 = k.2
      · rw [decide_eq_true (show V.int k.1 = V.int k.2 from congrArg V.int ck)]
        refine iteF ?_
        refine ⟨e1.trans e3, p, fp, _, _, _, _, rfl, ?_⟩
        rw [markF_more ht, hm]
        unfold stepM merge
        rw [hk]
        have el : (l.map fun s => if s = k.2 then k.1 else s) = l := by
          conv => rhs; rw [← List.map_id l]
          refine List.map_congr_left fun s _ => ?_
          by_cases c : s = k.2
          · rw [if_pos c, c, ck]; rfl
          · rw [if_neg c]; rfl
        rw [el]
        exact e3 _ _ hp
      rw [decide_eq_false (show ¬ V.int k.1 = V.int k.2 from fun z => ck (V.int.inj z))]
      refine iteT ?_
      -- least = [..]
      refine s_asgL (el_lcL (K := K) (f := fun _ => true) (v := fun i => V.int ((fun s => if s = k.2 then k.1 else s) (l.getD i 0))) (ev_var rfl) hp3 (by rw [List.length_map]; omega) (fun x => rfl) (fun i x H4 e4 hx => et_yes) (fun i x H4 e4 hx _ => ?_)) fun q4 H4 nq4 e4 hq4 => ?_
      · obtain ⟨v, hv, rfl⟩ := map_at hx
        have ev : l.getD i 0 = v := by rw [List.getD_eq_getElem?_getD, hv]; rfl
        rw [ev]
        refine ev_if (et_test (ev_op (ev_var rfl) (ev_var rfl) (rv_eq rfl))) (fun c => ?_) (fun c => ?_)
        · have c := V.int.inj (of_decide_eq_true c)
          show Ev _ _ _ (V.int (if v = k.2 then k.1 else v))
          rw [if_pos c]
          exact ev_var rfl
        · have c : ¬ v = k.2 := fun z => of_decide_eq_false c (congrArg V.int z)
          show Ev _ _ _ (V.int (if v = k.2 then k.1 else v))
          rw [if_neg c]
          exact ev_var rfl
      · have hq5 : H4 q4 = some (.lst ((l.map fun s => if s = k.2 then k.1 else s).map V.int)) := hq4.trans (congrArg (fun z => some (HO.lst z)) (given_map l fun s => if s = k.2 then k.1 else s))
        refine ⟨(e1.trans e3).trans e4, q4, fresh_back (e1.trans e3) nq4, _, _, _, _, rfl, ?_⟩
        rw [markF_more ht, hm]
        unfold stepM merge
        rw [hk]
        exact hq5
    · rintro σ' H' ⟨e1, p, fp, y3, y4, y5, y6, rfl, hp⟩
      rw [List.length_map, hlen, List.take_length] at hp
      exact ⟨_, rfl, q p H' fp e1 hp⟩
end
end K01

namespace K01
open PySem PySem.Spec PyProof.Rows L2 Vf Evl
/-! ### the parts -/
/-- the seats of the part told by c -/
def rowF (n : Nat) (l : List Int) (c : Int) : List Int := ((List.range n).filter fun (j : Nat) => decide (l.getD (1 + (j : Int)).toNat 0 = c)).map fun (j : Nat) => 1 + (j : Int)
def firstsF (n : Nat) (l : List Int) : List Int := ((List.range n).filter fun (i : Nat) => decide (l.getD (1 + (i : Int)).toNat 0 = 1 + (i : Int))).map fun (i : Nat) => 1 + (i : Int)
def partsF (n : Nat) (ts : List (Int × Int)) : List (List Int) := (firstsF n (markF n ts)).map (rowF n (markF n ts))
abbrev LLI (ls : List (List Int)) : List (List V) := ls.map fun l => l.map V.int
/-- how many of the ties a seat has -/
def tiesOf (ts : List (Int × Int)) (c : Int) : Nat := (ts.flatMap fun t => [t.1, t.2]).count c
def isRowF (n : Nat) (ts : List (Int × Int)) : Bool := decide ((partsF n ts).length = 1) && decide (ts.length + 1 = n) && (List.range n).all fun (i : Nat) => decide (tiesOf ts (1 + (i : Int)) ≤ 2)
section
variable {P : Program} {w : World} {K : PySem.W.Frag} {mg : Str → Option Value} {base : Heap} {A : Ad}
def sp_parts_of (K : PySem.W.Frag) : Sp := fun vs H Q _ => ∃ (a : Addr) (ts : List (Int × Int)) (n : Int), vs = [.int n, .ref a] ∧ TiesAt K H a ts ∧ NetOk n ts ∧ RetLL (LLI (partsF n.toNat ts)) H Q
theorem ok_parts_of (T : Txt K mg A) : FnOk P w K mg base CX0 2 A.f_parts_of A.d_parts_of ["seats", "ties"] (sp_parts_of K) := by
  have G_least_together : FnOk P w K mg base CX0 1 A.f_least_together A.d_least_together ["seats", "ties"] (sp_least_together K) := ok_least_together T
  refine T.F_parts_of.ok sc_parts_of (fun vs H Q E h => ?_) (fun cdv A' outer s H vs Q E hr h => ?_)
  · obtain ⟨a, ts, n, rfl, _⟩ := h
    rfl
  · obtain ⟨a, ts, n, rfl, hT, N, q⟩ := h
    have n1 := N.lo
    have n2 := N.hi
    refine ⟨_, (pss_cons (ps_set (i := 2) sc_parts_of.nd rfl (by first | exact .inl rfl | exact .inr rfl) (pe_call G_least_together (hr.mono (by decide)) (by rfl) T.g_least_together T.F_least_together.kp T.b_least_together .nil pass0 (pa_cons (pv 0) (pa_cons (pv 1) pa_nil))))
      (pss_one (ps_ret (pe_lc (own := [("first", 3)]) rfl sc_parts_of.nd (pi_range2 (by rfl) T.z_range (pa_cons pe_int (pa_cons (pe_op op_add (pv 0) pe_int) pa_nil))) (blkOk_by (by kernel_rfl)) (fun _ _ _ _ _ => (pg_name (i := 3) sc_parts_of.nd rfl (by first | exact .inl rfl | exact .inr rfl))) (fun _ _ _ _ _ => (pts_one (pt_cmpR op_eq (pe_ix (ix_listK (K := K) rfl) (pv 2) (pv 3) (fun _ _ => rfl)) (pv 3) (nomark _)))) (fun _ _ _ _ _ => (pe_lc (own := [("seat", 4)]) rfl sc_parts_of.nd (pi_range2 (by rfl) T.z_range (pa_cons pe_int (pa_cons (pe_op op_add (pv 0) pe_int) pa_nil))) (blkOk_by (by kernel_rfl)) (fun _ _ _ _ _ => (pg_name (i := 4) sc_parts_of.nd rfl (by first | exact .inl rfl | exact .inr rfl))) (fun _ _ _ _ _ => (pts_one (pt_cmpR op_eq (pe_ix (ix_listK (K := K) rfl) (pv 2) (pv 4) (fun _ _ => rfl)) (pv 3) (nomark _)))) (fun _ _ _ _ _ => (pv 4)))))))), ?_⟩
    refine ⟨_, rfl, _, rfl, a, ts, n, rfl, hT, N, fun p H3 np3 e3 hp3 => ?_⟩
    have hl := markF_len n.toNat ts
    generalize hm : markF n.toNat ts = l at hp3 hl
    have at_ : ∀ H', Ex H3 H' → ∀ i : Int, 0 ≤ i → i ≤ n → RV (rIxL K) (.ref p) (.int i) H' (.int (l.getD i.toNat 0)) := fun H' e' i h0 h1 =>
      rv_ixL (.inl (.inl (e' _ _ hp3))) (atI_int h0 (by omega))
    have go : EvLL (tLc (iRng2 (tCons (tC (.int 1)) (tCons (tOp (rI0 fun i j => .int (i + j)) (tVar 0) (tC (.int 1))) tNil))) (gName 3)
        (tTest (tOp rEq (tOp (rIxL K) (tVar 2) (tVar 3)) (tVar 3)))
        (tLc (iRng2 (tCons (tC (.int 1)) (tCons (tOp (rI0 fun i j => .int (i + j)) (tVar 0) (tC (.int 1))) tNil))) (gName 4) (tTest (tOp rEq (tOp (rIxL K) (tVar 2) (tVar 4)) (tVar 3))) (tVar 4) [4]) [3])
        [some (.int n), some (.ref a), some (.ref p), none, none] H3 (LLI (partsF n.toNat ts)) := by
      have go := ell_lcR2 (H := H3) (σ := [some (.int n), some (.ref a), some (.ref p), none, none]) (j := 3) (vs := [3]) (lo := 1) (n := n + 1)
        (ta := tCons (tC (.int 1)) (tCons (tOp (rI0 fun i j => .int (i + j)) (tVar 0) (tC (.int 1))) tNil)) (t := tTest (tOp rEq (tOp (rIxL K) (tVar 2) (tVar 3)) (tVar 3)))
        (te := tLc (iRng2 (tCons (tC (.int 1)) (tCons (tOp (rI0 fun i j => .int (i + j)) (tVar 0) (tC (.int 1))) tNil))) (gName 4) (tTest (tOp rEq (tOp (rIxL K) (tVar 2) (tVar 4)) (tVar 3))) (tVar 4) [4])
        (fun i => decide (l.getD (1 + (i : Int)).toNat 0 = 1 + (i : Int))) (fun i => (rowF n.toNat l (1 + (i : Int))).map V.int)
        (ea_cons ev_c (ea_cons (ev_op (ev_var rfl) ev_c rv_I0) ea_nil)) (by omega) (fun x => rfl) ?_ ?_
      · have e : (((List.range (n + 1 - 1).toNat).filter fun (i : Nat) => decide (l.getD (1 + (i : Int)).toNat 0 = 1 + (i : Int))).map fun (i : Nat) => (rowF n.toNat l (1 + (i : Int))).map V.int) = LLI (partsF n.toNat ts) := by
          unfold partsF firstsF
          rw [hm, show (n + 1 - 1).toNat = n.toNat by omega]
          simp only [LLI, List.map_map]
          rfl
        rw [e] at go
        exact go
      · intro i H4 e4 hi
        rw [← dec_vi]
        exact et_test (ev_op (ev_op (ev_var rfl) (ev_var rfl) (at_ _ e4 _ (by omega) (by omega))) (ev_var rfl) (rv_eq rfl))
      · intro i H4 e4 hi _
        have go := el_lcR2 (H := H4) (σ := (wipe [some (.int n), some (.ref a), some (.ref p), none, none] [3]).set 3 (some (.int (1 + (i : Int))))) (j := 4) (vs := [4]) (lo := 1) (n := n + 1)
          (ta := tCons (tC (.int 1)) (tCons (tOp (rI0 fun i j => .int (i + j)) (tVar 0) (tC (.int 1))) tNil)) (t := tTest (tOp rEq (tOp (rIxL K) (tVar 2) (tVar 4)) (tVar 3))) (te := tVar 4)
          (fun j => decide (l.getD (1 + (j : Int)).toNat 0 = 1 + (i : Int))) (fun j => V.int (1 + (j : Int)))
          (ea_cons ev_c (ea_cons (ev_op (ev_var rfl) ev_c rv_I0) ea_nil)) (by omega) (fun x => rfl) ?_ ?_
        · rw [given_ints, show (n + 1 - 1).toNat = n.toNat by omega] at go
          exact go
        · intro j H5 e5 hj
          rw [← dec_vi]
          exact et_test (ev_op (ev_op (ev_var rfl) (ev_var rfl) (at_ _ (e4.trans e5) _ (by omega) (by omega))) (ev_var rfl) (rv_eq rfl))
        · exact fun j H5 e5 hj _ => ev_var rfl
    exact go H3 (Ex.refl H3) _ fun D H4 nD e4 h4 => q.go e3 nD e4 h4
def sp_parts (K : PySem.W.Frag) : Sp := sp_parts_of K
theorem ok_parts (T : Txt K mg A) : FnOk P w K mg base CX0 6 A.f_parts A.d_parts ["seats", "ties"] (sp_parts K) := by
  have G_check_net : FnOk P w K mg base CX0 5 A.f_check_net A.d_check_net ["seats", "ties"] (sp_check_net K) := ok_check_net T
  have G_parts_of : FnOk P w K mg base CX0 2 A.f_parts_of A.d_parts_of ["seats", "ties"] (sp_parts_of K) := ok_parts_of T
  refine T.F_parts.ok sc_parts (fun vs H Q E h => ?_) (fun cdv A' outer s H vs Q E hr h => ?_)
  · obtain ⟨a, ts, n, rfl, _⟩ := h
    rfl
  · obtain ⟨a, ts, n, rfl, hT, N, q⟩ := h
    refine ⟨_, (pss_cons (ps_expr (pe_call G_check_net (hr.mono (by decide)) (by rfl) T.g_check_net T.F_check_net.kp T.b_check_net .nil pass0 (pa_cons (pv 0) (pa_cons (pv 1) pa_nil))))
      (pss_one (ps_ret (pe_call G_parts_of (hr.mono (by decide)) (by rfl) T.g_parts_of T.F_parts_of.kp T.b_parts_of .nil pass0 (pa_cons (pv 0) (pa_cons (pv 1) pa_nil)))))), ?_⟩
    refine ⟨_, rfl, _, rfl, a, ts, n, rfl, hT, N, fun H1 e1 => ?_⟩
    refine ⟨_, rfl, _, rfl, a, ts, n, rfl, hT.mono e1, N, fun D H4 nD e4 h4 => ?_⟩
    exact q.go e1 nD e4 h4
end
end K01

namespace K01
open PySem PySem.Spec PyProof.Rows L2 Vf Evl
theorem rne_int {a b : Int} : (!decide (V.int a = V.int b)) = !decide (a = b) := by rw [dec_vi]
section
variable {P : Program} {w : World} {K : PySem.W.Frag} {mg : Str → Option Value} {base : Heap} {A : Ad}
def isWoodF (n : Nat) (ts : List (Int × Int)) : Bool := decide ((partsF n ts).length + ts.length = n)
def sp_is_wood_of (K : PySem.W.Frag) : Sp := fun vs H Q _ => ∃ (a : Addr) (ts : List (Int × Int)) (n : Int), vs = [.int n, .ref a] ∧ TiesAt K H a ts ∧ NetOk n ts ∧ RetV (.bl (isWoodF n.toNat ts)) H Q
theorem ok_is_wood_of (T : Txt K mg A) : FnOk P w K mg base CX0 3 A.f_is_wood_of A.d_is_wood_of ["seats", "ties"] (sp_is_wood_of K) := by
  have G_parts_of : FnOk P w K mg base CX0 2 A.f_parts_of A.d_parts_of ["seats", "ties"] (sp_parts_of K) := ok_parts_of T
  refine T.F_is_wood_of.ok sc_is_wood_of (fun vs H Q E h => ?_) (fun cdv A' outer s H vs Q E hr h => ?_)
  · obtain ⟨a, ts, n, rfl, _⟩ := h
    rfl
  · obtain ⟨a, ts, n, rfl, hT, N, q⟩ := h
    have n1 := N.lo
    refine ⟨_, (pss_one (ps_ret (pe_cmpR op_eq (pe_callB (call_lenK (K := K) rfl) (by rfl) T.z_len PySem.boot_len (pa_cons (pe_call G_parts_of (hr.mono (by decide)) (by rfl) T.g_parts_of T.F_parts_of.kp T.b_parts_of .nil pass0 (pa_cons (pv 0) (pa_cons (pv 1) pa_nil))) pa_nil)) (pe_op op_sub (pv 0) (pe_callB (call_lenK (K := K) rfl) (by rfl) T.z_len PySem.boot_len (pa_cons (pv 1) pa_nil))) (nomark _)))), ?_⟩
    refine ⟨_, rfl, _, rfl, a, ts, n, rfl, hT, N, fun D H1 nD e1 hD => ?_⟩
    obtain ⟨ps, hps, hlen, _⟩ := hD
    obtain ⟨as, hS, hl, _⟩ := hT.mono e1
    refine ⟨D, _, rfl, .inl (.inl (.inl hps)), _, rfl, _, rfl, a, _, rfl, .inl hS, _, _, rfl, rfl, rfl, ?_⟩
    have e : decide (V.int ((ps.map V.ref).length : Int) = V.int (n - ((as.map V.ref).length : Int))) = isWoodF n.toNat ts := by
      rw [dec_vi, List.length_map, List.length_map, hlen, hl, List.length_map]
      unfold isWoodF
      by_cases c : (partsF n.toNat ts).length + ts.length = n.toNat
      · rw [decide_eq_true c, decide_eq_true (by omega)]
      · rw [decide_eq_false c, decide_eq_false (by omega)]
    rw [e]
    exact q H1 e1
def sp_is_wood (K : PySem.W.Frag) : Sp := sp_is_wood_of K
theorem ok_is_wood (T : Txt K mg A) : FnOk P w K mg base CX0 6 A.f_is_wood A.d_is_wood ["seats", "ties"] (sp_is_wood K) := by
  have G_check_net : FnOk P w K mg base CX0 5 A.f_check_net A.d_check_net ["seats", "ties"] (sp_check_net K) := ok_check_net T
  have G_is_wood_of : FnOk P w K mg base CX0 3 A.f_is_wood_of A.d_is_wood_of ["seats", "ties"] (sp_is_wood_of K) := ok_is_wood_of T
  refine T.F_is_wood.ok sc_is_wood (fun vs H Q E h => ?_) (fun cdv A' outer s H vs Q E hr h => ?_)
  · obtain ⟨a, ts, n, rfl, _⟩ := h
    rfl
  · obtain ⟨a, ts, n, rfl, hT, N, q⟩ := h
    refine ⟨_, (pss_cons (ps_expr (pe_call G_check_net (hr.mono (by decide)) (by rfl) T.g_check_net T.F_check_net.kp T.b_check_net .nil pass0 (pa_cons (pv 0) (pa_cons (pv 1) pa_nil))))
      (pss_one (ps_ret (pe_call G_is_wood_of (hr.mono (by decide)) (by rfl) T.g_is_wood_of T.F_is_wood_of.kp T.b_is_wood_of .nil pass0 (pa_cons (pv 0) (pa_cons (pv 1) pa_nil)))))), ?_⟩
    refine ⟨_, rfl, _, rfl, a, ts, n, rfl, hT, N, fun H1 e1 => ?_⟩
    exact ⟨_, rfl, _, rfl, a, ts, n, rfl, hT.mono e1, N, fun H2 e2 => q H2 (e1.trans e2)⟩
def sp_is_row_of (K : PySem.W.Frag) : Sp := fun vs H Q _ => ∃ (a : Addr) (ts : List (Int × Int)) (n : Int), vs = [.int n, .ref a] ∧ TiesAt K H a ts ∧ NetOk n ts ∧ RetV (.bl (isRowF n.toNat ts)) H Q
theorem flat_ties (ts : List (Int × Int)) : (ts.map fun t => [V.int t.1, V.int t.2]).flatten = (ts.flatMap fun t => [t.1, t.2]).map V.int := by
  induction ts with
  | nil => rfl
  | cons t ts ih =>
    simp only [List.map_cons, List.flatten_cons, List.flatMap_cons, List.map_append, ih]
    rfl
theorem flat_len (ts : List (Int × Int)) : (ts.flatMap fun t => [t.1, t.2]).length = 2 * ts.length := by
  induction ts with
  | nil => rfl
  | cons t ts ih =>
    simp only [List.flatMap_cons, List.length_append, List.length_cons, List.length_nil, ih]
    omega
theorem ok_is_row_of (T : Txt K mg A) : FnOk P w K mg base CX0 4 A.f_is_row_of A.d_is_row_of ["seats", "ties"] (sp_is_row_of K) := by
  have G_is_wood_of : FnOk P w K mg base CX0 3 A.f_is_wood_of A.d_is_wood_of ["seats", "ties"] (sp_is_wood_of K) := ok_is_wood_of T
  refine T.F_is_row_of.ok sc_is_row_of (fun vs H Q E h => ?_) (fun cdv A' outer s H vs Q E hr h => ?_)
  · obtain ⟨a, ts, n, rfl, _⟩ := h
    rfl
  · obtain ⟨a, ts, n, rfl, hT, N, q⟩ := h
    have n1 := N.lo
    have n2 := N.hi
    have few := N.few
    refine ⟨_, (pss_cons (ps_if (PW.pt (pw_or (pt_cmpR op_ne (pe_callB (call_lenK (K := K) rfl) (by rfl) T.z_len PySem.boot_len (pa_cons (pv 1) pa_nil)) (pe_op op_sub (pv 0) pe_int) (nomark _)) (pw_or1 (pt_not (pt_val (pe_call G_is_wood_of (hr.mono (by decide)) (by rfl) T.g_is_wood_of T.F_is_wood_of.kp T.b_is_wood_of .nil pass0 (pa_cons (pv 0) (pa_cons (pv 1) pa_nil)))))))) (pss_one (ps_ret pe_bl)) pss_nil)
      (pss_cons (ps_set (i := 2) sc_is_row_of.nd rfl (by first | exact .inl rfl | exact .inr rfl) (pe_lc2 (own := [("tie", 3), ("seat", 4)]) (vs1 := [4]) rfl sc_is_row_of.nd (pi_listK (K := K) rfl (pv 1)) (blkOk_by (by kernel_rfl)) (by decide) (fun _ _ _ _ _ => (pg_name (i := 3) sc_is_row_of.nd rfl (by first | exact .inl rfl | exact .inr rfl))) (fun _ _ _ _ _ => pts_nil) (fun _ _ _ _ _ => (pi_listK (K := K) rfl (pv 3))) (fun _ _ _ _ _ => (pg_name (i := 4) sc_is_row_of.nd rfl (by first | exact .inl rfl | exact .inr rfl))) (fun _ _ _ _ _ => pts_nil) (fun _ _ _ _ _ => (pv 4))))
      (pss_one (ps_ret (pe_callB (cr_allK (K := K) rfl rfl) (by rfl) T.z_all (by decide +kernel) (pa_cons (pe_lc (own := [("seat", 4)]) rfl sc_is_row_of.nd (pi_range2 (by rfl) T.z_range (pa_cons pe_int (pa_cons (pe_op op_add (pv 0) pe_int) pa_nil))) (blkOk_by (by kernel_rfl)) (fun _ _ _ _ _ => (pg_name (i := 4) sc_is_row_of.nd rfl (by first | exact .inl rfl | exact .inr rfl))) (fun _ _ _ _ _ => pts_nil) (fun _ _ _ _ _ => (pe_cmpR op_le (pe_bmK (K := K) rfl PySem.F.plainAttrs_list PySem.F.slot_list_count PySem.F.type_list_count (mt_countK (K := K) rfl) (pv 2) (pa_cons (pv 4) pa_nil)) pe_int (nomark _)))) pa_nil)))))), ?_⟩
    obtain ⟨as, hS, hl, hat⟩ := hT
    refine ⟨_, rfl, a, _, rfl, .inl hS, _, rfl, _, _, rfl, rfl, rfl, _, rfl, ?_⟩
    rw [rne_int, List.length_map, hl]
    unfold isRowF at q
    by_cases d : ts.length + 1 = n.toNat
    · rw [decide_eq_true d, Bool.and_true] at q
      rw [decide_eq_true (show (ts.length : Int) = n - 1 by omega)]
      refine iteF ⟨_, rfl, _, rfl, a, ts, n, rfl, ⟨as, hS, hl, hat⟩, N, fun H1 e1 => ?_⟩
      have ew : isWoodF n.toNat ts = decide ((partsF n.toNat ts).length = 1) := by
        unfold isWoodF
        by_cases c : (partsF n.toNat ts).length = 1
        · rw [decide_eq_true c, decide_eq_true (by omega)]
        · rw [decide_eq_false c, decide_eq_false (by omega)]
      rw [ew]
      by_cases c : (partsF n.toNat ts).length = 1
      · rw [decide_eq_true c] at q ⊢
        refine ⟨true, rfl, iteF ?_⟩
        have hS := ex_l e1 hS
        have hat : ∀ (i : Nat) (b : Addr) (t : Int × Int), as[i]? = some b → ts[i]? = some t → SqL K H1 b [.int t.1, .int t.2] := fun i b t x y => ex_l e1 (hat i b t x y)
        -- ends = [..]
        refine s_asgL (el_flat (K := K) (as := as) (rows := ts.map fun t => [V.int t.1, V.int t.2]) (ev_var rfl) hS (by rw [List.length_map]; exact hl) (fun i b r x y => ?_) (by rw [flat_ties, List.length_map, flat_len]; omega) (fun x => rfl) (fun x y => rfl) (fun x => rfl) (fun x y => rfl)) fun p H2 np e2 hp => ?_
        · rw [List.getElem?_map, Option.map_eq_some_iff] at y
          obtain ⟨t, ht, rfl⟩ := y
          exact hat i b t x ht
        · rw [flat_ties] at hp
          -- all([..])
          have go := el_lcR2 (H := H2) (σ := [some (.int n), some (.ref a), some (.ref p), none, none]) (j := 4) (vs := [4]) (lo := 1) (n := n + 1)
            (ta := tCons (tC (.int 1)) (tCons (tOp (rI0 fun i j => .int (i + j)) (tVar 0) (tC (.int 1))) tNil)) (t := tYes)
            (te := tOp (rI0 fun i j => V.bl (decide (i ≤ j))) (tBM K "list" (rCntI K) (tVar 2) (tCons (tVar 4) tNil)) (tC (.int 2)))
            (fun _ => true) (fun j => V.bl (decide (tiesOf ts (1 + (j : Int)) ≤ 2)))
            (ea_cons ev_c (ea_cons (ev_op (ev_var rfl) ev_c rv_I0) ea_nil)) (by omega) (fun x => rfl) (fun _ _ _ _ => et_yes) (fun i H3 e3 hi _ => ?_)
          · have ef : given (n + 1 - 1).toNat (fun _ => true) (fun (j : Nat) => V.bl (decide (tiesOf ts (1 + (j : Int)) ≤ 2))) = ((List.range n.toNat).map fun (j : Nat) => decide (tiesOf ts (1 + (j : Int)) ≤ 2)).map V.bl := by
              unfold given
              rw [List.filter_eq_self.mpr (fun _ _ => rfl), List.map_map, show (n + 1 - 1).toNat = n.toNat by omega]
              rfl
            rw [ef] at go
            refine s_ret (ev_cbL go fun p2 H3 e3 hp2 => fun H4 e4 Q4 q4 => ⟨p2, _, rfl, .inl (.inl (e4 _ _ hp2)), q4 H4 (Ex.refl H4)⟩) fun H3 e3 => ?_
            rw [List.all_map]
            exact q H3 ((e1.trans e2).trans e3)
          · intro H4 e4 Q4 q4
            refine ⟨_, rfl, .inl ⟨rfl, _, .inl (.inl (e4 _ _ (e3 _ _ hp)))⟩, _, rfl, p, _, 1 + (i : Int), rfl, rfl, .inl (.inl (e4 _ _ (e3 _ _ hp))), _, _, rfl, rfl, ?_⟩
            have ed : decide (((tiesOf ts (1 + (i : Int)) : Nat) : Int) ≤ 2) = decide (tiesOf ts (1 + (i : Int)) ≤ 2) := by
              by_cases c : tiesOf ts (1 + (i : Int)) ≤ 2
              · rw [decide_eq_true c, decide_eq_true (by omega)]
              · rw [decide_eq_false c, decide_eq_false (by omega)]
            show Q4 (V.bl (decide (((tiesOf ts (1 + (i : Int)) : Nat) : Int) ≤ 2))) H4
            rw [ed]
            exact q4 H4 (Ex.refl H4)
      · rw [decide_eq_false c] at q ⊢
        exact ⟨false, rfl, iteT (q H1 e1)⟩
    · rw [decide_eq_false d, Bool.and_false] at q
      rw [decide_eq_false (show ¬ (ts.length : Int) = n - 1 by omega)]
      exact iteT (iteT (q H (Ex.refl H)))
def sp_is_row (K : PySem.W.Frag) : Sp := sp_is_row_of K
theorem ok_is_row (T : Txt K mg A) : FnOk P w K mg base CX0 6 A.f_is_row A.d_is_row ["seats", "ties"] (sp_is_row K) := by
  have G_check_net : FnOk P w K mg base CX0 5 A.f_check_net A.d_check_net ["seats", "ties"] (sp_check_net K) := ok_check_net T
  have G_is_row_of : FnOk P w K mg base CX0 4 A.f_is_row_of A.d_is_row_of ["seats", "ties"] (sp_is_row_of K) := ok_is_row_of T
  refine T.F_is_row.ok sc_is_row (fun vs H Q E h => ?_) (fun cdv A' outer s H vs Q E hr h => ?_)
  · obtain ⟨a, ts, n, rfl, _⟩ := h
    rfl
  · obtain ⟨a, ts, n, rfl, hT, N, q⟩ := h
    refine ⟨_, (pss_cons (ps_expr (pe_call G_check_net (hr.mono (by decide)) (by rfl) T.g_check_net T.F_check_net.kp T.b_check_net .nil pass0 (pa_cons (pv 0) (pa_cons (pv 1) pa_nil))))
      (pss_one (ps_ret (pe_call G_is_row_of (hr.mono (by decide)) (by rfl) T.g_is_row_of T.F_is_row_of.kp T.b_is_row_of .nil pass0 (pa_cons (pv 0) (pa_cons (pv 1) pa_nil)))))), ?_⟩
    refine ⟨_, rfl, _, rfl, a, ts, n, rfl, hT, N, fun H1 e1 => ?_⟩
    exact ⟨_, rfl, _, rfl, a, ts, n, rfl, hT.mono e1, N, fun H2 e2 => q H2 (e1.trans e2)⟩
end
end K01

namespace K01
open PySem PySem.Spec PyProof.Rows L2 Vf Evl
/-! ### the law's draws -/
/-- all but the object at a is as it was -/
def ExA (a : Addr) (H H' : Hp) : Prop := ∀ b o, b ≠ a → H b = some o → H' b = some o
theorem ExA.trans {a : Addr} {H H1 H2 : Hp} (x : ExA a H H1) (y : ExA a H1 H2) : ExA a H H2 := fun b o ne h => y b o ne (x b o ne h)
theorem ExA.of {a : Addr} {H H' : Hp} (e : Ex H H') : ExA a H H' := fun b o _ h => e b o h
theorem ExA.upd (a : Addr) (H : Hp) (o : HO) : ExA a H (upd H a o) := fun b u ne h => by rw [upd_ne ne]; exact h
theorem ExA.list {K : PySem.W.Frag} {a b : Addr} {H H' : Hp} {xs : List V} (e : ExA a H H') (ne : b ≠ a) (h : SqL K H b xs) : SqL K H' b xs := by
  rcases h with (h | ⟨o, h⟩) | h
  · exact .inl (.inl (e _ _ ne h))
  · exact .inl (.inr ⟨o, e _ _ ne h⟩)
  · exact .inr h
/-- a list of draws at a, k of them made -/
def Dr (H : Hp) (a : Addr) (k : Int) : Prop := ∃ (x : Int) (b : Bool), H a = some (.lst [.int x, .int k, .bl b])
theorem Dr.on {H H' : Hp} {a : Addr} {k : Int} (e : Ex H H') (d : Dr H a k) : Dr H' a k := by
  obtain ⟨x, b, h⟩ := d
  exact ⟨x, b, e _ _ h⟩
theorem fmod_at {i j : Int} (h : 0 < j) : 0 ≤ i.fmod j ∧ i.fmod j < j := by
  rw [Int.fmod_eq_emod_of_nonneg i (by omega)]
  exact ⟨Int.emod_nonneg _ (by omega), Int.emod_lt_of_pos _ h⟩
theorem fdiv_at {i j : Int} (h : 0 ≤ i) (hj : 0 ≤ j) : 0 ≤ i.fdiv j := by
  rw [Int.fdiv_eq_ediv_of_nonneg i hj]
  exact Int.ediv_nonneg h hj
section
variable {P : Program} {w : World} {K : PySem.W.Frag} {mg : Str → Option Value} {base : Heap} {A : Ad}
def sp_l_draws : Sp := fun vs H Q _ => ∃ c : Int, vs = [.int c] ∧ ∀ (x : Int) (b : Bool) (p : Addr) (H2 : Hp), H p = none → Ex H H2 → H2 p = some (.lst [.int x, .int 0, .bl b]) → Q (.ref p) H2
theorem ok_l_draws (T : Txt K mg A) : FnOk P w K mg base CX0 1 A.f_l_draws A.d_l_draws ["_law_cell"] sp_l_draws := by
  refine T.F_l_draws.ok sc_l_draws (fun vs H Q E h => ?_) (fun cdv A' outer s H vs Q E hr h => ?_)
  · obtain ⟨c, rfl, _⟩ := h
    rfl
  · obtain ⟨c, rfl, q⟩ := h
    refine ⟨_, (pss_one (ps_ret (pe_lst (pa_cons (pe_op op_modN (pe_callTy call_int1 (by rfl) T.z_int (by decide +kernel) (pa_cons (pv 0) pa_nil)) (pe_op op_powW (pe_op op_powW (pe_op op_powW pe_int pe_int) pe_int) pe_int)) (pa_cons pe_int (pa_cons (pe_cmpR op_ge (pv 0) (pe_op op_powW pe_int pe_int) (nomark _)) pa_nil)))))), ?_⟩
    refine ⟨_, rfl, .inl ⟨c, rfl, ?_⟩⟩
    refine ⟨_, _, rfl, rfl, ⟨by decide, by decide +kernel⟩, _, _, rfl, rfl, ⟨by decide, by decide +kernel⟩, _, _, rfl, rfl, ⟨by decide, by decide +kernel⟩, ?_⟩
    refine ⟨_, _, rfl, rfl, (by show (_ : Int) ≠ 0; decide +kernel), ?_⟩
    refine ⟨_, rfl, _, _, rfl, rfl, ⟨by decide, by decide +kernel⟩, _, _, rfl, rfl, ?_⟩
    refine ⟨(by show 3 ≤ sizeLine; decide), fun p np => ?_⟩
    exact q _ _ p _ np (Ex.new np) upd_same
def sp_l_next : Sp := fun vs H Q _ => ∃ (a : Addr) (k : Int), vs = [.ref a] ∧ Dr H a k ∧ (0 ≤ k ∧ k < 2 ^ 40) ∧ ∀ (r : Int) (H2 : Hp), 0 ≤ r → ExA a H H2 → Dr H2 a (k + 1) → Q (.int r) H2
theorem ok_l_next (T : Txt K mg A) : FnOk P w K mg base CX0 1 A.f_l_next A.d_l_next ["_law_draws_here"] sp_l_next := by
  refine T.F_l_next.ok sc_l_next (fun vs H Q E h => ?_) (fun cdv A' outer s H vs Q E hr h => ?_)
  · obtain ⟨a, k, rfl, _⟩ := h
    rfl
  · obtain ⟨a, k, rfl, ⟨x, b, hd⟩, hk, q⟩ := h
    refine ⟨_, (pss_cons (ps_asg (pe_op op_add (pe_ix (ix_listK (K := K) rfl) (pv 0) pe_int (fun _ _ => rfl)) pe_int) (pg_sub (pv 0) pe_int set_list))
      (pss_cons (ps_set (i := 1) sc_l_next.nd rfl (by first | exact .inl rfl | exact .inr rfl) (pe_ix (ix_listK (K := K) rfl) (pv 0) pe_int (fun _ _ => rfl)))
      (pss_cons (ps_if (pt_val (pe_ix (ix_listK (K := K) rfl) (pv 0) pe_int (fun _ _ => rfl))) (pss_cons (ps_set (i := 2) sc_l_next.nd rfl (by first | exact .inl rfl | exact .inr rfl) (pe_op op_modN (pe_callTy call_int1 (by rfl) T.z_int (by decide +kernel) (pa_cons (pe_ix (ix_listK (K := K) rfl) (pv 0) pe_int (fun _ _ => rfl)) pa_nil)) (pe_op op_powW pe_int pe_int)))
      (pss_cons (ps_asg (pe_op op_fdivN (pe_ix (ix_listK (K := K) rfl) (pv 0) pe_int (fun _ _ => rfl)) (pe_op op_powW pe_int pe_int)) (pg_sub (pv 0) pe_int set_list))
      (pss_one (ps_ret (pv 2))))) pss_nil)
      (pss_cons (ps_set (i := 2) sc_l_next.nd rfl (by first | exact .inl rfl | exact .inr rfl) (pe_op op_modN (pe_callTy call_int1 (by rfl) T.z_int (by decide +kernel) (pa_cons (pe_op op_mul (pe_op op_add (pe_op op_add (pe_op op_modN (pe_callTy call_int1 (by rfl) T.z_int (by decide +kernel) (pa_cons (pe_ix (ix_listK (K := K) rfl) (pv 0) pe_int (fun _ _ => rfl)) pa_nil)) pe_int) (pe_op op_mul (pe_op op_mul (pv 1) (pv 1)) pe_int)) (pv 1)) pe_int) pa_nil)) pe_int))
      (pss_cons (ps_set (i := 2) sc_l_next.nd rfl (by first | exact .inl rfl | exact .inr rfl) (pe_op op_modN (pe_callTy call_int1 (by rfl) T.z_int (by decide +kernel) (pa_cons (pe_op op_mul (pv 2) (pv 2)) pa_nil)) pe_int))
      (pss_one (ps_ret (pe_op op_fdivN (pe_op op_modN (pe_callTy call_int1 (by rfl) T.z_int (by decide +kernel) (pa_cons (pe_op op_mul (pv 2) (pe_op op_add (pv 2) pe_int)) pa_nil)) pe_int) pe_int)))))))), ?_⟩
    -- d[1] = d[1] + 1
    refine ⟨_, rfl, a, _, _, _, rfl, rfl, .inl (.inl hd), atI_nat (j := 1) rfl, _, _, rfl, rfl, ?_⟩
    refine ⟨_, rfl, a, _, 1, 1, rfl, rfl, hd, rfl, ?_⟩
    have h1 : upd H a (.lst [.int x, .int (k + 1), .bl b]) a = some (.lst [.int x, .int (k + 1), .bl b]) := upd_same
    have e1 := ExA.upd a H (.lst [.int x, .int (k + 1), .bl b])
    show _
    generalize hH1 : upd H a (.lst [.int x, .int (k + 1), .bl b]) = H1 at h1 e1
    have hH1' : upd H a (.lst ([V.int x, .int k, .bl b].set 1 (.int (k + 1)))) = H1 := hH1
    rw [hH1']
    -- k = d[1]
    refine ⟨_, rfl, a, _, _, _, rfl, rfl, .inl (.inl h1), atI_nat (j := 1) rfl, ?_⟩
    -- if d[2]
    refine ⟨_, rfl, a, _, _, _, rfl, rfl, .inl (.inl h1), atI_nat (j := 2) rfl, b, rfl, ?_⟩
    cases b with
    | true =>
      refine iteT ?_
      refine ⟨_, rfl, a, _, _, _, rfl, rfl, .inl (.inl h1), atI_nat (j := 0) rfl, .inl ⟨x, rfl, _, _, rfl, rfl, ⟨by decide, by decide +kernel⟩, _, _, rfl, rfl, (by show (_ : Int) ≠ 0; decide +kernel), ?_⟩⟩
      refine ⟨_, rfl, a, _, _, _, rfl, rfl, .inl (.inl h1), atI_nat (j := 0) rfl, _, _, rfl, rfl, ⟨by decide, by decide +kernel⟩, _, _, rfl, rfl, ⟨by decide +kernel, by decide +kernel⟩, ?_⟩
      refine ⟨_, rfl, a, _, 0, 0, rfl, rfl, h1, rfl, ?_⟩
      refine ⟨_, rfl, q _ _ (fmod_at (by decide +kernel)).1 (e1.trans (ExA.upd a H1 _)) ⟨_, _, upd_same⟩⟩
    | false =>
      refine iteF ?_
      have ne1 : (1000003 : Int) ≠ 0 := by decide
      have ne2 : (2147483629 : Int) ≠ 0 := by decide
      have ne3 : (2147483587 : Int) ≠ 0 := by decide
      have ne4 : (2147483579 : Int) ≠ 0 := by decide
      -- number = int((int(d[0]) % 1000003 + k * k * 7919 + k) * 48271) % 2147483629
      refine ⟨_, rfl, a, _, _, _, rfl, rfl, .inl (.inl h1), atI_nat (j := 0) rfl, .inl ⟨x, rfl, _, _, rfl, rfl, ne1, ?_⟩⟩
      refine ⟨_, rfl, _, rfl, _, _, rfl, rfl, .inl ⟨by omega, by omega⟩, _, _, rfl, rfl, .inr ⟨by decide, by decide⟩, _, _, rfl, rfl, ?_⟩
      refine ⟨_, rfl, _, _, rfl, rfl, _, _, rfl, rfl, .inr ⟨by decide, by decide⟩, .inl ⟨_, rfl, _, _, rfl, rfl, ne2, ?_⟩⟩
      generalize (x.fmod 1000003 + (k + 1) * (k + 1) * 7919 + (k + 1)) * 48271 = y
      have y0 := fmod_at (i := y) (j := 2147483629) (by decide)
      -- number = int(number * number) % 2147483587
      refine ⟨_, rfl, _, rfl, _, _, rfl, rfl, .inl ⟨by omega, by omega⟩, .inl ⟨_, rfl, _, _, rfl, rfl, ne3, ?_⟩⟩
      have u0 := fmod_at (i := y.fmod 2147483629 * y.fmod 2147483629) (j := 2147483587) (by decide)
      -- return int(number * (number + 2)) % 2147483579 // 7
      refine ⟨_, rfl, _, rfl, _, _, rfl, rfl, _, _, rfl, rfl, .inl ⟨by omega, by omega⟩, .inl ⟨_, rfl, _, _, rfl, rfl, ne4, _, _, rfl, rfl, ⟨by decide, by decide⟩, ?_⟩⟩
      exact q _ H1 (fdiv_at (fmod_at (by decide)).1 (by decide)) e1 ⟨_, _, h1⟩
end
end K01

namespace K01
open PySem PySem.Spec PyProof.Rows L2 Vf Evl
theorem ExA.new {a p : Addr} {H H' : Hp} {o : HO} (e : ExA a H H') (h : H' p = none) : ExA a H (L2.upd H' p o) := fun b u ne hb => by
  have z := e b u ne hb
  rw [upd_ne (ne_of_none z h)]
  exact z
theorem ExA.mut {a p : Addr} {H H' : Hp} {o : HO} (e : ExA a H H') (h : H p = none) : ExA a H (L2.upd H' p o) := fun b u ne hb => by
  rw [upd_ne (ne_of_none hb h)]
  exact e b u ne hb
theorem seqIx {i : Int} {n : Nat} (h0 : 0 ≤ i) (h1 : i < n) : seqIndex? i n = some i.toNat := by
  unfold seqIndex?
  rw [if_neg (show ¬ i < 0 by omega)]
  simp [h0, h1]
section
variable {P : Program} {w : World} {K : PySem.W.Frag} {mg : Str → Option Value} {base : Heap} {A : Ad}
def sp_l_mixed (K : PySem.W.Frag) : Sp := fun vs H Q _ => ∃ (d a : Addr) (k : Int) (xs : List V), vs = [.ref d, .ref a] ∧ Dr H d k ∧ (0 ≤ k ∧ k + xs.length < 2 ^ 40) ∧ SqL K H a xs ∧ xs.length ≤ 1000 ∧
  (∀ H', ExA d H H' → ∀ x ∈ xs, Sh K H' x) ∧ ∀ (ys : List V) (p : Addr) (H2 : Hp), ys.Perm xs → H p = none → ExA d H H2 → Dr H2 d (k + xs.length) → H2 p = some (.lst ys) → Q (.ref p) H2
theorem ok_l_mixed (T : Txt K mg A) : FnOk P w K mg base CX0 2 A.f_l_mixed A.d_l_mixed ["_law_draws_here", "_law_some"] (sp_l_mixed K) := by
  have G_l_next : FnOk P w K mg base CX0 1 A.f_l_next A.d_l_next ["_law_draws_here"] sp_l_next := ok_l_next T
  refine T.F_l_mixed.ok sc_l_mixed (fun vs H Q E h => ?_) (fun cdv A' outer s H vs Q E hr h => ?_)
  · obtain ⟨d, a, k, xs, rfl, _⟩ := h
    rfl
  · obtain ⟨d, a, k, xs, rfl, hd, hk, hS, hl, hsh, q⟩ := h
    refine ⟨_, (pss_cons (ps_set (i := 2) sc_l_mixed.nd rfl (by first | exact .inl rfl | exact .inr rfl) (pe_callTy (call_listK (K := K) rfl) (by rfl) T.z_list (by decide +kernel) (pa_cons (pv 1) pa_nil)))
      (pss_cons (ps_set (i := 3) sc_l_mixed.nd rfl (by first | exact .inl rfl | exact .inr rfl) (pe_lst pa_nil))
      (pss_cons (ps_while PassesOwn.never (pt_cmpR (op_neD hr.units) (pv 2) (pe_lst pa_nil) (nomark _)) (pss_one (ps_expr (pe_bmK (K := K) rfl PySem.F.plainAttrs_list PySem.F.slot_list_append PySem.F.type_list_append mt_append (pv 3) (pa_cons (pe_bmK (K := K) rfl PySem.F.plainAttrs_list PySem.F.slot_list_pop PySem.F.type_list_pop mt_popAt (pv 2) (pa_cons (pe_op op_modN (pe_callTy call_int1 (by rfl) T.z_int (by decide +kernel) (pa_cons (pe_call G_l_next (hr.mono (by decide)) (by rfl) T.g_l_next T.F_l_next.kp T.b_l_next .nil pass0 (pa_cons (pv 0) pa_nil)) pa_nil)) (pe_callB (call_lenK (K := K) rfl) (by rfl) T.z_len PySem.boot_len (pa_cons (pv 2) pa_nil))) pa_nil)) pa_nil)))))
      (pss_one (ps_ret (pv 3)))))), ?_⟩
    have hdn : H d ≠ none := by
      obtain ⟨x, b, h⟩ := hd
      rw [h]
      exact fun z => nomatch z
    -- left = list(some); told = []
    refine ⟨_, rfl, a, xs, rfl, .inl hS, fun l nl => ?_⟩
    have e1 : Ex H (upd H l (.lst xs)) := Ex.new nl
    refine ⟨Nat.zero_le _, fun t nt => ?_⟩
    have e2 : Ex (upd H l (.lst xs)) (upd (upd H l (.lst xs)) t (.lst [])) := Ex.new nt
    have nlt : l ≠ t := ne_of_none upd_same nt
    have nt0 : H t = none := fresh_back e1 nt
    have ndl : d ≠ l := fun z => hdn (z ▸ nl)
    have ndt : d ≠ t := fun z => hdn (z ▸ nt0)
    refine ⟨fun m σ' H' => σ' = [some (.ref d), some (.ref a), some (.ref l), some (.ref t)] ∧ ∃ ls ts : List V, H' l = some (.lst ls) ∧ H' t = some (.lst ts) ∧ m = ls.length ∧
        (ts ++ ls).Perm xs ∧ ExA d H H' ∧ Dr H' d (k + ts.length), ⟨xs.length, rfl, xs, [], e2 _ _ upd_same, upd_same, rfl, .refl _, ExA.of (e1.trans e2), ?_⟩, ?_⟩
    · have z := hd.on (e1.trans e2)
      simpa using z
    rintro m σ' H' ⟨rfl, ls, ts, h1, h2, rfl, pm, e, hd'⟩
    have hsub : ∀ x ∈ ls, x ∈ xs := fun x hx => pm.mem_iff.mp (List.mem_append_right _ hx)
    have hlen : ts.length + ls.length = xs.length := by rw [← List.length_append]; exact pm.length_eq
    -- while left != []
    refine ⟨_, rfl, Nat.zero_le _, fun z nz => ?_⟩
    have e3 : Ex H' (upd H' z (.lst [])) := Ex.new nz
    refine ne_nil (.inl (.inl (e3 _ _ h1))) upd_same (fun x hx => hsh _ (e.trans (ExA.of e3)) x (hsub x hx)) ⟨_, rfl, ?_⟩
    have h1' := e3 _ _ h1
    have h2' := e3 _ _ h2
    have hd3 := hd'.on e3
    have ee := e.trans (ExA.of (a := d) e3)
    generalize upd H' z (.lst []) = H3 at e3 h1' h2' hd3 ee
    cases ls with
    | nil =>
      refine iteF ?_
      rw [List.append_nil] at pm
      refine ⟨_, rfl, q ts t H3 pm nt0 ee ?_ h2'⟩
      have hl0 : ts.length = xs.length := by simpa using hlen
      rw [← hl0]
      exact hd3
    | cons y0 ls =>
      refine iteT ⟨fun σ' H' => ∃ m', m' < (y0 :: ls).length ∧ (σ' = [some (.ref d), some (.ref a), some (.ref l), some (.ref t)] ∧ ∃ ls ts : List V, H' l = some (.lst ls) ∧ H' t = some (.lst ts) ∧ m' = ls.length ∧
        (ts ++ ls).Perm xs ∧ ExA d H H' ∧ Dr H' d (k + ts.length)), fun σ' H' z => z, ?_⟩
      -- told.append(left.pop(int(next(draws)) % len(left)))
      refine ⟨_, rfl, .inl ⟨rfl, _, .inl (.inl h2')⟩, _, rfl, .inl ⟨rfl, _, .inl (.inl h1')⟩, _, rfl, d, _, rfl, hd3, ⟨by omega, by simp only [List.length_cons] at hlen; omega⟩, fun r H4 hr0 e4 hd4 => ?_⟩
      have h1'' := e4 _ _ ndl.symm h1'
      have h2'' := e4 _ _ ndt.symm h2'
      refine .inl ⟨r, rfl, _, rfl, l, _, rfl, .inl (.inl (.inl h1'')), _, _, rfl, rfl, (by simp only [List.length_cons]; omega), ?_⟩
      have fm := fmod_at (i := r) (j := ((y0 :: ls).length : Int)) (by simp only [List.length_cons]; omega)
      generalize hi : r.fmod ((y0 :: ls).length : Int) = i at fm
      have hi' : i.toNat < (y0 :: ls).length := by omega
      have hll : (y0 :: ls).length ≤ 1000 := by omega
      refine ⟨l, y0 :: ls, i, i.toNat, (y0 :: ls)[i.toNat], rfl, by rw [← hi], h1'', by omega, by omega, seqIx fm.1 fm.2, List.getElem?_eq_getElem hi', ?_⟩
      have h3 : (upd H4 l (.lst ((y0 :: ls).eraseIdx i.toNat))) t = some (.lst ts) := by rw [upd_ne nlt.symm]; exact h2''
      refine ⟨t, ts, _, rfl, rfl, h3, sz_lt (by omega), ?_⟩
      have pm2 := erase_perm (y0 :: ls) i.toNat (y0 :: ls)[i.toNat] (List.getElem?_eq_getElem hi')
      refine ⟨((y0 :: ls).eraseIdx i.toNat).length, by rw [List.length_eraseIdx_of_lt hi']; omega, rfl, (y0 :: ls).eraseIdx i.toNat, ts ++ [(y0 :: ls)[i.toNat]], ?_, upd_same, rfl, ?_, ?_, ?_⟩
      · rw [upd_ne nlt]; exact upd_same
      · rw [List.append_assoc]
        exact (List.Perm.append_left ts pm2).trans pm
      · exact ExA.mut (ExA.mut (ee.trans e4) nl) nt0
      · obtain ⟨x, b, hx⟩ := hd4
        refine ⟨x, b, ?_⟩
        rw [upd_ne ndt, upd_ne ndl, hx, List.length_append]
        simp only [List.length_cons, List.length_nil]
        rw [show k + (ts.length : Int) + 1 = k + ((ts.length + (0 + 1) : Nat) : Int) by omega]
end
end K01

namespace K01
open PySem PySem.Spec PyProof.Rows L2 Vf Evl
/-! ### a drawn net: its ties by their places in a line of all seats -/
structure LineOk (n : Nat) (ln : List Int) : Prop where
  len : ln.length = n
  nd : ln.Nodup
  at_ : ∀ x ∈ ln, 1 ≤ x ∧ x ≤ (n : Int)
abbrev at0 (ln : List Int) (i : Nat) : Int := ln.getD i 0
theorem LineOk.mem {n : Nat} {ln : List Int} (L : LineOk n ln) {i : Nat} (h : i < n) : at0 ln i ∈ ln := by
  have h' : i < ln.length := by rw [L.len]; exact h
  unfold at0
  rw [List.getD_eq_getElem?_getD, List.getElem?_eq_getElem h']
  exact List.getElem_mem h'
theorem LineOk.inj {n : Nat} {ln : List Int} (L : LineOk n ln) {i j : Nat} (hi : i < n) (hj : j < n) (e : at0 ln i = at0 ln j) : i = j := by
  have hi' : i < ln.length := by rw [L.len]; exact hi
  have hj' : j < ln.length := by rw [L.len]; exact hj
  unfold at0 at e
  rw [List.getD_eq_getElem?_getD, List.getD_eq_getElem?_getD, List.getElem?_eq_getElem hi', List.getElem?_eq_getElem hj'] at e
  exact (List.getElem_inj L.nd).mp e
/-- t ties the seats at the places i, j of the line -/
def Ties2 (ln : List Int) (i j : Nat) (t : Int × Int) : Prop := t = (at0 ln i, at0 ln j) ∨ t = (at0 ln j, at0 ln i)
theorem nrm_swap (x y : Int) : nrm (x, y) = nrm (y, x) := by
  unfold nrm
  by_cases c : x ≤ y <;> by_cases d : y ≤ x <;> simp only [c, d, if_true, if_false]
  · rw [show x = y by omega]
  · omega
theorem nrm_cases {x y u v : Int} (h : nrm (x, y) = nrm (u, v)) : (x = u ∧ y = v) ∨ (x = v ∧ y = u) := by
  unfold nrm at h
  by_cases c : x ≤ y <;> by_cases d : u ≤ v <;> simp only [c, d, if_true, if_false] at h <;> injection h with h1 h2
  · exact .inl ⟨h1, h2⟩
  · exact .inr ⟨h1, h2⟩
  · exact .inr ⟨h2, h1⟩
  · exact .inl ⟨h2, h1⟩
theorem Ties2.nrm {ln : List Int} {i j : Nat} {t : Int × Int} (h : Ties2 ln i j t) : nrm t = nrm (at0 ln i, at0 ln j) := by
  rcases h with rfl | rfl
  · rfl
  · exact nrm_swap _ _
theorem ties_apart {n : Nat} {ln : List Int} (L : LineOk n ln) {i j i' j' : Nat} {t t' : Int × Int} (h : Ties2 ln i j t) (h' : Ties2 ln i' j' t') (hi : i < n) (hj : j < n) (hi' : i' < n) (hj' : j' < n) (e : nrm t = nrm t') :
    (i = i' ∧ j = j') ∨ (i = j' ∧ j = i') := by
  rw [h.nrm, h'.nrm] at e
  rcases nrm_cases e with ⟨a, b⟩ | ⟨a, b⟩
  · exact .inl ⟨L.inj hi hi' a, L.inj hj hj' b⟩
  · exact .inr ⟨L.inj hi hj' a, L.inj hj hi' b⟩
structure Good (n : Nat) (ln : List Int) (a o : Nat) (ts : List (Int × Int)) : Prop where
  pl : ∀ t ∈ ts, ∃ i j, i < j ∧ j < n ∧ (j < a ∨ (j = a ∧ i < o)) ∧ Ties2 ln i j t
  nd : (ts.map nrm).Nodup
  few : 2 * ts.length ≤ a * (a - 1) + 2 * o
theorem Good.nil (n : Nat) (ln : List Int) : Good n ln 1 0 [] := ⟨(fun t h => by cases h), List.nodup_nil, Nat.zero_le _⟩
theorem Good.mono {n : Nat} {ln : List Int} {a o o' : Nat} {ts : List (Int × Int)} (g : Good n ln a o ts) (h : o ≤ o') : Good n ln a o' ts := by
  refine ⟨fun t ht => ?_, g.nd, by have := g.few; omega⟩
  obtain ⟨i, j, a1, a2, a3, a4⟩ := g.pl t ht
  exact ⟨i, j, a1, a2, by omega, a4⟩
theorem Good.next {n : Nat} {ln : List Int} {a : Nat} {ts : List (Int × Int)} (g : Good n ln a a ts) (h : 1 ≤ a) : Good n ln (a + 1) 0 ts := by
  refine ⟨fun t ht => ?_, g.nd, ?_⟩
  · obtain ⟨i, j, a1, a2, a3, a4⟩ := g.pl t ht
    exact ⟨i, j, a1, a2, by omega, a4⟩
  · have z := g.few
    obtain ⟨b, rfl⟩ : ∃ b, a = b + 1 := ⟨a - 1, by omega⟩
    have e : (b + 1) * (b + 1 - 1) + 2 * (b + 1) = (b + 1 + 1) * (b + 1 + 1 - 1) + 2 * 0 := by
      rw [Nat.add_sub_cancel, Nat.add_sub_cancel, Nat.mul_comm (b + 1 + 1) (b + 1), Nat.mul_add (b + 1) (b + 1) 1, Nat.mul_add (b + 1) b 1]
      omega
    omega
theorem nodup_snoc {α : Type} {l : List α} {x : α} (h : l.Nodup) (hx : x ∉ l) : (l ++ [x]).Nodup := by
  refine List.nodup_append.mpr ⟨h, by simp, fun a ha b hb e => ?_⟩
  rw [List.mem_singleton.mp hb] at e
  exact hx (e ▸ ha)
theorem Good.add {n : Nat} {ln : List Int} {a o i : Nat} {ts : List (Int × Int)} {t : Int × Int} (L : LineOk n ln) (g : Good n ln a o ts) (ha : a < n) (hi : i < a) (ho : o ≤ i) (ht : Ties2 ln i a t) : Good n ln a (i + 1) (ts ++ [t]) := by
  refine ⟨fun u hu => ?_, ?_, ?_⟩
  · rcases List.mem_append.mp hu with hu | hu
    · exact (g.mono (by omega : o ≤ i + 1)).pl u hu
    · rw [List.mem_singleton.mp hu]
      exact ⟨i, a, hi, ha, .inr ⟨rfl, Nat.lt_succ_self i⟩, ht⟩
  · rw [List.map_append]
    refine nodup_snoc g.nd fun hm => ?_
    obtain ⟨u, hu, e⟩ := List.mem_map.mp hm
    obtain ⟨i', j', a1, a2, a3, a4⟩ := g.pl u hu
    rcases ties_apart L a4 ht (by omega) a2 (by omega) ha e with ⟨b1, b2⟩ | ⟨b1, b2⟩ <;> omega
  · have z := g.few
    rw [List.length_append, List.length_singleton]
    omega
theorem Good.net {n : Nat} {ln : List Int} {o : Nat} {ts : List (Int × Int)} (L : LineOk n ln) (g : Good n ln n 0 ts) (h3 : 3 ≤ n) (h40 : n ≤ 40) : NetOk (n : Int) ts := by
  refine ⟨by omega, by omega, fun t ht => ?_, g.nd, ?_⟩
  · obtain ⟨i, j, a1, a2, a3, a4⟩ := g.pl t ht
    have b1 := L.at_ _ (L.mem (show i < n by omega))
    have b2 := L.at_ _ (L.mem a2)
    have b3 : at0 ln i ≠ at0 ln j := fun e => by
      have := L.inj (by omega) a2 e
      omega
    rcases a4 with rfl | rfl
    · exact ⟨b1, b2, b3⟩
    · exact ⟨b2, b1, b3.symm⟩
  · have z := g.few
    have y : n * (n - 1) ≤ 40 * 39 := Nat.mul_le_mul h40 (by omega)
    omega
/-- neighbours in the line, and its ends -/
theorem Good.ring {n : Nat} {ln : List Int} {ts : List (Int × Int)} (L : LineOk n ln) (g : Good n ln n 0 ts) (h3 : 3 ≤ n) (h40 : n ≤ 40) (hn : ∀ t ∈ ts, ∃ i, i + 1 < n ∧ Ties2 ln i (i + 1) t) :
    NetOk (n : Int) (ts ++ [(at0 ln 0, at0 ln (n - 1))]) := by
  have N := Good.net (o := 0) L g h3 h40
  have b1 := L.at_ _ (L.mem (show 0 < n by omega))
  have b2 := L.at_ _ (L.mem (show n - 1 < n by omega))
  refine ⟨N.lo, N.hi, fun t ht => ?_, ?_, ?_⟩
  · rcases List.mem_append.mp ht with ht | ht
    · exact N.ok t ht
    · rw [List.mem_singleton.mp ht]
      refine ⟨b1, b2, fun e => ?_⟩
      have := L.inj (by omega) (by omega) e
      omega
  · rw [List.map_append]
    refine nodup_snoc g.nd fun hm => ?_
    obtain ⟨u, hu, e⟩ := List.mem_map.mp hm
    obtain ⟨i, a1, a2⟩ := hn u hu
    rcases ties_apart L a2 (.inl rfl : Ties2 ln 0 (n - 1) _) (by omega) a1 (by omega) (by omega) e with ⟨c1, c2⟩ | ⟨c1, c2⟩ <;> omega
  · rw [List.length_append, List.length_singleton]
    have z := g.few
    have y : n * (n - 1) ≤ 40 * 39 := Nat.mul_le_mul h40 (by omega)
    omega
/-! ### the list of ties while it is made -/
def TM (H : Hp) (a : Addr) (ts : List (Int × Int)) : Prop :=
  ∃ as : List Addr, H a = some (.lst (as.map V.ref)) ∧ as.length = ts.length ∧ a ∉ as ∧ ∀ (i : Nat) (b : Addr) (t : Int × Int), as[i]? = some b → ts[i]? = some t → H b = some (.lst [.int t.1, .int t.2])
theorem TM.on {H H' : Hp} {a : Addr} {ts : List (Int × Int)} (h : TM H a ts) (e : Ex H H') : TM H' a ts := by
  obtain ⟨as, h1, h2, h3, h4⟩ := h
  exact ⟨as, e _ _ h1, h2, h3, fun i b t x y => e _ _ (h4 i b t x y)⟩
theorem TM.at_ {K : PySem.W.Frag} {H : Hp} {a : Addr} {ts : List (Int × Int)} (h : TM H a ts) : TiesAt K H a ts := by
  obtain ⟨as, h1, h2, h3, h4⟩ := h
  exact ⟨as, .inl (.inl h1), h2, fun i b t x y => .inl (.inl (h4 i b t x y))⟩
theorem TM.exA {H H' : Hp} {a d : Addr} {k : Int} {ts : List (Int × Int)} (h : TM H a ts) (hd : Dr H d k) (e : ExA d H H') : TM H' a ts := by
  obtain ⟨as, h1, h2, h3, h4⟩ := h
  obtain ⟨x, b, hx⟩ := hd
  refine ⟨as, e _ _ ?_ h1, h2, h3, fun i b t x y => e _ _ ?_ (h4 i b t x y)⟩
  · rintro rfl
    rw [hx] at h1
    cases as with
    | nil => cases h1
    | cons _ _ => cases h1
  · rintro rfl
    have z := h4 i _ t x y
    rw [hx] at z
    cases z
theorem TM.push {H : Hp} {a p : Addr} {ts : List (Int × Int)} (h : TM H a ts) (np : H p = none) (x y : Int) :
    ∃ as : List Addr, (upd H p (.lst [.int x, .int y])) a = some (.lst (as.map V.ref)) ∧ as.length = ts.length ∧ TM (upd (upd H p (.lst [.int x, .int y])) a (.lst (as.map V.ref ++ [.ref p]))) a (ts ++ [(x, y)]) := by
  obtain ⟨as, h1, h2, h3, h4⟩ := h
  have nap : a ≠ p := ne_of_none h1 np
  refine ⟨as, by rw [upd_ne nap]; exact h1, h2, as ++ [p], by rw [upd_same, List.map_append]; rfl, by simp [h2], ?_, ?_⟩
  · intro hm
    rcases List.mem_append.mp hm with hm | hm
    · exact h3 hm
    · exact nap (List.mem_singleton.mp hm)
  · intro i b t hb ht
    by_cases hi : i < as.length
    · rw [List.getElem?_append_left hi] at hb
      rw [List.getElem?_append_left (by rw [← h2]; exact hi)] at ht
      have z := h4 i b t hb ht
      have nba : b ≠ a := fun e => h3 (e ▸ List.mem_of_getElem? hb)
      rw [upd_ne nba, upd_ne (ne_of_none z np)]
      exact z
    · have hi2 : i = as.length := by
        have z := (List.getElem?_eq_some_iff.mp hb).1
        rw [List.length_append, List.length_singleton] at z
        omega
      rw [hi2, List.getElem?_append_right (Nat.le_refl _), Nat.sub_self] at hb
      rw [hi2, h2, List.getElem?_append_right (Nat.le_refl _), Nat.sub_self] at ht
      cases hb
      cases ht
      rw [upd_ne nap.symm]
      exact upd_same
end K01

namespace K01
open PySem PySem.Spec PyProof.Rows L2 Vf Evl
theorem TM.push2 {H : Hp} {a : Addr} {ts : List (Int × Int)} (h : TM H a ts) (x y : Int) :
    ∃ as : List Addr, H a = some (.lst (as.map V.ref)) ∧ as.length = ts.length ∧ ∀ (p : Addr) (H1 : Hp), H p = none → Ex H H1 → H1 p = some (.lst [.int x, .int y]) → TM (upd H1 a (.lst (as.map V.ref ++ [.ref p]))) a (ts ++ [(x, y)]) := by
  obtain ⟨as, h1, h2, h3, h4⟩ := h
  refine ⟨as, h1, h2, fun p H1 np e hp => ?_⟩
  have nap : a ≠ p := ne_of_none h1 np
  refine ⟨as ++ [p], by rw [upd_same, List.map_append]; rfl, by simp [h2], ?_, ?_⟩
  · intro hm
    rcases List.mem_append.mp hm with hm | hm
    · exact h3 hm
    · exact nap (List.mem_singleton.mp hm)
  · intro i b t hb ht
    by_cases hi : i < as.length
    · rw [List.getElem?_append_left hi] at hb
      rw [List.getElem?_append_left (by rw [← h2]; exact hi)] at ht
      have nba : b ≠ a := fun e => h3 (e ▸ List.mem_of_getElem? hb)
      rw [upd_ne nba]
      exact e _ _ (h4 i b t hb ht)
    · have hi2 : i = as.length := by
        have z := (List.getElem?_eq_some_iff.mp hb).1
        rw [List.length_append, List.length_singleton] at z
        omega
      rw [hi2, List.getElem?_append_right (Nat.le_refl _), Nat.sub_self] at hb
      rw [hi2, h2, List.getElem?_append_right (Nat.le_refl _), Nat.sub_self] at ht
      cases hb
      cases ht
      rw [upd_ne nap.symm]
      exact hp
/-- the net while it is drawn: behind the ties of the places below a, and of a with those below o -/
def NS (H : Hp) (d pl pt : Addr) (ln : List Int) (n : Nat) (kd kmax : Int) (a o : Nat) (H' : Hp) : Prop :=
  ∃ (ts : List (Int × Int)) (k' : Int), TM H' pt ts ∧ H' pl = some (.lst (ln.map V.int)) ∧ ExA d H H' ∧ Dr H' d k' ∧ (0 ≤ k' ∧ k' ≤ kmax) ∧ Good n ln a o ts ∧ (kd = 4 → ∀ t ∈ ts, ∃ i, i + 1 < n ∧ Ties2 ln i (i + 1) t)
section
variable {H H' H1 : Hp} {d pl pt : Addr} {ln : List Int} {n : Nat} {kd kmax : Int} {a o i : Nat}
theorem NS.on (h : NS H d pl pt ln n kd kmax a o H') (e : Ex H' H1) : NS H d pl pt ln n kd kmax a o H1 := by
  obtain ⟨ts, k', h1, h2, h3, h4, h5, h6, h7⟩ := h
  exact ⟨ts, k', h1.on e, e _ _ h2, h3.trans (ExA.of e), h4.on e, h5, h6, h7⟩
theorem NS.mono {o' : Nat} {kmax' : Int} (h : NS H d pl pt ln n kd kmax a o H') (ho : o ≤ o') (hk : kmax ≤ kmax') : NS H d pl pt ln n kd kmax' a o' H' := by
  obtain ⟨ts, k', h1, h2, h3, h4, h5, h6, h7⟩ := h
  exact ⟨ts, k', h1, h2, h3, h4, by omega, h6.mono ho, h7⟩
theorem NS.next (h : NS H d pl pt ln n kd kmax a a H') (ha : 1 ≤ a) : NS H d pl pt ln n kd kmax (a + 1) 0 H' := by
  obtain ⟨ts, k', h1, h2, h3, h4, h5, h6, h7⟩ := h
  exact ⟨ts, k', h1, h2, h3, h4, h5, h6.next ha, h7⟩
theorem NS.push (h : NS H d pl pt ln n kd kmax a o H') (L : LineOk n ln) (ha : a < n) (hi : i < a) (ho : o ≤ i) {x y : Int} (hx : Ties2 ln i a (x, y)) (h4 : kd = 4 → i + 1 = a) (hn : H pt = none) (hp : pl ≠ pt) (hd : d ≠ pt) (h40 : n ≤ 40) :
    ∃ as : List Addr, H' pt = some (.lst (as.map V.ref)) ∧ as.length < 2000 ∧ ∀ (p : Addr) (H1 : Hp), H' p = none → Ex H' H1 → H1 p = some (.lst [.int x, .int y]) → NS H d pl pt ln n kd kmax a (i + 1) (upd H1 pt (.lst (as.map V.ref ++ [.ref p]))) := by
  obtain ⟨ts, k', h1, h2, h3, ⟨xx, bb, hdr⟩, h5, h6, h7⟩ := h
  obtain ⟨as, a1, a2, a3⟩ := h1.push2 x y
  have few := h6.few
  have y1 : a * (a - 1) ≤ 40 * 40 := Nat.mul_le_mul (by omega) (by omega)
  refine ⟨as, a1, by omega, fun p H1 np e hpp => ⟨ts ++ [(x, y)], k', a3 p H1 np e hpp, ?_, (h3.trans (ExA.of e)).mut hn, ⟨xx, bb, ?_⟩, h5, h6.add L ha hi ho hx, fun c t ht => ?_⟩⟩
  · rw [upd_ne hp]; exact e _ _ h2
  · rw [upd_ne hd]; exact e _ _ hdr
  · rcases List.mem_append.mp ht with ht | ht
    · exact h7 c t ht
    · rw [List.mem_singleton.mp ht]
      have := h4 c
      exact ⟨i, by omega, by rw [show i + 1 = a from this]; exact hx⟩
/-- behind a draw -/
theorem NS.draw {ts : List (Int × Int)} {k' : Int} (h1 : TM H' pt ts) (h2 : H' pl = some (.lst (ln.map V.int))) (h3 : ExA d H H') (h4 : Dr H' d k') (h5 : 0 ≤ k' ∧ k' ≤ kmax) (h6 : Good n ln a o ts)
    (h7 : kd = 4 → ∀ t ∈ ts, ∃ i, i + 1 < n ∧ Ties2 ln i (i + 1) t) (e : ExA d H' H1) (hd : Dr H1 d (k' + 1)) (hp : pl ≠ d) : NS H d pl pt ln n kd (kmax + 1) a o H1 :=
  ⟨ts, k' + 1, h1.exA h4 e, e _ _ hp h2, h3.trans e, hd, by omega, h6, h7⟩
end
theorem in14 (k : Int) : inV (.int k) [.int 1, .int 4] = (decide (k = 1) || decide (k = 4)) := by
  show ((1 : Int) == k || ((4 : Int) == k || false)) = _
  rw [Bool.or_false, Bool.eq_iff_iff]
  simp only [Bool.or_eq_true, beq_iff_eq, decide_eq_true_eq]
  omega
theorem cut_to (xs : List V) (k : Nat) : cutV xs none (some (k : Int)) = xs.take k := by
  unfold cutV
  rw [HT.sIx_none, HT.sIx_nat]
  by_cases h : k ≤ xs.length
  · rw [Nat.min_eq_left h]
    rfl
  · rw [Nat.min_eq_right (by omega), List.take_of_length_le (by show (xs.drop 0).length ≤ _; simp), List.take_of_length_le (by omega)]
    rfl
end K01

namespace K01
open PySem PySem.Spec PyProof.Rows L2 Vf Evl
theorem line_of {n : Int} (hn : 0 ≤ n) {ys : List V} (h : ys.Perm (rgV 1 (n + 1))) : ∃ ln : List Int, ys = ln.map V.int ∧ LineOk n.toNat ln := by
  let un : V → Int := fun v => match v with | .int i => i | _ => 0
  have e0 : rgV 1 (n + 1) = ((List.range n.toNat).map fun i : Nat => 1 + (i : Int)).map V.int := by
    unfold rgV
    rw [List.map_map, show (n + 1 - 1).toNat = n.toNat by omega]
    rfl
  have e1 : (((List.range n.toNat).map fun i : Nat => 1 + (i : Int)).map V.int).map un = (List.range n.toNat).map fun i : Nat => 1 + (i : Int) := by
    rw [List.map_map]
    exact (List.map_congr_left fun _ _ => rfl).trans (List.map_id _)
  rw [e0] at h
  have hp : (ys.map un).Perm ((List.range n.toNat).map fun i : Nat => 1 + (i : Int)) := by
    have z := h.map un
    rw [e1] at z
    exact z
  refine ⟨ys.map un, ?_, ?_, ?_, ?_⟩
  · rw [List.map_map]
    refine ((List.map_congr_left fun v hv => ?_).trans (List.map_id _)).symm
    obtain ⟨i, _, rfl⟩ := List.mem_map.mp (h.mem_iff.mp hv)
    rfl
  · rw [hp.length_eq]
    simp
  · refine hp.nodup_iff.mpr ?_
    refine List.Pairwise.map _ (fun a b hab => ?_) List.nodup_range
    intro e
    exact hab (by omega)
  · intro x hx
    obtain ⟨i, hi, rfl⟩ := List.mem_map.mp (hp.mem_iff.mp hx)
    have := List.mem_range.mp hi
    omega
section
variable {P : Program} {w : World} {K : PySem.W.Frag} {mg : Str → Option Value} {base : Heap} {A : Ad}
def sp_l_net : Sp := fun vs H Q _ => ∃ (d : Addr) (k m : Int), vs = [.ref d, .int m] ∧ Dr H d k ∧ (0 ≤ k ∧ k < 2 ^ 39) ∧ (4 ≤ m ∧ m ≤ 40) ∧
  ∀ (n : Int) (ts : List (Int × Int)) (a t : Addr) (k' : Int) (H2 : Hp), NetOk n ts → H t = none → ExA d H H2 → Dr H2 d k' → (0 ≤ k' ∧ k' ≤ k + 5000) → TM H2 a ts → H2 t = some (.tup [.int n, .ref a]) → Q (.ref t) H2
theorem ok_l_net (T : Txt K mg A) : FnOk P w K mg base CX0 3 A.f_l_net A.d_l_net ["_law_draws_here", "_law_most"] sp_l_net := by
  have G_l_next : FnOk P w K mg base CX0 1 A.f_l_next A.d_l_next ["_law_draws_here"] sp_l_next := ok_l_next T
  have G_l_mixed : FnOk P w K mg base CX0 2 A.f_l_mixed A.d_l_mixed ["_law_draws_here", "_law_some"] (sp_l_mixed K) := ok_l_mixed T
  refine T.F_l_net.ok sc_l_net (fun vs H Q E h => ?_) (fun cdv A' outer s H vs Q E hr h => ?_)
  · obtain ⟨d, k, m, rfl, _⟩ := h
    rfl
  · obtain ⟨d, k, m, rfl, hd, hk, hm, q⟩ := h
    refine ⟨_, (pss_cons (ps_set (i := 2) sc_l_net.nd rfl (by first | exact .inl rfl | exact .inr rfl) (pe_op op_add pe_int (pe_op op_modN (pe_callTy call_int1 (by rfl) T.z_int (by decide +kernel) (pa_cons (pe_call G_l_next (hr.mono (by decide)) (by rfl) T.g_l_next T.F_l_next.kp T.b_l_next .nil pass0 (pa_cons (pv 0) pa_nil)) pa_nil)) (pe_op op_sub (pv 1) pe_int))))
      (pss_cons (ps_set (i := 3) sc_l_net.nd rfl (by first | exact .inl rfl | exact .inr rfl) (pe_op op_modN (pe_callTy call_int1 (by rfl) T.z_int (by decide +kernel) (pa_cons (pe_call G_l_next (hr.mono (by decide)) (by rfl) T.g_l_next T.F_l_next.kp T.b_l_next .nil pass0 (pa_cons (pv 0) pa_nil)) pa_nil)) pe_int))
      (pss_cons (ps_set (i := 4) sc_l_net.nd rfl (by first | exact .inl rfl | exact .inr rfl) (pe_call G_l_mixed (hr.mono (by decide)) (by rfl) T.g_l_mixed T.F_l_mixed.kp T.b_l_mixed .nil pass0 (pa_cons (pv 0) (pa_cons (pe_listRg rfl (by rfl) T.z_list (prg_2 (by rfl) T.z_range pe_int (pe_op op_add (pv 2) pe_int))) pa_nil))))
      (pss_cons (ps_set (i := 5) sc_l_net.nd rfl (by first | exact .inl rfl | exact .inr rfl) (pe_lst pa_nil))
      (pss_cons (ps_for PassesOwn.never rfl (pi_range2 (by rfl) T.z_range (pa_cons pe_int (pa_cons (pv 2) pa_nil))) (pg_name (i := 6) sc_l_net.nd rfl (by first | exact .inl rfl | exact .inr rfl)) (pss_cons (ps_set (i := 7) sc_l_net.nd rfl (by first | exact .inl rfl | exact .inr rfl) (pe_callTy call_int1 (by rfl) T.z_int (by decide +kernel) (pa_cons (pe_call G_l_next (hr.mono (by decide)) (by rfl) T.g_l_next T.F_l_next.kp T.b_l_next .nil pass0 (pa_cons (pv 0) pa_nil)) pa_nil)))
      (pss_cut (ps_if (pt_cmpR (op_inK (K := K) rfl) (pv 3) (pe_lst (pa_cons pe_int (pa_cons pe_int pa_nil))) (by rfl)) (pss_one (ps_expr (pe_bmK (K := K) rfl PySem.F.plainAttrs_list PySem.F.slot_list_append PySem.F.type_list_append mt_append (pv 5) (pa_cons (pe_lst (pa_cons (pe_ix (ix_listK (K := K) rfl) (pv 4) (pe_op op_sub (pv 6) pe_int) (fun _ _ => rfl)) (pa_cons (pe_ix (ix_listK (K := K) rfl) (pv 4) (pv 6) (fun _ _ => rfl)) pa_nil))) pa_nil)))) pss_nil)
      (pss_cut (ps_if (PW.pt (pw_or (pt_cmpR op_eq (pv 3) pe_int (nomark _)) (pw_or1 (PW.pt (pw_and (pt_cmpR op_eq (pv 3) pe_int (nomark _)) (pw_and1 (pt_cmpR op_gt (pe_op op_modN (pe_op op_fdivN (pv 7) pe_int) pe_int) pe_int (nomark _)))))))) (pss_one (ps_expr (pe_bmK (K := K) rfl PySem.F.plainAttrs_list PySem.F.slot_list_append PySem.F.type_list_append mt_append (pv 5) (pa_cons (pe_lst (pa_cons (pe_ix (ix_listK (K := K) rfl) (pv 4) (pv 6) (fun _ _ => rfl)) (pa_cons (pe_ix (ix_listK (K := K) rfl) (pv 4) (pe_op op_modN (pv 7) (pv 6)) (fun _ _ => rfl)) pa_nil))) pa_nil)))) pss_nil)
      (pss_one (ps_for PassesOwn.never rfl (pi_listK (K := K) rfl (pe_slice (sl_listK (K := K) rfl) (pv 4) po_none (po_some (pv 6)))) (pg_name (i := 8) sc_l_net.nd rfl (by first | exact .inl rfl | exact .inr rfl)) (pss_one (ps_if (PW.pt (pw_and (pt_cmpR op_eq (pv 3) pe_int (nomark _)) (pw_and1 (pt_cmpR op_eq (pe_op op_modN (pe_callTy call_int1 (by rfl) T.z_int (by decide +kernel) (pa_cons (pe_call G_l_next (hr.mono (by decide)) (by rfl) T.g_l_next T.F_l_next.kp T.b_l_next .nil pass0 (pa_cons (pv 0) pa_nil)) pa_nil)) pe_int) pe_int (nomark _))))) (pss_one (ps_expr (pe_bmK (K := K) rfl PySem.F.plainAttrs_list PySem.F.slot_list_append PySem.F.type_list_append mt_append (pv 5) (pa_cons (pe_lst (pa_cons (pe_ix (ix_listK (K := K) rfl) (pv 4) (pv 6) (fun _ _ => rfl)) (pa_cons (pv 8) pa_nil))) pa_nil)))) pss_nil))))))))
      (pss_cut (ps_if (pt_cmpR op_eq (pv 3) pe_int (nomark _)) (pss_one (ps_expr (pe_bmK (K := K) rfl PySem.F.plainAttrs_list PySem.F.slot_list_append PySem.F.type_list_append mt_append (pv 5) (pa_cons (pe_lst (pa_cons (pe_ix (ix_listK (K := K) rfl) (pv 4) pe_int (fun _ _ => rfl)) (pa_cons (pe_ix (ix_listK (K := K) rfl) (pv 4) (pe_un un_neg pe_int) (fun _ _ => rfl)) pa_nil))) pa_nil)))) pss_nil)
      (pss_one (ps_ret (pe_tup (pa_cons (pv 2) (pa_cons (pv 5) pa_nil))))))))))), ?_⟩
    have hdn : H d ≠ none := by
      obtain ⟨x, b, h⟩ := hd
      rw [h]
      exact fun z => nomatch z
    -- seats = 3 + int(next) % (most - 2)
    refine ⟨_, rfl, d, k, rfl, hd, ⟨hk.1, by omega⟩, fun r1 H1 r1p e1 hd1 => .inl ⟨r1, rfl, _, rfl, m, 2, rfl, rfl, _, _, rfl, rfl, (by omega), _, _, rfl, rfl, ?_⟩⟩
    have f1 := fmod_at (i := r1) (j := m - 2) (by omega)
    obtain ⟨n, hn⟩ : ∃ n, 3 + r1.fmod (m - 2) = n := ⟨_, rfl⟩
    have n3 : 3 ≤ n := by omega
    have n40 : n ≤ 40 := by omega
    -- kind = int(next) % 6
    refine ⟨_, rfl, d, _, rfl, hd1, ⟨by omega, by omega⟩, fun r2 H2 r2p e2 hd2 => .inl ⟨r2, rfl, _, _, rfl, rfl, (by show (6 : Int) ≠ 0; decide), ?_⟩⟩
    have f2 := fmod_at (i := r2) (j := 6) (by decide)
    obtain ⟨kd, hkd⟩ : ∃ kd, r2.fmod 6 = kd := ⟨_, rfl⟩
    rw [hkd] at f2
    -- line = mixed(list(range(1, seats + 1)))
    refine ⟨_, rfl, _, rfl, _, _, rfl, rfl, _, _, rfl, rfl, ⟨by decide, by decide, by omega, by omega, by omega⟩, fun p0 np0 => ?_⟩
    have e3 : Ex H2 (upd H2 p0 (.lst (rgV 1 (n + 1)))) := Ex.new np0
    have hp0 : (upd H2 p0 (.lst (rgV 1 (n + 1)))) p0 = some (.lst (rgV 1 (n + 1))) := upd_same
    rw [show (fun i j : Int => V.int (i + j)) 3 (r1.fmod (m - 2)) = V.int n from congrArg V.int hn, show (fun i j : Int => V.int (i.fmod j)) r2 6 = V.int kd from congrArg V.int hkd]
    try rw [hn]
    have xsl : (rgV 1 (n + 1)).length = n.toNat := by rw [rgV_length]; omega
    refine ⟨d, p0, _, rgV 1 (n + 1), rfl, hd2.on e3, ⟨by omega, by rw [xsl]; omega⟩, .inl (.inl hp0), by rw [xsl]; omega, fun H' _ x hx => ?_, fun ys pl H3 pm npl e4 hd3 hpl => ?_⟩
    · unfold rgV at hx
      obtain ⟨i, _, rfl⟩ := List.mem_map.mp hx
      exact Sh.int _
    obtain ⟨ln, rfl, L⟩ := line_of (by omega) pm
    -- ties = []
    refine ⟨Nat.zero_le _, fun pt npt => ?_⟩
    have e5 : Ex H3 (upd H3 pt (.lst [])) := Ex.new npt
    have eA : ExA d H H3 := ((e1.trans e2).trans (ExA.of e3)).trans e4
    have hpt : H pt = none := by
      cases hq : H pt with
      | none => rfl
      | some o =>
        have nd : pt ≠ d := fun z => by
          obtain ⟨x, b, hx⟩ := hd3
          rw [z, hx] at npt
          cases npt
        have z := eA _ _ nd hq
        rw [npt] at z
        cases z
    have ndt : d ≠ pt := fun z => hdn (z ▸ hpt)
    have nlt : pl ≠ pt := ne_of_none hpl npt
    have nld : pl ≠ d := fun z => by
      obtain ⟨x, b, hx⟩ := hd3
      rw [← z, hpl] at hx
      injection hx with hx
      injection hx with hx
      have := L.len
      match ln, hx with
      | [a, b, c], hx => cases hx
    have N0 : NS H d pl pt ln n.toNat kd (k + 100) 1 0 (upd H3 pt (.lst [])) := by
      refine ⟨[], _, ⟨[], upd_same, rfl, (fun z => nomatch z), (fun i b t x => nomatch x)⟩, e5 _ _ hpl, eA.trans (ExA.of e5), hd3.on e5, ?_, Good.nil _ _, fun _ t z => nomatch z⟩
      rw [xsl]
      omega
    have lnl := L.len
    have k0 := hk.1
    generalize upd H3 pt (.lst []) = H5 at N0
    clear hpl hd3 e1 e2 e3 e4 e5 eA npt pm
    refine q_forR2 (lo := 1) (n := n) (ea_cons ev_c (ea_cons (ev_var rfl) ea_nil)) (by omega) (fun i σ' H' => ∃ y6 y7 y8, σ' = [some (.ref d), some (.int m), some (.int n), some (.int kd), some (.ref pl), some (.ref pt), y6, y7, y8] ∧
        NS H d pl pt ln n.toNat kd (k + 100 + 50 * i) (i + 1) 0 H') (fun H1 e1 => ⟨none, none, none, rfl, by simpa using N0.on e1⟩) ?_ ?_
    · rintro i σ' H' hi ⟨y6, y7, y8, rfl, ts, k', h1, h2, h3, h4, h5, h6, h7⟩
      refine ⟨_, rfl, d, k', rfl, h4, ⟨h5.1, by omega⟩, fun r H1 r0 er hdr => .inl ⟨r, rfl, ?_⟩⟩
      have N1 := NS.draw (kd := kd) h1 h2 h3 h4 h5 h6 h7 er hdr nld
      clear h1 h2 h3 h4 h5 h6 h7 er hdr H'
      show tCut _ _ _ [some (V.ref d), some (V.int m), some (V.int n), some (V.int kd), some (V.ref pl), some (V.ref pt), some (V.int (1 + (i : Int))), some (V.int r), y8] H1
      generalize hS : ([some (V.ref d), some (V.int m), some (V.int n), some (V.int kd), some (V.ref pl), some (V.ref pt), some (V.int (1 + (i : Int))), some (V.int r), y8] : L2.St) = S
      have hi2 : i + 1 < n.toNat := by omega
      have at1 : ∀ H', H' pl = some (.lst (ln.map V.int)) → Ev (tOp (rIxL K) (tVar 4) (tVar 6)) S H' (.int (at0 ln (i + 1))) := fun H' h => by
        subst hS
        refine ev_op (ev_var rfl) (ev_var rfl) (rv_ixL (.inl (.inl h)) ?_)
        have z := atI_int (l := ln) (i := 1 + (i : Int)) (by omega) (by omega)
        rwa [show (1 + (i : Int)).toNat = i + 1 by omega] at z
      -- if kind in [1, 4]
      have NSpl : ∀ {kmax a o H'}, NS H d pl pt ln n.toNat kd kmax a o H' → H' pl = some (.lst (ln.map V.int)) := fun ⟨_, _, _, h, _⟩ => h
      refine q_cut (M := fun σ' H' => σ' = S ∧ NS H d pl pt ln n.toNat kd (k + 100 + 50 * ↑i + 1) (i + 1) (if kd = 1 ∨ kd = 4 then i + 1 else 0) H') ?_ ?_
      · have tst : EvT (tTest (tOp (rIn K false) (tVar 3) (tLst (tCons (tC (V.int 1)) (tCons (tC (V.int 4)) tNil))))) S H1 (decide (kd = 1) || decide (kd = 4)) := by
          rw [← in14 kd]
          subst hS
          exact et_test (ev_opL (ev_var rfl) (el_lst (ea_cons ev_c (ea_cons ev_c ea_nil)) (by decide)) fun p H' hp _ => rv_isL (.inl (.inl hp)) rfl rfl)
        refine s_if (D := { nx := fun σ' H' => σ' = S ∧ NS H d pl pt ln n.toNat kd (k + 100 + 50 * ↑i + 1) (i + 1) (if kd = 1 ∨ kd = 4 then i + 1 else 0) H' , rt := _, ct := _, bk := _ }) tst (fun c H' e => ?_) fun c H' e => ?_
        · have c : kd = 1 ∨ kd = 4 := by simpa using c
          rw [if_pos c]
          have N2 := N1.on e
          obtain ⟨as, a1, a2, a3⟩ := N2.push (i := i) L hi2 (by omega) (by omega) (.inl rfl) (fun _ => rfl) hpt nlt ndt (by omega)
          subst hS
          refine s_appL a1 (ev_var rfl) (el_lst (ea_cons (ev_op (ev_var rfl) (ev_op (ev_var rfl) ev_c rv_I0) (rv_ixL (.inl (.inl (NSpl N2))) (v := .int (at0 ln i)) ?_)) (ea_cons (at1 _ (NSpl N2)) ea_nil)) (by show 2 ≤ 100000; decide)) (by rw [List.length_map]; omega) fun p H2 np e2 hp => ⟨rfl, a3 p H2 np e2 hp⟩
          have z := atI_int (l := ln) (i := 1 + (i : Int) - 1) (by omega) (by omega)
          rwa [show (1 + (i : Int) - 1).toNat = i by omega] at z
        · have c : ¬ (kd = 1 ∨ kd = 4) := by simpa using c
          rw [if_neg c]
          exact ⟨rfl, N1.on e⟩
      rintro _ H' ⟨hS', N2⟩
      rw [hS']
      clear hS'
      -- if kind == 2 or (kind == 3 and pick // 64 % 3 > 0)
      refine q_cut (M := fun σ' H' => σ' = S ∧ NS H d pl pt ln n.toNat kd (k + 100 + 50 * ↑i + 1) (i + 1) (if kd = 5 then 0 else i + 1) H') ?_ ?_
      · have tst : EvT (tOr (tTest (tOp rEq (tVar 3) (tC (V.int 2)))) (tAnd (tTest (tOp rEq (tVar 3) (tC (V.int 3)))) (tTest (tOp (rI0 fun i j => V.bl (decide (j < i)))
              (tOp (rI (fun x j => j ≠ 0) fun i j => V.int (i.fmod j)) (tOp (rI CDivN fun i j => V.int (i.fdiv j)) (tVar 7) (tC (V.int 64))) (tC (V.int 3))) (tC (V.int 0)))))) S H' (decide (V.int kd = V.int 2) || (decide (V.int kd = V.int 3) && decide (0 < (r.fdiv 64).fmod 3))) := by
          subst hS
          exact et_or (et_test (ev_op (ev_var rfl) ev_c (rv_eq rfl))) fun _ => et_and (et_test (ev_op (ev_var rfl) ev_c (rv_eq rfl))) fun _ => et_test (ev_op (ev_op (ev_op (ev_var rfl) ev_c (rv_I ⟨by decide, by decide⟩)) ev_c (rv_I (by decide))) ev_c rv_I0)
        refine s_if (D := { nx := fun σ' H' => σ' = S ∧ NS H d pl pt ln n.toNat kd (k + 100 + 50 * ↑i + 1) (i + 1) (if kd = 5 then 0 else i + 1) H', rt := _, ct := _, bk := _ }) tst (fun c H1 e => ?_) fun c H1 e => ?_
        · rw [dec_vi, dec_vi] at c
          have c : kd = 2 ∨ kd = 3 := by
            rcases Bool.or_eq_true_iff.mp c with c | c
            · exact .inl (of_decide_eq_true c)
            · exact .inr (of_decide_eq_true (Bool.and_eq_true_iff.mp c).1)
          rw [if_neg (by omega)]
          rw [if_neg (by omega)] at N2
          have N3 := N2.on e
          have fr := fmod_at (i := r) (j := 1 + (i : Int)) (by omega)
          obtain ⟨j, hj⟩ : ∃ j : Nat, r.fmod (1 + (i : Int)) = j := ⟨(r.fmod (1 + (i : Int))).toNat, by omega⟩
          obtain ⟨as, a1, a2, a3⟩ := N3.push (i := j) L hi2 (by omega) (Nat.zero_le _) (.inr rfl) (fun z => by omega) hpt nlt ndt (by omega)
          subst hS
          refine s_appL a1 (ev_var rfl) (el_lst (ea_cons (at1 _ (NSpl N3)) (ea_cons (ev_op (ev_var rfl) (ev_op (ev_var rfl) (ev_var rfl) (rv_I (by show 1 + (i : Int) ≠ 0; omega))) (rv_ixL (.inl (.inl (NSpl N3))) (v := .int (at0 ln j)) ?_)) ea_nil)) (by show 2 ≤ 100000; decide)) (by rw [List.length_map]; omega) fun p H2 np e2 hp => ⟨rfl, (a3 p H2 np e2 hp).mono (by omega) (Int.le_refl _)⟩
          have z := atI_int (l := ln) (i := r.fmod (1 + (i : Int))) (by omega) (by omega)
          rw [hj] at z ⊢
          exact z
        · refine ⟨rfl, (N2.on e).mono ?_ (Int.le_refl _)⟩
          by_cases c5 : kd = 5
          · rw [if_neg (by omega), if_pos c5]
            exact Nat.le_refl _
          · rw [if_neg c5]
            split
            · exact Nat.le_refl _
            · exact Nat.zero_le _
      rintro _ H' ⟨hS', N3⟩
      rw [hS']
      clear hS'
      -- for other in line[:at]
      subst hS
      refine s_forNL (el_sl (ev_var rfl) eo_none (eo_some (ev_var rfl)) (.inl (.inl (NSpl N3)))) (fun p j σ' H' => (∃ y8, σ' = [some (.ref d), some (.int m), some (.int n), some (.int kd), some (.ref pl), some (.ref pt), some (.int (1 + (i : Int))), some (.int r), y8]) ∧
          p ≠ d ∧ p ≠ pt ∧ H' p = some (.lst (cutV (ln.map V.int) none (some (1 + (i : Int))))) ∧ NS H d pl pt ln n.toNat kd (k + 100 + 50 * ↑i + 1 + j) (i + 1) (if kd = 5 then j else i + 1) H') ?_ ?_ ?_ ?_
      · intro p H1 np e1 hp
        obtain ⟨_, _, ⟨_, z, _⟩, _, _, ⟨_, _, z2⟩, _⟩ := id N3
        refine ⟨⟨_, rfl⟩, fun c => ?_, fun c => ?_, hp, ?_⟩
        · rw [← c, np] at z2
          cases z2
        · rw [← c, np] at z
          cases z
        · exact (N3.on e1).mono (by split <;> omega) (by omega)
      · rintro p j σ' H1 _ ⟨_, _, _, h, _⟩
        exact .inl (.inl h)
      · rintro p j x σ' H1 hx ⟨⟨y, rfl⟩, npd, nppt, hp, N4⟩
        rw [show (1 + (i : Int)) = ((i + 1 : Nat) : Int) by omega, cut_to] at hx
        have hj : j < i + 1 := by
          have z := (List.getElem?_eq_some_iff.mp hx).1
          rw [List.length_take] at z
          omega
        rw [List.getElem?_take_of_lt hj, List.getElem?_map, Option.map_eq_some_iff] at hx
        obtain ⟨o, ho, rfl⟩ := hx
        have eo : o = at0 ln j := by
          unfold at0
          rw [List.getD_eq_getElem?_getD, ho]
          rfl
        subst eo
        refine ⟨_, rfl, rfl, _, rfl, ?_⟩
        rw [dec_vi]
        by_cases c : kd = 5
        · rw [decide_eq_true c]
          rw [if_pos c] at N4
          refine iteT ?_
          obtain ⟨ts, k', h1, h2, h3, h4, h5, h6, h7⟩ := N4
          refine ⟨_, rfl, d, k', rfl, h4, ⟨h5.1, by omega⟩, fun r2 H2 r0 er hdr => .inl ⟨r2, rfl, _, _, rfl, rfl, (by show (4 : Int) ≠ 0; decide), rfl, _, rfl, ?_⟩⟩
          have N5 := NS.draw (kd := kd) h1 h2 h3 h4 h5 h6 h7 er hdr nld
          have hp2 := er _ _ npd hp
          clear h1 h2 h3 h4 h5 h6 h7 er hdr hp
          rw [dec_vi]
          by_cases c4 : r2.fmod 4 = 0
          · rw [decide_eq_true c4]
            refine iteT ?_
            obtain ⟨as, a1, a2, a3⟩ := N5.push (i := j) L hi2 (by omega) (Nat.le_refl _) (.inr rfl) (fun z => by omega) hpt nlt ndt (by omega)
            refine s_appL a1 (ev_var rfl) (el_lst (ea_cons (ev_op (ev_var rfl) (ev_var rfl) (rv_ixL (.inl (.inl (NSpl N5))) (v := .int (at0 ln (i + 1))) ?_)) (ea_cons (ev_var rfl) ea_nil)) (by show 2 ≤ 100000; decide)) (by rw [List.length_map]; omega) fun p2 H3 np e2 hp3 => ⟨⟨_, rfl⟩, npd, nppt, ?_, ?_⟩
            · have z := atI_int (l := ln) (i := 1 + (i : Int)) (by omega) (by omega)
              rwa [show (1 + (i : Int)).toNat = i + 1 by omega] at z
            · rw [upd_ne nppt]
              exact e2 _ _ hp2
            · rw [if_pos c]
              exact (a3 p2 H3 np e2 hp3).mono (Nat.le_refl _) (by omega)
          · rw [decide_eq_false c4]
            refine iteF ⟨⟨_, rfl⟩, npd, nppt, hp2, ?_⟩
            rw [if_pos c]
            exact N5.mono (by omega) (by omega)
        · rw [decide_eq_false c]
          refine iteF ⟨⟨_, rfl⟩, npd, nppt, hp, ?_⟩
          rw [if_neg c] at N4 ⊢
          exact N4.mono (Nat.le_refl _) (by omega)
      · rintro p σ' H1 ⟨⟨y, rfl⟩, _, _, _, N4⟩
        have cl : (cutV (ln.map V.int) none (some (1 + (i : Int)))).length = i + 1 := by
          rw [show (1 + (i : Int)) = ((i + 1 : Nat) : Int) by omega, cut_to, List.length_take, List.length_map]
          omega
        rw [cl] at N4
        refine ⟨_, _, _, rfl, ?_⟩
        have N5 : NS H d pl pt ln n.toNat kd (k + 100 + 50 * ↑i + 1 + ((i + 1 : Nat) : Int)) (i + 1) (i + 1) H1 := by
          by_cases c : kd = 5
          · rw [if_pos c] at N4
            exact N4
          · rw [if_neg c] at N4
            exact N4
        exact (N5.next (by omega)).mono (Nat.le_refl _) (by omega)
    · rintro σ' H' ⟨y6, y7, y8, rfl, N6⟩
      rw [show (n - 1).toNat + 1 = n.toNat by omega] at N6
      obtain ⟨ts, k', h1, h2, h3, h4, h5, h6, h7⟩ := N6
      refine q_cut (M := fun σ' H' => σ' = [some (.ref d), some (.int m), some (.int n), some (.int kd), some (.ref pl), some (.ref pt), y6, y7, y8] ∧ ∃ ts k', TM H' pt ts ∧ ExA d H H' ∧ Dr H' d k' ∧ (0 ≤ k' ∧ k' ≤ k + 5000) ∧ NetOk n ts) ?_ ?_
      · refine ⟨_, rfl, rfl, _, rfl, ?_⟩
        rw [dec_vi]
        have en : ((n.toNat : Nat) : Int) = n := by omega
        by_cases c : kd = 4
        · rw [decide_eq_true c]
          refine iteT ?_
          have N := Good.ring L h6 (by omega) (by omega) (h7 c)
          rw [en] at N
          obtain ⟨as, a1, a2, a3⟩ := h1.push2 (at0 ln 0) (at0 ln (n.toNat - 1))
          have few := h6.few
          have y1 : n.toNat * (n.toNat - 1) ≤ 40 * 40 := Nat.mul_le_mul (by omega) (by omega)
          obtain ⟨xx, bb, hdr⟩ := h4
          refine s_appL a1 (ev_var rfl) (el_lst (ea_cons (ev_op (ev_var rfl) ev_c (rv_ixL (.inl (.inl h2)) (v := .int (at0 ln 0)) ?_)) (ea_cons (ev_op (ev_var rfl) (ev_un (z := .int (-1)) ev_c fun H1 e Q q => ⟨1, rfl, q H1 (Ex.refl H1)⟩) (rv_ixL (.inl (.inl h2)) (v := .int (at0 ln (n.toNat - 1))) ?_)) ea_nil)) (by show 2 ≤ 100000; decide)) (by rw [List.length_map]; omega) fun p H2 np e2 hp => ⟨rfl, _, k', a3 p H2 np e2 hp, (h3.trans (ExA.of e2)).mut hpt, ⟨xx, bb, ?_⟩, ⟨h5.1, by omega⟩, N⟩
          · exact atI_int (l := ln) (i := 0) (by omega) (by omega)
          · have hg : ln[n.toNat - 1]? = some (at0 ln (n.toNat - 1)) := by
              unfold at0
              rw [List.getD_eq_getElem?_getD, List.getElem?_eq_getElem (by omega : n.toNat - 1 < ln.length)]
              rfl
            have hz := take_snoc hg
            rw [show n.toNat - 1 + 1 = n.toNat by omega, List.take_of_length_le (by omega)] at hz
            have z := atI_last ((ln.take (n.toNat - 1)).map V.int) (.int (at0 ln (n.toNat - 1)))
            have z2 : ln.map V.int = (ln.take (n.toNat - 1)).map V.int ++ [.int (at0 ln (n.toNat - 1))] := by
              rw [← List.map_singleton, ← List.map_append, ← hz]
            rw [z2]
            exact z
          · rw [upd_ne ndt]
            exact e2 _ _ hdr
        · rw [decide_eq_false c]
          refine iteF ⟨rfl, ts, k', h1, h3, h4, ⟨h5.1, by omega⟩, ?_⟩
          have N := Good.net (o := 0) L h6 (by omega) (by omega)
          rwa [en] at N
      rintro _ H' ⟨hS', ts, k', h1, h3, h4, h5, N⟩
      rw [hS']
      refine s_retU (eu_tup (ea_cons (ev_var rfl) (ea_cons (ev_var rfl) ea_nil)) (by show 2 ≤ 100000; decide)) fun p H2 np e2 hp => ?_
      have npH : H p = none := by
        cases hq : H p with
        | none => rfl
        | some o =>
          have nd : p ≠ d := fun z => by
            obtain ⟨x, b, hx⟩ := h4
            rw [z, hx] at np
            cases np
          have z := h3 _ _ nd hq
          rw [np] at z
          cases z
      exact q n ts pt p k' H2 N npH (h3.trans (ExA.of e2)) (h4.on e2) h5 (h1.on e2) hp
end
end K01

namespace K01
open PySem PySem.Spec PyProof.Rows L2 Vf Evl
theorem srt_ext : ∀ {xs ys : List Int}, xs.Pairwise (· < ·) → ys.Pairwise (· < ·) → (∀ k, k ∈ xs ↔ k ∈ ys) → xs = ys
  | [], [], _, _, _ => rfl
  | [], y :: ys, _, _, h => absurd ((h y).mpr List.mem_cons_self) (by simp)
  | x :: xs, [], _, _, h => absurd ((h x).mp List.mem_cons_self) (by simp)
  | x :: xs, y :: ys, hx, hy, h => by
    have hx' := List.pairwise_cons.mp hx
    have hy' := List.pairwise_cons.mp hy
    have e : x = y := by
      rcases List.mem_cons.mp ((h x).mp List.mem_cons_self) with a | a
      · exact a
      · rcases List.mem_cons.mp ((h y).mpr List.mem_cons_self) with b | b
        · exact b.symm
        · have := hx'.1 y b
          have := hy'.1 x a
          omega
    subst e
    rw [srt_ext hx'.2 hy'.2 fun k => ?_]
    constructor
    · intro hk
      have := hx'.1 k hk
      rcases List.mem_cons.mp ((h k).mp (List.mem_cons_of_mem _ hk)) with b | b
      · omega
      · exact b
    · intro hk
      have := hy'.1 k hk
      rcases List.mem_cons.mp ((h k).mpr (List.mem_cons_of_mem _ hk)) with b | b
      · omega
      · exact b
/-- each seat is told by the least of its part, and that one by itself -/
structure MInv (n : Nat) (l : List Int) : Prop where
  len : l.length = n + 1
  at_ : ∀ i : Nat, 1 ≤ i → i ≤ n → 1 ≤ l.getD i 0 ∧ l.getD i 0 ≤ (n : Int) ∧ l.getD (l.getD i 0).toNat 0 = l.getD i 0
theorem startM_at {n i : Nat} (h : i ≤ n) : (startM n).getD i 0 = (i : Int) := by
  unfold startM
  rw [List.getD_eq_getElem?_getD, List.getElem?_map, List.getElem?_range (by omega)]
  rfl
theorem MInv.start (n : Nat) : MInv n (startM n) := by
  refine ⟨by simp [startM], fun i h1 h2 => ?_⟩
  rw [startM_at h2, Int.toNat_natCast, startM_at h2]
  omega
theorem merge_at {k : Int × Int} {l : List Int} {i : Nat} (h : i < l.length) : (merge k l).getD i 0 = if l.getD i 0 = k.2 then k.1 else l.getD i 0 := by
  unfold merge
  simp only [List.getD_eq_getElem?_getD, List.getElem?_map, List.getElem?_eq_getElem h]
  rfl
theorem MInv.step {n : Nat} {l : List Int} {t : Int × Int} (I : MInv n l) (h1 : 1 ≤ t.1 ∧ t.1 ≤ (n : Int)) (h2 : 1 ≤ t.2 ∧ t.2 ≤ (n : Int)) : MInv n (stepM l t) := by
  have a1 := I.at_ t.1.toNat (by omega) (by omega)
  have a2 := I.at_ t.2.toNat (by omega) (by omega)
  have len := I.len
  unfold stepM
  generalize hk : nrm (l.getD t.1.toNat 0, l.getD t.2.toNat 0) = k
  have k1 : 1 ≤ k.1 ∧ k.1 ≤ (n : Int) ∧ l.getD k.1.toNat 0 = k.1 := by
    rw [← hk]
    unfold nrm
    split
    · exact a1
    · exact a2
  clear hk a1 a2
  refine ⟨by unfold merge; rw [List.length_map]; exact len, fun i i1 i2 => ?_⟩
  obtain ⟨b1, b2, b3⟩ := I.at_ i i1 i2
  rw [merge_at (by omega : i < l.length)]
  by_cases c : l.getD i 0 = k.2
  · rw [if_pos c]
    refine ⟨k1.1, k1.2.1, ?_⟩
    rw [merge_at (by omega), k1.2.2]
    split <;> rfl
  · rw [if_neg c]
    refine ⟨b1, b2, ?_⟩
    rw [merge_at (by omega), b3, if_neg c]
theorem MInv.fold {n : Nat} : ∀ (ts : List (Int × Int)) {l : List Int}, MInv n l → (∀ t ∈ ts, (1 ≤ t.1 ∧ t.1 ≤ (n : Int)) ∧ (1 ≤ t.2 ∧ t.2 ≤ (n : Int))) → MInv n (ts.foldl stepM l)
  | [], _, I, _ => I
  | t :: ts, _, I, h => by
    rw [List.foldl_cons]
    exact MInv.fold ts (I.step (h t List.mem_cons_self).1 (h t List.mem_cons_self).2) fun u hu => h u (List.mem_cons_of_mem _ hu)
theorem markF_inv {n : Int} {ts : List (Int × Int)} (N : NetOk n ts) : MInv n.toNat (markF n.toNat ts) := by
  have n1 := N.lo
  exact MInv.fold ts (MInv.start _) fun t ht => by have := N.ok t ht; omega
theorem firstsF_mem {n : Nat} {l : List Int} {k : Int} (I : MInv n l) : k ∈ firstsF n l ↔ k ∈ l.drop 1 := by
  have len := I.len
  unfold firstsF
  simp only [List.mem_map, List.mem_filter, List.mem_range, decide_eq_true_eq]
  constructor
  · rintro ⟨i, ⟨hi, e⟩, rfl⟩
    have e2 : (l.drop 1)[i]? = some (1 + (i : Int)) := by
      rw [List.getElem?_drop]
      rw [List.getD_eq_getElem?_getD, show (1 + (i : Int)).toNat = 1 + i by omega, List.getElem?_eq_getElem (by omega)] at e
      rw [List.getElem?_eq_getElem (by omega)]
      exact congrArg some e
    exact List.mem_of_getElem? e2
  · intro hk
    obtain ⟨i, hi, e⟩ := List.getElem_of_mem hk
    rw [List.length_drop] at hi
    rw [List.getElem_drop] at e
    have z := I.at_ (1 + i) (by omega) (by omega)
    have e2 : l.getD (1 + i) 0 = k := by
      rw [List.getD_eq_getElem?_getD, List.getElem?_eq_getElem (by omega)]
      exact e
    rw [e2] at z
    refine ⟨k.toNat - 1, ⟨by omega, ?_⟩, by omega⟩
    rw [show (1 + ((k.toNat - 1 : Nat) : Int)).toNat = k.toNat by omega, z.2.2]
    omega
theorem firstsF_srt (n : Nat) (l : List Int) : (firstsF n l).Pairwise (· < ·) := by
  unfold firstsF
  refine List.Pairwise.map _ (fun a b hab => ?_) (List.Pairwise.filter _ List.pairwise_lt_range)
  omega
theorem cut_from1 (xs : List V) (h : 1 ≤ xs.length) : cutV xs (some 1) none = xs.drop 1 := by
  unfold cutV
  rw [HT.sIx_none, show ((1 : Int)) = ((1 : Nat) : Int) from rfl, HT.sIx_nat, Nat.min_eq_left h, List.take_of_length_le (by rw [List.length_drop]; exact Nat.le_refl _)]
/-- rows over a new list -/
theorem ell_lcNL {K : PySem.W.Frag} {σ : L2.St} {H : Hp} {te : TE} {t : TT} {xs : List V} {tl : TE} {j : Nat} {vs : List Nat} (f : Nat → Bool) (L : Nat → List V) (h : EvL tl σ H xs) (hz : xs.length ≤ 40000) (hw : ∀ x, wipe ((wipe σ vs).set j (some x)) vs = wipe σ vs)
    (ht : ∀ (i : Nat) (x : V) H1, Ex H H1 → xs[i]? = some x → EvT t ((wipe σ vs).set j (some x)) H1 (f i)) (he : ∀ (i : Nat) (x : V) H1, Ex H H1 → xs[i]? = some x → f i = true → EvL te ((wipe σ vs).set j (some x)) H1 (L i)) :
    EvLL (tLc (iList K tl) (gName j) t te vs) σ H (((List.range xs.length).filter f).map L) := by
  intro H0 e Q q
  refine h H0 e _ fun a H1 na e1 hx => ⟨a, rfl, ⟨xs, .inl (.inl hx)⟩, fun Dl hD => ?_⟩
  refine lc_list (xs := xs) (Rw H1 f L Dl) ⟨hD, Ex.new hD, [], upd_same, rfl, (by simp), (fun i p l x => by simp at x)⟩ (fun i H' _ p => .inl (.inl (p.2.1 _ _ hx))) (fun i x H' hi p => ⟨hw x, ?_⟩)
    fun H' p => q Dl H' (fresh_back e1 p.1) (e1.trans p.2.1) (p.2.2.back e1)
  have hlt := (List.getElem?_eq_some_iff.mp hi).1
  exact rw_turn p (by omega) (ht i x H1 (e.trans e1) hi) fun hf => he i x H1 (e.trans e1) hi hf
section
variable {P : Program} {w : World} {K : PySem.W.Frag} {mg : Str → Option Value} {base : Heap} {A : Ad}
def sp_l_parts (K : PySem.W.Frag) : Sp := fun vs H Q _ => ∃ (a : Addr) (ts : List (Int × Int)) (n : Int), vs = [.int n, .ref a] ∧ TiesAt K H a ts ∧ NetOk n ts ∧ RetLL (LLI (partsF n.toNat ts)) H Q
theorem ok_l_parts (T : Txt K mg A) : FnOk P w K mg base CX0 1 A.f_l_parts A.d_l_parts ["_law_seats", "_law_ties"] (sp_l_parts K) := by
  refine T.F_l_parts.ok sc_l_parts (fun vs H Q E h => ?_) (fun cdv A' outer s H vs Q E hr h => ?_)
  · obtain ⟨a, ts, n, rfl, _⟩ := h
    rfl
  · obtain ⟨a, ts, n, rfl, hT, N, q⟩ := h
    obtain ⟨as, hS, hlen, hat⟩ := hT
    have n1 := N.lo
    have n2 := N.hi
    refine ⟨_, (pss_cons (ps_set (i := 2) sc_l_parts.nd rfl (by first | exact .inl rfl | exact .inr rfl) (pe_listRg rfl (by rfl) T.z_list (prg_1 (by rfl) T.z_range (pe_op op_add (pv 0) pe_int))))
      (pss_cons (ps_for PassesOwn.never rfl (pi_listK (K := K) rfl (pv 1)) (pg_unlK (K := K) rfl rfl (pgs_cons (pg_name (i := 3) sc_l_parts.nd rfl (by first | exact .inl rfl | exact .inr rfl)) (pgs_cons (pg_name (i := 4) sc_l_parts.nd rfl (by first | exact .inl rfl | exact .inr rfl)) pgs_nil))) (pss_cons (ps_asg (pe_tup (pa_cons (pe_callB (call_min2 rfl) (by rfl) T.z_min (by decide +kernel) (pa_cons (pe_ix (ix_listK (K := K) rfl) (pv 2) (pv 3) (fun _ _ => rfl)) (pa_cons (pe_ix (ix_listK (K := K) rfl) (pv 2) (pv 4) (fun _ _ => rfl)) pa_nil))) (pa_cons (pe_callB (call_max2 rfl) (by rfl) T.z_max (by decide +kernel) (pa_cons (pe_ix (ix_listK (K := K) rfl) (pv 2) (pv 3) (fun _ _ => rfl)) (pa_cons (pe_ix (ix_listK (K := K) rfl) (pv 2) (pv 4) (fun _ _ => rfl)) pa_nil))) pa_nil))) (pg_tupK (K := K) rfl rfl (pgs_cons (pg_name (i := 5) sc_l_parts.nd rfl (by first | exact .inl rfl | exact .inr rfl)) (pgs_cons (pg_name (i := 6) sc_l_parts.nd rfl (by first | exact .inl rfl | exact .inr rfl)) pgs_nil))))
      (pss_one (ps_set (i := 2) sc_l_parts.nd rfl (by first | exact .inl rfl | exact .inr rfl) (pe_lc (own := [("_law_each", 7)]) rfl sc_l_parts.nd (pi_listK (K := K) rfl (pv 2)) (blkOk_by (by kernel_rfl)) (fun _ _ _ _ _ => (pg_name (i := 7) sc_l_parts.nd rfl (by first | exact .inl rfl | exact .inr rfl))) (fun _ _ _ _ _ => pts_nil) (fun _ _ _ _ _ => (pe_ifExp (pt_cmpR op_eq (pv 7) (pv 6) (nomark _)) (pv 5) (pv 7))))))))
      (pss_one (ps_ret (pe_lc (own := [("_law_least", 8)]) rfl sc_l_parts.nd (pi_listK (K := K) rfl (pe_callB (cr_sortedSet rfl) (by rfl) T.z_sorted (by decide +kernel) (pa_cons (pe_callTy (cr_setOfI rfl) (by rfl) T.z_set (by decide +kernel) (pa_cons (pe_slice (sl_listK (K := K) rfl) (pv 2) (po_some pe_int) po_none) pa_nil)) pa_nil))) (blkOk_by (by kernel_rfl)) (fun _ _ _ _ _ => (pg_name (i := 8) sc_l_parts.nd rfl (by first | exact .inl rfl | exact .inr rfl))) (fun _ _ _ _ _ => pts_nil) (fun _ _ _ _ _ => (pe_lc (own := [("_law_seat", 9)]) rfl sc_l_parts.nd (pi_range2 (by rfl) T.z_range (pa_cons pe_int (pa_cons (pe_op op_add (pv 0) pe_int) pa_nil))) (blkOk_by (by kernel_rfl)) (fun _ _ _ _ _ => (pg_name (i := 9) sc_l_parts.nd rfl (by first | exact .inl rfl | exact .inr rfl))) (fun _ _ _ _ _ => (pts_one (pt_cmpR op_eq (pe_ix (ix_listK (K := K) rfl) (pv 2) (pv 9) (fun _ _ => rfl)) (pv 8) (nomark _)))) (fun _ _ _ _ _ => (pv 9))))))))), ?_⟩
    refine ⟨_, rfl, n, 1, rfl, rfl, _, rfl, ⟨by decide, by decide, by omega, by omega, by omega⟩, fun p np => ?_⟩
    rw [rgV_start (by omega)]
    have e0 : Ex H (upd H p (.lst ((startM n.toNat).map V.int))) := Ex.new np
    refine ⟨.ref a, rfl, a, rfl, ⟨_, ex_l e0 hS⟩, ?_⟩
    refine for_list (xs := as.map V.ref) (fun i σ' H' => Ex H H' ∧ ∃ p, H p = none ∧ ∃ y3 y4 y5 y6, σ' = [some (.int n), some (.ref a), some (.ref p), y3, y4, y5, y6, none, none, none] ∧
        H' p = some (.lst ((markF n.toNat (ts.take i)).map V.int)))
      ⟨e0, p, np, none, none, none, none, rfl, upd_same⟩ (fun i σ' H' _ z => ex_l z.1 hS) ?_ ?_
    · rintro i x σ' H' hx ⟨e1, p, fp, y3, y4, y5, y6, rfl, hp⟩
      obtain ⟨b, hb, rfl⟩ := map_at hx
      have hi : i < ts.length := by rw [← hlen]; exact (List.getElem?_eq_some_iff.mp hb).1
      obtain ⟨t, ht⟩ : ∃ t, ts[i]? = some t := ⟨_, List.getElem?_eq_getElem hi⟩
      have tok := N.ok t (List.mem_of_getElem? ht)
      have hl := markF_len n.toNat (ts.take i)
      generalize hm : markF n.toNat (ts.take i) = l at hp hl
      -- one, two = tie
      refine ⟨b, _, rfl, ex_l e1 (hat i b t hb ht), rfl, _, _, rfl, _, _, rfl, rfl, ?_⟩
      -- low, high = (min(..), max(..))
      refine ⟨_, rfl, _, rfl, p, _, t.1, _, rfl, rfl, .inl (.inl hp), atI_int (by omega) (by omega), _, rfl, _, rfl, p, _, t.2, _, rfl, rfl, .inl (.inl hp), atI_int (by omega) (by omega), _, _, rfl,
        _, rfl, _, rfl, p, _, t.1, _, rfl, rfl, .inl (.inl hp), atI_int (by omega) (by omega), _, rfl, _, rfl, p, _, t.2, _, rfl, rfl, .inl (.inl hp), atI_int (by omega) (by omega), _, _, rfl, (by show 2 ≤ sizeLine; decide), fun p3 np3 => ?_⟩
      have z1 : (if l.getD t.2.toNat 0 < l.getD t.1.toNat 0 then l.getD t.2.toNat 0 else l.getD t.1.toNat 0) = (nrm (l.getD t.1.toNat 0, l.getD t.2.toNat 0)).1 := by
        unfold nrm
        by_cases c : l.getD t.1.toNat 0 ≤ l.getD t.2.toNat 0
        · rw [if_pos c, if_neg (by omega)]
        · rw [if_neg c, if_pos (by omega)]
      have z2 : (if l.getD t.2.toNat 0 > l.getD t.1.toNat 0 then l.getD t.2.toNat 0 else l.getD t.1.toNat 0) = (nrm (l.getD t.1.toNat 0, l.getD t.2.toNat 0)).2 := by
        unfold nrm
        by_cases c : l.getD t.1.toNat 0 ≤ l.getD t.2.toNat 0
        · rw [if_pos c]
          show _ = l.getD t.2.toNat 0
          split <;> omega
        · rw [if_neg c, if_neg (by omega)]
      rw [z1, z2]
      generalize hk : nrm (l.getD t.1.toNat 0, l.getD t.2.toNat 0) = k
      have e3 : Ex H' (upd H' p3 (.tup [.int k.1, .int k.2])) := Ex.new np3
      refine ⟨p3, _, rfl, .inl (.inl upd_same), rfl, _, _, rfl, _, _, rfl, rfl, ?_⟩
      generalize upd H' p3 (.tup [.int k.1, .int k.2]) = H3 at e3
      have hp3 : SqL K H3 p (l.map V.int) := .inl (.inl (e3 _ _ hp))
      refine s_asgL (el_lcL (K := K) (f := fun _ => true) (v := fun i => V.int ((fun s => if s = k.2 then k.1 else s) (l.getD i 0))) (ev_var rfl) hp3 (by rw [List.length_map]; omega) (fun x => rfl) (fun i x H4 e4 hx => et_yes) (fun i x H4 e4 hx _ => ?_)) fun q4 H4 nq4 e4 hq4 => ?_
      · obtain ⟨v, hv, rfl⟩ := map_at hx
        have ev : l.getD i 0 = v := by rw [List.getD_eq_getElem?_getD, hv]; rfl
        rw [ev]
        refine ev_if (et_test (ev_op (ev_var rfl) (ev_var rfl) (rv_eq rfl))) (fun c => ?_) (fun c => ?_)
        · have c := V.int.inj (of_decide_eq_true c)
          show Ev _ _ _ (V.int (if v = k.2 then k.1 else v))
          rw [if_pos c]
          exact ev_var rfl
        · have c : ¬ v = k.2 := fun z => of_decide_eq_false c (congrArg V.int z)
          show Ev _ _ _ (V.int (if v = k.2 then k.1 else v))
          rw [if_neg c]
          exact ev_var rfl
      · have hq5 : H4 q4 = some (.lst ((l.map fun s => if s = k.2 then k.1 else s).map V.int)) := hq4.trans (congrArg (fun z => some (HO.lst z)) (given_map l fun s => if s = k.2 then k.1 else s))
        refine ⟨(e1.trans e3).trans e4, q4, fresh_back (e1.trans e3) nq4, _, _, _, _, rfl, ?_⟩
        rw [markF_more ht, hm]
        unfold stepM merge
        rw [hk]
        exact hq5
    · rintro σ' H' ⟨e1, p, fp, y3, y4, y5, y6, rfl, hp⟩
      rw [List.length_map, hlen, List.take_length] at hp
      have I := markF_inv N
      have qq := q
      generalize hm : markF n.toNat ts = l at hp I
      have hl := I.len
      have at_ : ∀ H1, Ex H' H1 → ∀ i : Int, 0 ≤ i → i ≤ n → RV (rIxL K) (.ref p) (.int i) H1 (.int (l.getD i.toNat 0)) := fun H1 e' i h0 h1 =>
        rv_ixL (.inl (.inl (e' _ _ hp))) (atI_int h0 (by omega))
      have dl : (l.drop 1).length = n.toNat := by rw [List.length_drop]; omega
      have lead : EvL (tCB (rSortedSet w) (tCons (tCB (rSetOfI K w) (tCons (tSl (rSlL K) (tVar 2) (tPart (tC (.int 1))) tNoPart) tNil)) tNil)) [some (.int n), some (.ref a), some (.ref p), y3, y4, y5, y6, none, none, none] H' ((firstsF n.toNat l).map V.int) := by
        intro H1 e2 Q q
        refine el_sl (ev_var rfl) (eo_some ev_c) eo_none (.inl (.inl hp)) H1 e2 _ fun p2 H2 np2 e3 hp2 => ?_
        rw [cut_from1 _ (by rw [List.length_map]; omega), ← List.map_drop] at hp2
        refine ⟨p2, l.drop 1, rfl, .inl (.inl hp2), by omega, fun sa c nsa hc => ⟨sa, _, c, rfl, upd_same, by omega, fun ns p4 pw mem len np4 => ?_⟩⟩
        have e : ns = firstsF n.toNat l := srt_ext pw (firstsF_srt _ _) fun k => by
          rw [firstsF_mem I, mem k]
          exact decide_eq_true_iff
        subst e
        exact q p4 _ (fresh_back (e3.trans (Ex.new nsa)) np4) ((e3.trans (Ex.new nsa)).trans (Ex.new np4)) upd_same
      have fl : (firstsF n.toNat l).length ≤ n.toNat := by
        unfold firstsF
        rw [List.length_map]
        have z := List.length_filter_le (fun (i : Nat) => decide (l.getD (1 + (i : Int)).toNat 0 = 1 + (i : Int))) (List.range n.toNat)
        rwa [List.length_range] at z
      have go := ell_lcNL (K := K) (vs := [8]) (j := 8) (t := tYes) (te := tLc (iRng2 (tCons (tC (.int 1)) (tCons (tOp (rI0 fun i j => .int (i + j)) (tVar 0) (tC (.int 1))) tNil))) (gName 9) (tTest (tOp rEq (tOp (rIxL K) (tVar 2) (tVar 9)) (tVar 8))) (tVar 9) [9])
        (fun _ => true) (fun i => (rowF n.toNat l ((firstsF n.toNat l).getD i 0)).map V.int) lead (by rw [List.length_map]; omega) (fun x => rfl) (fun _ _ _ _ _ => et_yes) (fun i x H4 e4 hx _ => ?_)
      · have e : (((List.range ((firstsF n.toNat l).map V.int).length).filter fun _ => true).map fun i => (rowF n.toNat l ((firstsF n.toNat l).getD i 0)).map V.int) = LLI (partsF n.toNat ts) := by
          unfold partsF
          rw [hm, List.filter_eq_self.mpr (fun _ _ => rfl), List.length_map]
          refine List.ext_getElem? fun i => ?_
          simp only [List.getElem?_map, List.getElem?_range, LLI]
          by_cases h : i < (firstsF n.toNat l).length
          · simp [h, List.getD_eq_getElem?_getD]
          · simp [h]
        rw [e] at go
        exact go H' (Ex.refl H') _ fun D H4 nD e4 h4 => q.go e1 nD e4 h4
      · obtain ⟨v, hv, rfl⟩ := map_at hx
        have ev : (firstsF n.toNat l).getD i 0 = v := by rw [List.getD_eq_getElem?_getD, hv]; rfl
        rw [ev]
        have go := el_lcR2 (H := H4) (σ := (wipe [some (.int n), some (.ref a), some (.ref p), y3, y4, y5, y6, none, none, none] [8]).set 8 (some (.int v))) (j := 9) (vs := [9]) (lo := 1) (n := n + 1)
          (ta := tCons (tC (.int 1)) (tCons (tOp (rI0 fun i j => .int (i + j)) (tVar 0) (tC (.int 1))) tNil)) (t := tTest (tOp rEq (tOp (rIxL K) (tVar 2) (tVar 9)) (tVar 8))) (te := tVar 9)
          (fun j => decide (l.getD (1 + (j : Int)).toNat 0 = v)) (fun j => V.int (1 + (j : Int)))
          (ea_cons ev_c (ea_cons (ev_op (ev_var rfl) ev_c rv_I0) ea_nil)) (by omega) (fun x => rfl) ?_ ?_
        · rw [given_ints, show (n + 1 - 1).toNat = n.toNat by omega] at go
          exact go
        · intro j H5 e5 hj
          rw [← dec_vi]
          exact et_test (ev_op (ev_op (ev_var rfl) (ev_var rfl) (at_ _ (e4.trans e5) _ (by omega) (by omega))) (ev_var rfl) (rv_eq rfl))
        · exact fun j H5 e5 hj _ => ev_var rfl
end
end K01

namespace K01
open PySem PySem.Spec PyProof.Rows L2 Vf Evl
theorem repr_ok {K : PySem.W.Frag} {H : Hp} {a : Addr} {d : PyData} {len dep : Nat} {Q : VK} (hd : Dp K H (.ref a) d) (D : Dn d len dep) (h1 : len ≤ 100000) (h2 : dep ≤ 60) (q : Q (.str d.shown) H) : rRepr K [.ref a] H Q :=
  ⟨a, d, rfl, hd, D.show_, D.dict_, Nat.le_trans D.dep_ h2, sz_of (Nat.le_trans D.len_ h1), q⟩
theorem _root_.Vf.Dn.dpt {d : PyData} {len dep : Nat} (D : Dn d len dep) (h : dep ≤ 60) : d.depth ≤ 60 := Nat.le_trans D.dep_ h
theorem _root_.Vf.Dn.siz {d : PyData} {len dep : Nat} (D : Dn d len dep) (h : len ≤ 100000) : d.shown.length ≤ sizeLine := sz_of (Nat.le_trans D.len_ h)
theorem ll_dp {K : PySem.W.Frag} {H H2 : Hp} {D : Addr} {L : List (List Int)} (h : LLAt H H2 D (LLI L)) : Dp K H2 (.ref D) (dRows L) := by
  obtain ⟨ps, a, b, c, d⟩ := h
  refine dp_rows (.inl (.inl a)) (by rw [b, List.length_map]) fun i p l x y => .inl (.inl (d i p (l.map V.int) x ?_).2)
  rw [List.getElem?_map, y]
  rfl
def dTs (ts : List (Int × Int)) : PyData := dRows (ts.map fun t => [t.1, t.2])
theorem ties_dp {K : PySem.W.Frag} {H : Hp} {a : Addr} {ts : List (Int × Int)} (h : TiesAt K H a ts) : Dp K H (.ref a) (dTs ts) := by
  obtain ⟨as, h1, h2, h3⟩ := h
  refine dp_rows h1 (by rw [h2, List.length_map]) fun i p l x y => ?_
  rw [List.getElem?_map, Option.map_eq_some_iff] at y
  obtain ⟨t, ht, rfl⟩ := y
  exact h3 i p t x ht
theorem ties_dn {n : Int} {ts : List (Int × Int)} (N : NetOk n ts) : Dn (dTs ts) 30000 2 := by
  have hi := N.hi
  have few := N.few
  refine (dn_rows (m := 2) fun l hl => ?_).mono (by rw [List.length_map]; omega) (Nat.le_refl _)
  obtain ⟨t, ht, rfl⟩ := List.mem_map.mp hl
  have ok := N.ok t ht
  refine ⟨Nat.le_refl _, fun x hx => ?_⟩
  simp only [List.mem_cons, List.not_mem_nil, or_false] at hx
  rcases hx with rfl | rfl <;> omega
theorem parts_dn {n : Int} {ts : List (Int × Int)} (N : NetOk n ts) : Dn (dRows (partsF n.toNat ts)) 20000 2 ∧ (partsF n.toNat ts).length ≤ 40 ∧ ∀ l ∈ partsF n.toNat ts, l.length ≤ 40 := by
  have hi := N.hi
  have lo := N.lo
  have fl : (partsF n.toNat ts).length ≤ 40 := by
    unfold partsF firstsF
    rw [List.length_map, List.length_map]
    have z := List.length_filter_le (fun (i : Nat) => decide ((markF n.toNat ts).getD (1 + (i : Int)).toNat 0 = 1 + (i : Int))) (List.range n.toNat)
    rw [List.length_range] at z
    omega
  have rl : ∀ l ∈ partsF n.toNat ts, l.length ≤ 40 ∧ ∀ x ∈ l, 0 ≤ x ∧ x < 10 ^ 10 := by
    intro l hl
    unfold partsF at hl
    obtain ⟨c, hc, rfl⟩ := List.mem_map.mp hl
    unfold rowF
    refine ⟨?_, fun x hx => ?_⟩
    · rw [List.length_map]
      have z := List.length_filter_le (fun (j : Nat) => decide ((markF n.toNat ts).getD (1 + (j : Int)).toNat 0 = c)) (List.range n.toNat)
      rw [List.length_range] at z
      omega
    · obtain ⟨j, hj, rfl⟩ := List.mem_map.mp hx
      have z := List.mem_range.mp (List.mem_filter.mp hj).1
      omega
  exact ⟨(dn_rows (m := 40) rl).mono (by omega) (Nat.le_refl _), fl, fun l hl => (rl l hl).1⟩
theorem most_of : ∀ {ns : List Int}, 0 < ns.length → ∃ m ∈ ns, ∀ y ∈ ns, y ≤ m
  | [x], _ => ⟨x, List.mem_cons_self, fun y hy => by rw [List.mem_singleton.mp hy]; exact Int.le_refl _⟩
  | x :: y :: ns, _ => by
    obtain ⟨m, h1, h2⟩ := most_of (ns := y :: ns) (Nat.succ_pos _)
    by_cases c : x ≤ m
    · exact ⟨m, List.mem_cons_of_mem _ h1, fun z hz => by
        rcases List.mem_cons.mp hz with rfl | hz
        · exact c
        · exact h2 z hz⟩
    · exact ⟨x, List.mem_cons_self, fun z hz => by
        rcases List.mem_cons.mp hz with rfl | hz
        · exact Int.le_refl _
        · have := h2 z hz
          omega⟩
theorem filter_range {α : Type} (d : α) (p : α → Bool) (ts : List α) : ((List.range ts.length).filter fun i => p (ts.getD i d)).length = (ts.filter p).length := by
  have e : ts = (List.range ts.length).map fun i => ts.getD i d := by
    refine List.ext_getElem? fun i => ?_
    simp only [List.getElem?_map, List.getElem?_range]
    by_cases h : i < ts.length
    · simp [h, List.getD_eq_getElem?_getD]
    · simp [h]
  conv => rhs; rw [e, List.filter_map, List.length_map]
  rfl
theorem ties_filter (c : Int) : ∀ {ts : List (Int × Int)}, (∀ t ∈ ts, t.1 ≠ t.2) → (ts.filter fun t => t.1 == c || (t.2 == c || false)).length = tiesOf ts c
  | [], _ => rfl
  | t :: ts, h => by
    have ih := ties_filter c (ts := ts) fun u hu => h u (List.mem_cons_of_mem _ hu)
    have ne := h t List.mem_cons_self
    unfold tiesOf at ih ⊢
    rw [List.flatMap_cons, List.count_append, ← ih, List.filter_cons]
    by_cases c1 : t.1 = c
    · have c2 : ¬ t.2 = c := fun z => ne (c1.trans z.symm)
      simp [c1, c2, List.count_cons]
      omega
    · by_cases c2 : t.2 = c
      · simp [c1, c2, List.count_cons]
        omega
      · simp [c1, c2, List.count_cons]
theorem row_is {n : Nat} {ts : List (Int × Int)} {M : Int} (h1 : ∃ j, j < n ∧ M = (tiesOf ts (1 + (j : Int)) : Int)) (h2 : ∀ j : Nat, j < n → (tiesOf ts (1 + (j : Int)) : Int) ≤ M) :
    (isWoodF n ts && (decide ((partsF n ts).length = 1) && decide (M < 3))) = isRowF n ts := by
  unfold isWoodF isRowF
  rw [Bool.eq_iff_iff]
  simp only [Bool.and_eq_true, decide_eq_true_eq, List.all_eq_true, List.mem_range]
  constructor
  · rintro ⟨a, b, c⟩
    refine ⟨⟨b, by omega⟩, fun j hj => ?_⟩
    have := h2 j hj
    omega
  · rintro ⟨⟨a, b⟩, c⟩
    obtain ⟨j, hj, e⟩ := h1
    have := c j hj
    exact ⟨by omega, a, by omega⟩
section
variable {P : Program} {w : World} {K : PySem.W.Frag} {mg : Str → Option Value} {base : Heap} {A : Ad}
def sp_l_right (K : PySem.W.Frag) : Sp := fun vs H Q _ => ∃ (a : Addr) (ts : List (Int × Int)) (n : Int), vs = [.int n, .ref a] ∧ TiesAt K H a ts ∧ NetOk n ts ∧ RetV (.bl true) H Q
theorem ok_l_right (T : Txt K mg A) : FnG P w K mg base CX0 7 A.f_l_right A.d_l_right ["_law_seats", "_law_ties"] (sp_l_right K) := by
  have G_l_parts : FnOk P w K mg base CX0 1 A.f_l_parts A.d_l_parts ["_law_seats", "_law_ties"] (sp_l_parts K) := ok_l_parts T
  have G_parts : FnOk P w K mg base CX0 6 A.f_parts A.d_parts ["seats", "ties"] (sp_parts K) := ok_parts T
  have G_is_wood : FnOk P w K mg base CX0 6 A.f_is_wood A.d_is_wood ["seats", "ties"] (sp_is_wood K) := ok_is_wood T
  have G_is_row : FnOk P w K mg base CX0 6 A.f_is_row A.d_is_row ["seats", "ties"] (sp_is_row K) := ok_is_row T
  refine okG T.F_l_right sc_l_right (fun vs H Q E h => ?_) (fun cdv A' outer s H vs Q E hgd hr h => ?_)
  · obtain ⟨a, ts, n, rfl, _⟩ := h
    rfl
  · obtain ⟨a, ts, n, rfl, hT, N, q⟩ := h
    refine ⟨_, (pss_cons (ps_set (i := 2) sc_l_right.nd rfl (by first | exact .inl rfl | exact .inr rfl) (pe_callB (call_repr_D hgd hr) (by rfl) T.z_repr (by decide +kernel) (pa_cons (pv 1) pa_nil)))
      (pss_cons (ps_set (i := 3) sc_l_right.nd rfl (by first | exact .inl rfl | exact .inr rfl) (pe_call G_l_parts (hr.mono (by decide)) (by rfl) T.g_l_parts T.F_l_parts.kp T.b_l_parts .nil pass0 (pa_cons (pv 0) (pa_cons (pv 1) pa_nil))))
      (pss_cons (ps_set (i := 4) sc_l_right.nd rfl (by first | exact .inl rfl | exact .inr rfl) (pe_cmpR op_eq (pe_op op_add (pe_callB (call_lenK (K := K) rfl) (by rfl) T.z_len PySem.boot_len (pa_cons (pv 1) pa_nil)) (pe_callB (call_lenK (K := K) rfl) (by rfl) T.z_len PySem.boot_len (pa_cons (pv 3) pa_nil))) (pv 0) (nomark _)))
      (pss_cons (ps_set (i := 5) sc_l_right.nd rfl (by first | exact .inl rfl | exact .inr rfl) (pe_callB (cr_maxK (K := K) rfl rfl) (by rfl) T.z_max (by decide +kernel) (pa_cons (pe_lc (own := [("_law_seat", 9)]) rfl sc_l_right.nd (pi_range2 (by rfl) T.z_range (pa_cons pe_int (pa_cons (pe_op op_add (pv 0) pe_int) pa_nil))) (blkOk_by (by kernel_rfl)) (fun _ _ _ _ _ => (pg_name (i := 9) sc_l_right.nd rfl (by first | exact .inl rfl | exact .inr rfl))) (fun _ _ _ _ _ => pts_nil) (fun _ _ _ _ _ => (pe_callB (call_lenK (K := K) rfl) (by rfl) T.z_len PySem.boot_len (pa_cons (pe_lc (own := [("_law_pair", 10)]) rfl sc_l_right.nd (pi_listK (K := K) rfl (pv 1)) (blkOk_by (by kernel_rfl)) (fun _ _ _ _ _ => (pg_name (i := 10) sc_l_right.nd rfl (by first | exact .inl rfl | exact .inr rfl))) (fun _ _ _ _ _ => (pts_one (pt_cmpR (op_inK (K := K) rfl) (pv 9) (pv 10) (by rfl)))) (fun _ _ _ _ _ => pe_int)) pa_nil)))) pa_nil)))
      (pss_cons (ps_set (i := 6) sc_l_right.nd rfl (by first | exact .inl rfl | exact .inr rfl) (pe_and (pv 4) (pe_and (pe_cmpR op_eq (pe_callB (call_lenK (K := K) rfl) (by rfl) T.z_len PySem.boot_len (pa_cons (pv 3) pa_nil)) pe_int (nomark _)) (pe_one (pe_cmpR op_lt (pv 5) pe_int (nomark _))))))
      (pss_cons (ps_set (i := 7) sc_l_right.nd rfl (by first | exact .inl rfl | exact .inr rfl) (pe_lst (pa_cons (pe_call G_parts (hr.mono (by decide)) (by rfl) T.g_parts T.F_parts.kp T.b_parts .nil pass0 (pa_cons (pv 0) (pa_cons (pv 1) pa_nil))) (pa_cons (pe_callK0 G_parts (hr.mono (by decide)) (by rfl) T.g_parts T.F_parts.kp T.kb_parts pass0 (pk_cons (pv 1) (pk_cons (pv 0) pk_nil))) pa_nil))))
      (pss_cons (ps_if (pt_cmpR op_ne (pe_callB (call_repr_D hgd hr) (by rfl) T.z_repr (by decide +kernel) (pa_cons (pv 7) pa_nil)) (pe_callB (call_repr_D hgd hr) (by rfl) T.z_repr (by decide +kernel) (pa_cons (pe_lst (pa_cons (pv 3) (pa_cons (pv 3) pa_nil))) pa_nil)) (nomark _)) (pss_one (ps_ret pe_bl)) pss_nil)
      (pss_cons (ps_if (pt_cmpR op_ne (pe_callB (call_repr_D hgd hr) (by rfl) T.z_repr (by decide +kernel) (pa_cons (pe_lst (pa_cons (pe_call G_is_wood (hr.mono (by decide)) (by rfl) T.g_is_wood T.F_is_wood.kp T.b_is_wood .nil pass0 (pa_cons (pv 0) (pa_cons (pv 1) pa_nil))) (pa_cons (pe_callK0 G_is_wood (hr.mono (by decide)) (by rfl) T.g_is_wood T.F_is_wood.kp T.kb_is_wood pass0 (pk_cons (pv 1) (pk_cons (pv 0) pk_nil))) pa_nil))) pa_nil)) (pe_callB (call_repr_D hgd hr) (by rfl) T.z_repr (by decide +kernel) (pa_cons (pe_lst (pa_cons (pv 4) (pa_cons (pv 4) pa_nil))) pa_nil)) (nomark _)) (pss_one (ps_ret pe_bl)) pss_nil)
      (pss_cons (ps_if (pt_cmpR op_ne (pe_callB (call_repr_D hgd hr) (by rfl) T.z_repr (by decide +kernel) (pa_cons (pe_lst (pa_cons (pe_call G_is_row (hr.mono (by decide)) (by rfl) T.g_is_row T.F_is_row.kp T.b_is_row .nil pass0 (pa_cons (pv 0) (pa_cons (pv 1) pa_nil))) (pa_cons (pe_callK0 G_is_row (hr.mono (by decide)) (by rfl) T.g_is_row T.F_is_row.kp T.kb_is_row pass0 (pk_cons (pv 1) (pk_cons (pv 0) pk_nil))) pa_nil))) pa_nil)) (pe_callB (call_repr_D hgd hr) (by rfl) T.z_repr (by decide +kernel) (pa_cons (pe_lst (pa_cons (pv 6) (pa_cons (pv 6) pa_nil))) pa_nil)) (nomark _)) (pss_one (ps_ret pe_bl)) pss_nil)
      (pss_cons (ps_for PassesOwn.never rfl (pi_listK (K := K) rfl (pe_ix (ix_listK (K := K) rfl) (pv 7) pe_int (fun _ _ => rfl))) (pg_name (i := 8) sc_l_right.nd rfl (by first | exact .inl rfl | exact .inr rfl)) (pss_one (ps_expr (pe_bmK (K := K) rfl PySem.F.plainAttrs_list PySem.F.slot_list_append PySem.F.type_list_append mt_append (pv 8) (pa_cons pe_non pa_nil)))))
      (pss_cons (ps_expr (pe_bmK (K := K) rfl PySem.F.plainAttrs_list PySem.F.slot_list_append PySem.F.type_list_append mt_append (pe_ix (ix_listK (K := K) rfl) (pv 7) pe_int (fun _ _ => rfl)) (pa_cons pe_non pa_nil)))
      (pss_one (ps_ret (pe_and (pe_cmpR op_eq (pe_callB (call_repr_D hgd hr) (by rfl) T.z_repr (by decide +kernel) (pa_cons (pe_call G_parts (hr.mono (by decide)) (by rfl) T.g_parts T.F_parts.kp T.b_parts .nil pass0 (pa_cons (pv 0) (pa_cons (pv 1) pa_nil))) pa_nil)) (pe_callB (call_repr_D hgd hr) (by rfl) T.z_repr (by decide +kernel) (pa_cons (pv 3) pa_nil)) (nomark _)) (pe_one (pe_cmpR op_eq (pe_callB (call_repr_D hgd hr) (by rfl) T.z_repr (by decide +kernel) (pa_cons (pv 1) pa_nil)) (pv 2) (nomark _))))))))))))))))), ?_⟩
    have n1 := N.lo
    have n2 := N.hi
    have few := N.few
    have dnT := ties_dn N
    obtain ⟨dnP, plen, prow⟩ := parts_dn N
    have dnPP : Dn (.list [dRows (partsF n.toNat ts), dRows (partsF n.toNat ts)]) 50000 3 := by
      refine (Dn.list (len := 20000) (dep := 2) fun d hd => ?_).mono (by show (20000 + 2) * 2 + 2 ≤ 50000; decide) (Nat.le_refl _)
      simp only [List.mem_cons, List.not_mem_nil, or_false, or_self] at hd
      rw [hd]
      exact dnP
    have dnB : ∀ b : Bool, Dn (.list [.bool b, .bool b]) 50000 3 := fun b => by
      refine (Dn.list (len := 5) (dep := 0) fun d hd => ?_).mono (by show (5 + 2) * 2 + 2 ≤ 50000; decide) (by decide)
      simp only [List.mem_cons, List.not_mem_nil, or_false, or_self] at hd
      rw [hd]
      exact Dn.bool b
    have hTm := hT
    obtain ⟨as, hS, hlen, hat⟩ := hT
    -- before = repr(ties)
    refine ⟨_, rfl, a, _, rfl, ties_dp hTm, dnT.show_, dnT.dict_, dnT.dpt (by decide), dnT.siz (by decide), ?_⟩
    -- due = _law_parts(seats, ties)
    refine ⟨_, rfl, _, rfl, a, ts, n, rfl, hTm, N, fun D H1 nD e1 hD => ?_⟩
    have hD' := hD
    obtain ⟨ps, hps, hpl, _⟩ := hD'
    rw [List.length_map] at hpl
    -- wood
    refine ⟨_, rfl, a, _, rfl, .inl (ex_l e1 hS), _, rfl, D, _, rfl, .inl (.inl (.inl hps)), _, _, rfl, rfl, _, rfl, rfl, ?_⟩
    have ew : decide (V.int (((as.map V.ref).length : Int) + ((ps.map V.ref).length : Int)) = V.int n) = isWoodF n.toNat ts := by
      rw [dec_vi, List.length_map, List.length_map, hlen, hpl]
      unfold isWoodF
      by_cases c : (partsF n.toNat ts).length + ts.length = n.toNat
      · rw [decide_eq_true c, decide_eq_true (by omega)]
      · rw [decide_eq_false c, decide_eq_false (by omega)]
    rw [ew]
    -- most
    have cnt : ∀ c : Int, (ts.filter fun t => t.1 == c || (t.2 == c || false)).length = tiesOf ts c := fun c => ties_filter c fun t ht => (N.ok t ht).2.2
    obtain ⟨M, hM1, hM2⟩ := most_of (ns := (List.range n.toNat).map fun (j : Nat) => (tiesOf ts (1 + (j : Int)) : Int)) (by rw [List.length_map, List.length_range]; omega)
    have hRow := row_is (n := n.toNat) (ts := ts) (M := M) (by
      obtain ⟨j, hj, e⟩ := List.mem_map.mp hM1
      exact ⟨j, List.mem_range.mp hj, e.symm⟩) fun j hj => hM2 _ (List.mem_map.mpr ⟨j, List.mem_range.mpr hj, rfl⟩)
    generalize hsh : (dTs ts).shown = bsh
    dsimp only [gName]
    refine q_asg (σ := [some (.int n), some (.ref a), some (.str bsh), some (.ref D), some (.bl (isWoodF n.toNat ts)), none, none, none, none, none, none]) (v := .int M) ?_ fun H2 e2 => ?_
    · have go := el_lcR2 (H := H1) (σ := [some (.int n), some (.ref a), some (.str bsh), some (.ref D), some (.bl (isWoodF n.toNat ts)), none, none, none, none, none, none]) (j := 9) (vs := [9]) (lo := 1) (n := n + 1)
        (ta := tCons (tC (.int 1)) (tCons (tOp (rI0 fun i j => .int (i + j)) (tVar 0) (tC (.int 1))) tNil)) (t := tYes)
        (te := tCB (rLenS K) (tCons (tLc (iList K (tVar 1)) (gName 10) (tTest (tOp (rIn K false) (tVar 9) (tVar 10))) (tC (V.int 1)) [10]) tNil))
        (fun _ => true) (fun j => V.int (tiesOf ts (1 + (j : Int)) : Int))
        (ea_cons ev_c (ea_cons (ev_op (ev_var rfl) ev_c rv_I0) ea_nil)) (by omega) (fun x => rfl) (fun _ _ _ _ => et_yes) (fun i H3 e3 hi _ => ?_)
      · rw [given_ints, List.filter_eq_self.mpr (fun _ _ => rfl), show (n + 1 - 1).toNat = n.toNat by omega] at go
        refine ev_cbL go fun p2 H3 e3 hp2 => fun H4 e4 Q4 q4 => ⟨p2, _, rfl, .inl (.inl (e4 _ _ hp2)), by rw [List.length_map, List.length_range]; omega, fun m hm1 hm2 => ?_⟩
        have e : m = M := Int.le_antisymm (hM2 m hm1) (hm2 M hM1)
        rw [e]
        exact q4 H4 (Ex.refl H4)
      · have go := el_lcL (K := K) (H := H3) (σ := (wipe [some (.int n), some (.ref a), some (.str bsh), some (.ref D), some (.bl (isWoodF n.toNat ts)), none, none, none, none, none, none] [9]).set 9 (some (.int (1 + (i : Int))))) (j := 10) (vs := [10])
          (t := tTest (tOp (rIn K false) (tVar 9) (tVar 10))) (te := tC (V.int 1)) (fun k => (fun t : Int × Int => t.1 == 1 + (i : Int) || (t.2 == 1 + (i : Int) || false)) (ts.getD k (0, 0))) (fun _ => V.int 1) (tl := tVar 1)
          (ev_var rfl) (ex_l (e1.trans e3) hS) (by rw [List.length_map]; omega) (fun x => rfl) (fun k x H4 e4 hx => ?_) (fun _ _ _ _ _ _ => ev_c)
        · have z := ev_lenN (K := K) go
          have el : (given (as.map V.ref).length (fun k => (fun t : Int × Int => t.1 == 1 + (i : Int) || (t.2 == 1 + (i : Int) || false)) (ts.getD k (0, 0))) fun _ => V.int 1).length = tiesOf ts (1 + (i : Int)) := by
            unfold given
            rw [List.length_map, List.length_map, hlen, filter_range (0, 0) (fun t : Int × Int => t.1 == 1 + (i : Int) || (t.2 == 1 + (i : Int) || false)) ts, cnt]
          rw [el] at z
          exact z
        · obtain ⟨b, hb, rfl⟩ := map_at hx
          have hk : k < ts.length := by rw [← hlen]; exact (List.getElem?_eq_some_iff.mp hb).1
          obtain ⟨t, ht⟩ : ∃ t, ts[k]? = some t := ⟨_, List.getElem?_eq_getElem hk⟩
          have et : ts.getD k (0, 0) = t := by rw [List.getD_eq_getElem?_getD, ht]; rfl
          rw [et]
          exact et_test (ev_op (ev_var rfl) (ev_var rfl) (rv_isL (ex_l ((e1.trans e3).trans e4) (hat k b t hb ht)) rfl rfl))
    -- row
    refine q_asg (v := .bl (isRowF n.toNat ts)) ?_ fun H3 e3 => ?_
    · rw [← hRow]
      refine ev_andV (ev_var rfl) fun _ => ev_andV ?_ fun _ => ev_op (ev_var rfl) ev_c rv_I0
      have z := ev_op (r := rEq) (ev_len (K := K) (σ := ([some (.int n), some (.ref a), some (.str bsh), some (.ref D), some (.bl (isWoodF n.toNat ts)), some (.int M), none, none, none, none, none] : L2.St)) (ta := tVar 3) (ev_var rfl) (.inl (.inl (e2 _ _ hps)))) (ev_c (v := .int 1)) (rv_eq rfl)
      have e : decide (V.int ((ps.map V.ref).length : Int) = V.int 1) = decide ((partsF n.toNat ts).length = 1) := by
        rw [dec_vi, List.length_map, hpl]
        by_cases c : (partsF n.toNat ts).length = 1
        · rw [decide_eq_true c, decide_eq_true (by omega)]
        · rw [decide_eq_false c, decide_eq_false (by omega)]
      rw [e] at z
      exact z
    have e13 := (e1.trans e2).trans e3
    have hD3 := (hD.on e2).on e3
    have hT3 := hTm.mono e13
    clear hps hM1 hM2 hRow
    -- told
    refine ⟨_, rfl, _, rfl, a, ts, n, rfl, hT3, N, fun D1 H4 nD1 e4 hD1 => ⟨_, rfl, _, rfl, a, ts, n, rfl, hT3.mono e4, N, fun D2 H5 nD2 e5 hD2 => ⟨(by show 2 ≤ sizeLine; decide), fun p np => ?_⟩⟩⟩
    have e6 : Ex H5 (upd H5 p (.lst [.ref D1, .ref D2])) := Ex.new np
    have hp : (upd H5 p (.lst [.ref D1, .ref D2])) p = some (.lst [.ref D1, .ref D2]) := upd_same
    have hD6 := (hD1.on e5).on e6
    have hD26 := hD2.on e6
    have hDd := ((hD3.on e4).on e5).on e6
    have e36 := (e4.trans e5).trans e6
    have np3 := fresh_back (e4.trans e5) np
    have npD : D1 ≠ p := fun z => by
      obtain ⟨_, x, _⟩ := hD1.on e5
      rw [z, np] at x
      cases x
    have npi : ∀ qs : List Addr, H5 D1 = some (.lst (qs.map V.ref)) → (∀ q ∈ qs, H5 q ≠ none) → p ∉ qs := fun qs _ h z => h p z np
    have itm : ∀ (ps : List Addr), (∀ (i : Nat) (q : Addr) (l : List V), ps[i]? = some q → (LLI (partsF n.toNat ts))[i]? = some l → H3 q = none ∧ H5 q = some (.lst l)) → ps.length = (LLI (partsF n.toNat ts)).length → p ∉ ps := by
      intro ps h hl z
      obtain ⟨i, hi, e⟩ := List.getElem_of_mem z
      have z2 := h i p ((LLI (partsF n.toNat ts))[i]'(by rw [← hl]; exact hi)) (by rw [List.getElem?_eq_getElem hi, e]) (List.getElem?_eq_getElem _)
      rw [np] at z2
      cases z2.2
    have hD5 := hD1.on e5
    generalize upd H5 p (.lst [.ref D1, .ref D2]) = H6 at e6 hp hD6 hD26 hDd e36
    -- if repr(told) != repr([due, due])
    have dpT : Dp K H6 (.ref p) (.list [dRows (partsF n.toNat ts), dRows (partsF n.toNat ts)]) := .lst (.inl (.inl hp)) (.cons (ll_dp hD6) (.cons (ll_dp hD26) .nil))
    refine ⟨_, rfl, p, _, rfl, dpT, dnPP.show_, dnPP.dict_, dnPP.dpt (by decide), dnPP.siz (by decide), _, rfl, _, rfl, (by show 2 ≤ sizeLine; decide), fun p2 np2 => ?_⟩
    have e7 : Ex H6 (upd H6 p2 (.lst [.ref D, .ref D])) := Ex.new np2
    have dpD : Dp K (upd H6 p2 (.lst [.ref D, .ref D])) (.ref p2) (.list [dRows (partsF n.toNat ts), dRows (partsF n.toNat ts)]) := .lst (.inl (.inl upd_same)) (.cons (ll_dp (hDd.on e7)) (.cons (ll_dp (hDd.on e7)) .nil))
    refine ⟨p2, _, rfl, dpD, dnPP.show_, dnPP.dict_, dnPP.dpt (by decide), dnPP.siz (by decide), rfl, _, rfl, ?_⟩
    rw [decide_eq_true rfl]
    refine iteF ?_
    have hp7 := e7 _ _ hp
    have hD7 := hD6.on e7
    have hDd7 := hDd.on e7
    have e37 := e36.trans e7
    generalize upd H6 p2 (.lst [.ref D, .ref D]) = H7 at e7 hp7 hD7 hDd7 e37
    clear dpT dpD hD6 hDd hp e36
    have hT7 := hT3.mono e37
    -- if repr([is_wood, is_wood]) != repr([.., ..])
    refine ⟨_, rfl, _, rfl, a, ts, n, rfl, hT7, N, fun H8 e8 => ⟨_, rfl, _, rfl, a, ts, n, rfl, hT7.mono e8, N, fun H9 e9 => ⟨(by show 2 ≤ sizeLine; decide), fun p3 np3 => ?_⟩⟩⟩
    have e10 := (e8.trans e9).trans (Ex.new (o := .lst [.bl (isWoodF n.toNat ts), .bl (isWoodF n.toNat ts)]) np3)
    refine ⟨p3, _, rfl, .lst (.inl (.inl upd_same)) (.cons (.bl _) (.cons (.bl _) .nil)), (dnB (isWoodF n.toNat ts)).show_, (dnB (isWoodF n.toNat ts)).dict_, (dnB (isWoodF n.toNat ts)).dpt (by decide), (dnB (isWoodF n.toNat ts)).siz (by decide), _, rfl, _, rfl, (by show 2 ≤ sizeLine; decide), fun p4 np4 => ?_⟩
    have e11 := e10.trans (Ex.new (o := .lst [.bl (isWoodF n.toNat ts), .bl (isWoodF n.toNat ts)]) np4)
    refine ⟨p4, _, rfl, .lst (.inl (.inl upd_same)) (.cons (.bl _) (.cons (.bl _) .nil)), (dnB (isWoodF n.toNat ts)).show_, (dnB (isWoodF n.toNat ts)).dict_, (dnB (isWoodF n.toNat ts)).dpt (by decide), (dnB (isWoodF n.toNat ts)).siz (by decide), rfl, _, rfl, ?_⟩
    rw [decide_eq_true rfl]
    refine iteF ?_
    have hp8 := e11 _ _ hp7
    have hD8 := hD7.on e11
    have hDd8 := hDd7.on e11
    have e38 := e37.trans e11
    have hT8 := hT7.mono e11
    revert hp8 hD8 hDd8 e38 hT8
    generalize upd (upd H9 p3 (.lst [.bl (isWoodF n.toNat ts), .bl (isWoodF n.toNat ts)])) p4 (.lst [.bl (isWoodF n.toNat ts), .bl (isWoodF n.toNat ts)]) = H8x
    intro hp8 hD8 hDd8 e38 hT8
    clear hp7 hD7 hDd7 e37 hT7 e8 e9 e10 e11
    -- if repr([is_row, is_row]) != repr([.., ..])
    refine ⟨_, rfl, _, rfl, a, ts, n, rfl, hT8, N, fun H8 e8 => ⟨_, rfl, _, rfl, a, ts, n, rfl, hT8.mono e8, N, fun H9 e9 => ⟨(by show 2 ≤ sizeLine; decide), fun p3 np3 => ?_⟩⟩⟩
    have e10 := (e8.trans e9).trans (Ex.new (o := .lst [.bl (isRowF n.toNat ts), .bl (isRowF n.toNat ts)]) np3)
    refine ⟨p3, _, rfl, .lst (.inl (.inl upd_same)) (.cons (.bl _) (.cons (.bl _) .nil)), (dnB (isRowF n.toNat ts)).show_, (dnB (isRowF n.toNat ts)).dict_, (dnB (isRowF n.toNat ts)).dpt (by decide), (dnB (isRowF n.toNat ts)).siz (by decide), _, rfl, _, rfl, (by show 2 ≤ sizeLine; decide), fun p4 np4 => ?_⟩
    have e11 := e10.trans (Ex.new (o := .lst [.bl (isRowF n.toNat ts), .bl (isRowF n.toNat ts)]) np4)
    refine ⟨p4, _, rfl, .lst (.inl (.inl upd_same)) (.cons (.bl _) (.cons (.bl _) .nil)), (dnB (isRowF n.toNat ts)).show_, (dnB (isRowF n.toNat ts)).dict_, (dnB (isRowF n.toNat ts)).dpt (by decide), (dnB (isRowF n.toNat ts)).siz (by decide), rfl, _, rfl, ?_⟩
    rw [decide_eq_true rfl]
    refine iteF ?_
    have hp9 := e11 _ _ hp8
    have hD9 := hD8.on e11
    have hDd9 := hDd8.on e11
    have e39 := e38.trans e11
    have hT9 := hT8.mono e11
    revert hp9 hD9 hDd9 e39 hT9
    generalize upd (upd H9 p3 (.lst [.bl (isRowF n.toNat ts), .bl (isRowF n.toNat ts)])) p4 (.lst [.bl (isRowF n.toNat ts), .bl (isRowF n.toNat ts)]) = H9x
    intro hp9 hD9 hDd9 e39 hT9
    clear hp8 hD8 hDd8 e38 hT8 e8 e9 e10 e11
    -- for part in told[0]
    have hD9' := hD9
    obtain ⟨ps1, q1, q2, q3, q4⟩ := hD9'
    have hq : ∀ q ∈ ps1, H3 q = none ∧ q ≠ p ∧ ∃ l : List V, H9x q = some (.lst l) ∧ l.length ≤ 40 := by
      intro q hq
      obtain ⟨i, hi, e⟩ := List.getElem_of_mem hq
      have hi2 : i < (partsF n.toNat ts).length := by rw [q2, List.length_map] at hi; exact hi
      obtain ⟨c1, c2⟩ := q4 i q ((partsF n.toNat ts)[i].map V.int) (by rw [List.getElem?_eq_getElem hi, e]) (by rw [List.getElem?_map, List.getElem?_eq_getElem hi2]; rfl)
      refine ⟨c1, fun z => ?_, _, c2, by rw [List.length_map]; exact prow _ (List.getElem_mem hi2)⟩
      rw [z, hp9] at c2
      injection c2 with c2
      injection c2 with c2
      cases hl : (partsF n.toNat ts)[i] with
      | nil => rw [hl] at c2; cases c2
      | cons y ys => rw [hl] at c2; cases c2
    dsimp only [tNext]
    refine q_forL (g := gName 8) (a := D1) (xs := ps1.map V.ref) (ev_op (ev_var rfl) ev_c (rv_ixL (.inl (.inl hp9)) rfl)) (.inl (.inl q1)) (fun i σ' H' =>
      (∃ y8, σ' = [some (.int n), some (.ref a), some (.str bsh), some (.ref D), some (.bl (isWoodF n.toNat ts)), some (.int M), some (.bl (isRowF n.toNat ts)), some (.ref p), y8, none, none]) ∧ Ex H3 H' ∧ H' p = some (.lst [.ref D1, .ref D2]) ∧
        H' D1 = some (.lst (ps1.map V.ref)) ∧ ∀ q ∈ ps1, ∃ l : List V, H' q = some (.lst l) ∧ l.length ≤ 40 + i) (fun H' e => ⟨⟨_, rfl⟩, e39.trans e, e _ _ hp9, e _ _ q1, fun q hqm => ?_⟩) (fun i σ' H' _ z => .inl (.inl z.2.2.2.1)) (fun i x σ' H' hx z => ?_) fun σ' H' z => ?_
    · obtain ⟨l, l1, l2⟩ := (hq q hqm).2.2
      exact ⟨l, e _ _ l1, by omega⟩
    · obtain ⟨⟨y8, rfl⟩, z1, z2, z3, z4⟩ := z
      obtain ⟨q0, hq0, rfl⟩ := map_at hx
      have mem := List.mem_of_getElem? hq0
      have hi : i < ps1.length := (List.getElem?_eq_some_iff.mp hq0).1
      rw [q2, List.length_map] at hi
      obtain ⟨l, l1, l2⟩ := z4 q0 mem
      obtain ⟨c1, c2, _⟩ := hq q0 mem
      refine s_app (l := q0) l1 (ev_var rfl) ev_c (by omega) fun H1 e => ⟨⟨_, rfl⟩, Ex.mut (z1.trans e) c1, ?_, ?_, fun q hqm => ?_⟩
      · rw [upd_ne c2.symm]
        exact e _ _ z2
      · rw [upd_ne (fun y : D1 = q0 => q3 (by rw [y]; exact mem))]
        exact e _ _ z3
      · by_cases c : q = q0
        · rw [c]
          exact ⟨_, upd_same, by rw [List.length_append, List.length_singleton]; omega⟩
        · obtain ⟨l', m1, m2⟩ := z4 q hqm
          exact ⟨l', by rw [upd_ne c]; exact e _ _ m1, by omega⟩
    · obtain ⟨⟨y8, rfl⟩, z1, z2, z3, z4⟩ := z
      refine q_app (l := D1) z3 (ev_op (ev_var rfl) ev_c (rv_ixL (.inl (.inl z2)) rfl)) ev_c (by rw [List.length_map, q2, List.length_map]; omega) fun H8 e8 => ?_
      have f1 : Ex H3 (upd H8 D1 (.lst (ps1.map V.ref ++ [.non]))) := Ex.mut (z1.trans e8) nD1
      generalize upd H8 D1 (.lst (ps1.map V.ref ++ [.non])) = H9 at f1
      refine ⟨_, rfl, _, rfl, a, ts, n, rfl, hT3.mono f1, N, fun D3 H10 nD3 e10 hD10 => ?_⟩
      refine ⟨D3, _, rfl, ll_dp hD10, dnP.show_, dnP.dict_, dnP.dpt (by decide), dnP.siz (by decide), _, rfl, D, _, rfl, ll_dp ((hD3.on f1).on e10), dnP.show_, dnP.dict_, dnP.dpt (by decide), dnP.siz (by decide), rfl, _, rfl, ?_⟩
      rw [decide_eq_true rfl]
      refine iteT ⟨_, rfl, a, _, rfl, ties_dp ((hT3.mono f1).mono e10), dnT.show_, dnT.dict_, dnT.dpt (by decide), dnT.siz (by decide), _, rfl, rfl, ?_⟩
      rw [hsh, decide_eq_true rfl]
      exact q _ ((e13.trans f1).trans e10)
end
end K01

namespace K01
open PySem PySem.Spec PyProof.Rows L2 Vf Evl
/-! ### two lists, item by item -/
inductive F2 {α β : Type} (R : α → β → Prop) : List α → List β → Prop
  | nil : F2 R [] []
  | cons {a b as bs} : R a b → F2 R as bs → F2 R (a :: as) (b :: bs)
section
variable {α β : Type} {R S : α → β → Prop}
theorem F2.len {as : List α} {bs : List β} (h : F2 R as bs) : as.length = bs.length := by
  induction h with
  | nil => rfl
  | cons _ _ ih => simp [ih]
theorem F2.mono {as : List α} {bs : List β} (h : F2 R as bs) (hi : ∀ a b, R a b → S a b) : F2 S as bs := by
  induction h with
  | nil => exact .nil
  | cons x _ ih => exact .cons (hi _ _ x) ih
theorem F2.at_ {as : List α} {bs : List β} (h : F2 R as bs) : ∀ {i : Nat} {a : α} {b : β}, as[i]? = some a → bs[i]? = some b → R a b := by
  induction h with
  | nil => intro i a b x _; cases x
  | cons x _ ih =>
    intro i a b y z
    cases i with
    | zero => cases y; cases z; exact x
    | succ i => exact ih (by simpa using y) (by simpa using z)
theorem F2.of_at : ∀ {as : List α} {bs : List β}, as.length = bs.length → (∀ (i : Nat) (a : α) (b : β), as[i]? = some a → bs[i]? = some b → R a b) → F2 R as bs
  | [], [], _, _ => .nil
  | [], _ :: _, h, _ => nomatch h
  | _ :: _, [], h, _ => nomatch h
  | a :: as, b :: bs, h, k => .cons (k 0 a b rfl rfl) (F2.of_at (by simpa using h) fun i x y p q => k (i + 1) x y p q)
theorem F2.append {as as' : List α} {bs bs' : List β} (h : F2 R as bs) (k : F2 R as' bs') : F2 R (as ++ as') (bs ++ bs') := by
  induction h with
  | nil => exact k
  | cons x _ ih => exact .cons x ih
theorem F2.take {as : List α} {bs : List β} (h : F2 R as bs) (n : Nat) : F2 R (as.take n) (bs.take n) := by
  induction h generalizing n with
  | nil => simpa using F2.nil
  | cons x _ ih =>
    cases n with
    | zero => exact .nil
    | succ n => exact .cons x (ih n)
theorem F2.perm {as as' : List α} (p : as.Perm as') : ∀ {bs : List β}, F2 R as bs → ∃ bs', bs.Perm bs' ∧ F2 R as' bs' := by
  induction p with
  | nil => intro bs h; cases h; exact ⟨[], .refl _, .nil⟩
  | cons a p ih =>
    intro bs h
    cases h with
    | cons x h =>
      obtain ⟨bs', h1, h2⟩ := ih h
      exact ⟨_, h1.cons _, .cons x h2⟩
  | swap a b l =>
    intro bs h
    cases h with
    | cons x h =>
      cases h with
      | cons y h => exact ⟨_, .swap _ _ _, .cons y (.cons x h)⟩
  | trans p1 p2 ih1 ih2 =>
    intro bs h
    obtain ⟨b1, h1, h2⟩ := ih1 h
    obtain ⟨b2, h3, h4⟩ := ih2 h2
    exact ⟨b2, h1.trans h3, h4⟩
end
def At2 (H : Hp) (b : Addr) (t : Int × Int) : Prop := H b = some (.lst [.int t.1, .int t.2])
/-- a list of pairs, all of it lists of this run -/
def Ps (H : Hp) (a : Addr) (as : List Addr) (ts : List (Int × Int)) : Prop := H a = some (.lst (as.map V.ref)) ∧ F2 (At2 H) as ts
theorem Ps.on {H H' : Hp} {a : Addr} {as : List Addr} {ts : List (Int × Int)} (h : Ps H a as ts) (e : Ex H H') : Ps H' a as ts := ⟨e _ _ h.1, h.2.mono fun _ _ x => e _ _ x⟩
theorem Ps.ties {K : PySem.W.Frag} {H : Hp} {a : Addr} {as : List Addr} {ts : List (Int × Int)} (h : Ps H a as ts) : TiesAt K H a ts :=
  ⟨as, .inl (.inl h.1), h.2.len, fun i b t x y => .inl (.inl (h.2.at_ x y))⟩
theorem TM.ps {H : Hp} {a : Addr} {ts : List (Int × Int)} (h : TM H a ts) : ∃ as, Ps H a as ts ∧ a ∉ as := by
  obtain ⟨as, h1, h2, h3, h4⟩ := h
  exact ⟨as, ⟨h1, F2.of_at h2 h4⟩, h3⟩
def netB (n : Int) (ts : List (Int × Int)) : Bool := decide (3 ≤ n) && decide (n ≤ 40) && ts.all (fun t => decide (1 ≤ t.1) && decide (t.1 ≤ n) && decide (1 ≤ t.2) && decide (t.2 ≤ n) && decide (t.1 ≠ t.2)) && decide (ts.map nrm).Nodup && decide (ts.length ≤ 1000)
theorem netB_ok {n : Int} {ts : List (Int × Int)} (h : netB n ts = true) : NetOk n ts := by
  unfold netB at h
  simp only [Bool.and_eq_true, decide_eq_true_eq, List.all_eq_true] at h
  obtain ⟨⟨⟨⟨h1, h2⟩, h3⟩, h4⟩, h5⟩ := h
  refine ⟨h1, h2, fun t ht => ?_, h4, h5⟩
  obtain ⟨⟨⟨⟨a, b⟩, c⟩, d⟩, e⟩ := h3 t ht
  exact ⟨⟨a, b⟩, ⟨c, d⟩, e⟩
/-- the same ties, in another order, turned or not -/
theorem net_turned {n : Int} {ts us : List (Int × Int)} (N : NetOk n ts) (h : (us.map nrm).Perm (ts.map nrm)) : NetOk n us := by
  have hl : us.length = ts.length := by
    have z := h.length_eq
    rwa [List.length_map, List.length_map] at z
  refine ⟨N.lo, N.hi, fun u hu => ?_, h.nodup_iff.mpr N.nd, by rw [hl]; exact N.few⟩
  obtain ⟨t, ht, e⟩ := List.mem_map.mp (h.mem_iff.mp (List.mem_map.mpr ⟨u, hu, rfl⟩))
  obtain ⟨a, b, c⟩ := N.ok t ht
  have e2 : nrm (t.1, t.2) = nrm (u.1, u.2) := e
  rcases nrm_cases e2 with ⟨x, y⟩ | ⟨x, y⟩
  · rw [← x, ← y]
    exact ⟨a, b, c⟩
  · rw [← x, ← y]
    exact ⟨b, a, c.symm⟩
/-! ### nets written down -/
section
variable {K : PySem.W.Frag} {σ : L2.St} {H : Hp} {te tn : TE} {ta tr : TA} {ts us : List (Int × Int)} {tss : List (List (Int × Int))}
def EvP (te : TE) (σ : L2.St) (H : Hp) (ts : List (Int × Int)) : Prop := ∀ H1, Ex H H1 → ∀ Q : VK, (∀ a as H2, H1 a = none → Ex H1 H2 → Ps H2 a as ts → Q (.ref a) H2) → te σ H1 Q
def EaP (ta : TA) (σ : L2.St) (H : Hp) (ts : List (Int × Int)) : Prop := ∀ H1, Ex H H1 → ∀ Q : List V → Hp → Prop, (∀ (as : List Addr) H2, Ex H1 H2 → F2 (At2 H2) as ts → Q (as.map V.ref) H2) → ta σ H1 Q
theorem ep_nil : EaP tNil σ H [] := fun H1 _ _ q => q [] H1 (Ex.refl H1) .nil
theorem ep_cons {x y : Int} (h : EvL te σ H [.int x, .int y]) (k : EaP tr σ H ts) : EaP (tCons te tr) σ H ((x, y) :: ts) := fun H1 e _ q =>
  h H1 e _ fun p H2 np e2 hp => k H2 (e.trans e2) _ fun as H3 e3 hF => q (p :: as) H3 (e2.trans e3) (.cons (e3 _ _ hp) hF)
theorem ep_lst (h : EaP ta σ H ts) (hl : ts.length ≤ 1000) : EvP (tLst ta) σ H ts := fun H1 e _ q =>
  h H1 e _ fun as H2 e2 hF => ⟨sz_of (by rw [List.length_map, hF.len]; omega), fun p np => q p as _ (fresh_back e2 np) (e2.trans (Ex.new np)) ⟨upd_same, hF.mono fun _ _ x => (Ex.new (o := .lst (as.map V.ref)) np) _ _ x⟩⟩
theorem el_cc {x y : Int} : EvL (tLst (tCons (tC (.int x)) (tCons (tC (.int y)) tNil))) σ H [.int x, .int y] := el_lst (ea_cons ev_c (ea_cons ev_c ea_nil)) (by show 2 ≤ 100000; decide)
def EvTs (K : PySem.W.Frag) (te : TE) (σ : L2.St) (H : Hp) (ts : List (Int × Int)) : Prop := ∀ H1, Ex H H1 → ∀ Q : VK, (∀ a H2, Ex H1 H2 → TiesAt K H2 a ts → Q (.ref a) H2) → te σ H1 Q
def EaT (K : PySem.W.Frag) (ta : TA) (σ : L2.St) (H : Hp) (tss : List (List (Int × Int))) : Prop := ∀ H1, Ex H H1 → ∀ Q : List V → Hp → Prop, (∀ (as : List Addr) H2, Ex H1 H2 → F2 (TiesAt K H2) as tss → Q (as.map V.ref) H2) → ta σ H1 Q
theorem EvP.t (h : EvP te σ H ts) : EvTs K te σ H ts := fun H1 e _ q => h H1 e _ fun a _ H2 _ e2 hP => q a H2 e2 hP.ties
theorem et_var {i : Nat} {a : Addr} {as : List Addr} (h : σ[i]? = some (some (.ref a))) (hP : Ps H a as ts) : EvTs K (tVar i) σ H ts := fun H1 e _ q => ⟨_, h, q a H1 (Ex.refl H1) (hP.on e).ties⟩
theorem et_cat {i : Nat} {a : Addr} {as : List Addr} (h : σ[i]? = some (some (.ref a))) (hP : Ps H a as ts) (k : EvP te σ H us) (hl : ts.length + us.length ≤ 1000) : EvTs K (tOp rCat (tVar i) te) σ H (ts ++ us) := fun H1 e _ q =>
  ⟨_, h, k H1 e _ fun b bs H2 _ e2 hB => by
    have hA := (hP.on e).on e2
    refine ⟨a, b, _, _, rfl, rfl, hA.1, hB.1, ?_, fun p np => ?_⟩
    · rw [List.length_map, List.length_map, hA.2.len, hB.2.len]
      exact sz_of (by omega)
    · rw [← List.map_append]
      have e3 : Ex H2 (upd H2 p (.lst ((as ++ bs).map V.ref))) := Ex.new np
      exact q p _ (e2.trans e3) (Ps.ties ⟨upd_same, (hA.2.append hB.2).mono fun _ _ x => e3 _ _ x⟩)⟩
theorem et_cut {i : Nat} {a : Addr} {as : List Addr} {n : Nat} (h : σ[i]? = some (some (.ref a))) (hP : Ps H a as ts) : EvTs K (tSl (rSlL K) (tVar i) tNoPart (tPart (tC (.int (n : Int))))) σ H (ts.take n) := fun H1 e _ q => by
  refine el_sl (ev_var h) eo_none (eo_some ev_c) (.inl (.inl hP.1)) H1 e _ fun p H2 np e2 hp => ?_
  rw [cut_to, ← List.map_take] at hp
  exact q p H2 e2 (Ps.ties (as := as.take n) ⟨hp, ((hP.on e).on e2).2.take n⟩)
theorem ea_nilT : EaT K tNil σ H [] := fun H1 _ _ q => q [] H1 (Ex.refl H1) .nil
theorem ea_consT (h : EvTs K te σ H ts) (k : EaT K tr σ H tss) : EaT K (tCons te tr) σ H (ts :: tss) := fun H1 e _ q =>
  h H1 e _ fun a H2 e2 hT => k H2 (e.trans e2) _ fun as H3 e3 hF => q (a :: as) H3 (e2.trans e3) (.cons (hT.mono e3) hF)
theorem ev_callP {sp : Sp} {n : Int} {z : V} (h : EvP te σ H ts) (hsp : ∀ a H1 Q, TiesAt K H1 a ts → RetV z H1 Q → sp [.int n, .ref a] H1 Q E0) : Ev (tCall sp [] E0 (tCons (tC (.int n)) (tCons te tNil))) σ H z := fun H1 e Q q =>
  h H1 e _ fun a as H2 na e2 hP => hsp a H2 Q hP.ties fun H3 e3 => q H3 (e2.trans e3)
theorem ev_row {n : Int} {b : Bool} (h : EvP te σ H ts) (N : netB n ts = true) (hb : isRowF n.toNat ts = b) : Ev (tCall (sp_is_row K) [] E0 (tCons (tC (.int n)) (tCons te tNil))) σ H (.bl b) :=
  ev_callP (K := K) h fun a H1 Q hT q => ⟨a, ts, n, rfl, hT, netB_ok N, by rw [hb]; exact q⟩
theorem ev_wood {n : Int} {b : Bool} (h : EvP te σ H ts) (N : netB n ts = true) (hb : isWoodF n.toNat ts = b) : Ev (tCall (sp_is_wood K) [] E0 (tCons (tC (.int n)) (tCons te tNil))) σ H (.bl b) :=
  ev_callP (K := K) h fun a H1 Q hT q => ⟨a, ts, n, rfl, hT, netB_ok N, by rw [hb]; exact q⟩
theorem ev_right {n : Int} {a : Addr} (hn : Ev tn σ H (.int n)) (ha : Ev te σ H (.ref a)) (hT : TiesAt K H a ts) (N : NetOk n ts) : Ev (tCall (sp_l_right K) [] E0 (tCons tn (tCons te tNil))) σ H (.bl true) := fun H1 e Q q =>
  hn H1 e _ fun H2 e2 => ha H2 (e.trans e2) _ fun H3 e3 => ⟨a, ts, n, rfl, hT.mono ((e.trans e2).trans e3), N, fun H4 e4 => q H4 ((e2.trans e3).trans e4)⟩
/-- a comprehension's list of pairs -/
theorem ep_of {ls : List (List V)} (h : EvLL te σ H ls) (hl : ls = ts.map fun t => [V.int t.1, V.int t.2]) : EvP te σ H ts := fun H1 e _ q => h H1 e _ fun D H2 nD e2 hD => by
  obtain ⟨ps, a, b, c, d⟩ := hD
  refine q D ps H2 nD e2 ⟨a, F2.of_at (by rw [b, hl, List.length_map]) fun i p t x y => (d i p _ x ?_).2⟩
  rw [hl, List.getElem?_map, y]
  rfl
theorem q_asgP {D : Ends} {tz : TS} {i : Nat} (h : EvP te σ H ts) (k : ∀ a as H1, H a = none → Ex H H1 → Ps H1 a as ts → tz D (σ.set i (some (.ref a))) H1) : tSeq (tAsg te (gName i)) tz D σ H :=
  h H (Ex.refl H) _ fun a as H1 na e hP => k a as H1 na e hP
end
end K01

namespace K01
open PySem PySem.Spec PyProof.Rows L2 Vf Evl
theorem perm_refs {ys : List V} {as : List Addr} (h : ys.Perm (as.map V.ref)) : ∃ as' : List Addr, ys = as'.map V.ref ∧ as'.Perm as := by
  have key : ∀ {xs ys : List V}, xs.Perm ys → ∀ {as : List Addr}, xs = as.map V.ref → ∃ as' : List Addr, ys = as'.map V.ref ∧ as'.Perm as := by
    intro xs ys h
    induction h with
    | nil =>
      intro as e
      cases as with
      | nil => exact ⟨[], rfl, .refl _⟩
      | cons _ _ => cases e
    | cons x p ih =>
      intro as e
      cases as with
      | nil => cases e
      | cons b bs =>
        injection e with e1 e2
        obtain ⟨cs, h1, h2⟩ := ih e2
        exact ⟨b :: cs, by rw [e1, h1]; rfl, h2.cons _⟩
    | swap x y l =>
      intro as e
      match as, e with
      | b :: c :: bs, e =>
        injection e with e1 e2
        injection e2 with e2 e3
        exact ⟨c :: b :: bs, by rw [e1, e2, e3]; rfl, .swap _ _ _⟩
    | trans p1 p2 ih1 ih2 =>
      intro as e
      obtain ⟨b1, h1, h2⟩ := ih1 e
      obtain ⟨b2, h3, h4⟩ := ih2 h1
      exact ⟨b2, h3, h4.trans h2⟩
  exact key h.symm rfl
section
variable {K : PySem.W.Frag} {σ : L2.St} {H : Hp} {te tl : TE}
def EvD (te : TE) (σ : L2.St) (H : Hp) : Prop := ∀ H1, Ex H H1 → ∀ Q : VK, (∀ (R : Addr) (ds : List Addr) (H2 : Hp), Ex H1 H2 → H2 R = some (.lst (ds.map V.ref)) → R ∉ ds → (∀ d ∈ ds, Dr H2 d 0) → ds.length ≤ 100 → Q (.ref R) H2) → te σ H1 Q
def DW (H1 : Hp) (Dl : Addr) (i : Nat) (H' : Hp) : Prop := H1 Dl = none ∧ Ex H1 H' ∧ ∃ ds : List Addr, H' Dl = some (.lst (ds.map V.ref)) ∧ ds.length = i ∧ Dl ∉ ds ∧ ∀ d ∈ ds, Dr H' d 0
theorem ed_lc {cs : List Int} {j : Nat} {vs : List Nat} (h : EvL tl σ H (cs.map V.int)) (hl : cs.length ≤ 100) (hw : ∀ x, wipe ((wipe σ vs).set j (some x)) vs = wipe σ vs) (hj : ∀ x, ((wipe σ vs).set j (some x))[j]? = some (some x)) :
    EvD (tLc (iList K tl) (gName j) tYes (tCall sp_l_draws [] E0 (tCons (tVar j) tNil)) vs) σ H := by
  intro H0 e Q q
  refine h H0 e _ fun a H1 na e1 hx => ⟨a, rfl, ⟨_, .inl (.inl hx)⟩, fun Dl hD => ?_⟩
  refine lc_list (xs := cs.map V.int) (DW H1 Dl) ⟨hD, Ex.new hD, [], upd_same, rfl, (by simp), fun d hd => (by simp at hd)⟩
    (fun i H' _ p => .inl (.inl (p.2.1 _ _ hx))) (fun i x H' hi p => ⟨hw x, ?_⟩) fun H' p => ?_
  · obtain ⟨c, hc, rfl⟩ := map_at hi
    obtain ⟨p1, p2, ds, h1, h2, h3, h4⟩ := p
    have hlt := (List.getElem?_eq_some_iff.mp hc).1
    show tCall sp_l_draws [] E0 (tCons (tVar j) tNil) _ H' fun y H4 => ∃ acc, H4 Dl = some (.lst acc) ∧ acc.length < sizeLine ∧ DW H1 Dl (i + 1) (upd H4 Dl (.lst (acc ++ [y])))
    refine ⟨_, hj _, c, rfl, fun x b p H2 np e2 hp => ⟨ds.map V.ref, e2 _ _ h1, sz_lt (by rw [List.length_map]; omega), p1, Ex.mut (p2.trans e2) p1, ds ++ [p], ?_, ?_, ?_, ?_⟩⟩
    · rw [upd_same, List.map_append]
      rfl
    · rw [List.length_append, h2]
      rfl
    · intro z
      rcases List.mem_append.mp z with z | z
      · exact h3 z
      · rw [List.mem_singleton.mp z, np] at h1
        cases h1
    · intro d hd
      rcases List.mem_append.mp hd with z | z
      · obtain ⟨xx, bb, hh⟩ := h4 d z
        refine ⟨xx, bb, ?_⟩
        rw [upd_ne (show d ≠ Dl from fun y => h3 (y ▸ z))]
        exact e2 _ _ hh
      · rw [List.mem_singleton.mp z]
        refine ⟨x, b, ?_⟩
        rw [upd_ne (show p ≠ Dl from fun y => by rw [y, h1] at np; cases np)]
        exact hp
  · obtain ⟨p1, p2, ds, h1, h2, h3, h4⟩ := p
    exact q Dl ds H' (e1.trans p2) h1 h3 h4 (by rw [h2, List.length_map]; exact hl)
theorem q_forD {tu tz : TS} {D : Ends} {j : Nat} (h : EvD te σ H) (Pv : Addr → List Addr → Nat → L2.St → Hp → Prop) (h0 : ∀ R ds H1, Ex H H1 → H1 R = some (.lst (ds.map V.ref)) → R ∉ ds → (∀ d ∈ ds, Dr H1 d 0) → ds.length ≤ 100 → Pv R ds 0 σ H1)
    (hl : ∀ R ds i σ' H', Pv R ds i σ' H' → H' R = some (.lst (ds.map V.ref))) (hs : ∀ R (ds : List Addr) i d σ' H', ds[i]? = some d → Pv R ds i σ' H' → tu { D with nx := Pv R ds (i + 1), ct := Pv R ds (i + 1), bk := tz D } (σ'.set j (some (.ref d))) H')
    (hd : ∀ R ds i σ' H', Pv R ds i σ' H' → tz D σ' H') : tSeq (tFor (iList K te) (gName j) tu) tz D σ H :=
  h H (Ex.refl H) _ fun R ds H1 e1 hR nR hds dl => ⟨R, rfl, ⟨_, .inl (.inl hR)⟩, for_list (xs := ds.map V.ref) (D := { D with nx := tz D }) (Pv R ds) (h0 R ds H1 e1 hR nR hds dl) (fun i σ' H' _ z => .inl (.inl (hl R ds i σ' H' z)))
    (fun i x σ' H' hx z => by
      obtain ⟨d, hd, rfl⟩ := map_at hx
      exact hs R ds i d σ' H' hd z) fun σ' H' z => hd R ds _ σ' H' z⟩
/-- each of the draws is a list of draws, and none of them far gone -/
def Drs (H : Hp) (ds : List Addr) (m : Int) : Prop := ∀ d ∈ ds, ∃ k, Dr H d k ∧ 0 ≤ k ∧ k ≤ m
theorem Drs.step {H H' : Hp} {ds : List Addr} {m m' : Int} {d : Addr} {k : Int} (h : Drs H ds m) (e : ExA d H H') (hd : Dr H' d k) (h0 : 0 ≤ k) (h1 : k ≤ m') (hm : m ≤ m') : Drs H' ds m' := fun b hb => by
  by_cases c : b = d
  · rw [c]
    exact ⟨k, hd, h0, h1⟩
  · obtain ⟨kk, ⟨x, bb, hx⟩, k0, k1⟩ := h b hb
    exact ⟨kk, ⟨x, bb, e _ _ c hx⟩, k0, by omega⟩
theorem Drs.on {H H' : Hp} {ds : List Addr} {m m' : Int} (h : Drs H ds m) (e : Ex H H') (hm : m ≤ m') : Drs H' ds m' := fun b hb => by
  obtain ⟨kk, hd, k0, k1⟩ := h b hb
  exact ⟨kk, hd.on e, k0, by omega⟩
end
end K01

namespace K01
open PySem PySem.Spec PyProof.Rows L2 Vf Evl
/-- the turned ties while they are made -/
def TW (H3 : Hp) (Dl p2 d : Addr) (as' : List Addr) (ts' : List (Int × Int)) (k3 : Int) (i : Nat) (H' : Hp) : Prop :=
  H3 Dl = none ∧ H' p2 = some (.lst (as'.map V.ref)) ∧ ∃ (us : List (Int × Int)) (k2 : Int), TM H' Dl us ∧ us.map nrm = (ts'.take i).map nrm ∧ ExA d H3 H' ∧ Dr H' d k2 ∧ (0 ≤ k2 ∧ k2 ≤ k3 + i)
theorem TW.push {H3 H4 : Hp} {Dl p2 d : Addr} {as' : List Addr} {ts' us : List (Int × Int)} {k3 k2 : Int} {i : Nat} {t : Int × Int} {x y : Int} {q : Addr} (ht : ts'[i]? = some t) (hl : ts'.length ≤ 1000) (h0 : H3 Dl = none) (hp2 : H4 p2 = some (.lst (as'.map V.ref)))
    (hT : TM H4 Dl us) (hu : us.map nrm = (ts'.take i).map nrm) (e : ExA d H3 H4) (hd : Dr H4 d k2) (hk : 0 ≤ k2 ∧ k2 ≤ k3 + (i + 1 : Nat)) (nq : H4 q = none) (hx : nrm (x, y) = nrm t) (npl : p2 ≠ Dl) (ndl : d ≠ Dl) :
    ∃ acc, (upd H4 q (.lst [.int x, .int y])) Dl = some (.lst acc) ∧ acc.length < sizeLine ∧ TW H3 Dl p2 d as' ts' k3 (i + 1) (upd (upd H4 q (.lst [.int x, .int y])) Dl (.lst (acc ++ [.ref q]))) := by
  obtain ⟨as, a1, a2, a3⟩ := hT.push2 x y
  have eq : Ex H4 (upd H4 q (.lst [.int x, .int y])) := Ex.new nq
  have hi := (List.getElem?_eq_some_iff.mp ht).1
  have ul : us.length = i := by
    have z := congrArg List.length hu
    rw [List.length_map, List.length_map, List.length_take] at z
    omega
  refine ⟨as.map V.ref, eq _ _ a1, sz_lt (by rw [List.length_map]; omega), h0, ?_, us ++ [(x, y)], k2, a3 q _ nq eq upd_same, ?_, (e.trans (ExA.of eq)).mut h0, ?_, hk⟩
  · rw [upd_ne npl]
    exact eq _ _ hp2
  · rw [List.map_append, hu, take_snoc ht, List.map_append]
    show _ ++ [nrm (x, y)] = _ ++ [nrm t]
    rw [hx]
  · obtain ⟨xx, bb, hh⟩ := hd
    refine ⟨xx, bb, ?_⟩
    rw [upd_ne ndl]
    exact eq _ _ hh
theorem yes_if {σ : L2.St} {H : Hp} {A B : Hp → Prop} (h : A H) : tYes σ H fun b H3 => if b = true then A H3 else B H3 := iteT (B := B H) h
section
variable {K : PySem.W.Frag} {σ : L2.St} {H : Hp} {ta : TA}
theorem q_forN {tu tz : TS} {D : Ends} {j : Nat} {tss : List (List (Int × Int))} (h : EaT K ta σ H tss) (hl : tss.length ≤ 1000) (W : L2.St → Prop) (h0 : W σ)
    (hs : ∀ a ts σ' H' (N : L2.St → Hp → Prop), W σ' → Ex H H' → TiesAt K H' a ts → ts ∈ tss → (∀ σ2 H2, W σ2 → Ex H' H2 → N σ2 H2) → tu { D with nx := N, ct := N, bk := tz D } (σ'.set j (some (.ref a))) H')
    (hd : ∀ σ' H', W σ' → Ex H H' → tz D σ' H') : tSeq (tFor (iList K (tLst ta)) (gName j) tu) tz D σ H :=
  h H (Ex.refl H) _ fun as H1 e1 hF => ⟨sz_of (by rw [List.length_map, hF.len]; omega), fun p np => by
    have e2 : Ex H1 (upd H1 p (.lst (as.map V.ref))) := Ex.new np
    have hp : (upd H1 p (.lst (as.map V.ref))) p = some (.lst (as.map V.ref)) := upd_same
    refine ⟨p, rfl, ⟨_, .inl (.inl hp)⟩, for_list (xs := as.map V.ref) (D := { D with nx := tz D }) (fun i σ' H' => W σ' ∧ Ex (upd H1 p (.lst (as.map V.ref))) H') ⟨h0, Ex.refl _⟩ (fun i σ' H' _ z => .inl (.inl (z.2 _ _ hp))) (fun i x σ' H' hx z => ?_) fun σ' H' z => hd σ' H' z.1 ((e1.trans e2).trans z.2)⟩
    obtain ⟨a, ha, rfl⟩ := map_at hx
    have hi : i < tss.length := by rw [← hF.len]; exact (List.getElem?_eq_some_iff.mp ha).1
    have ht := List.getElem?_eq_getElem hi
    exact hs a _ σ' H' _ z.1 ((e1.trans e2).trans z.2) ((hF.at_ ha ht).mono (e2.trans z.2)) (List.mem_of_getElem? ht) fun σ2 H2 w e => ⟨w, z.2.trans e⟩⟩
end
section
variable {K : PySem.W.Frag} {σ : L2.St} {H : Hp} {ta : TA} {te tb : TE}
def EvDp (K : PySem.W.Frag) (te : TE) (σ : L2.St) (H : Hp) (d : PyData) : Prop := ∀ H1, Ex H H1 → ∀ Q : VK, (∀ v H2, Ex H1 H2 → Dp K H2 v d → Q v H2) → te σ H1 Q
def EaDp (K : PySem.W.Frag) (ta : TA) (σ : L2.St) (H : Hp) (ds : List PyData) : Prop := ∀ H1, Ex H H1 → ∀ Q : List V → Hp → Prop, (∀ vs H2, Ex H1 H2 → DpAll K H2 vs ds → vs.length = ds.length → Q vs H2) → ta σ H1 Q
theorem ed_ints {ns : List Int} (h : EvL te σ H (ns.map V.int)) : EvDp K te σ H (dInts ns) := fun H1 e _ q => h H1 e _ fun p H2 _ e2 hp => q _ H2 e2 (dp_ints (.inl (.inl hp)))
theorem ed_nil : EaDp K tNil σ H [] := fun H1 _ _ q => q [] H1 (Ex.refl H1) .nil rfl
theorem ed_cons {d : PyData} {ds : List PyData} (h : EvDp K te σ H d) (k : EaDp K ta σ H ds) : EaDp K (tCons te ta) σ H (d :: ds) := fun H1 e _ q =>
  h H1 e _ fun v H2 e2 hd => k H2 (e.trans e2) _ fun vs H3 e3 ha hl => q (v :: vs) H3 (e2.trans e3) (.cons (Dp.on e3 _ _ hd) ha) (by rw [List.length_cons, hl]; rfl)
theorem ed_lst {ds : List PyData} (h : EaDp K ta σ H ds) (hl : ds.length ≤ 1000) : EvDp K (tLst ta) σ H (.list ds) := fun H1 e _ q =>
  h H1 e _ fun vs H2 e2 ha hl2 => ⟨sz_of (by rw [hl2]; omega), fun p np => q _ _ (e2.trans (Ex.new np)) (.lst (.inl (.inl upd_same)) (DpAll.on (Ex.new np) _ _ ha))⟩
theorem ev_parts {n : Int} {ts : List (Int × Int)} {rows : List (List Int)} (h : EvP te σ H ts) (N : netB n ts = true) (hb : partsF n.toNat ts = rows) (hd : EvDp K tb σ H (dRows rows)) (hs : SeqAt.shaped (dRows rows) = true) (he : PyData.eqv (dRows rows) (dRows rows) = true) :
    Ev (tOp (rEqD K) (tCall (sp_parts K) [] E0 (tCons (tC (.int n)) (tCons te tNil))) tb) σ H (.bl true) := fun H1 e Q q =>
  h H1 e _ fun b bs H2 nb e2 hP => ⟨b, ts, n, rfl, hP.ties, netB_ok N, fun D H3 nD e3 hD => by
    rw [hb] at hD
    refine hd H3 ((e.trans e2).trans e3) _ fun v H4 e4 hv => ⟨_, _, ll_dp (hD.on e4), hv, hs, hs, ?_⟩
    rw [he]
    exact q H4 ((e2.trans e3).trans e4)⟩
end
section
variable {P : Program} {w : World} {K : PySem.W.Frag} {mg : Str → Option Value} {base : Heap} {A : Ad}
def sp_law (K : PySem.W.Frag) : Sp := fun vs H Q _ => ∃ (a : Addr) (ns : List Int), vs = [.ref a] ∧ SqL K H a (ns.map V.int) ∧ ns.length ≤ 63 ∧ ∀ H2, Q (.bl true) H2
theorem ok_law (T : Txt K mg A) : FnG P w K mg base CX0 8 A.f_law A.d_law ["_law_script"] (sp_law K) := by
  have G_l_draws : FnOk P w K mg base CX0 1 A.f_l_draws A.d_l_draws ["_law_cell"] sp_l_draws := ok_l_draws T
  have G_l_next : FnOk P w K mg base CX0 1 A.f_l_next A.d_l_next ["_law_draws_here"] sp_l_next := ok_l_next T
  have G_l_mixed : FnOk P w K mg base CX0 2 A.f_l_mixed A.d_l_mixed ["_law_draws_here", "_law_some"] (sp_l_mixed K) := ok_l_mixed T
  have G_l_net : FnOk P w K mg base CX0 3 A.f_l_net A.d_l_net ["_law_draws_here", "_law_most"] sp_l_net := ok_l_net T
  have G_l_right : FnG P w K mg base CX0 7 A.f_l_right A.d_l_right ["_law_seats", "_law_ties"] (sp_l_right K) := ok_l_right T
  have G_parts : FnOk P w K mg base CX0 6 A.f_parts A.d_parts ["seats", "ties"] (sp_parts K) := ok_parts T
  have G_is_wood : FnOk P w K mg base CX0 6 A.f_is_wood A.d_is_wood ["seats", "ties"] (sp_is_wood K) := ok_is_wood T
  have G_is_row : FnOk P w K mg base CX0 6 A.f_is_row A.d_is_row ["seats", "ties"] (sp_is_row K) := ok_is_row T
  refine okG T.F_law sc_law (fun vs H Q E h => ?_) (fun cdv A' outer s H vs Q E hgd hr h => ?_)
  · obtain ⟨a, ns, rfl, _⟩ := h
    rfl
  · obtain ⟨a, ns, rfl, hS, hl, q⟩ := h
    refine ⟨_, (pss_cons (ps_for PassesOwn.never rfl (pi_listK (K := K) rfl (pe_lc (own := [("_law_cell", 8)]) rfl sc_law.nd (pi_listK (K := K) rfl (pe_op op_cat (pe_slice (sl_listK (K := K) rfl) (pv 0) po_none (po_some pe_int)) (pe_lst (pa_cons pe_int pa_nil)))) (blkOk_by (by kernel_rfl)) (fun _ _ _ _ _ => (pg_name (i := 8) sc_law.nd rfl (by first | exact .inl rfl | exact .inr rfl))) (fun _ _ _ _ _ => pts_nil) (fun _ _ _ _ _ => (pe_call G_l_draws (hr.mono (by decide)) (by rfl) T.g_l_draws T.F_l_draws.kp T.b_l_draws .nil pass0 (pa_cons (pv 8) pa_nil))))) (pg_name (i := 1) sc_law.nd rfl (by first | exact .inl rfl | exact .inr rfl)) (pss_one (ps_for PassesOwn.never rfl (pi_listK (K := K) rfl (pe_lst (pa_cons pe_int (pa_cons pe_int (pa_cons pe_int pa_nil))))) (pg_name (i := 2) sc_law.nd rfl (by first | exact .inl rfl | exact .inr rfl)) (pss_cons (ps_asg (pe_call G_l_net (hr.mono (by decide)) (by rfl) T.g_l_net T.F_l_net.kp T.b_l_net .nil pass0 (pa_cons (pv 1) (pa_cons (pv 2) pa_nil))) (pg_tupK (K := K) rfl rfl (pgs_cons (pg_name (i := 3) sc_law.nd rfl (by first | exact .inl rfl | exact .inr rfl)) (pgs_cons (pg_name (i := 4) sc_law.nd rfl (by first | exact .inl rfl | exact .inr rfl)) pgs_nil))))
      (pss_cons (ps_setLc (i := 5) (own := [("_law_pair", 9)]) rfl sc_law.nd rfl rfl (sw_true rfl rfl rfl (by decide +kernel)) (pi_listK (K := K) rfl (pe_call G_l_mixed (hr.mono (by decide)) (by rfl) T.g_l_mixed T.F_l_mixed.kp T.b_l_mixed .nil pass0 (pa_cons (pv 1) (pa_cons (pv 4) pa_nil)))) (blkOk_by (by kernel_rfl)) (fun _ _ _ _ _ => (pg_name (i := 9) sc_law.nd rfl (by first | exact .inl rfl | exact .inr rfl))) (fun _ _ _ _ _ => pts_nil) (fun _ _ _ _ _ => (pe_ifExp (pt_cmpR op_eq (pe_op op_modN (pe_callTy call_int1 (by rfl) T.z_int (by decide +kernel) (pa_cons (pe_call G_l_next (hr.mono (by decide)) (by rfl) T.g_l_next T.F_l_next.kp T.b_l_next .nil pass0 (pa_cons (pv 1) pa_nil)) pa_nil)) pe_int) pe_int (nomark _)) (pe_revK (K := K) rfl (pv 9)) (pe_callTy (call_listK (K := K) rfl) (by rfl) T.z_list (by decide +kernel) (pa_cons (pv 9) pa_nil)))))
      (pss_one (ps_if (PW.pt (pw_or (pt_not (pt_val (pe_callG G_l_right hgd (hr.mono (by decide)) (by rfl) T.g_l_right T.F_l_right.kp T.b_l_right (pa_cons (pv 3) (pa_cons (pv 4) pa_nil))))) (pw_or1 (pt_not (pt_val (pe_callG G_l_right hgd (hr.mono (by decide)) (by rfl) T.g_l_right T.F_l_right.kp T.b_l_right (pa_cons (pv 3) (pa_cons (pv 5) pa_nil)))))))) (pss_one (ps_ret pe_bl)) pss_nil)))))))
      (pss_cons (ps_setLc (i := 6) (own := [("_law_seat", 10)]) rfl sc_law.nd rfl rfl (sw_true rfl rfl rfl (by decide +kernel)) (pi_range2 (by rfl) T.z_range (pa_cons pe_int (pa_cons pe_int pa_nil))) (blkOk_by (by kernel_rfl)) (fun _ _ _ _ _ => (pg_name (i := 10) sc_law.nd rfl (by first | exact .inl rfl | exact .inr rfl))) (fun _ _ _ _ _ => pts_nil) (fun _ _ _ _ _ => (pe_lst (pa_cons (pv 10) (pa_cons (pe_op op_add (pv 10) pe_int) pa_nil)))))
      (pss_cons (ps_setLc (i := 7) (own := [("_law_seat", 10)]) rfl sc_law.nd rfl rfl (sw_true rfl rfl rfl (by decide +kernel)) (pi_range2 (by rfl) T.z_range (pa_cons pe_int (pa_cons pe_int pa_nil))) (blkOk_by (by kernel_rfl)) (fun _ _ _ _ _ => (pg_name (i := 10) sc_law.nd rfl (by first | exact .inl rfl | exact .inr rfl))) (fun _ _ _ _ _ => pts_nil) (fun _ _ _ _ _ => (pe_lst (pa_cons pe_int (pa_cons (pv 10) pa_nil)))))
      (pss_cons (ps_for PassesOwn.never rfl (pi_listK (K := K) rfl (pe_lst (pa_cons (pe_lst pa_nil) (pa_cons (pv 6) (pa_cons (pe_op op_cat (pv 6) (pe_lst (pa_cons (pe_lst (pa_cons pe_int (pa_cons pe_int pa_nil))) pa_nil))) (pa_cons (pe_slice (sl_listK (K := K) rfl) (pv 6) po_none (po_some pe_int)) (pa_cons (pe_lst (pa_cons (pe_lst (pa_cons pe_int (pa_cons pe_int pa_nil))) pa_nil)) (pa_cons (pe_lst (pa_cons (pe_lst (pa_cons pe_int (pa_cons pe_int pa_nil))) (pa_cons (pe_lst (pa_cons pe_int (pa_cons pe_int pa_nil))) pa_nil))) (pa_cons (pv 7) pa_nil))))))))) (pg_name (i := 4) sc_law.nd rfl (by first | exact .inl rfl | exact .inr rfl)) (pss_one (ps_if (pt_not (pt_val (pe_callG G_l_right hgd (hr.mono (by decide)) (by rfl) T.g_l_right T.F_l_right.kp T.b_l_right (pa_cons pe_int (pa_cons (pv 4) pa_nil))))) (pss_one (ps_ret pe_bl)) pss_nil)))
      (pss_cons (ps_if (PW.pt (pw_or (pt_not (pt_val (pe_call G_is_row (hr.mono (by decide)) (by rfl) T.g_is_row T.F_is_row.kp T.b_is_row .nil pass0 (pa_cons pe_int (pa_cons (pe_lst (pa_cons (pe_lst (pa_cons pe_int (pa_cons pe_int pa_nil))) (pa_cons (pe_lst (pa_cons pe_int (pa_cons pe_int pa_nil))) pa_nil))) pa_nil))))) (pw_or (pt_val (pe_call G_is_row (hr.mono (by decide)) (by rfl) T.g_is_row T.F_is_row.kp T.b_is_row .nil pass0 (pa_cons pe_int (pa_cons (pe_lst (pa_cons (pe_lst (pa_cons pe_int (pa_cons pe_int pa_nil))) (pa_cons (pe_lst (pa_cons pe_int (pa_cons pe_int pa_nil))) (pa_cons (pe_lst (pa_cons pe_int (pa_cons pe_int pa_nil))) pa_nil)))) pa_nil)))) (pw_or1 (pt_val (pe_call G_is_row (hr.mono (by decide)) (by rfl) T.g_is_row T.F_is_row.kp T.b_is_row .nil pass0 (pa_cons pe_int (pa_cons (pe_lst (pa_cons (pe_lst (pa_cons pe_int (pa_cons pe_int pa_nil))) (pa_cons (pe_lst (pa_cons pe_int (pa_cons pe_int pa_nil))) pa_nil))) pa_nil)))))))) (pss_one (ps_ret pe_bl)) pss_nil)
      (pss_cons (ps_if (pt_cmpR (op_neD hr.units) (pe_lst (pa_cons (pe_call G_is_wood (hr.mono (by decide)) (by rfl) T.g_is_wood T.F_is_wood.kp T.b_is_wood .nil pass0 (pa_cons pe_int (pa_cons (pe_lst pa_nil) pa_nil))) (pa_cons (pe_call G_is_row (hr.mono (by decide)) (by rfl) T.g_is_row T.F_is_row.kp T.b_is_row .nil pass0 (pa_cons pe_int (pa_cons (pe_lst pa_nil) pa_nil))) (pa_cons (pe_call G_is_wood (hr.mono (by decide)) (by rfl) T.g_is_wood T.F_is_wood.kp T.b_is_wood .nil pass0 (pa_cons pe_int (pa_cons (pe_lst (pa_cons (pe_lst (pa_cons pe_int (pa_cons pe_int pa_nil))) (pa_cons (pe_lst (pa_cons pe_int (pa_cons pe_int pa_nil))) (pa_cons (pe_lst (pa_cons pe_int (pa_cons pe_int pa_nil))) pa_nil)))) pa_nil))) pa_nil)))) (pe_lst (pa_cons pe_bl (pa_cons pe_bl (pa_cons pe_bl pa_nil)))) (nomark _)) (pss_one (ps_ret pe_bl)) pss_nil)
      (pss_one (ps_ret (pe_and (pe_cmpR (op_eqD hr.units) (pe_call G_parts (hr.mono (by decide)) (by rfl) T.g_parts T.F_parts.kp T.b_parts .nil pass0 (pa_cons pe_int (pa_cons (pe_lst (pa_cons (pe_lst (pa_cons pe_int (pa_cons pe_int pa_nil))) (pa_cons (pe_lst (pa_cons pe_int (pa_cons pe_int pa_nil))) pa_nil))) pa_nil))) (pe_lst (pa_cons (pe_lst (pa_cons pe_int pa_nil)) (pa_cons (pe_lst (pa_cons pe_int (pa_cons pe_int (pa_cons pe_int pa_nil)))) (pa_cons (pe_lst (pa_cons pe_int pa_nil)) pa_nil)))) (nomark _)) (pe_one (pe_not (pe_call G_is_row (hr.mono (by decide)) (by rfl) T.g_is_row T.F_is_row.kp T.b_is_row .nil pass0 (pa_cons pe_int (pa_cons (pe_lst (pa_cons (pe_lst (pa_cons pe_int (pa_cons pe_int pa_nil))) (pa_cons (pe_lst (pa_cons pe_int (pa_cons pe_int pa_nil))) (pa_cons (pe_lst (pa_cons pe_int (pa_cons pe_int pa_nil))) pa_nil)))) pa_nil)))))))))))))), ?_⟩
    -- for draws in [_law_draws(cell) for cell in script[:6] + [0]]
    have lead : EvL (tOp rCat (tSl (rSlL K) (tVar 0) tNoPart (tPart (tC (.int 6)))) (tLst (tCons (tC (.int 0)) tNil))) [some (.ref a), none, none, none, none, none, none, none, none, none, none] H ((ns.take 6 ++ [0]).map V.int) := by
      intro H1 e1 Q q
      refine el_sl (ev_var rfl) eo_none (eo_some ev_c) hS H1 e1 _ fun p H2 np e2 hp => ?_
      rw [show (6 : Int) = ((6 : Nat) : Int) from rfl, cut_to, ← List.map_take] at hp
      refine el_lst (ea_cons (x := .int 0) ev_c ea_nil) (by show 1 ≤ 100000; decide) H2 (Ex.refl H2) _ fun p2 H3 np2 e3 hp2 => ?_
      refine ⟨p, p2, _, _, rfl, rfl, e3 _ _ hp, hp2, ?_, fun p3 np3 => ?_⟩
      · rw [List.length_map, List.length_take]
        exact sz_of (by show min 6 ns.length + 1 ≤ 100000; omega)
      · exact q p3 _ (fresh_back (e2.trans e3) np3) ((e2.trans e3).trans (Ex.new np3)) (by rw [upd_same, List.map_append]; rfl)
    refine q_forD (K := K) (ed_lc (K := K) (vs := [8]) (j := 8) lead (by rw [List.length_append, List.length_take]; show min 6 ns.length + 1 ≤ 100; omega) (fun x => rfl) (fun x => rfl)) (fun R ds i σ' H' => (∃ y1 y2 y3 y4 y5, σ' = [some (.ref a), y1, y2, y3, y4, y5, none, none, none, none, none]) ∧ H' R = some (.lst (ds.map V.ref)) ∧ R ∉ ds ∧ ds.length ≤ 100 ∧ Drs H' ds (100000 * i))
      (fun R ds H1 e1 hR nR hds dl => ⟨⟨none, none, none, none, none, rfl⟩, hR, nR, dl, fun d hd => ⟨0, hds d hd, by omega, by omega⟩⟩) (fun R ds i σ' H' z => z.2.1) ?_ ?_
    · rintro R ds i d σ' H2 hd ⟨⟨y1, y2, y3, y4, y5, rfl⟩, hR2, nR, dl, hD2⟩
      have dmem := List.mem_of_getElem? hd
      have il : i < 100 := by have := (List.getElem?_eq_some_iff.mp hd).1; omega
      have nRd : R ≠ d := fun z => nR (z ▸ dmem)
      -- for most in [4, 8, 40]
      refine s_forNL (xs := [.int 4, .int 8, .int 40]) (el_lst (ea_cons ev_c (ea_cons ev_c (ea_cons ev_c ea_nil))) (by show 3 ≤ 100000; decide)) (fun p j σ' H' => (∃ y2 y3 y4 y5, σ' = [some (.ref a), some (.ref d), y2, y3, y4, y5, none, none, none, none, none]) ∧
          H' p = some (.lst [.int 4, .int 8, .int 40]) ∧ p ≠ d ∧ H' R = some (.lst (ds.map V.ref)) ∧ Drs H' ds (100000 * i + 20000 * j)) ?_ (fun p j σ' H' _ z => .inl (.inl z.2.1)) ?_ ?_
      · intro p H3 np e3 hp
        refine ⟨⟨_, _, _, _, rfl⟩, hp, fun z => ?_, e3 _ _ hR2, hD2.on e3 (by omega)⟩
        obtain ⟨k, ⟨xx, bb, hh⟩, _⟩ := hD2 d dmem
        rw [← z, np] at hh
        cases hh
      · rintro p j x σ' H3 hx ⟨⟨y2, y3, y4, y5, rfl⟩, hp, npd, hR3, hD3⟩
        obtain ⟨m, rfl, hm1, hm2, hj⟩ : ∃ m : Int, x = .int m ∧ 4 ≤ m ∧ m ≤ 40 ∧ j < 3 := by
          match j, hx with
          | 0, hx => exact ⟨4, (Option.some.inj hx).symm, by decide, by decide, by decide⟩
          | 1, hx => exact ⟨8, (Option.some.inj hx).symm, by decide, by decide, by decide⟩
          | 2, hx => exact ⟨40, (Option.some.inj hx).symm, by decide, by decide, by decide⟩
        obtain ⟨k, hdk, k0, k1⟩ := hD3 d dmem
        -- seats, ties = _law_net(draws, most)
        refine ⟨_, rfl, _, rfl, d, k, m, rfl, hdk, ⟨k0, by omega⟩, ⟨hm1, hm2⟩, fun n ts at_ t k' H4 N nt eA hd' hk' hTM ht => ?_⟩
        refine ⟨t, _, rfl, .inl (.inl ht), rfl, _, _, rfl, _, _, rfl, rfl, ?_⟩
        have hp4 := eA _ _ npd hp
        have hR4 := eA _ _ nRd hR3
        have hD4 : Drs H4 ds (100000 * i + 20000 * j + 5000) := hD3.step eA hd' hk'.1 (by omega) (by omega)
        obtain ⟨as, hP, nas⟩ := hTM.ps
        have few := N.few
        have asl : as.length = ts.length := hP.2.len
        have nd0 : ∀ {b : Addr} {t : Int × Int}, At2 H4 b t → b ≠ d := fun {b t} h z => by
          obtain ⟨xx, bb, hh⟩ := hd'
          unfold At2 at h
          rw [z, hh] at h
          cases h
        have has : ∀ b ∈ as, ∃ t, At2 H4 b t := fun b hb => by
          obtain ⟨i, hi, e⟩ := List.getElem_of_mem hb
          exact ⟨_, hP.2.at_ (by rw [List.getElem?_eq_getElem hi, e]) (List.getElem?_eq_getElem (by omega : i < ts.length))⟩
        -- turned = [..]
        refine ⟨_, rfl, _, rfl, d, at_, k', as.map V.ref, rfl, hd', ⟨hk'.1, by rw [List.length_map]; omega⟩, .inl (.inl hP.1), by rw [List.length_map]; omega, fun H' e x hx => ?_, fun ys p2 H5 pm np2 e5 hd5 hp2 => ?_⟩
        · obtain ⟨b, hb, rfl⟩ := List.mem_map.mp hx
          obtain ⟨t, ht⟩ := has b hb
          exact Sh.pair (.inl (.inl (e _ _ (nd0 ht) ht)))
        obtain ⟨as', rfl, pa⟩ := perm_refs pm
        obtain ⟨ts', pt, hF⟩ := F2.perm pa.symm hP.2
        have tsl : ts'.length = ts.length := pt.length_eq.symm
        have asl' : as'.length = ts'.length := hF.len
        have hF5 : F2 (At2 H5) as' ts' := hF.mono fun b t h => e5 _ _ (nd0 h) h
        have np2d : p2 ≠ d := fun z => by
          obtain ⟨xx, bb, hh⟩ := hd'
          rw [← z, np2] at hh
          cases hh
        have hTM5 := hTM.exA hd' e5
        have hp5 := e5 _ _ npd hp4
        have hR5 := e5 _ _ nRd hR4
        rw [List.length_map] at hd5
        have hD5 : Drs H5 ds (100000 * i + 20000 * j + 6000) := hD4.step e5 hd5 (by omega) (by omega) (by omega)
        generalize hk5 : k' + (as.length : Int) = k5 at hd5
        have k50 : 0 ≤ k5 ∧ k5 ≤ 100000 * i + 20000 * j + 6000 := by omega
        refine ⟨p2, rfl, ⟨_, .inl (.inl hp2)⟩, fun Dl hDl => ?_⟩
        have n1 : p2 ≠ Dl := ne_of_none hp2 hDl
        have n2 : d ≠ Dl := by
          obtain ⟨xx, bb, hh⟩ := hd5
          exact ne_of_none hh hDl
        refine lc_list (xs := as'.map V.ref) (TW H5 Dl p2 d as' ts' k5) ?_ (fun i H' _ z => .inl (.inl z.2.1)) (fun c x H6 hc z => ⟨rfl, ?_⟩) fun H6 z => ?_
        · refine ⟨hDl, by rw [upd_ne n1]; exact hp2, [], k5, ⟨[], upd_same, rfl, (by simp), fun i b t x => nomatch x⟩, rfl, ExA.of (Ex.new hDl), hd5.on (Ex.new hDl), by omega⟩
        · obtain ⟨b, hb, rfl⟩ := map_at hc
          have hcl : c < ts'.length := by rw [← asl']; exact (List.getElem?_eq_some_iff.mp hb).1
          obtain ⟨t, ht⟩ : ∃ t, ts'[c]? = some t := ⟨_, List.getElem?_eq_getElem hcl⟩
          obtain ⟨z1, z2, us, k2, z3, z4, z5, z6, z7⟩ := z
          have hb5 := hF5.at_ hb ht
          have nbd : b ≠ d := fun z => by
            obtain ⟨xx, bb, hh⟩ := hd5
            unfold At2 at hb5
            rw [z, hh] at hb5
            cases hb5
          refine yes_if ?_
          refine ⟨_, rfl, d, k2, rfl, z6, ⟨z7.1, by omega⟩, fun r H7 r0 e7 hd7 => .inl ⟨r, rfl, _, _, rfl, rfl, (by show (2 : Int) ≠ 0; decide), rfl, _, rfl, ?_⟩⟩
          have hb7 : H7 b = some (.lst [.int t.1, .int t.2]) := e7 _ _ nbd (z5 _ _ nbd hb5)
          have hT7 := z3.exA z6 e7
          have hp7 := e7 _ _ np2d z2
          have eA7 := z5.trans e7
          rw [dec_vi]
          by_cases c0 : r.fmod 2 = 0
          · rw [decide_eq_true c0]
            refine iteT ⟨_, rfl, b, _, rfl, .inl (.inl hb7), fun q nq => ?_⟩
            exact TW.push (x := t.2) (y := t.1) ht (by omega) hDl hp7 hT7 z4 eA7 hd7 (by omega) nq (nrm_swap _ _) n1 n2
          · rw [decide_eq_false c0]
            refine iteF ⟨_, rfl, b, _, rfl, .inl (.inl (.inl hb7)), fun q nq => ?_⟩
            exact TW.push (x := t.1) (y := t.2) ht (by omega) hDl hp7 hT7 z4 eA7 hd7 (by omega) nq rfl n1 n2
        · obtain ⟨z1, z2, us, k2, z3, z4, z5, z6, z7⟩ := z
          rw [List.length_map, asl', List.take_length] at z4
          have NU : NetOk n us := net_turned N (by rw [z4]; exact (pt.map nrm).symm)
          have hTM6 := hTM5.exA hd5 z5
          refine s_when (b := false) (et_or (a := false) (b := false) (et_not (a := true) (et_B (ev_right (K := K) (ev_var rfl) (ev_var rfl) hTM6.at_ N))) fun _ => et_not (a := true) (et_B (ev_right (K := K) (ev_var rfl) (ev_var rfl) z3.at_ NU))) (fun z => nomatch z) fun _ H7 e7 => ?_
          refine ⟨⟨_, _, _, _, rfl⟩, e7 _ _ (z5 _ _ npd hp5), npd, e7 _ _ (z5 _ _ nRd hR5), (hD5.step z5 z6 z7.1 (m' := 100000 * i + 20000 * (j + 1 : Nat)) ?_ ?_).on e7 (Int.le_refl _)⟩
          · rw [List.length_map] at z7
            omega
          · omega
      · rintro p σ' H3 ⟨⟨y2, y3, y4, y5, rfl⟩, hp, npd, hR3, hD3⟩
        exact ⟨⟨_, _, _, _, _, rfl⟩, hR3, nR, dl, hD3.on (Ex.refl H3) (by show 100000 * (i : Int) + 20000 * 3 ≤ 100000 * ((i + 1 : Nat) : Int); omega)⟩
    · rintro R ds i σ' H2 ⟨⟨y1, y2, y3, y4, y5, rfl⟩, _⟩
      -- row = [..]
      refine q_asgP (i := 6) (ts := (List.range 39).map fun (i : Nat) => (1 + (i : Int), 1 + (i : Int) + 1)) (ep_of (ell_lcR2 (lo := 1) (n := 40) (fun _ => true) (fun i => [.int (1 + (i : Int)), .int (1 + (i : Int) + 1)]) (ea_cons ev_c (ea_cons ev_c ea_nil)) (by decide) (fun x => rfl) (fun _ _ _ _ => et_yes)
        (fun i H1 e1 hi _ => el_lst (ea_cons (ev_var rfl) (ea_cons (ev_op (ev_var rfl) ev_c rv_I0) ea_nil)) (by show 2 ≤ 100000; decide))) ?_) fun ar asr Hr nr er hPr => ?_
      · rw [List.map_map]
        rfl
      -- star = [..]
      refine q_asgP (i := 7) (ts := (List.range 39).map fun (i : Nat) => ((40 : Int), 1 + (i : Int))) (ep_of (ell_lcR2 (lo := 1) (n := 40) (fun _ => true) (fun i => [.int 40, .int (1 + (i : Int))]) (ea_cons ev_c (ea_cons ev_c ea_nil)) (by decide) (fun x => rfl) (fun _ _ _ _ => et_yes)
        (fun i H1 e1 hi _ => el_lst (ea_cons ev_c (ea_cons (ev_var rfl) ea_nil)) (by show 2 ≤ 100000; decide))) ?_) fun ar2 ass Hs nst es hPs => ?_
      · rw [List.map_map]
        rfl
      have hPr2 := hPr.on es
      -- for ties in [..]
      refine q_forN (K := K) (ea_consT (EvP.t (ep_lst ep_nil (by decide))) (ea_consT (et_var rfl hPr2) (ea_consT (et_cat (us := [(1, 40)]) rfl hPr2 (ep_lst (ep_cons el_cc ep_nil) (by decide)) (by decide)) (ea_consT (et_cut (n := 20) rfl hPr2) (ea_consT (EvP.t (ts := [(1, 3)]) (ep_lst (ep_cons el_cc ep_nil) (by decide)))
        (ea_consT (EvP.t (ts := [(39, 40), (2, 40)]) (ep_lst (ep_cons el_cc (ep_cons el_cc ep_nil)) (by decide))) (ea_consT (et_var rfl hPs) ea_nilT))))))) (by decide)
        (fun σ' => ∃ y4, σ' = [some (.ref a), y1, y2, y3, y4, y5, some (.ref ar), some (.ref ar2), none, none, none]) ⟨_, rfl⟩ ?_ ?_
      · rintro b ts σ' H' Nx ⟨y, rfl⟩ e hT hm hN
        have N : netB 40 ts = true := by
          clear hT hN
          revert ts
          decide +kernel
        refine s_when (b := false) (et_not (a := true) (et_B (ev_right (K := K) ev_c (ev_var rfl) hT (netB_ok N)))) (fun z => nomatch z) fun _ H1 e1 => hN _ _ ⟨_, rfl⟩ e1
      · rintro σ' H3 ⟨y, rfl⟩ e3
        -- if not is_row(3, ..) or is_row(3, ..) or is_row(4, ..)
        refine q_when (b := false) (et_or (a := false) (b := false) (et_not (a := true) (et_B (ev_row (K := K) (ts := [(1, 2), (2, 3)]) (ep_lst (ep_cons el_cc (ep_cons el_cc ep_nil)) (by decide)) (by decide +kernel) (by decide +kernel)))) fun _ => et_or (a := false) (b := false) (et_B (ev_row (K := K) (ts := [(1, 2), (2, 3), (1, 3)]) (ep_lst (ep_cons el_cc (ep_cons el_cc (ep_cons el_cc ep_nil))) (by decide)) (by decide +kernel) (by decide +kernel)))
          fun _ => et_B (ev_row (K := K) (ts := [(1, 2), (3, 4)]) (ep_lst (ep_cons el_cc (ep_cons el_cc ep_nil)) (by decide)) (by decide +kernel) (by decide +kernel))) (fun z => nomatch z) fun _ H4 e4 => ?_
        -- if [is_wood(3, []), is_row(3, []), is_wood(3, ..)] != [True, False, False]
        refine q_when (b := false) (et_test (ev_opLL (xs := [.bl true, .bl false, .bl false]) (ys := [.bl true, .bl false, .bl false]) (el_lst (ea_cons (ev_wood (K := K) (ts := []) (ep_lst ep_nil (by decide)) (by decide +kernel) (by decide +kernel)) (ea_cons (ev_row (K := K) (ts := []) (ep_lst ep_nil (by decide)) (by decide +kernel) (by decide +kernel))
          (ea_cons (ev_wood (K := K) (ts := [(1, 2), (2, 3), (1, 3)]) (ep_lst (ep_cons el_cc (ep_cons el_cc (ep_cons el_cc ep_nil))) (by decide)) (by decide +kernel) (by decide +kernel)) ea_nil))) (by show 3 ≤ 100000; decide)) (el_lst (ea_cons ev_c (ea_cons ev_c (ea_cons ev_c ea_nil))) (by show 3 ≤ 100000; decide)) fun p q' H5 hp hq e5 => ?_)) (fun z => nomatch z) fun _ H5 e5 => ?_
        · intro H6 e6 Q6 q6
          exact ⟨.list [.bool true, .bool false, .bool false], .list [.bool true, .bool false, .bool false], .lst (.inl (.inl (e6 _ _ hp))) (.cons (.bl _) (.cons (.bl _) (.cons (.bl _) .nil))), .lst (.inl (.inl (e6 _ _ hq))) (.cons (.bl _) (.cons (.bl _) (.cons (.bl _) .nil))), by decide +kernel, by decide +kernel, q6 H6 (Ex.refl H6)⟩
        -- return parts(5, ..) == .. and not is_row(4, ..)
        refine s_ret (v := .bl true) ?_ fun H6 e6 => q H6
        refine ev_andV (a := true) (b := true) ?_ fun _ => ev_notV (a := false) (ev_row (K := K) (ts := [(1, 2), (1, 3), (1, 4)]) (ep_lst (ep_cons el_cc (ep_cons el_cc (ep_cons el_cc ep_nil))) (by decide)) (by decide +kernel) (by decide +kernel))
        exact ev_parts (K := K) (ts := [(4, 2), (5, 4)]) (rows := [[1], [2, 4, 5], [3]]) (ep_lst (ep_cons el_cc (ep_cons el_cc ep_nil)) (by decide)) (by decide +kernel) (by decide +kernel)
          (ed_lst (ed_cons (ed_ints (ns := [1]) (el_lst (ea_cons ev_c ea_nil) (by show 1 ≤ 100000; decide))) (ed_cons (ed_ints (ns := [2, 4, 5]) (el_lst (ea_cons ev_c (ea_cons ev_c (ea_cons ev_c ea_nil))) (by show 3 ≤ 100000; decide))) (ed_cons (ed_ints (ns := [3]) (el_lst (ea_cons ev_c ea_nil) (by show 1 ≤ 100000; decide))) ed_nil))) (by decide))
          (by decide +kernel) (by decide +kernel)
theorem all_mk {P : Program} {w : World} {K : PySem.W.Frag} {h : Heap} {mg : Str → Option Value} {fa : Addr} (X : K.In h) (G : h.Ns mainGlobals mg) (hfa : mg "law" = some (.ref fa))
    {f_is_from_one : Addr} {od_is_from_one an_is_from_one : Option Addr} {sl_is_from_one : Array (Option Value)} {oc_is_from_one kV_is_from_one dc_is_from_one pm_is_from_one cd_is_from_one ct_is_from_one : Value}
    (a_is_from_one : PySem.W.nsIn K mainGlobals "is_from_one" = some (some (.ref f_is_from_one)))
    (l_is_from_one : K.lookup f_is_from_one = some ⟨oc_is_from_one, od_is_from_one, .func (PySem.W.fnOf "is_from_one" "is_from_one" (defArgs s_is_from_one) (defBody s_is_from_one) (defScope s_is_from_one) .none kV_is_from_one dc_is_from_one pm_is_from_one an_is_from_one cd_is_from_one ct_is_from_one), sl_is_from_one⟩)
    (c_is_from_one : PySem.W.codeIn K cd_is_from_one "is_from_one" = true) (k_is_from_one : PySem.W.keepIn K (.ref f_is_from_one) = true)
    {f_first_wrong : Addr} {od_first_wrong an_first_wrong : Option Addr} {sl_first_wrong : Array (Option Value)} {oc_first_wrong kV_first_wrong dc_first_wrong pm_first_wrong cd_first_wrong ct_first_wrong : Value}
    (a_first_wrong : PySem.W.nsIn K mainGlobals "first_wrong" = some (some (.ref f_first_wrong)))
    (l_first_wrong : K.lookup f_first_wrong = some ⟨oc_first_wrong, od_first_wrong, .func (PySem.W.fnOf "first_wrong" "first_wrong" (defArgs s_first_wrong) (defBody s_first_wrong) (defScope s_first_wrong) .none kV_first_wrong dc_first_wrong pm_first_wrong an_first_wrong cd_first_wrong ct_first_wrong), sl_first_wrong⟩)
    (c_first_wrong : PySem.W.codeIn K cd_first_wrong "first_wrong" = true) (k_first_wrong : PySem.W.keepIn K (.ref f_first_wrong) = true)
    {f_check_count : Addr} {od_check_count an_check_count : Option Addr} {sl_check_count : Array (Option Value)} {oc_check_count kV_check_count dc_check_count pm_check_count cd_check_count ct_check_count : Value}
    (a_check_count : PySem.W.nsIn K mainGlobals "check_count" = some (some (.ref f_check_count)))
    (l_check_count : K.lookup f_check_count = some ⟨oc_check_count, od_check_count, .func (PySem.W.fnOf "check_count" "check_count" (defArgs s_check_count) (defBody s_check_count) (defScope s_check_count) .none kV_check_count dc_check_count pm_check_count an_check_count cd_check_count ct_check_count), sl_check_count⟩)
    (c_check_count : PySem.W.codeIn K cd_check_count "check_count" = true) (k_check_count : PySem.W.keepIn K (.ref f_check_count) = true)
    {f_is_tie : Addr} {od_is_tie an_is_tie : Option Addr} {sl_is_tie : Array (Option Value)} {oc_is_tie kV_is_tie dc_is_tie pm_is_tie cd_is_tie ct_is_tie : Value}
    (a_is_tie : PySem.W.nsIn K mainGlobals "is_tie" = some (some (.ref f_is_tie)))
    (l_is_tie : K.lookup f_is_tie = some ⟨oc_is_tie, od_is_tie, .func (PySem.W.fnOf "is_tie" "is_tie" (defArgs s_is_tie) (defBody s_is_tie) (defScope s_is_tie) .none kV_is_tie dc_is_tie pm_is_tie an_is_tie cd_is_tie ct_is_tie), sl_is_tie⟩)
    (c_is_tie : PySem.W.codeIn K cd_is_tie "is_tie" = true) (k_is_tie : PySem.W.keepIn K (.ref f_is_tie) = true)
    {f_check_ties : Addr} {od_check_ties an_check_ties : Option Addr} {sl_check_ties : Array (Option Value)} {oc_check_ties kV_check_ties dc_check_ties pm_check_ties cd_check_ties ct_check_ties : Value}
    (a_check_ties : PySem.W.nsIn K mainGlobals "check_ties" = some (some (.ref f_check_ties)))
    (l_check_ties : K.lookup f_check_ties = some ⟨oc_check_ties, od_check_ties, .func (PySem.W.fnOf "check_ties" "check_ties" (defArgs s_check_ties) (defBody s_check_ties) (defScope s_check_ties) .none kV_check_ties dc_check_ties pm_check_ties an_check_ties cd_check_ties ct_check_ties), sl_check_ties⟩)
    (c_check_ties : PySem.W.codeIn K cd_check_ties "check_ties" = true) (k_check_ties : PySem.W.keepIn K (.ref f_check_ties) = true)
    {f_check_net : Addr} {od_check_net an_check_net : Option Addr} {sl_check_net : Array (Option Value)} {oc_check_net kV_check_net dc_check_net pm_check_net cd_check_net ct_check_net : Value}
    (a_check_net : PySem.W.nsIn K mainGlobals "check_net" = some (some (.ref f_check_net)))
    (l_check_net : K.lookup f_check_net = some ⟨oc_check_net, od_check_net, .func (PySem.W.fnOf "check_net" "check_net" (defArgs s_check_net) (defBody s_check_net) (defScope s_check_net) .none kV_check_net dc_check_net pm_check_net an_check_net cd_check_net ct_check_net), sl_check_net⟩)
    (c_check_net : PySem.W.codeIn K cd_check_net "check_net" = true) (k_check_net : PySem.W.keepIn K (.ref f_check_net) = true)
    {f_parts : Addr} {od_parts an_parts : Option Addr} {sl_parts : Array (Option Value)} {oc_parts kV_parts dc_parts pm_parts cd_parts ct_parts : Value}
    (a_parts : PySem.W.nsIn K mainGlobals "parts" = some (some (.ref f_parts)))
    (l_parts : K.lookup f_parts = some ⟨oc_parts, od_parts, .func (PySem.W.fnOf "parts" "parts" (defArgs s_parts) (defBody s_parts) (defScope s_parts) .none kV_parts dc_parts pm_parts an_parts cd_parts ct_parts), sl_parts⟩)
    (c_parts : PySem.W.codeIn K cd_parts "parts" = true) (k_parts : PySem.W.keepIn K (.ref f_parts) = true)
    {f_is_wood : Addr} {od_is_wood an_is_wood : Option Addr} {sl_is_wood : Array (Option Value)} {oc_is_wood kV_is_wood dc_is_wood pm_is_wood cd_is_wood ct_is_wood : Value}
    (a_is_wood : PySem.W.nsIn K mainGlobals "is_wood" = some (some (.ref f_is_wood)))
    (l_is_wood : K.lookup f_is_wood = some ⟨oc_is_wood, od_is_wood, .func (PySem.W.fnOf "is_wood" "is_wood" (defArgs s_is_wood) (defBody s_is_wood) (defScope s_is_wood) .none kV_is_wood dc_is_wood pm_is_wood an_is_wood cd_is_wood ct_is_wood), sl_is_wood⟩)
    (c_is_wood : PySem.W.codeIn K cd_is_wood "is_wood" = true) (k_is_wood : PySem.W.keepIn K (.ref f_is_wood) = true)
    {f_is_row : Addr} {od_is_row an_is_row : Option Addr} {sl_is_row : Array (Option Value)} {oc_is_row kV_is_row dc_is_row pm_is_row cd_is_row ct_is_row : Value}
    (a_is_row : PySem.W.nsIn K mainGlobals "is_row" = some (some (.ref f_is_row)))
    (l_is_row : K.lookup f_is_row = some ⟨oc_is_row, od_is_row, .func (PySem.W.fnOf "is_row" "is_row" (defArgs s_is_row) (defBody s_is_row) (defScope s_is_row) .none kV_is_row dc_is_row pm_is_row an_is_row cd_is_row ct_is_row), sl_is_row⟩)
    (c_is_row : PySem.W.codeIn K cd_is_row "is_row" = true) (k_is_row : PySem.W.keepIn K (.ref f_is_row) = true)
    {f_parts_of : Addr} {od_parts_of an_parts_of : Option Addr} {sl_parts_of : Array (Option Value)} {oc_parts_of kV_parts_of dc_parts_of pm_parts_of cd_parts_of ct_parts_of : Value}
    (a_parts_of : PySem.W.nsIn K mainGlobals "parts_of" = some (some (.ref f_parts_of)))
    (l_parts_of : K.lookup f_parts_of = some ⟨oc_parts_of, od_parts_of, .func (PySem.W.fnOf "parts_of" "parts_of" (defArgs s_parts_of) (defBody s_parts_of) (defScope s_parts_of) .none kV_parts_of dc_parts_of pm_parts_of an_parts_of cd_parts_of ct_parts_of), sl_parts_of⟩)
    (c_parts_of : PySem.W.codeIn K cd_parts_of "parts_of" = true) (k_parts_of : PySem.W.keepIn K (.ref f_parts_of) = true)
    {f_is_wood_of : Addr} {od_is_wood_of an_is_wood_of : Option Addr} {sl_is_wood_of : Array (Option Value)} {oc_is_wood_of kV_is_wood_of dc_is_wood_of pm_is_wood_of cd_is_wood_of ct_is_wood_of : Value}
    (a_is_wood_of : PySem.W.nsIn K mainGlobals "is_wood_of" = some (some (.ref f_is_wood_of)))
    (l_is_wood_of : K.lookup f_is_wood_of = some ⟨oc_is_wood_of, od_is_wood_of, .func (PySem.W.fnOf "is_wood_of" "is_wood_of" (defArgs s_is_wood_of) (defBody s_is_wood_of) (defScope s_is_wood_of) .none kV_is_wood_of dc_is_wood_of pm_is_wood_of an_is_wood_of cd_is_wood_of ct_is_wood_of), sl_is_wood_of⟩)
    (c_is_wood_of : PySem.W.codeIn K cd_is_wood_of "is_wood_of" = true) (k_is_wood_of : PySem.W.keepIn K (.ref f_is_wood_of) = true)
    {f_is_row_of : Addr} {od_is_row_of an_is_row_of : Option Addr} {sl_is_row_of : Array (Option Value)} {oc_is_row_of kV_is_row_of dc_is_row_of pm_is_row_of cd_is_row_of ct_is_row_of : Value}
    (a_is_row_of : PySem.W.nsIn K mainGlobals "is_row_of" = some (some (.ref f_is_row_of)))
    (l_is_row_of : K.lookup f_is_row_of = some ⟨oc_is_row_of, od_is_row_of, .func (PySem.W.fnOf "is_row_of" "is_row_of" (defArgs s_is_row_of) (defBody s_is_row_of) (defScope s_is_row_of) .none kV_is_row_of dc_is_row_of pm_is_row_of an_is_row_of cd_is_row_of ct_is_row_of), sl_is_row_of⟩)
    (c_is_row_of : PySem.W.codeIn K cd_is_row_of "is_row_of" = true) (k_is_row_of : PySem.W.keepIn K (.ref f_is_row_of) = true)
    {f_least_together : Addr} {od_least_together an_least_together : Option Addr} {sl_least_together : Array (Option Value)} {oc_least_together kV_least_together dc_least_together pm_least_together cd_least_together ct_least_together : Value}
    (a_least_together : PySem.W.nsIn K mainGlobals "least_together" = some (some (.ref f_least_together)))
    (l_least_together : K.lookup f_least_together = some ⟨oc_least_together, od_least_together, .func (PySem.W.fnOf "least_together" "least_together" (defArgs s_least_together) (defBody s_least_together) (defScope s_least_together) .none kV_least_together dc_least_together pm_least_together an_least_together cd_least_together ct_least_together), sl_least_together⟩)
    (c_least_together : PySem.W.codeIn K cd_least_together "least_together" = true) (k_least_together : PySem.W.keepIn K (.ref f_least_together) = true)
    {f_l_draws : Addr} {od_l_draws an_l_draws : Option Addr} {sl_l_draws : Array (Option Value)} {oc_l_draws kV_l_draws dc_l_draws pm_l_draws cd_l_draws ct_l_draws : Value}
    (a_l_draws : PySem.W.nsIn K mainGlobals "_law_draws" = some (some (.ref f_l_draws)))
    (l_l_draws : K.lookup f_l_draws = some ⟨oc_l_draws, od_l_draws, .func (PySem.W.fnOf "_law_draws" "_law_draws" (defArgs s_l_draws) (defBody s_l_draws) (defScope s_l_draws) .none kV_l_draws dc_l_draws pm_l_draws an_l_draws cd_l_draws ct_l_draws), sl_l_draws⟩)
    (c_l_draws : PySem.W.codeIn K cd_l_draws "_law_draws" = true) (k_l_draws : PySem.W.keepIn K (.ref f_l_draws) = true)
    {f_l_next : Addr} {od_l_next an_l_next : Option Addr} {sl_l_next : Array (Option Value)} {oc_l_next kV_l_next dc_l_next pm_l_next cd_l_next ct_l_next : Value}
    (a_l_next : PySem.W.nsIn K mainGlobals "_law_next" = some (some (.ref f_l_next)))
    (l_l_next : K.lookup f_l_next = some ⟨oc_l_next, od_l_next, .func (PySem.W.fnOf "_law_next" "_law_next" (defArgs s_l_next) (defBody s_l_next) (defScope s_l_next) .none kV_l_next dc_l_next pm_l_next an_l_next cd_l_next ct_l_next), sl_l_next⟩)
    (c_l_next : PySem.W.codeIn K cd_l_next "_law_next" = true) (k_l_next : PySem.W.keepIn K (.ref f_l_next) = true)
    {f_l_mixed : Addr} {od_l_mixed an_l_mixed : Option Addr} {sl_l_mixed : Array (Option Value)} {oc_l_mixed kV_l_mixed dc_l_mixed pm_l_mixed cd_l_mixed ct_l_mixed : Value}
    (a_l_mixed : PySem.W.nsIn K mainGlobals "_law_mixed" = some (some (.ref f_l_mixed)))
    (l_l_mixed : K.lookup f_l_mixed = some ⟨oc_l_mixed, od_l_mixed, .func (PySem.W.fnOf "_law_mixed" "_law_mixed" (defArgs s_l_mixed) (defBody s_l_mixed) (defScope s_l_mixed) .none kV_l_mixed dc_l_mixed pm_l_mixed an_l_mixed cd_l_mixed ct_l_mixed), sl_l_mixed⟩)
    (c_l_mixed : PySem.W.codeIn K cd_l_mixed "_law_mixed" = true) (k_l_mixed : PySem.W.keepIn K (.ref f_l_mixed) = true)
    {f_l_net : Addr} {od_l_net an_l_net : Option Addr} {sl_l_net : Array (Option Value)} {oc_l_net kV_l_net dc_l_net pm_l_net cd_l_net ct_l_net : Value}
    (a_l_net : PySem.W.nsIn K mainGlobals "_law_net" = some (some (.ref f_l_net)))
    (l_l_net : K.lookup f_l_net = some ⟨oc_l_net, od_l_net, .func (PySem.W.fnOf "_law_net" "_law_net" (defArgs s_l_net) (defBody s_l_net) (defScope s_l_net) .none kV_l_net dc_l_net pm_l_net an_l_net cd_l_net ct_l_net), sl_l_net⟩)
    (c_l_net : PySem.W.codeIn K cd_l_net "_law_net" = true) (k_l_net : PySem.W.keepIn K (.ref f_l_net) = true)
    {f_l_parts : Addr} {od_l_parts an_l_parts : Option Addr} {sl_l_parts : Array (Option Value)} {oc_l_parts kV_l_parts dc_l_parts pm_l_parts cd_l_parts ct_l_parts : Value}
    (a_l_parts : PySem.W.nsIn K mainGlobals "_law_parts" = some (some (.ref f_l_parts)))
    (l_l_parts : K.lookup f_l_parts = some ⟨oc_l_parts, od_l_parts, .func (PySem.W.fnOf "_law_parts" "_law_parts" (defArgs s_l_parts) (defBody s_l_parts) (defScope s_l_parts) .none kV_l_parts dc_l_parts pm_l_parts an_l_parts cd_l_parts ct_l_parts), sl_l_parts⟩)
    (c_l_parts : PySem.W.codeIn K cd_l_parts "_law_parts" = true) (k_l_parts : PySem.W.keepIn K (.ref f_l_parts) = true)
    {f_l_right : Addr} {od_l_right an_l_right : Option Addr} {sl_l_right : Array (Option Value)} {oc_l_right kV_l_right dc_l_right pm_l_right cd_l_right ct_l_right : Value}
    (a_l_right : PySem.W.nsIn K mainGlobals "_law_right" = some (some (.ref f_l_right)))
    (l_l_right : K.lookup f_l_right = some ⟨oc_l_right, od_l_right, .func (PySem.W.fnOf "_law_right" "_law_right" (defArgs s_l_right) (defBody s_l_right) (defScope s_l_right) .none kV_l_right dc_l_right pm_l_right an_l_right cd_l_right ct_l_right), sl_l_right⟩)
    (c_l_right : PySem.W.codeIn K cd_l_right "_law_right" = true) (k_l_right : PySem.W.keepIn K (.ref f_l_right) = true)
    {f_law : Addr} {od_law an_law : Option Addr} {sl_law : Array (Option Value)} {oc_law kV_law dc_law pm_law cd_law ct_law : Value}
    (a_law : PySem.W.nsIn K mainGlobals "law" = some (some (.ref f_law)))
    (l_law : K.lookup f_law = some ⟨oc_law, od_law, .func (PySem.W.fnOf "law" "law" (defArgs s_law) (defBody s_law) (defScope s_law) .none kV_law dc_law pm_law an_law cd_law ct_law), sl_law⟩)
    (c_law : PySem.W.codeIn K cd_law "law" = true) (k_law : PySem.W.keepIn K (.ref f_law) = true)
    {t_LEAST_COUNT : Tok} (q_LEAST_COUNT : PySem.W.nsIn K mainGlobals "LEAST_COUNT" = some (some (.int 3 t_LEAST_COUNT)))
    {t_MOST_COUNT : Tok} (q_MOST_COUNT : PySem.W.nsIn K mainGlobals "MOST_COUNT" = some (some (.int 40 t_MOST_COUNT)))
    (z_isinstance : PySem.W.nsIn K mainGlobals "isinstance" = some none)
    (z_int : PySem.W.nsIn K mainGlobals "int" = some none)
    (z_bool : PySem.W.nsIn K mainGlobals "bool" = some none)
    (z_set : PySem.W.nsIn K mainGlobals "set" = some none)
    (z_enumerate : PySem.W.nsIn K mainGlobals "enumerate" = some none)
    (z_list : PySem.W.nsIn K mainGlobals "list" = some none)
    (z_len : PySem.W.nsIn K mainGlobals "len" = some none)
    (z_tuple : PySem.W.nsIn K mainGlobals "tuple" = some none)
    (z_sorted : PySem.W.nsIn K mainGlobals "sorted" = some none)
    (z_range : PySem.W.nsIn K mainGlobals "range" = some none)
    (z_all : PySem.W.nsIn K mainGlobals "all" = some none)
    (z_min : PySem.W.nsIn K mainGlobals "min" = some none)
    (z_max : PySem.W.nsIn K mainGlobals "max" = some none)
    (z_repr : PySem.W.nsIn K mainGlobals "repr" = some none)
    : ∃ fd : FuncData, (∀ (s : Shared) (u : Value), BindsTo s fd ⟨[u], []⟩ [("_law_script", u)]) ∧ ∀ base : Heap, K.In base → base.Ns mainGlobals mg → FnG P w K mg base CX0 8 fa fd ["_law_script"] (sp_law K) := by
  have e := hfa.symm.trans (PySem.W.mg_of X G a_law)
  cases e
  have F_is_from_one := fun_mk (st := s_is_from_one) l_is_from_one c_is_from_one k_is_from_one
  have F_first_wrong := fun_mk (st := s_first_wrong) l_first_wrong c_first_wrong k_first_wrong
  have F_check_count := fun_mk (st := s_check_count) l_check_count c_check_count k_check_count
  have F_is_tie := fun_mk (st := s_is_tie) l_is_tie c_is_tie k_is_tie
  have F_check_ties := fun_mk (st := s_check_ties) l_check_ties c_check_ties k_check_ties
  have F_check_net := fun_mk (st := s_check_net) l_check_net c_check_net k_check_net
  have F_parts := fun_mk (st := s_parts) l_parts c_parts k_parts
  have F_is_wood := fun_mk (st := s_is_wood) l_is_wood c_is_wood k_is_wood
  have F_is_row := fun_mk (st := s_is_row) l_is_row c_is_row k_is_row
  have F_parts_of := fun_mk (st := s_parts_of) l_parts_of c_parts_of k_parts_of
  have F_is_wood_of := fun_mk (st := s_is_wood_of) l_is_wood_of c_is_wood_of k_is_wood_of
  have F_is_row_of := fun_mk (st := s_is_row_of) l_is_row_of c_is_row_of k_is_row_of
  have F_least_together := fun_mk (st := s_least_together) l_least_together c_least_together k_least_together
  have F_l_draws := fun_mk (st := s_l_draws) l_l_draws c_l_draws k_l_draws
  have F_l_next := fun_mk (st := s_l_next) l_l_next c_l_next k_l_next
  have F_l_mixed := fun_mk (st := s_l_mixed) l_l_mixed c_l_mixed k_l_mixed
  have F_l_net := fun_mk (st := s_l_net) l_l_net c_l_net k_l_net
  have F_l_parts := fun_mk (st := s_l_parts) l_l_parts c_l_parts k_l_parts
  have F_l_right := fun_mk (st := s_l_right) l_l_right c_l_right k_l_right
  have F_law := fun_mk (st := s_law) l_law c_law k_law
  let A : Ad := ⟨f_is_from_one, f_first_wrong, f_check_count, f_is_tie, f_check_ties, f_check_net, f_parts, f_is_wood, f_is_row, f_parts_of, f_is_wood_of, f_is_row_of, f_least_together, f_l_draws, f_l_next, f_l_mixed, f_l_net, f_l_parts, f_l_right, fa,
    (PySem.W.fnOf "is_from_one" "is_from_one" (defArgs s_is_from_one) (defBody s_is_from_one) (defScope s_is_from_one) .none kV_is_from_one dc_is_from_one pm_is_from_one an_is_from_one cd_is_from_one ct_is_from_one),
    (PySem.W.fnOf "first_wrong" "first_wrong" (defArgs s_first_wrong) (defBody s_first_wrong) (defScope s_first_wrong) .none kV_first_wrong dc_first_wrong pm_first_wrong an_first_wrong cd_first_wrong ct_first_wrong),
    (PySem.W.fnOf "check_count" "check_count" (defArgs s_check_count) (defBody s_check_count) (defScope s_check_count) .none kV_check_count dc_check_count pm_check_count an_check_count cd_check_count ct_check_count),
    (PySem.W.fnOf "is_tie" "is_tie" (defArgs s_is_tie) (defBody s_is_tie) (defScope s_is_tie) .none kV_is_tie dc_is_tie pm_is_tie an_is_tie cd_is_tie ct_is_tie),
    (PySem.W.fnOf "check_ties" "check_ties" (defArgs s_check_ties) (defBody s_check_ties) (defScope s_check_ties) .none kV_check_ties dc_check_ties pm_check_ties an_check_ties cd_check_ties ct_check_ties),
    (PySem.W.fnOf "check_net" "check_net" (defArgs s_check_net) (defBody s_check_net) (defScope s_check_net) .none kV_check_net dc_check_net pm_check_net an_check_net cd_check_net ct_check_net),
    (PySem.W.fnOf "parts" "parts" (defArgs s_parts) (defBody s_parts) (defScope s_parts) .none kV_parts dc_parts pm_parts an_parts cd_parts ct_parts),
    (PySem.W.fnOf "is_wood" "is_wood" (defArgs s_is_wood) (defBody s_is_wood) (defScope s_is_wood) .none kV_is_wood dc_is_wood pm_is_wood an_is_wood cd_is_wood ct_is_wood),
    (PySem.W.fnOf "is_row" "is_row" (defArgs s_is_row) (defBody s_is_row) (defScope s_is_row) .none kV_is_row dc_is_row pm_is_row an_is_row cd_is_row ct_is_row),
    (PySem.W.fnOf "parts_of" "parts_of" (defArgs s_parts_of) (defBody s_parts_of) (defScope s_parts_of) .none kV_parts_of dc_parts_of pm_parts_of an_parts_of cd_parts_of ct_parts_of),
    (PySem.W.fnOf "is_wood_of" "is_wood_of" (defArgs s_is_wood_of) (defBody s_is_wood_of) (defScope s_is_wood_of) .none kV_is_wood_of dc_is_wood_of pm_is_wood_of an_is_wood_of cd_is_wood_of ct_is_wood_of),
    (PySem.W.fnOf "is_row_of" "is_row_of" (defArgs s_is_row_of) (defBody s_is_row_of) (defScope s_is_row_of) .none kV_is_row_of dc_is_row_of pm_is_row_of an_is_row_of cd_is_row_of ct_is_row_of),
    (PySem.W.fnOf "least_together" "least_together" (defArgs s_least_together) (defBody s_least_together) (defScope s_least_together) .none kV_least_together dc_least_together pm_least_together an_least_together cd_least_together ct_least_together),
    (PySem.W.fnOf "_law_draws" "_law_draws" (defArgs s_l_draws) (defBody s_l_draws) (defScope s_l_draws) .none kV_l_draws dc_l_draws pm_l_draws an_l_draws cd_l_draws ct_l_draws),
    (PySem.W.fnOf "_law_next" "_law_next" (defArgs s_l_next) (defBody s_l_next) (defScope s_l_next) .none kV_l_next dc_l_next pm_l_next an_l_next cd_l_next ct_l_next),
    (PySem.W.fnOf "_law_mixed" "_law_mixed" (defArgs s_l_mixed) (defBody s_l_mixed) (defScope s_l_mixed) .none kV_l_mixed dc_l_mixed pm_l_mixed an_l_mixed cd_l_mixed ct_l_mixed),
    (PySem.W.fnOf "_law_net" "_law_net" (defArgs s_l_net) (defBody s_l_net) (defScope s_l_net) .none kV_l_net dc_l_net pm_l_net an_l_net cd_l_net ct_l_net),
    (PySem.W.fnOf "_law_parts" "_law_parts" (defArgs s_l_parts) (defBody s_l_parts) (defScope s_l_parts) .none kV_l_parts dc_l_parts pm_l_parts an_l_parts cd_l_parts ct_l_parts),
    (PySem.W.fnOf "_law_right" "_law_right" (defArgs s_l_right) (defBody s_l_right) (defScope s_l_right) .none kV_l_right dc_l_right pm_l_right an_l_right cd_l_right ct_l_right),
    (PySem.W.fnOf "law" "law" (defArgs s_law) (defBody s_law) (defScope s_law) .none kV_law dc_law pm_law an_law cd_law ct_law),t_LEAST_COUNT, t_MOST_COUNT⟩
  have T : Txt K mg A :=
    { F_is_from_one := F_is_from_one
      g_is_from_one := PySem.W.mg_of X G a_is_from_one
      b_is_from_one := F_is_from_one.binds (ps := ["thing", "most"]) fun _ _ _ _ _ _ us hl => match us, hl with | [_, _], _ => rfl
      F_first_wrong := F_first_wrong
      g_first_wrong := PySem.W.mg_of X G a_first_wrong
      b_first_wrong := F_first_wrong.binds (ps := ["things", "most"]) fun _ _ _ _ _ _ us hl => match us, hl with | [_, _], _ => rfl
      F_check_count := F_check_count
      g_check_count := PySem.W.mg_of X G a_check_count
      b_check_count := F_check_count.binds (ps := ["number"]) fun _ _ _ _ _ _ us hl => match us, hl with | [_], _ => rfl
      F_is_tie := F_is_tie
      g_is_tie := PySem.W.mg_of X G a_is_tie
      b_is_tie := F_is_tie.binds (ps := ["thing", "seats"]) fun _ _ _ _ _ _ us hl => match us, hl with | [_, _], _ => rfl
      F_check_ties := F_check_ties
      g_check_ties := PySem.W.mg_of X G a_check_ties
      b_check_ties := F_check_ties.binds (ps := ["ties", "seats"]) fun _ _ _ _ _ _ us hl => match us, hl with | [_, _], _ => rfl
      F_check_net := F_check_net
      g_check_net := PySem.W.mg_of X G a_check_net
      b_check_net := F_check_net.binds (ps := ["seats", "ties"]) fun _ _ _ _ _ _ us hl => match us, hl with | [_, _], _ => rfl
      F_parts := F_parts
      g_parts := PySem.W.mg_of X G a_parts
      b_parts := F_parts.binds (ps := ["seats", "ties"]) fun _ _ _ _ _ _ us hl => match us, hl with | [_, _], _ => rfl
      kb_parts := swap2_binds fun _ _  => rfl
      F_is_wood := F_is_wood
      g_is_wood := PySem.W.mg_of X G a_is_wood
      b_is_wood := F_is_wood.binds (ps := ["seats", "ties"]) fun _ _ _ _ _ _ us hl => match us, hl with | [_, _], _ => rfl
      kb_is_wood := swap2_binds fun _ _  => rfl
      F_is_row := F_is_row
      g_is_row := PySem.W.mg_of X G a_is_row
      b_is_row := F_is_row.binds (ps := ["seats", "ties"]) fun _ _ _ _ _ _ us hl => match us, hl with | [_, _], _ => rfl
      kb_is_row := swap2_binds fun _ _  => rfl
      F_parts_of := F_parts_of
      g_parts_of := PySem.W.mg_of X G a_parts_of
      b_parts_of := F_parts_of.binds (ps := ["seats", "ties"]) fun _ _ _ _ _ _ us hl => match us, hl with | [_, _], _ => rfl
      F_is_wood_of := F_is_wood_of
      g_is_wood_of := PySem.W.mg_of X G a_is_wood_of
      b_is_wood_of := F_is_wood_of.binds (ps := ["seats", "ties"]) fun _ _ _ _ _ _ us hl => match us, hl with | [_, _], _ => rfl
      F_is_row_of := F_is_row_of
      g_is_row_of := PySem.W.mg_of X G a_is_row_of
      b_is_row_of := F_is_row_of.binds (ps := ["seats", "ties"]) fun _ _ _ _ _ _ us hl => match us, hl with | [_, _], _ => rfl
      F_least_together := F_least_together
      g_least_together := PySem.W.mg_of X G a_least_together
      b_least_together := F_least_together.binds (ps := ["seats", "ties"]) fun _ _ _ _ _ _ us hl => match us, hl with | [_, _], _ => rfl
      F_l_draws := F_l_draws
      g_l_draws := PySem.W.mg_of X G a_l_draws
      b_l_draws := F_l_draws.binds (ps := ["_law_cell"]) fun _ _ _ _ _ _ us hl => match us, hl with | [_], _ => rfl
      F_l_next := F_l_next
      g_l_next := PySem.W.mg_of X G a_l_next
      b_l_next := F_l_next.binds (ps := ["_law_draws_here"]) fun _ _ _ _ _ _ us hl => match us, hl with | [_], _ => rfl
      F_l_mixed := F_l_mixed
      g_l_mixed := PySem.W.mg_of X G a_l_mixed
      b_l_mixed := F_l_mixed.binds (ps := ["_law_draws_here", "_law_some"]) fun _ _ _ _ _ _ us hl => match us, hl with | [_, _], _ => rfl
      F_l_net := F_l_net
      g_l_net := PySem.W.mg_of X G a_l_net
      b_l_net := F_l_net.binds (ps := ["_law_draws_here", "_law_most"]) fun _ _ _ _ _ _ us hl => match us, hl with | [_, _], _ => rfl
      F_l_parts := F_l_parts
      g_l_parts := PySem.W.mg_of X G a_l_parts
      b_l_parts := F_l_parts.binds (ps := ["_law_seats", "_law_ties"]) fun _ _ _ _ _ _ us hl => match us, hl with | [_, _], _ => rfl
      F_l_right := F_l_right
      g_l_right := PySem.W.mg_of X G a_l_right
      b_l_right := F_l_right.binds (ps := ["_law_seats", "_law_ties"]) fun _ _ _ _ _ _ us hl => match us, hl with | [_, _], _ => rfl
      F_law := F_law
      g_law := PySem.W.mg_of X G a_law
      b_law := F_law.binds (ps := ["_law_script"]) fun _ _ _ _ _ _ us hl => match us, hl with | [_], _ => rfl
      g_LEAST_COUNT := PySem.W.mg_of X G q_LEAST_COUNT
      g_MOST_COUNT := PySem.W.mg_of X G q_MOST_COUNT
      z_isinstance := PySem.W.mg_none_of X G z_isinstance
      z_int := PySem.W.mg_none_of X G z_int
      z_bool := PySem.W.mg_none_of X G z_bool
      z_set := PySem.W.mg_none_of X G z_set
      z_enumerate := PySem.W.mg_none_of X G z_enumerate
      z_list := PySem.W.mg_none_of X G z_list
      z_len := PySem.W.mg_none_of X G z_len
      z_tuple := PySem.W.mg_none_of X G z_tuple
      z_sorted := PySem.W.mg_none_of X G z_sorted
      z_range := PySem.W.mg_none_of X G z_range
      z_all := PySem.W.mg_none_of X G z_all
      z_min := PySem.W.mg_none_of X G z_min
      z_max := PySem.W.mg_none_of X G z_max
      z_repr := PySem.W.mg_none_of X G z_repr }
  exact ⟨_, fun s u => .of_eq rfl, fun base _ _ => ok_law (A := A) T⟩
end
end K01

open PySem PySem.W PyProof.Rows
theorem PySem.Challenge.cw_apartcalls_k01_nets_holds : PySem.Challenge.rw_apartcalls_k01_nets.Holds := by
  w_on
  o_law
  k_head
  (case hw => w_witness2)
  k_fill
  refine Vf.walkG_of (l := PySem.Challenge.rw_apartcalls_k01_nets) (n := 63) (k := 8) (x := "_law_script") (sp := K01.sp_law) rfl (by decide) rfl ⟨rfl, by decide, by decide⟩ (fun w h Y => PySem.W.kIn_of Y) ?F (fun K H a ns hl _ hS => ⟨a, ns, rfl, hS, hl, fun _ => rfl⟩)
  case F =>
    intro w mg fa h KX G hmg
    refine' K01.all_mk KX G hmg ?a_is_from_one ?l_is_from_one ?c_is_from_one ?k_is_from_one ?a_first_wrong ?l_first_wrong ?c_first_wrong ?k_first_wrong ?a_check_count ?l_check_count ?c_check_count ?k_check_count ?a_is_tie ?l_is_tie ?c_is_tie ?k_is_tie ?a_check_ties ?l_check_ties ?c_check_ties ?k_check_ties ?a_check_net ?l_check_net ?c_check_net ?k_check_net ?a_parts ?l_parts ?c_parts ?k_parts ?a_is_wood ?l_is_wood ?c_is_wood ?k_is_wood ?a_is_row ?l_is_row ?c_is_row ?k_is_row ?a_parts_of ?l_parts_of ?c_parts_of ?k_parts_of ?a_is_wood_of ?l_is_wood_of ?c_is_wood_of ?k_is_wood_of ?a_is_row_of ?l_is_row_of ?c_is_row_of ?k_is_row_of ?a_least_together ?l_least_together ?c_least_together ?k_least_together ?a_l_draws ?l_l_draws ?c_l_draws ?k_l_draws ?a_l_next ?l_l_next ?c_l_next ?k_l_next ?a_l_mixed ?l_l_mixed ?c_l_mixed ?k_l_mixed ?a_l_net ?l_l_net ?c_l_net ?k_l_net ?a_l_parts ?l_l_parts ?c_l_parts ?k_l_parts ?a_l_right ?l_l_right ?c_l_right ?k_l_right ?a_law ?l_law ?c_law ?k_law ?q_LEAST_COUNT ?q_MOST_COUNT ?z_isinstance ?z_int ?z_bool ?z_set ?z_enumerate ?z_list ?z_len ?z_tuple ?z_sorted ?z_range ?z_all ?z_min ?z_max ?z_repr
    (case a_is_from_one => k_is)
    (case l_is_from_one => k_is)
    (case c_is_from_one => k_is)
    (case k_is_from_one => k_is)
    (case a_first_wrong => k_is)
    (case l_first_wrong => k_is)
    (case c_first_wrong => k_is)
    (case k_first_wrong => k_is)
    (case a_check_count => k_is)
    (case l_check_count => k_is)
    (case c_check_count => k_is)
    (case k_check_count => k_is)
    (case a_is_tie => k_is)
    (case l_is_tie => k_is)
    (case c_is_tie => k_is)
    (case k_is_tie => k_is)
    (case a_check_ties => k_is)
    (case l_check_ties => k_is)
    (case c_check_ties => k_is)
    (case k_check_ties => k_is)
    (case a_check_net => k_is)
    (case l_check_net => k_is)
    (case c_check_net => k_is)
    (case k_check_net => k_is)
    (case a_parts => k_is)
    (case l_parts => k_is)
    (case c_parts => k_is)
    (case k_parts => k_is)
    (case a_is_wood => k_is)
    (case l_is_wood => k_is)
    (case c_is_wood => k_is)
    (case k_is_wood => k_is)
    (case a_is_row => k_is)
    (case l_is_row => k_is)
    (case c_is_row => k_is)
    (case k_is_row => k_is)
    (case a_parts_of => k_is)
    (case l_parts_of => k_is)
    (case c_parts_of => k_is)
    (case k_parts_of => k_is)
    (case a_is_wood_of => k_is)
    (case l_is_wood_of => k_is)
    (case c_is_wood_of => k_is)
    (case k_is_wood_of => k_is)
    (case a_is_row_of => k_is)
    (case l_is_row_of => k_is)
    (case c_is_row_of => k_is)
    (case k_is_row_of => k_is)
    (case a_least_together => k_is)
    (case l_least_together => k_is)
    (case c_least_together => k_is)
    (case k_least_together => k_is)
    (case a_l_draws => k_is)
    (case l_l_draws => k_is)
    (case c_l_draws => k_is)
    (case k_l_draws => k_is)
    (case a_l_next => k_is)
    (case l_l_next => k_is)
    (case c_l_next => k_is)
    (case k_l_next => k_is)
    (case a_l_mixed => k_is)
    (case l_l_mixed => k_is)
    (case c_l_mixed => k_is)
    (case k_l_mixed => k_is)
    (case a_l_net => k_is)
    (case l_l_net => k_is)
    (case c_l_net => k_is)
    (case k_l_net => k_is)
    (case a_l_parts => k_is)
    (case l_l_parts => k_is)
    (case c_l_parts => k_is)
    (case k_l_parts => k_is)
    (case a_l_right => k_is)
    (case l_l_right => k_is)
    (case c_l_right => k_is)
    (case k_l_right => k_is)
    (case a_law => k_is)
    (case l_law => k_is)
    (case c_law => k_is)
    (case k_law => k_is)
    (case q_LEAST_COUNT => k_is)
    (case q_MOST_COUNT => k_is)
    (case z_isinstance => k_is)
    (case z_int => k_is)
    (case z_bool => k_is)
    (case z_set => k_is)
    (case z_enumerate => k_is)
    (case z_list => k_is)
    (case z_len => k_is)
    (case z_tuple => k_is)
    (case z_sorted => k_is)
    (case z_range => k_is)
    (case z_all => k_is)
    (case z_min => k_is)
    (case z_max => k_is)
    (case z_repr => k_is)

