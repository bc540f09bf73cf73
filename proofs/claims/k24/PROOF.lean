import PyProof.Rows.All
import Wide.All
import OpenK.AllK
import Wide.FinOn
import PyProof.EqAt
import PyProof.EqKinds
import PyProof.TupleCall
import PyProof.ReprRoads
import HandS.ForMost
import HandS.Evl
import HandS.Defaults
import HandS.SetFor
import HandS.Strs
import HandS.TupSets
import HandS.IsInst
import HandS.NoneIn
import HandS.Style
import HandS.TupAny
import HandS.Conv
import PyProof.Rows.StrJoinMade
import KE.DataCmp
import PyProof.SliceList
import PyProof.Rows.RuleB_mod
import HandS.Zip
import KE.GoesZip
import KE.KDictZip
import HandS.DictComp
import HandS.Small
import HandS.Star
import HandS.Dict
import HandS.Walk
import HandS.Sort
import HandS.Gcd
import KE.KMathGC
import HandS.Ends
import PySem.Challenge.RW_apartcalls_k24_whole_none_and_all_tied
set_option Elab.async false
set_option linter.all false
set_option maxRecDepth 110000
set_option maxHeartbeats 0
/-! Rules of our own: defs that are called where no guard stands (for repr), repr of data, powers, calls by keywords alone. -/
namespace Vf
open PySem PySem.Spec PyProof.Rows L2

/-! ### defs that are called where no guard stands -/
structure FnG (P : Program) (w : World) (K : PySem.W.Frag) (mg : Str → Option Value) (base : Heap) (CX : CXT) (k : Nat) (f : Addr) (fd : FuncData) (ps : List Str) (sp : Sp) : Prop where
  lenG : ∀ vs H Q E, sp vs H Q E → vs.length = ps.length
  runG : ∀ (A : Around) (outer : List Env) (s : Shared) (H : Hp) (args : Args) (us : List Value) (vs : List V) (Q : VK) (E : XK),
    A.guards = some [] → Room k A → Env0 P w K mg base A outer s H → BindsTo s fd args (ps.zip us) → Vals vs us → sp vs H Q E →
      codeAny (model P w) A (.call (.ref f) args) (CR CX outer P w H s Q E) s

theorem FnG.of {P : Program} {w : World} {K : PySem.W.Frag} {mg : Str → Option Value} {base : Heap} {CX : CXT} {k : Nat} {f : Addr} {fd : FuncData} {ps : List Str} {sp : Sp}
    (F : FnOk P w K mg base CX k f fd ps sp) : FnG P w K mg base CX k f fd ps sp :=
  ⟨F.len, fun A outer s H args us vs Q E _ => F.run A outer s H args us vs Q E⟩

section
variable {P : Program} {w : World} {K : PySem.W.Frag} {mg : Str → Option Value} {base : Heap}
theorem okG {x qual : Str} {st : Stmt} {f : Addr} {fd : FuncData} {N ps : List Str} {k : Nat} {sp : Sp} (F : Fun K x qual st f fd) (S : FnScope N ps (defScope st))
    (len : ∀ vs H Q E, sp vs H Q E → vs.length = ps.length)
    (hbody : ∀ (cdv : Value) (A : Around) (outer : List Env) (s : Shared) (H : Hp) (vs : List V) (Q : VK) (E : XK), A.guards = some [] →
      Room k (A.deeper (envOfC qual (defScope st) s.heap.objs.size f cdv)) → sp vs H Q E →
      ∃ t, PSs (cxOf CX0 P w K mg base N qual (defScope st) f cdv A outer s H E).nox (defBody st) t ∧ t { nx := fun _ H' => Q .non H', rt := Q } (start N vs) H) :
    FnG P w K mg base CX0 (k + 1) f fd ps sp := by
  obtain ⟨oc, od, kV, doc, pm, an, cdv, ct, osl, rfl, lk, hcd⟩ := F.ex
  refine ⟨len, fun A outer s H args us vs Q E hg hr e0 hb r hsp => ?_⟩
  have KX : K.In s.heap := e0.mod.kin.keeps fun b o e => (e0.bs b o e).1
  have lim : s.heap.NoLimit := e0.mod.nolimit.keeps fun b o e => (e0.bs b o e).1
  have hkind : ∀ y ∈ ps.zip us, (defScope st).names.lookup y.1 = some .local ∨
      ((defScope st).names.lookup y.1 = some .cell ∧ ((cellsFrom (s.heap.objs.size + 1) (defScope st).names []).lookup y.1).isSome = true) := by
    rintro ⟨n, v⟩ hy
    rcases S.par n (List.of_mem_zip hy).1 with q | q
    · exact .inl q
    · exact .inr ⟨q, PySem.W.cellsFrom_some _ _ _ (.inl q)⟩
  refine codeAny_call_function hr.depth (KX _ _ lk) rfl S.co S.gen rfl (PySem.W.codeRec_of KX hcd)
    (hb _ _ _ _ (wpAny_newFunctionEnv_cells S.kind hkind fun env he s1 x => ?_))
  subst he
  refine ⟨lim.keeps x.toInCall.keep, codeAny_func ?_⟩
  obtain ⟨t, ht0, hq⟩ := hbody cdv A outer s H vs Q E hg (hr.deeper _) hsp
  have ht := ht0.nox
  have I := inv_start (CX := CX0) (E := E) S hr.hd e0 (len _ _ _ _ hsp) r x
  refine wpAny_mono (ht.run [] s1 (start N vs) H _ I hq) ?_ (fun e s' hs => hs)
  intro fl s' hs
  cases fl with
  | ret u =>
    obtain ⟨v, σ', H', J, rv, q⟩ := hs
    exact ⟨v, H', J.os, J.bare, J.base, J.hok, rv, q⟩
  | next =>
    obtain ⟨σ', H', J, q⟩ := hs
    exact ⟨V.non, H', J.os, J.bare, J.base, J.hok, rfl, q⟩
  | brk =>
    obtain ⟨_, _, _, q⟩ := hs
    exact q.elim
  | cont =>
    obtain ⟨_, _, _, q⟩ := hs
    exact q.elim
end

section
variable {X : Cx} {CX : CXT} {k : Nat} {f : Addr} {fd : FuncData} {ps : List Str} {sp : Sp} {dvs : List V} {ds : List Value} {E : XK} {x : Str} {p pos : Pos} {e : Expr} {es : List Expr} {t : TA}
theorem runG_fn {pins : List (Addr × Obj)} {σ : L2.St} {H : Hp} {s : Shared} {Q : VK} {us : List Value} {vs : List V}
    (F : FnG X.prog X.w X.K X.mg X.base CX0 k f fd ps sp) (hgd : X.A.guards = some []) (hr : Room k X.A) (hb : Binds X.K fd ps []) (I : Inv X pins σ H s) (r : Vals vs us) (h : sp vs H Q E0) :
    wpAny (model X.prog X.w) X.A (call (.ref f) us) (EP X pins σ Q) X.xe s := by
  have hl : us.length = ps.length := by rw [← r.length]; exact F.lenG _ _ _ _ h
  have hb' := hb s us I.kIn (by rw [List.append_nil]; exact hl)
  rw [List.append_nil] at hb'
  refine wpAny_call (codeAny_mono (F.runG X.A X.stack s H ⟨us, []⟩ us vs Q E0 hgd hr I.env0 hb' r h) ?_)
  intro r s' hq
  cases r with
  | error e => exact False.elim hq
  | ok fl =>
    cases fl with
    | ret u => exact I.after hq
    | next => exact False.elim hq
    | brk => exact False.elim hq
    | cont => exact False.elim hq
/-- f(e, ..), f such a def -/
theorem pe_callG (F : FnG X.prog X.w X.K X.mg X.base CX0 k f fd ps sp) (hgd : X.A.guards = some []) (hr : Room k X.A) (hg : Gl X x) (hm : X.mg x = some (.ref f)) (hk : PySem.W.keepIn X.K (.ref f) = true) (hb : Binds X.K fd ps [])
    (ha : PA X (e :: es) t) (hdb : (x == ("__debug__" : Str)) = false := by decide) (he : starEach (e :: es) X.env = (false, eval e X.env) :: starEach es X.env := by rfl)
    (hpl : (backTo pos (starEach es X.env)).any (·.1) = false := by rfl) :
    PE X (.Call (.Name x p) (e :: es) [] pos) (tCall sp [] E0 t) := by
  refine ⟨fun pins s σ H Q I h => wpAny_Call_Name_kw (ld_glob I hg hm ?_ hdb)⟩
  refine PySem.W.callWith_K (h₀ := X.base) I.ok.mod.kin hk (thn (ha.run pos pins s σ H _ I h) fun us s1 ⟨vs, H1, I1, r, q⟩ => ⟨I1.kIn, ?_⟩) he hpl
  simp only [List.append_nil] at q
  exact runG_fn F hgd hr hb I1 r q
end

/-! ### calls by keywords alone -/
section
variable {X : Cx} {CX : CXT} {k : Nat} {f : Addr} {fd : FuncData} {ps ks : List Str} {sp : Sp} {E : XK} {x : Str} {p pos : Pos} {kws : List Keyword} {tk : TA}
variable {g : List Value → List Value → List Value} {gV : List V → List V → List V}
/-- f(k = v, ..) -/
theorem pe_callK0 (F : FnOk X.prog X.w X.K X.mg X.base CX k f fd ps sp) (hr : Room k X.A) (hg : Gl X x) (hm : X.mg x = some (.ref f)) (hk : PySem.W.keepIn X.K (.ref f) = true) (hb : KBinds X.K fd ps ks g gV) (hx : Passes CX X E)
    (hkw : PK X kws tk) (hall : (backToKw pos (keywordEach kws X.env)).all (·.1.isSome) = true := by rfl) (hks : (backToKw pos (keywordEach kws X.env)).filterMap (·.1) = ks := by rfl)
    (hdb : (x == ("__debug__" : Str)) = false := by decide) :
    PE X (.Call (.Name x p) [] kws pos) (tCallK sp gV E tNil tk) := by
  refine ⟨fun pins s σ H Q I h => wpAny_Call_Name_kw (ld_glob I hg hm ?_ hdb)⟩
  refine PySem.W.callWith_KW0 (h₀ := X.base) I.ok.mod.kin hk hall (thn (hkw.run pos pins s σ H _ I h) fun ws s2 ⟨zs, H2, I2, rz, q2⟩ => ⟨I2.kIn, ?_⟩) (by
    show (false || (backToKw pos (keywordEach kws X.env)).any (·.1.isNone)) = false
    have h1 := List.all_eq_true.mp hall
    simp only [Bool.false_or, List.any_eq_false]
    intro y hy hz
    have h2 := h1 y hy
    cases hh : y.1 with
    | none => rw [hh] at h2; exact absurd h2 (by decide)
    | some z => rw [hh] at hz; simp at hz)
  rw [hks]
  exact run_fnk (us := []) F hr hb hx I2 .nil rz q2
end

/-- two parameters, told by name in the other order -/
def swap2 {α : Type} : List α → List α → List α
  | [], [a, b] => [b, a]
  | _, _ => []
theorem swap2_binds {K : PySem.W.Frag} {fd : FuncData} {p1 p2 : Str} (h : ∀ a b : Value, bindArgs fd ⟨[], [(p2, a), (p1, b)]⟩ = pure [(p1, b), (p2, a)]) :
    KBinds K fd [p1, p2] [p2, p1] swap2 swap2 := by
  refine ⟨fun s us ws _ hl => ?_, fun {vs us zs ws} r1 r2 => ?_⟩
  · match us, ws, hl with
    | [], [a, b], _ => exact .of_eq (h a b)
    | [], [], hl => exact absurd hl (by simp [swap2])
    | [], [_], hl => exact absurd hl (by simp [swap2])
    | [], _ :: _ :: _ :: _, hl => exact absurd hl (by simp [swap2])
    | _ :: _, _, hl => exact absurd hl (by simp [swap2])
  · cases r1 with
    | cons _ _ => exact .nil
    | nil =>
      cases r2 with
      | nil => exact .nil
      | cons a ra =>
        cases ra with
        | nil => exact .nil
        | cons b rb =>
          cases rb with
          | nil => exact .cons b (.cons a .nil)
          | cons _ _ => exact .nil

/-! ### powers of any size -/
section
variable {X : Cx}
def CPowW (i j : Int) : Prop := 0 ≤ j ∧ (Builtin.Int.intBits i : Int) * j ≤ 2 ^ 27
theorem op_powW : OpR X (binaryOp .Pow) (rI CPowW fun i j => .int (i ^ j.toNat)) := opI fun _ _ _ _ _ _ _ hc q => pow_int hc.1 hc.2 q
end

/-! ### repr of data -/
section
variable {X : Cx}
def rRepr (K : PySem.W.Frag) : List V → Hp → VK → Prop := fun xs H Q => ∃ (a : Addr) (d : PyData), xs = [.ref a] ∧ Dp K H (.ref a) d ∧ d.showable = true ∧ d.hasDict = false ∧ d.depth ≤ 60 ∧ d.shown.length ≤ sizeLine ∧ Q (.str d.shown) H
theorem call_repr_D {k : Nat} (hgd : X.A.guards = some []) (hr : Room k X.A) : CallR X (.builtin "repr") (rRepr X.K) := by
  intro pins s σ H xs us Q I r h
  obtain ⟨a, d, rfl, hd, hs, hn, hdp, hz, q⟩ := h
  obtain ⟨u, rfl, ru⟩ := vals1 r
  cases (show u = Value.ref a from ru)
  obtain ⟨as, rd⟩ := Dp.reads I d (.ref a) (.ref a) hd rfl
  refine PySem.repr_of_reads' rd hs (fun z => absurd z (by rw [hn]; decide)) hgd (by have := hr.un; omega) (fun _ _ e => e) (fun h' u tk hk => ?_) hz
  exact ⟨.str d.shown, H, I.kept (t' := tk) hk, ⟨u, rfl⟩, q⟩
end
end Vf

/-! set(xs) of a list of ints, kept as an object. -/
namespace Vf
open PySem PySem.Spec PyProof.Rows L2

/-- an empty set, as it is made -/
abbrev freshSet (w : World) : Obj := { cls := .type "set", dict := none, data := .set #[] 0 (.fresh 0 0 (!w.params.followText "set-order")) }
section
variable {P : Program} {w : World} {A : Around} {E : Value → Shared → Prop} {s : Shared}
theorem mk_set_list {l : Addr} {items : Array Value} (ns : List Int) {Q : Value → Shared → Prop} (hh : A.handled = none) (hl : s.heap.IsList l items)
    (hit : IntsAre items.toList ns) (hb : ns.length + 1 < scanBound)
    (h : ∀ (h' : Heap) (tk c : Nat), SetR w h' s.heap.objs.size (fun j => decide (j ∈ ns)) c → c ≤ ns.length →
      (∀ b o, s.heap.get? b = some o → h'.get? b = some o) → Q (.ref s.heap.objs.size) { s with heap := h', toks := tk }) :
    wpAny (model P w) A (call (.type "set") [.ref l]) Q E s := by
  have hisz : items.size = ns.length := (Array.length_toList (xs := items)).symm.trans (IntsAre.length hit)
  obtain ⟨c, tl, hmro⟩ := F.called_set.mro
  have hmade := F.called_set.made
  have hsub := F.called_set.sub
  refine wpAny_call (codeAny_of_tree ?_)
  show wpAny _ _ (callAny (.type "set") _) _ _ _
  refine wpAny_pure ⟨Code.quiet_builtin _ (by decide +kernel), codeAny_builtin F.entry_type_call ?_⟩
  rw [Around.under_plain (weight_type_call_type "set" [.ref l] []) rfl]
  have k1 := F.called_set.notType
  have k2 := F.called_set.canCreate
  have k3 := F.typeCall_set_1 (.ref l)
  repeat (any_goals (first | assumption | wp_step))
  refine codeAny_mono (code_set_led1 (.ref l) (E := E) (Q₁ := fun obj s₁ => obj = .ref s.heap.objs.size ∧ s₁ = { s with heap := s.heap.push (freshSet w) }) ⟨rfl, rfl⟩) ?_
  intro r s₁ hr
  cases r with
  | error e => exact hr
  | ok fl =>
    cases fl with
    | ret obj =>
      obtain ⟨rfl, rfl⟩ := hr
      have hS : (s.heap.push (freshSet w)).get? s.heap.objs.size = some (freshSet w) := Heap.get?_push_size _ rfl
      have hT : Shared.TypeIs { s with heap := s.heap.push (freshSet w) } (.ref s.heap.objs.size) "set" := ⟨_, hS, rfl⟩
      have k4 := F.called_set.init.lookup
      have k5 := F.called_set.init.bind (.ref s.heap.objs.size)
      repeat (any_goals (first | assumption | wp_step))
      let G : Value → Shared → Prop := fun r s₂ => r = .none ∧ ∃ h' tk c, s₂ = { s with heap := h', toks := tk } ∧
        SetR w h' s.heap.objs.size (fun j => decide (j ∈ ns)) c ∧ c ≤ ns.length ∧ (∀ b o, s.heap.get? b = some o → h'.get? b = some o)
      refine codeAny_mono (codeAny_call_builtin (R := wants G E) F.called_set.init.plain F.entry_set_init (check_set_init_1 hT ?_)) ?_
      · obtain ⟨ol, hol, hcl, nl, hdl⟩ := hl
        obtain ⟨ocls, odict, odata, oslots⟩ := ol
        simp only at hcl hdl
        subst hcl
        subst hdl
        have hol' : (s.heap.push (freshSet w)).get? l = some { cls := .type "list", dict := odict, data := .seq items nl, slots := oslots } := Heap.get?_push_of_some _ hol
        have k6 := F.sub_list_set
        have k7 := F.sub_list_frozenset
        have k8 : (Value.type "list" == Value.type "dict") = false := by decide
        have hl1 : (s.heap.push (freshSet w)).IsList l items := ⟨_, hol', rfl, nl, rfl⟩
        unfold Builtin.«set.__init__» noKeywords Builtin.Frozenset.updateFrom
        generalize hPI : pyIter = PI
        wp_walk
        subst hPI
        refine wpAny_pyIter_list hl1 (wpAny_bind (wpAny_runValue ?_))
        have hlS : l < s.heap.objs.size := Heap.lt_size hol
        have hh3 : A.in1.in1.in1.handled = none := by simp [hh]
        have hz : (s.heap.push (freshSet w)).objs.size = s.heap.objs.size + 1 := Heap.size_push ..
        have hneI : l ≠ (s.heap.push (freshSet w)).objs.size := by rw [hz]; exact Nat.ne_of_lt (Nat.lt_succ_of_lt hlS)
        have hSf : s.heap.objs.size ∉ [(s.heap.push (freshSet w)).objs.size, l] := by
          rw [hz]
          intro hm
          rcases List.mem_cons.mp hm with e | hm
          · exact absurd e (Nat.ne_of_lt (Nat.lt_succ_self _))
          · exact absurd (List.mem_singleton.mp hm) (Nat.ne_of_gt hlS)
        have hval : ∀ (i : Nat) (v : Value), items[i]? = some v → ∃ k t, ns[i]? = some k ∧ v = .int k t := by
          intro i v hv
          have hi : i < ns.length := hisz ▸ (Array.getElem?_eq_some_iff.mp hv).1
          obtain ⟨t, e⟩ := PyProof.Rows.IntsAre.int_at hit i v (by rw [Array.getElem?_toList]; exact hv)
          exact ⟨ns[i], t, List.getElem?_eq_getElem hi, by rw [e, List.getD_eq_getElem?_getD, List.getElem?_eq_getElem hi] <;> rfl⟩
        refine set_update_ints ((Walks.list hh3 _ l hneI items).toS) s.heap.objs.size hSf ns hisz hb hval (items.size - 0) 0 _ (by omega) (Nat.zero_le _)
          ⟨⟨_, Heap.get?_push_size _ rfl, rfl, rfl⟩, (hl1.push _)⟩ ⟨0, Nat.le_refl 0, setR_new_at (Heap.get?_push_of_some _ hS)⟩ ?_
        intro s' c' hm hc' hS'
        obtain ⟨h', g2, d', tk', os'⟩ := s'
        obtain rfl : g2 = s.gens := hm.gens
        obtain rfl : d' = s.drawn := hm.drawn
        obtain rfl : os' = s.os := hm.os
        show wpAny _ _ _ _ _ _
        refine wpAny_pure ?_
        show wpAny _ _ (ret Value.none) _ _ _
        rw [hisz] at hc'
        refine wpAny_pure ⟨rfl, h', tk', c', rfl, hS', hc', fun b o e => ?_⟩
        have hb0 : b < s.heap.objs.size := Heap.lt_size e
        refine hm.heap b o (fun hmem => ?_) (Heap.get?_push_of_some _ (Heap.get?_push_of_some _ e))
        rcases List.mem_cons.mp hmem with e1 | hmem
        · exact absurd e1 (Nat.ne_of_lt hb0)
        · have e1 := List.mem_singleton.mp hmem
          rw [hz] at e1
          exact absurd e1 (Nat.ne_of_lt (Nat.lt_succ_of_lt hb0))
      · intro r₂ s₂ hr₂
        cases r₂ with
        | error e => exact hr₂
        | ok fl₂ =>
          cases fl₂ with
          | ret r =>
            obtain ⟨rfl, h', tk, c', rfl, hS', hc', hk'⟩ := hr₂
            repeat (any_goals (first | assumption | wp_step))
            exact h _ _ _ hS' hc' hk'
          | _ => exact hr₂.elim
    | _ => exact hr.elim
end
section
variable {X : Cx}
/-- set(xs), ints -/
def rSetOfI (K : PySem.W.Frag) (w : World) : List V → Hp → VK → Prop := fun xs H Q => ∃ (p : Addr) (ns : List Int), xs = [.ref p] ∧ SqL K H p (ns.map V.int) ∧ ns.length ≤ 1000 ∧
  ∀ a c, H a = none → c ≤ ns.length → Q (.ref a) (upd H a (SetO w a (fun j => decide (j ∈ ns)) c))
theorem cr_setOfI (hc : X.calm = true) : CallR X (.type "set") (rSetOfI X.K X.w) := by
  intro pins s σ H xs us Q I r h
  obtain ⟨p, ns, rfl, hs, hl, q⟩ := h
  obtain ⟨its, rv, pl, _⟩ := I.list hs
  rw [Vals.ref1 r]
  refine mk_set_list ns (I.ok.hd hc) pl.isList rv.ints (by unfold scanBound; omega) fun h' tk c R hcn k => ?_
  have hf : H s.heap.objs.size = none := I.hok.fresh (Nat.le_refl _)
  exact ⟨.ref s.heap.objs.size, _, I.laid (t' := tk) k (Nat.le_refl _) (setO_new R), rfl, q _ c hf hcn⟩
end
end Vf

/-! Sets of tuples of ints, of more than a thousand members: in, add. -/
namespace Vf
open PySem PySem.Spec PyProof.Rows L2

/-! ### the round of a table's slots, larger tables -/
def MaskW (m : Nat) : Prop := m = 7 ∨ m = 31 ∨ m = 127 ∨ m = 511 ∨ m = 2047
def mark (m : Nat) : Nat → Nat → Nat → Nat
  | 0, _, acc => acc
  | k + 1, x, acc => mark m k ((x * 5 + 1) % (m + 1)) (acc ||| (1 <<< x))
def walkT (m : Nat) : Nat → Nat → Nat
  | 0, x => x
  | k + 1, x => walkT m k ((x * 5 + 1) % (m + 1))
theorem lcgI_shift (m x : Nat) : ∀ k, lcgI m ((x * 5 + 1) % (m + 1)) k = lcgI m x (k + 1)
  | 0 => rfl
  | k + 1 => by
    have ih := lcgI_shift m x k
    show (lcgI m ((x * 5 + 1) % (m + 1)) k * 5 + 1) % (m + 1) = (lcgI m x (k + 1) * 5 + 1) % (m + 1)
    rw [ih]
theorem lcgI_plus (m x a : Nat) : ∀ k, lcgI m (lcgI m x a) k = lcgI m x (a + k)
  | 0 => rfl
  | k + 1 => by
    have ih := lcgI_plus m x a k
    show (lcgI m (lcgI m x a) k * 5 + 1) % (m + 1) = (lcgI m x (a + k) * 5 + 1) % (m + 1)
    rw [ih]
theorem walkT_eq (m : Nat) : ∀ k x, walkT m k x = lcgI m x k
  | 0, _ => rfl
  | k + 1, x => by
    show walkT m k ((x * 5 + 1) % (m + 1)) = _
    rw [walkT_eq m k, lcgI_shift]
theorem mark_bit (m j : Nat) : ∀ k x acc, (mark m k x acc).testBit j = true → acc.testBit j = true ∨ ∃ c, c < k ∧ lcgI m x c = j
  | 0, _, _, h => .inl h
  | k + 1, x, acc, h => by
    rcases mark_bit m j k _ _ h with h1 | ⟨c, hc, e⟩
    · rw [Nat.testBit_or, Bool.or_eq_true] at h1
      rcases h1 with h1 | h1
      · exact .inl h1
      · refine .inr ⟨0, Nat.succ_pos _, ?_⟩
        rw [Nat.one_shiftLeft, Nat.testBit_two_pow] at h1
        exact of_decide_eq_true h1
    · exact .inr ⟨c + 1, Nat.succ_lt_succ hc, by rw [← lcgI_shift]; exact e⟩
theorem mark_all {m : Nat} (h : mark m (m + 1) 0 0 = 2 ^ (m + 1) - 1) {j : Nat} (hj : j ≤ m) : ∃ c, c ≤ m ∧ lcgI m 0 c = j := by
  have hb : (mark m (m + 1) 0 0).testBit j = true := by
    rw [h, Nat.testBit_two_pow_sub_one]
    exact decide_eq_true (Nat.lt_succ_of_le hj)
  rcases mark_bit m j _ _ _ hb with h1 | ⟨c, hc, e⟩
  · rw [Nat.zero_testBit] at h1
    exact absurd h1 (by decide)
  · exact ⟨c, Nat.le_of_lt_succ hc, e⟩
theorem seen_slots {m : Nat} (hm : MaskW m) {j : Nat} (hj : j ≤ m) : ∃ c, c ≤ m ∧ lcgI m 0 c = j := by
  rcases hm with e | e | e | e | e
  · subst e; exact mark_all (by decide +kernel) hj
  · subst e; exact mark_all (by decide +kernel) hj
  · subst e; exact mark_all (by decide +kernel) hj
  · subst e; exact mark_all (by decide +kernel) hj
  · subst e; exact mark_all (by decide +kernel) hj
theorem round_slots {m : Nat} (hm : MaskW m) : lcgI m 0 (m + 1) = 0 := by
  rw [← walkT_eq]
  rcases hm with e | e | e | e | e
  · subst e; decide +kernel
  · subst e; decide +kernel
  · subst e; decide +kernel
  · subst e; decide +kernel
  · subst e; decide +kernel
theorem from_any {m : Nat} (hm : MaskW m) {i j : Nat} (hi : i ≤ m) (hj : j ≤ m) : ∃ k, k ≤ m ∧ lcgI m i k = j := by
  obtain ⟨a, ha, ea⟩ := seen_slots hm hi
  obtain ⟨b, hb, eb⟩ := seen_slots hm hj
  by_cases c : a ≤ b
  · refine ⟨b - a, Nat.le_trans (Nat.sub_le _ _) hb, ?_⟩
    rw [← ea, lcgI_plus, Nat.add_sub_cancel' c, eb]
  · refine ⟨m + 1 + b - a, by omega, ?_⟩
    rw [← ea, lcgI_plus, Nat.add_sub_cancel' (by omega), ← lcgI_plus, round_slots hm, eb]
theorem runs_meet {m : Nat} (hm : MaskW m) (h : Int) {j : Nat} (hj : j ≤ m) : ∃ n, n ≤ m + 12 ∧ runI m (SetTable.bits h) n = j := by
  obtain ⟨k, hk, e⟩ := from_any hm (runI_le m (SetTable.bits h) 12) hj
  refine ⟨12 + k, by omega, ?_⟩
  rw [runI_tail (bits_lt h), e]
theorem way_top (m : Nat) (h : Int) (k : Nat) : way m h k ≤ m := by
  have h0 : SetTable.bits h % (m + 1) ≤ m := Nat.le_of_lt_succ (Nat.mod_lt _ (Nat.succ_pos m))
  have h1 := runEnd_bd h0
  have h2 := nth_in (m := m) k (runAt m (SetTable.bits h % (m + 1)) (SetTable.bits h)) (by
    simp only [runAt]
    omega)
  exact Nat.le_trans (Nat.le_add_right _ _) h2
theorem way_meets {m : Nat} (hm : MaskW m) (h : Int) {j : Nat} (hj : j ≤ m) : ∃ k, k < 10 * SetTable.turns m ∧ way m h k = j := by
  obtain ⟨n, hn, e⟩ := runs_meet hm h hj
  obtain ⟨k, hk, e2⟩ := run_nth m (SetTable.bits h) n
  refine ⟨k, by unfold SetTable.turns; omega, ?_⟩
  unfold way
  rw [e2]
  exact e

/-! ### the table -/
structure TabW (t : SetTable) (hs : List Int) : Prop where
  ris : Ris t.place.toList
  dm : t.dummies = #[]
  sz : t.place.size = hs.length
  msk : MaskW t.mask
  top : ∀ x ∈ t.place.toList, x ≤ t.mask
  led : ∀ (i : Nat) (h : Int) (j : Nat), hs[i]? = some h → t.place.toList[i]? = some j → ∃ k, way t.mask h k = j ∧ ∀ c, c < k → way t.mask h c ∈ t.place.toList
theorem TabW.free {t : SetTable} {hs : List Int} (T : TabW t hs) (hl : hs.length ≤ t.mask) (h : Int) :
    ∃ K, K < 10 * SetTable.turns t.mask ∧ way t.mask h K ∉ t.place.toList ∧ ∀ c, c < K → way t.mask h c ∈ t.place.toList := by
  obtain ⟨j, hj, hn⟩ := st_missing t.place.toList (t.mask + 1) (by rw [Array.length_toList, T.sz]; omega)
  obtain ⟨k, hk, e⟩ := way_meets T.msk h (Nat.le_of_lt_succ hj)
  obtain ⟨K, a1, a2, a3⟩ := st_least (p := fun c => way t.mask h c ∉ t.place.toList) k (fun z => hn (e ▸ z))
  exact ⟨K, Nat.lt_of_le_of_lt a1 hk, a2, fun c hc => Classical.byContradiction (a3 c hc)⟩
theorem TabW.ahead {t : SetTable} {hs : List Int} (T : TabW t hs) {h : Int} {K i j : Nat} (hK : way t.mask h K ∉ t.place.toList) (hi : hs[i]? = some h) (hj : t.place.toList[i]? = some j) :
    ∃ c, c < K ∧ way t.mask h c = j := by
  obtain ⟨c, e, hb⟩ := T.led i h j hi hj
  refine ⟨c, Nat.lt_of_not_le fun z => hK ?_, e⟩
  rcases Nat.lt_or_eq_of_le z with y | y
  · exact hb K y
  · rw [y, e]
    exact List.mem_of_getElem? hj
theorem TabW.put {t : SetTable} {hs : List Int} (T : TabW t hs) {h : Int} {K : Nat} (hK : way t.mask h K ∉ t.place.toList) (hb : ∀ c, c < K → way t.mask h c ∈ t.place.toList) :
    SetTable.below t.place (way t.mask h K) ≤ hs.length ∧ (t.put (way t.mask h K)).1.fill = hs.length + 1 ∧
    TabW (t.put (way t.mask h K)).1 (hs.take (SetTable.below t.place (way t.mask h K)) ++ h :: hs.drop (SetTable.below t.place (way t.mask h K))) := by
  have top := way_top t.mask h K
  have cut := (below_cut T.ris (way t.mask h K)).1
  generalize hw : way t.mask h K = j at *
  have e1 : SetTable.below t.place j ≤ t.place.toList.length := by rw [Array.length_toList]; exact cut
  have e2 : SetTable.below t.place j ≤ hs.length := T.sz ▸ cut
  have pp := put_place t j
  have sz : (t.put j).1.place.size = hs.length + 1 := by
    rw [← Array.length_toList, pp, len_ins _ e1, Array.length_toList, T.sz]
  have nw : t.place[SetTable.below t.place j]? ≠ some j := fun e => hK (List.mem_of_getElem? ((Array.getElem?_toList (xs := t.place)).trans e))
  have more : ∀ x, x ∈ t.place.toList → x ∈ (t.put j).1.place.toList := fun x hx => by
    rw [pp]
    exact mem_ins.2 (.inr hx)
  refine ⟨e2, ?_, ris_insert T.ris nw, put_dm T.dm j, ?_, T.msk, ?_, ?_⟩
  · show (t.put j).1.place.size + (t.put j).1.dummies.size = _
    rw [sz, put_dm T.dm j]
    rfl
  · rw [sz, len_ins _ e2]
  · intro x hx
    rw [pp] at hx
    rcases mem_ins.1 hx with z | z
    · rw [z]; exact top
    · exact T.top x z
  · intro i h' j' h1 h2
    rw [tins_get hs e2] at h1
    rw [pp, tins_get _ e1] at h2
    show ∃ k, way t.mask h' k = j' ∧ _
    split at h1
    · rename_i c
      rw [if_pos c] at h2
      obtain ⟨k, a, b⟩ := T.led i h' j' h1 h2
      exact ⟨k, a, fun c hc => more _ (b c hc)⟩
    · rename_i c
      rw [if_neg c] at h2
      split at h1
      · rename_i d
        rw [if_pos d] at h2
        cases h1
        cases h2
        exact ⟨K, hw, fun c hc => more _ (hb c hc)⟩
      · rename_i d
        rw [if_neg d] at h2
        obtain ⟨k, a, b⟩ := T.led (i - 1) h' j' h1 h2
        exact ⟨k, a, fun c hc => more _ (b c hc)⟩

/-! ### the table laid anew -/
theorem slot_free {m : Nat} (hm : MaskW m) (owner : Array (Option Nat)) (h : Int) {j : Nat} (hj : j ≤ m) (hf : oAt owner j = none) :
    ∃ K, SetTable.layClean.free m owner (SetTable.turns m) (SetTable.bits h % (m + 1)) (SetTable.bits h) = some (way m h K) ∧ oAt owner (way m h K) = none ∧ ∀ k, k < K → oAt owner (way m h k) ≠ none := by
  obtain ⟨n, hn, e⟩ := runs_meet hm h hj
  have e2 : way m h (off m (SetTable.bits h % (m + 1)) (SetTable.bits h) n) = j := by
    unfold way
    rw [nth_off, itL_run]
    exact e
  obtain ⟨K, a1, a2, a3⟩ := st_least (p := fun k => oAt owner (way m h k) = none) _ (show oAt owner (way m h (off m (SetTable.bits h % (m + 1)) (SetTable.bits h) n)) = none by rw [e2]; exact hf)
  refine ⟨K, free_spec m owner _ n _ _ K (by unfold SetTable.turns; omega) a1 (fun k hk => ?_) ?_, a2, a3⟩
  · have z := a3 k hk
    revert z
    unfold way
    cases oAt owner (nth m (runAt m (SetTable.bits h % (m + 1)) (SetTable.bits h)) k).j with
    | none => intro z; exact absurd rfl z
    | some _ => intro _; rfl
  · have z : oAt owner (nth m (runAt m (SetTable.bits h % (m + 1)) (SetTable.bits h)) K).j = none := a2
    rw [z]
    rfl
theorem own_next {m : Nat} (hm : MaskW m) {done : List Int} {owner : Array (Option Nat)} (W : Own m done owner) (hl : done.length ≤ m) (h : Int) :
    ∃ j, SetTable.layClean.free m owner (SetTable.turns m) (SetTable.bits h % (m + 1)) (SetTable.bits h) = some j ∧ Own m (done ++ [h]) (owner.setIfInBounds j (some done.length)) := by
  obtain ⟨ps, hps, hin⟩ := W.ps
  obtain ⟨j0, h0, hn0⟩ := st_missing ps (m + 1) (by omega)
  have hj0 : oAt owner j0 = none := by
    cases z : oAt owner j0 with
    | none => rfl
    | some k => exact absurd (hin j0 (Nat.le_of_lt_succ h0) (fun e => by rw [z] at e; cases e)) hn0
  obtain ⟨K, e1, e2, e3⟩ := slot_free hm owner h (Nat.le_of_lt_succ h0) hj0
  have hjm := way_top m h K
  refine ⟨way m h K, e1, ?_⟩
  have self : oAt (owner.setIfInBounds (way m h K) (some done.length)) (way m h K) = some done.length := oAt_set_self _ (by rw [W.sz]; exact Nat.lt_succ_of_le hjm)
  have other : ∀ i, i ≠ way m h K → oAt (owner.setIfInBounds (way m h K) (some done.length)) i = oAt owner i := fun i hi => oAt_set_ne _ hi
  have size2 : (owner.setIfInBounds (way m h K) (some done.length)).size = m + 1 := by rw [Array.size_setIfInBounds]; exact W.sz
  generalize owner.setIfInBounds (way m h K) (some done.length) = own2 at *
  have keep : ∀ i, oAt owner i ≠ none → oAt own2 i ≠ none := fun i hi => by
    by_cases c : i = way m h K
    · rw [c, self]
      exact fun z => nomatch z
    · rw [other i c]
      exact hi
  refine ⟨size2, ?_, ?_, way m h K :: ps, by simp [hps], ?_⟩
  · intro j k hj e
    by_cases c : j = way m h K
    · rw [c, self] at e
      cases e
      exact ⟨h, K, by simp, c.symm, fun k' hk' => keep _ (e3 k' hk')⟩
    · rw [other j c] at e
      obtain ⟨h', K', a1, a2, a3⟩ := W.at_ j k hj e
      have hk : k < done.length := (List.getElem?_eq_some_iff.mp a1).1
      exact ⟨h', K', by rw [List.getElem?_append_left hk]; exact a1, a2, fun k' hk' => keep _ (a3 k' hk')⟩
  · intro k hk
    by_cases c : k < done.length
    · obtain ⟨j, hj, e⟩ := W.all k c
      exact ⟨j, hj, by rw [other j (fun z => by rw [z, e2] at e; cases e)]; exact e⟩
    · have ek : k = done.length := by
        rw [List.length_append, List.length_singleton] at hk
        omega
      exact ⟨way m h K, hjm, by rw [ek]; exact self⟩
  · intro j hj e
    by_cases c : j = way m h K
    · rw [c]; exact List.mem_cons_self
    · rw [other j c] at e
      exact List.mem_cons_of_mem _ (hin j hj e)
theorem owns_all {m : Nat} (hm : MaskW m) : ∀ (rest done : List Int) (owner : Array (Option Nat)), Own m done owner → done.length + rest.length ≤ m →
    ∃ own2, rest.foldl (stepF m) (some (owner, done.length)) = some (own2, (done ++ rest).length) ∧ Own m (done ++ rest) own2
  | [], done, owner, W, _ => ⟨owner, by simp, by simpa using W⟩
  | h :: rest, done, owner, W, hl => by
    simp only [List.length_cons] at hl
    obtain ⟨j, e, W2⟩ := own_next hm W (by omega) h
    obtain ⟨own2, a, b⟩ := owns_all hm rest (done ++ [h]) _ W2 (by simp; omega)
    have e1 : done ++ [h] ++ rest = done ++ h :: rest := by simp
    have e2 : (done ++ [h]).length = done.length + 1 := by simp
    rw [e1, e2] at a
    rw [e1] at b
    exact ⟨own2, by rw [List.foldl_cons, stepF_some e]; exact a, b⟩
theorem clean_all {m : Nat} (hm : MaskW m) {hs : Array Int} (hn : hs.size ≤ m) : ∃ owner, SetTable.layClean m hs = some owner ∧ Own m hs.toList owner := by
  obtain ⟨owner, a, b⟩ := owns_all hm hs.toList [] _ (Own.init m) (by simpa using hn)
  refine ⟨owner, ?_, by simpa using b⟩
  have a2 : hs.toList.foldl (stepF m) (some (Array.replicate (m + 1) none, 0)) = some (owner, ([] ++ hs.toList).length) := a
  rw [layClean_eq, a2]
  rfl
theorem relaid_all (t : SetTable) {hs : Array Int} {wanted M : Nat} (hw : SetTable.sizeAbove wanted - 1 = M) (hM : MaskW M) (hn : hs.size ≤ M) :
    ∃ t2 order, t.relaid hs wanted = some (t2, order) ∧ order.toList.Perm (List.range hs.size) ∧ TabW t2 (order.toList.map fun i => hs.getD i 0) ∧ t2.mask = M ∧ t2.led = t.led ∧ t2.plain = t.plain := by
  obtain ⟨owner, e, W⟩ := clean_all hM hn
  have two := ris_live (fun j => owner.getD j none) (List.range (M + 1)) (by
    unfold Ris
    exact List.pairwise_lt_range)
  have up : Ris ((liveOf M owner).map (·.1)) := two.1
  have inr : ∀ x ∈ (liveOf M owner).map (·.1), x ∈ List.range (M + 1) := two.2
  have mem : ∀ j k, (j, k) ∈ liveOf M owner ↔ j ≤ M ∧ oAt owner j = some k := fun j k => mem_live W.sz
  have every : ∀ k, k < hs.size → k ∈ (liveOf M owner).map (·.2) := fun k hk => by
    obtain ⟨j, a, b⟩ := W.all k (by simpa using hk)
    exact List.mem_map.mpr ⟨(j, k), (mem j k).2 ⟨a, b⟩, rfl⟩
  have len : (liveOf M owner).length = hs.size := by
    refine Nat.le_antisymm ?_ ?_
    · obtain ⟨ps, a, b⟩ := W.ps
      have nd : ((liveOf M owner).map (·.1)).Nodup := List.Pairwise.imp (fun z => Nat.ne_of_lt z) up
      have z := nat_nodup_len _ ps nd (by
        intro x hx
        obtain ⟨⟨y, k⟩, hq, rfl⟩ := List.mem_map.mp hx
        obtain ⟨c1, c2⟩ := (mem y k).1 hq
        exact b y c1 (fun z => by rw [z] at c2; cases c2))
      simpa [a] using z
    · have z := nat_nodup_len (List.range hs.size) ((liveOf M owner).map (·.2)) List.nodup_range fun k hk => every k (List.mem_range.mp hk)
      simpa using z
  refine ⟨tabOf t M owner, ((liveOf M owner).map (·.2)).toArray, ?_, perm_range hs.size _ (by simpa using len) every, ⟨up, rfl, ?_, hM, ?_, ?_⟩, rfl, rfl, rfl⟩
  · rw [relaid_eq, hw, e]
    rfl
  · show ((liveOf M owner).map (·.1)).toArray.size = _
    simp
  · intro x hx
    exact Nat.le_of_lt_succ (List.mem_range.mp (inr x hx))
  · intro i h j h1 h2
    have h1' : (((liveOf M owner).map (·.2)).map fun i => hs.getD i 0)[i]? = some h := h1
    have h2' : ((liveOf M owner).map (·.1))[i]? = some j := h2
    simp only [List.getElem?_map, Option.map_eq_some_iff] at h1' h2'
    obtain ⟨k, ⟨⟨y, k'⟩, g1, rfl⟩, rfl⟩ := h1'
    obtain ⟨q, g2, rfl⟩ := h2'
    rw [g1] at g2
    cases g2
    obtain ⟨c1, c2⟩ := (mem y k').1 (List.mem_of_getElem? g1)
    obtain ⟨h0, K, a1, a2, a3⟩ := W.at_ y k' c1 c2
    have eh : hs.getD k' 0 = h0 := by
      rw [Array.getElem?_toList] at a1
      rw [Array.getD_eq_getD_getElem?, a1]
      rfl
    refine ⟨K, by show way M (hs.getD k' 0) K = y; rw [eh]; exact a2, fun c hc => ?_⟩
    show way M (hs.getD k' 0) c ∈ (liveOf M owner).map (·.1)
    rw [eh]
    cases z : oAt owner (way M h0 c) with
    | none => exact absurd z (a3 c hc)
    | some k2 => exact List.mem_map.mpr ⟨(way M h0 c, k2), (mem _ _).2 ⟨way_top M h0 c, z⟩, rfl⟩

/-! ### the set -/
/-- what the object at a holds: the tuples at L's addresses, told by their ints -/
def SetW0 (P : Program) (w : World) (h : Heap) (a : Addr) (L : List (Addr × List Int)) (es : Array (Int × Value)) (ep : Nat) (t : SetTable) : Prop :=
  (∃ o, h.get? a = some o ∧ o.ExactSet ∧ o.data = .set es ep t) ∧ es.toList = rowsOf P w L ∧ TabW t (L.map fun p => thash P w p.2) ∧ t.plain = true ∧
    (w.params.followText "set-order" = true ∨ t.led = true) ∧ L.length * 5 < t.mask * 3 ∧ L.length ≤ 1200
section
variable {P : Program} {w : World} {A : Around} {E : Value → Shared → Prop} {s : Shared} {a : Addr} {L : List (Addr × List Int)} {es : Array (Int × Value)} {ep : Nat} {t : SetTable}
theorem rows_size (h : es.toList = rowsOf P w L) : es.size = L.length := by
  rw [← Array.length_toList, h]
  simp [rowsOf]
theorem rows_at (h : es.toList = rowsOf P w L) {i : Nat} {p : Addr × List Int} (hp : L[i]? = some p) : es[i]? = some (thash P w p.2, Value.ref p.1) := by
  rw [← Array.getElem?_toList, h]
  simp [rowsOf, hp]
theorem fits_of (T : TabW t (L.map fun p => thash P w p.2)) (hr : es.toList = rowsOf P w L) (hl : L.length ≤ t.mask) : t.fits es.size = true := by
  have h1 := T.sz
  rw [List.length_map] at h1
  unfold SetTable.fits SetTable.fill
  rw [T.dm, Bool.and_eq_true, beq_iff_eq, decide_eq_true_eq, rows_size hr, h1]
  exact ⟨rfl, hl⟩
theorem stands (T : TabW t (L.map fun p => thash P w p.2)) : ¬ t.gaveWay = true := by
  unfold SetTable.gaveWay
  rcases T.msk with e | e | e | e | e <;> rw [e] <;> decide
/-- the search, from the c-th slot of its way on -/
theorem seek (R : SetW0 P w s.heap a L es ep t) (tup : ∀ p ∈ L, IsT P w s.heap p.2 p.1) (ad : Bool) {x : Addr} {k : List Int} (hx : IsT P w s.heap k x) (hu : A.units < cLine) {K : Nat} (hf0 : K < 10 * SetTable.turns t.mask)
    (hK : way t.mask (thash P w k) K ∉ t.place.toList) (hKb : ∀ c, c < K → way t.mask (thash P w k) c ∈ t.place.toList) {Q : SetFound → Shared → Prop}
    (hin : k ∈ L.map (·.2) → ∀ oi, (ad = false → oi ≠ none) → Q (.there oi) s) (hout : k ∉ L.map (·.2) → Q (.free (way t.mask (thash P w k) K) false) s) :
    ∀ (f c : Nat) (stand : Option SetTable.Probe), stand.getD (t.probeStart (thash P w k)) = nth t.mask (runAt t.mask (SetTable.bits (thash P w k) % (t.mask + 1)) (SetTable.bits (thash P w k))) c → c ≤ K → K - c < f →
      (∀ (i : Nat) p, L[i]? = some p → p.2 = k → ∃ c', c ≤ c' ∧ c' < K ∧ t.place.toList[i]? = some (way t.mask (thash P w k) c')) →
      wpAny (model P w) A (setSearchFrom a (.ref x) (thash P w k) ad f stand) Q E s
  | 0, c, stand, _, _, hf, _ => absurd hf (Nat.not_lt_zero _)
  | f + 1, c, stand, hst, hc, hf, hre => by
    obtain ⟨⟨o, ho, hex, hd⟩, rows, T, pl, ld, room, few⟩ := id R
    have fit : t.fits es.size = true := fits_of T rows (by omega)
    generalize hpr : runAt t.mask (SetTable.bits (thash P w k) % (t.mask + 1)) (SetTable.bits (thash P w k)) = pr at hst
    have wy : ∀ q, (nth t.mask pr q).j = way t.mask (thash P w k) q := fun q => by rw [← hpr]
    have shift : ∀ q, nth t.mask (nth t.mask pr c) q = nth t.mask pr (c + q) := fun q => (nth_add t.mask c pr q).symm
    have nodummy : ∀ (n : Nat) (p : SetTable.Probe), p.dummy = none → (nth t.mask p n).dummy = none := by
      intro n
      induction n with
      | zero => exact fun p h => h
      | succ n ih =>
        refine fun p h => ih (adv t.mask p) ?_
        unfold adv
        split <;> exact h
    have spec := go_spec t T.ris T.dm (fun i => (es[i]?.map (·.1)).getD 0) (thash P w k) (10 * SetTable.turns t.mask) (K - c) (nth t.mask pr c) (nodummy c pr (by rw [← hpr]; rfl)) (by omega)
      (fun q hq => by rw [shift, wy]; exact hKb _ (by omega)) (by rw [shift, wy, Nat.add_sub_cancel' hc]; exact hK)
    have hashAt : ∀ (i : Nat) p, L[i]? = some p → ((es[i]?.map (·.1)).getD 0) = thash P w p.2 := fun i p hp => by rw [rows_at rows hp]; rfl
    rw [setSearchFrom_succ]
    refine wpAny_bind (wpAny_setState_of ho hd fit ?_)
    dsimp only
    refine wp_if_neg (stands T) ?_
    try refine wpAny_bind (wpAny_pure ?_)
    have probe_is : ∀ r, SetTable.probe.go t (fun i => (es[i]?.map (·.1)).getD 0) (thash P w k) (10 * SetTable.turns t.mask) (nth t.mask pr c) = r →
        t.probe (fun i => (es[i]?.map (·.1)).getD 0) (thash P w k) (stand.getD (t.probeStart (thash P w k))) = r := fun r e => by rw [hst]; exact e
    rcases spec with ⟨q, i, hq, hi, hh, hno, pe⟩ | ⟨hno, pe⟩
    · rw [probe_is _ pe]
      dsimp only
      rw [shift, wy] at hi
      have hil : i < L.length := by
        have h1 : i < t.place.toList.length := (List.getElem?_eq_some_iff.mp hi).1
        rw [Array.length_toList, T.sz, List.length_map] at h1
        exact h1
      obtain ⟨p, hp⟩ : ∃ p, L[i]? = some p := ⟨_, List.getElem?_eq_getElem hil⟩
      have hm : p ∈ L := List.mem_of_getElem? hp
      have rest : wpAny (model P w) A (searchRest a (.ref x) (thash P w k) ad f es t (nth t.mask (nth t.mask pr c) q).j i (nth t.mask (nth t.mask pr c) (q + 1))) Q E s := by
        unfold searchRest
        rw [rows_at rows hp]
        dsimp only
        refine wpAny_bind (wpAny_holding (wpAny_eqBool_tuple hu (tup p hm) hx ?_))
        refine wpAny_bind (wpAny_setState_of ho hd fit ?_)
        dsimp only
        have slot : t.slot (nth t.mask (nth t.mask pr c) q).j = .live i := by
          rw [shift, wy]
          exact slot_live T.ris hi
        by_cases hkk : p.2 = k
        · have mem : k ∈ L.map (·.2) := List.mem_map.mpr ⟨p, hm, hkk⟩
          cases ad with
          | true =>
            refine wp_if_pos (by simp [hkk]) ?_
            exact wpAny_pure (hin mem none (fun z => nomatch z))
          | false =>
            refine wp_if_neg (by simp) ?_
            try refine wpAny_bind (wpAny_pure ?_)
            rw [sameMem]
            dsimp only
            simp only [if_true, slot, rows_at rows hp]
            refine wpAny_bind (wpAny_isSame_ref_self (wpAny_bind (wpAny_pure ?_)))
            simp only [if_true]
            refine wp_if_pos (by simp [hkk]) ?_
            exact wpAny_pure (hin mem (some i) (fun _ z => nomatch z))
        · refine wp_if_neg (by simp [hkk]) ?_
          try refine wpAny_bind (wpAny_pure ?_)
          rw [sameMem]
          dsimp only
          simp only [if_true, slot, rows_at rows hp]
          refine wpAny_bind (wpAny_isSame_ref_self (wpAny_bind (wpAny_pure ?_)))
          simp only [if_true]
          refine wp_if_neg (by simp [hkk]) ?_
          refine seek R tup ad hx hu hf0 hK hKb hin hout f (c + (q + 1)) _ (by rw [hpr]; exact shift (q + 1)) (by omega) (by omega) fun i0 p0 h0 hk0 => ?_
          obtain ⟨c', a1, a2, a3⟩ := hre i0 p0 h0 hk0
          refine ⟨c', ?_, a2, a3⟩
          have z1 : ¬ c' < c + q := fun y => by
            refine hno (c' - c) i0 (by omega) (by rw [shift, wy, Nat.add_sub_cancel' a1]; exact a3) ?_
            exact (hashAt i0 p0 h0).trans (congrArg (thash P w) hk0)
          have z2 : c' ≠ c + q := fun y => by
            have s1 := slot_live T.ris a3
            rw [y, slot_live T.ris hi] at s1
            cases s1
            rw [hp] at h0
            cases h0
            exact hkk hk0
          omega
      by_cases hl : t.led = true
      · refine wp_if_neg (by simp [hl]) ?_
        try refine wpAny_bind (wpAny_pure ?_)
        exact rest
      · refine wp_if_pos (by simp [hl]) ?_
        refine wpAny_bind (seen_tup hx (fun y hy => ?_) ?_)
        · obtain ⟨e, he, rfl⟩ := List.mem_map.mp hy
          have he2 : e ∈ es.toList := by
            have z : e ∈ es ∧ e.1 = thash P w k := by simpa using he
            simpa using z.1
          rw [rows] at he2
          obtain ⟨p2, hp2, rfl⟩ := List.mem_map.mp he2
          exact ⟨p2.2, p2.1, rfl, tup p2 hp2⟩
        · refine wp_if_neg (by decide) ?_
          try refine wpAny_bind (wpAny_pure ?_)
          exact rest
    · rw [probe_is _ pe]
      dsimp only
      rw [shift, wy, Nat.add_sub_cancel' hc]
      refine wpAny_pure (hout fun hm => ?_)
      obtain ⟨p0, h0, hk0⟩ := List.mem_map.mp hm
      obtain ⟨i0, hi0, e0⟩ := List.getElem_of_mem h0
      have h00 : L[i0]? = some p0 := by rw [List.getElem?_eq_getElem hi0, e0]
      obtain ⟨c', a1, a2, a3⟩ := hre i0 p0 h00 hk0
      refine hno (c' - c) i0 (by omega) (by rw [shift, wy, Nat.add_sub_cancel' a1]; exact a3) ?_
      exact (hashAt i0 p0 h00).trans (congrArg (thash P w) hk0)
theorem seek_all (R : SetW0 P w s.heap a L es ep t) (tup : ∀ p ∈ L, IsT P w s.heap p.2 p.1) (ad : Bool) {x : Addr} {k : List Int} (hx : IsT P w s.heap k x) (hu : A.units < cLine) {Q : SetFound → Shared → Prop}
    (hin : k ∈ L.map (·.2) → ∀ oi, (ad = false → oi ≠ none) → Q (.there oi) s)
    (hout : ∀ K, k ∉ L.map (·.2) → way t.mask (thash P w k) K ∉ t.place.toList → (∀ c, c < K → way t.mask (thash P w k) c ∈ t.place.toList) → Q (.free (way t.mask (thash P w k) K) false) s) :
    wpAny (model P w) A (setSearch a (.ref x) (thash P w k) ad) Q E s := by
  obtain ⟨_, rows, T, _, _, room, _⟩ := id R
  obtain ⟨K, a1, a2, a3⟩ := T.free (by rw [List.length_map]; omega) (thash P w k)
  have big : K < 100000 := by
    have z : 10 * SetTable.turns t.mask < 100000 := by
      unfold SetTable.turns
      rcases T.msk with e | e | e | e | e <;> omega
    omega
  unfold setSearch
  refine seek R tup ad hx hu a1 a2 a3 hin (fun z => hout K z a2 a3) 100000 0 none rfl (Nat.zero_le _) (by omega) fun i p hp hk => ?_
  have hil : i < t.place.toList.length := by
    rw [Array.length_toList, T.sz, List.length_map]
    exact (List.getElem?_eq_some_iff.mp hp).1
  obtain ⟨c, hc, e⟩ := T.ahead (h := thash P w k) a2 (by rw [List.getElem?_map, hp, ← hk]; rfl) (List.getElem?_eq_getElem hil)
  exact ⟨c, Nat.zero_le _, hc, by rw [e]; exact List.getElem?_eq_getElem hil⟩
end

/-! ### adding -/
section
variable {P : Program} {w : World} {A : Around} {E : Value → Shared → Prop} {s : Shared} {a : Addr} {L : List (Addr × List Int)} {es : Array (Int × Value)} {ep : Nat} {t : SetTable}
theorem size_w20 : SetTable.sizeAbove (SetTable.grown 5) = 32 := by decide +kernel
theorem size_w76 : SetTable.sizeAbove (SetTable.grown 19) = 128 := by decide +kernel
theorem size_w308 : SetTable.sizeAbove (SetTable.grown 77) = 512 := by decide +kernel
theorem size_w1228 : SetTable.sizeAbove (SetTable.grown 307) = 2048 := by decide +kernel
theorem relay_all {o : Obj} (ho : s.heap.get? a = some o) (hex : o.ExactSet) (hd : o.data = .set es ep t) (rows : es.toList = rowsOf P w L) (T : TabW t (L.map fun p => thash P w p.2)) (pl : t.plain = true)
    (ld : w.params.followText "set-order" = true ∨ t.led = true) (few : L.length ≤ 1200) (hlm : L.length ≤ t.mask) {wanted M : Nat} (hw : SetTable.sizeAbove wanted = M + 1) (hM : MaskW M) (hn : L.length * 5 < M * 3) {Q : Unit → Shared → Prop}
    (hQ : ∀ h' L' es' ep' t', Heap.SameBut a s.heap h' → SetW0 P w h' a L' es' ep' t' → L'.Perm L → Q () { s with heap := h' }) : wpAny (model P w) A (setRelay a wanted) Q E s := by
  have hsz := rows_size rows
  have bigM : M ≤ 2047 := by rcases hM with e | e | e | e | e <;> omega
  obtain ⟨t2, order, e, pm, T2, m2, l2, p2⟩ := relaid_all t (hs := es.map (·.1)) (wanted := wanted) (M := M) (by rw [hw]; rfl) hM (by rw [Array.size_map, hsz]; omega)
  rw [Array.size_map, hsz] at pm
  obtain ⟨L2, r1, r2, r3⟩ := order_rows L es order rows pm
  rw [← r3] at T2
  have hs2 : (order.filterMap (es[·]?)).size = es.size := by rw [rows_size r1, r2.length_eq, hsz]
  rw [setRelay_eq]
  refine wpAny_bind (wpAny_setState_of ho hd (fits_of T rows hlm) ?_)
  dsimp only
  refine wp_if_neg (by rw [hw, sizeLine_eq]; omega) ?_
  try refine wpAny_bind (wpAny_pure ?_)
  rw [e]
  dsimp only
  refine wpAny_bind ?_
  refine wp_if_neg (by rw [hs2]; simp) ?_
  try refine wpAny_bind (wpAny_pure ?_)
  refine wpAny_pure ?_
  dsimp only
  refine wpAny_storeSet_of ho hd ?_ (by rw [hs2, hsz, sizeLine_eq]; omega)
  refine hQ _ L2 (order.filterMap (es[·]?)) (ep + 1) t2 (Heap.SameBut.update ..) ⟨⟨_, store_at ho hd, ⟨hex.1, hex.2.1, hex.2.2⟩, rfl⟩, r1, T2, by rw [p2]; exact pl, by rw [l2]; exact ld, ?_, ?_⟩ r2
  · rw [r2.length_eq, m2]; exact hn
  · rw [r2.length_eq]; exact few
theorem add_all (R : SetW0 P w s.heap a L es ep t) (tup : ∀ p ∈ L, IsT P w s.heap p.2 p.1) {x : Addr} {k : List Int} (hx : IsT P w s.heap k x) (hu : A.units < cLine) (hfew : L.length < 1200) {Q : Bool → Shared → Prop}
    (hQ : ∀ b h' L' es' ep' t', Heap.SameBut a s.heap h' → SetW0 P w h' a L' es' ep' t' → (k ∈ L.map (·.2) → L' = L) → (k ∉ L.map (·.2) → L'.Perm ((x, k) :: L)) → Q b { s with heap := h' }) :
    wpAny (model P w) A (setAddHashed a (.ref x) (thash P w k)) Q E s := by
  obtain ⟨⟨o, ho, hex, hd⟩, rows, T, pl, ld, room, few⟩ := id R
  have fit : t.fits es.size = true := fits_of T rows (by omega)
  have hsl := rows_size rows
  unfold setAddHashed
  refine wpAny_holding ?_
  rw [show (100000 : Nat) = 99999 + 1 from rfl, setAddHashedIn_succ]
  refine wpAny_bind (wpAny_setState_of ho hd fit ?_)
  dsimp only
  refine wp_if_neg (by simp [byScan, Value.scannable]) ?_
  try refine wpAny_bind (wpAny_pure ?_)
  refine wpAny_bind (seek_all R tup true hx hu (fun hm oi _ => ?_) fun K hm hK hb => ?_)
  · dsimp only
    exact wpAny_pure (hQ false s.heap L es ep t (Heap.SameBut.refl a s.heap) R (fun _ => rfl) fun z => absurd hm z)
  · dsimp only
    refine wpAny_bind (wpAny_setState_of ho hd fit ?_)
    dsimp only
    obtain ⟨q1, q2, q3⟩ := T.put hK hb
    have b1 : (t.put (way t.mask (thash P w k) K)).1.plain = true := pl
    have b2 : (t.put (way t.mask (thash P w k) K)).1.mask = t.mask := rfl
    have b3 : (t.put (way t.mask (thash P w k) K)).1.led = t.led := rfl
    have b4 : (t.put (way t.mask (thash P w k) K)).2 = SetTable.below t.place (way t.mask (thash P w k) K) := rfl
    generalize hpt : t.put (way t.mask (thash P w k) K) = pt at q2 q3 b1 b2 b3 b4 ⊢
    obtain ⟨t1, p⟩ := pt
    dsimp only at q2 q3 b1 b2 b3 b4 ⊢
    rw [← b4] at q1 q3
    clear b4
    first
      | (refine wpAny_bind ?_; refine wp_if_pos b1 ?_; refine hashBy_tup hx ?_)
      | refine wp_if_pos b1 (wpAny_bind (hashBy_tup hx ?_))
    simp only [if_true]
    rw [List.length_map] at q1 q2
    have r1 : (SetTable.insertAt es p (thash P w k, Value.ref x)).toList = rowsOf P w (L.take p ++ (x, k) :: L.drop p) := by
      rw [SetTable.toList_insertAt, rows_put, rows]
    have pm := put_perm L p (x, k)
    have hl1 : (L.take p ++ (x, k) :: L.drop p).length = L.length + 1 := pm.length_eq
    have q4 : TabW t1 ((L.take p ++ (x, k) :: L.drop p).map fun p => thash P w p.2) := by
      rw [List.map_append, List.map_cons, List.map_take, List.map_drop]
      exact q3
    have s1 := rows_size r1
    rw [hl1] at s1
    generalize SetTable.insertAt es p (thash P w k, Value.ref x) = es1 at r1 s1 ⊢
    generalize L.take p ++ (x, k) :: L.drop p = L1 at r1 pm hl1 q4
    refine wpAny_bind (wpAny_storeSet_of ho hd ?_ (by rw [s1, sizeLine_eq]; omega))
    have sb : Heap.SameBut a s.heap (s.heap.update a (Obj.putSet es1 t1)) := Heap.SameBut.update ..
    have ho1 := store_at (es' := es1) (t' := t1) ho hd
    generalize s.heap.update a (Obj.putSet es1 t1) = h1 at sb ho1 ⊢
    have ex1 : ({ o with data := .set es1 (ep + 1) t1 } : Obj).ExactSet := ⟨hex.1, hex.2.1, hex.2.2⟩
    have ld1 : w.params.followText "set-order" = true ∨ t1.led = true := by rw [b3]; exact ld
    by_cases hf : t1.tooFull = true
    · first
        | (refine wpAny_bind ?_; refine wp_if_pos (by simp [hf]) ?_)
        | (refine wp_if_pos (by simp [hf]) ?_; refine wpAny_bind ?_)
      have full : (L.length + 1) * 5 ≥ t.mask * 3 := by
        have z := hf
        unfold SetTable.tooFull at z
        rw [decide_eq_true_eq, q2, b2] at z
        exact z
      rw [hsl]
      have go : ∀ M, SetTable.sizeAbove (SetTable.grown (L.length + 1)) = M + 1 → MaskW M → (L.length + 1) * 5 < M * 3 →
          wpAny (model P w) A (setRelay a (SetTable.grown (L.length + 1))) (fun _ s' => wpAny (model P w) A (pure true) Q E s') E { s with heap := h1 } := fun M e1 e2 e3 => by
        refine relay_all (s := { s with heap := h1 }) ho1 ex1 rfl r1 q4 b1 ld1 (by rw [hl1]; exact hfew) (by rw [hl1, b2]; omega) e1 e2 (by rw [hl1]; exact e3) fun h2 L2 es2 ep2 t2 sb2 R2 pm2 => ?_
        exact wpAny_pure (hQ true h2 L2 es2 ep2 t2 (sb.trans sb2) R2 (fun z => absurd z hm) fun _ => pm2.trans pm)
      rcases T.msk with e | e | e | e | e
      · have e2 : L.length + 1 = 5 := by omega
        exact go 31 (by rw [e2, size_w20]) (.inr (.inl rfl)) (by omega)
      · have e2 : L.length + 1 = 19 := by omega
        exact go 127 (by rw [e2, size_w76]) (.inr (.inr (.inl rfl))) (by omega)
      · have e2 : L.length + 1 = 77 := by omega
        exact go 511 (by rw [e2, size_w308]) (.inr (.inr (.inr (.inl rfl)))) (by omega)
      · have e2 : L.length + 1 = 307 := by omega
        exact go 2047 (by rw [e2, size_w1228]) (.inr (.inr (.inr (.inr rfl)))) (by omega)
      · exfalso
        omega
    · first
        | refine wp_if_neg (by simp [hf]) ?_
        | (refine wpAny_bind ?_; refine wp_if_neg (by simp [hf]) ?_; refine wpAny_pure ?_)
      refine wpAny_pure (hQ true h1 L1 es1 (ep + 1) t1 sb ⟨⟨_, ho1, ex1, rfl⟩, r1, q4, b1, ld1, ?_, by rw [hl1]; exact hfew⟩ (fun z => absurd z hm) fun _ => pm)
      have z := hf
      unfold SetTable.tooFull at z
      rw [decide_eq_true_eq, q2, b2] at z
      rw [hl1, b2]
      omega
end
end Vf

/-! Sets of tuples of ints over the layer: set(), add, in, not in. -/
namespace Vf
open PySem PySem.Spec PyProof.Rows L2
def SetWO (P : Program) (w : World) (a : Addr) (L : List (Addr × List Int)) : HO := .ext fun h => ∃ es ep t, SetW0 P w h a L es ep t
theorem setW_at {P : Program} {w : World} {h h' : Heap} {a : Addr} {L : List (Addr × List Int)} (R : ∃ es ep t, SetW0 P w h a L es ep t) (k : ∀ o, h.get? a = some o → h'.get? a = some o) : ∃ es ep t, SetW0 P w h' a L es ep t := by
  obtain ⟨es, ep, t, ⟨o, ho, r⟩, z⟩ := R
  exact ⟨es, ep, t, ⟨o, k o ho, r⟩, z⟩
theorem setWO_new {w : World} {P : Program} {H : Hp} {h : Heap} {a : Addr} {L : List (Addr × List Int)} (R : ∃ es ep t, SetW0 P w h a L es ep t) : ObjOk P w H h a (SetWO P w a L) := by
  refine ⟨R, ?_, fun h1 h2 p k => setW_at p k⟩
  obtain ⟨es, ep, t, ⟨o, ho, r⟩, z⟩ := R
  exact ⟨o, ho⟩
section
variable {X : Cx}
theorem setWO_get {pins : List (Addr × Obj)} {σ : L2.St} {H : Hp} {s : Shared} {a : Addr} {L : List (Addr × List Int)} (I : Inv X pins σ H s) (ha : H a = some (SetWO X.prog X.w a L)) : ∃ es ep t, SetW0 X.prog X.w s.heap a L es ep t := (I.hok a _ ha).1
/-- set() -/
def rSet0W (P : Program) (w : World) : List V → Hp → VK → Prop := fun xs H Q => xs = [] ∧ ∀ p, H p = none → Q (.ref p) (upd H p (SetWO P w p []))
theorem cr_set0W : CallR X (.type "set") (rSet0W X.prog X.w) := by
  intro pins s σ H xs us Q I r h
  obtain ⟨rfl, q⟩ := h
  cases r
  refine setR_new fun new => ?_
  refine ⟨.ref s.heap.objs.size, upd H s.heap.objs.size (SetWO X.prog X.w s.heap.objs.size []), I.laid (t' := s.toks) (fun b u e => Heap.get?_push_of_some _ e) (Nat.le_refl _) (setWO_new ?_), rfl, q _ (I.hok.fresh (Nat.le_refl _))⟩
  refine ⟨#[], 0, .fresh 0 0 (!X.w.params.followText "set-order"), ⟨_, Heap.get?_push_size _ rfl, ⟨rfl, rfl, rfl⟩, rfl⟩, rfl, ⟨List.Pairwise.nil, rfl, rfl, .inl rfl, (fun x hx => by cases hx), (fun i h j h1 _ => by simp at h1)⟩, rfl, ?_, (by show 0 * 5 < 7 * 3; decide), (by show 0 ≤ 1200; decide)⟩
  cases X.w.params.followText "set-order"
  · exact .inr rfl
  · exact .inl rfl
/-- found.add(t) -/
def rSAddW (K : PySem.W.Frag) (P : Program) (w : World) : V → List V → Hp → VK → Prop := fun x xs H Q => ∃ (a b : Addr) (k : List Int) (L : List (Addr × List Int)), x = V.ref a ∧ xs = [V.ref b] ∧
  H a = some (SetWO P w a L) ∧ SqT K H b (k.map V.int) ∧ (∀ p ∈ L, SqT K H p.1 (p.2.map V.int)) ∧ L.length < 1200 ∧
  ∀ L', (k ∈ L.map (·.2) → L' = L) → (k ∉ L.map (·.2) → L'.Perm ((b, k) :: L)) → Q .non (upd H a (SetWO P w a L'))
theorem mt_saddW (hu : X.A.units + 10 < cLine) : MtR X "set.add" (rSAddW X.K X.prog X.w) := by
  intro pins s σ H x xs v us Q I rx rxs h
  obtain ⟨a, b, k, L, rfl, rfl, ha, hb, hL, few, q⟩ := h
  cases rx
  cases rxs with
  | cons ry rt =>
    cases rt
    cases (show _ = Value.ref b from ry)
    obtain ⟨es, ep, t, R⟩ := setWO_get I ha
    obtain ⟨⟨o, ho, hex, hd⟩, _⟩ := id R
    have ty : s.TypeIs (.ref a) "set" := ⟨o, ho, hex.1⟩
    refine wpAny_call_entry F.slot_set_add ty F.entry_set_add ?_ (F.args_set_add_2 _ _)
    unfold Builtin.«set.add» Builtin.Frozenset.oneOther
    simp only [List.isEmpty_nil, bind_assoc]
    unfold Builtin.Frozenset.addrOf setAdd
    refine wpAny_bind (wpAny_pure ?_)
    try dsimp only
    refine wpAny_bind (wpAny_pure ?_)
    try dsimp only
    refine wpAny_bind ?_
    refine wpAny_holding ?_
    refine wpAny_bind (wpAny_pyHash_tuple (by show X.A.units + 1 < cLine; omega) (I.isT hb) ?_)
    refine add_all (s := { s with toks := s.toks + (k.length + 1) }) R (fun p hp => I.isT (hL p hp)) (I.isT hb) (by show X.A.units + 1 < cLine; omega) few fun bb h' L' es' ep' t' sb R' z1 z2 => ?_
    show wpAny _ _ (ret Value.none) _ _ _
    refine wpAny_pure ⟨_, rfl, ?_⟩
    have he : ∃ u, h'.get? a = some u := by
      obtain ⟨⟨o', ho', _⟩, _⟩ := R'
      exact ⟨o', ho'⟩
    exact ⟨.non, _, I.write (e := a) (t' := s.toks + (k.length + 1)) (by rw [ha]; trivial) (.inl rfl) (fun c u hc hu => (sb.2 c hc).trans hu) he (setWO_new ⟨es', ep', t', R'⟩), rfl, q L' z1 z2⟩
def tSAddW (K : PySem.W.Frag) (P : Program) (w : World) (to : TE) (t : TA) : TE := fun σ H Q => to σ H fun x H1 => (∃ a L, x = V.ref a ∧ H1 a = some (SetWO P w a L)) ∧ t σ H1 fun xs H2 => rSAddW K P w x xs H2 Q
variable {o e : Expr} {es : List Expr} {to : TE} {t : TA} {apos cpos : Pos}
theorem pe_saddW (hu : X.A.units + 10 < cLine) (ho : PE X o to) (ha : PA X (e :: es) t)
    (hbase : attributeBase o "add" X.env (eval o X.env) = eval o X.env := by rfl)
    (hfew : ((backTo cpos (starEach (e :: es) X.env)).all (fun x => !x.1) && (backToKw cpos (keywordEach [] X.env)).all (fun x => x.1.isSome)
      && decide ((e :: es).length + ([] : List Keyword).length + (if ([] : List Keyword).isEmpty then 0 else 1) < 30)) = true := by rfl)
    (hline : (apos.endLine == cpos.line) = true := by rfl) (hs : starEach (e :: es) X.env = (false, eval e X.env) :: starEach es X.env := by rfl)
    (hplain : (backTo cpos (starEach es X.env)).any (·.1) = false := by rfl) :
    PE X (.Call (.Attribute o "add" apos) (e :: es) [] cpos) (tSAddW X.K X.prog X.w to t) := by
  refine ⟨fun pins s σ H Q I h => wpAny_Call_method_late hbase hfew hline rfl (thn (ho.run pins s σ H _ I h) fun v s1 ⟨x, H1, I1, r1, ty, q1⟩ => ?_)⟩
  obtain ⟨a, L, rfl, hka⟩ := ty
  obtain ⟨es', ep, tb, R⟩ := setWO_get I1 hka
  obtain ⟨⟨oo, hoo, hex, hd⟩, _⟩ := id R
  cases r1
  refine ⟨"set", "set.add", F.plainAttrs_set, F.slot_set_add, F.type_set_add, ⟨oo, hoo, hex.1⟩, ?_, ?_⟩
  · intro c e
    injection e with e
    subst e
    exact ⟨oo, hoo, hex.2.1⟩
  have hA := ha.run cpos pins s1 σ H1 _ I1 q1
  rw [hs] at hA ⊢
  refine Calls.callWith_builtin (by
    show (false || (backTo cpos (starEach es X.env)).any (·.1)) = false
    rw [hplain]
    rfl) (Calls.evalArgs_plain (thn hA ?_))
  exact fun us s2 ⟨vs, H2, I2, r2, q2⟩ => mt_saddW hu pins s2 σ H2 (.ref a) vs (.ref a) us Q I2 rfl r2 q2
/-- t in found -/
def rInW (K : PySem.W.Frag) (P : Program) (w : World) : R2 := fun x y H Q => ∃ (a b : Addr) (k : List Int) (L : List (Addr × List Int)), x = V.ref b ∧ y = V.ref a ∧
  H a = some (SetWO P w a L) ∧ SqT K H b (k.map V.int) ∧ (∀ p ∈ L, SqT K H p.1 (p.2.map V.int)) ∧ Q (.bl (decide (k ∈ L.map (·.2)))) H
theorem op_inW (hu : X.A.units + 10 < cLine) : OpR X (compareOp .In) (rInW X.K X.prog X.w) := by
  intro pins s σ H x y v u Q I rx ry h
  obtain ⟨a, b, k, L, rfl, rfl, ha, hb, hL, q⟩ := h
  cases rx
  cases ry
  obtain ⟨es, ep, t, R⟩ := setWO_get I ha
  obtain ⟨⟨o, ho, hex, hd⟩, rows, T, pl, ld, room, few⟩ := id R
  have ty : s.TypeIs (.ref a) "set" := ⟨o, ho, hex.1⟩
  show wpAny _ _ (do return Value.bool (← contains (.ref a) (.ref b))) _ _ s
  refine wpAny_bind ?_
  unfold contains
  try with_reducible refine wpAny_holding ?_
  refine wpAny_bind (wpAny_specialOf ty F.slot_set_contains.lookup ?_)
  show wpAny _ _ (if (some (Value.builtin "set.__contains__") == some Value.none) = true then _ else _) _ _ s
  rw [if_neg (by rw [beq_builtin_none]; exact Bool.false_ne_true)]
  refine wpAny_bind (wpAny_callSpecialUnlessNone?_slot (name := Str.ofString "__contains__") ty F.slot_set_contains
    (wpAny_call_entry F.slot_set_contains ty entry_set_contains ?_ (F.args_set_contains_2 _ _)))
  unfold Builtin.«frozenset.__contains__» Builtin.Frozenset.oneOther
  simp only [List.isEmpty_nil, bind_assoc]
  unfold Builtin.Frozenset.addrOf Builtin.Frozenset.withSetAsKey setContains
  refine wpAny_bind (wpAny_pure ?_)
  try dsimp only
  refine wpAny_bind (wpAny_pure ?_)
  try dsimp only
  refine wpAny_bind (wpAny_tryCatch ?_)
  refine wpAny_holding ?_
  refine wpAny_bind (wpAny_pyHash_tuple (by show X.A.units + 1 < cLine; omega) (I.isT hb) ?_)
  have tup : ∀ p ∈ L, IsT X.prog X.w s.heap p.2 p.1 := fun p hp => I.isT (hL p hp)
  have hx : IsT X.prog X.w s.heap k b := I.isT hb
  have fit : ∀ n : Nat, t.fits es.size = true := fun _ => fits_of T rows (by omega)
  refine wpAny_bind ?_
  unfold setFind
  rw [show (100000 : Nat) = 99999 + 1 from rfl]
  unfold setFindIn
  refine wpAny_bind (wpAny_setState_of (s := { s with toks := s.toks + (k.length + 1) }) ho hd (fit 0) ?_)
  dsimp only
  refine wp_if_neg (by simp [byScan, Value.scannable]) ?_
  have fin : ∀ oi : Option Nat, oi.isSome = decide (k ∈ L.map (·.2)) → ∃ v, Fin.done (Flow.ret (Value.bool oi.isSome)) = Fin.done (Flow.ret v) ∧
      wpAny (model X.prog X.w) X.A (truthy v) (fun c s' => wpAny (model X.prog X.w) X.A (pure (Value.bool c)) (EP X pins σ Q) X.xe s') X.xe { s with toks := s.toks + (k.length + 1) } := fun oi e =>
    ⟨_, rfl, wpAny_truthy_bool (wpAny_pure ⟨.bl _, H, I.tok _, rfl, by rw [e]; exact q⟩)⟩
  refine wpAny_bind (seek_all (s := { s with toks := s.toks + (k.length + 1) }) R tup false hx (by show X.A.units + 1 < cLine; omega) (fun hm oi hoi => ?_) fun K hm _ _ => ?_)
  · dsimp only
    refine wpAny_pure (wpAny_pure ?_)
    show wpAny _ _ (ret (Value.bool oi.isSome)) _ _ _
    refine wpAny_pure (fin oi ?_)
    have ne := hoi rfl
    cases oi with
    | none => exact absurd rfl ne
    | some z => exact (decide_eq_true hm).symm
  · dsimp only
    refine wpAny_pure (wpAny_pure ?_)
    show wpAny _ _ (ret (Value.bool (none : Option Nat).isSome)) _ _ _
    exact wpAny_pure (fin none (decide_eq_false hm).symm)
end
end Vf

/-! Loops and small readings. -/
namespace Vf
open PySem PySem.Spec PyProof.Rows L2 Evl
theorem hu10 {A : Around} {k : Nat} (hr : Room k A) : A.units + 10 < cLine := Nat.lt_of_le_of_lt (Nat.add_le_add_left (by decide : 10 ≤ 64) _) hr.units
/-- for i, x in enumerate(xs) -/
theorem for_enumL {K : PySem.W.Frag} {a : Addr} {xs : List V} {g : TG} {tb : TS} {D : Ends} {σ : L2.St} {H : Hp} (Pv : Nat → L2.St → Hp → Prop) (h0 : Pv 0 σ H) (hl : ∀ i σ H, Pv i σ H → SqL K H a xs)
    (hs : ∀ (i : Nat) (x : V) (T : Addr) (σ : L2.St) (H : Hp), xs[i]? = some x → Pv i σ H → H T = none → g (.ref T) σ (upd H T (.tup [.int (i : Nat), x])) fun σ2 H2 => tb { D with nx := Pv (i + 1), ct := Pv (i + 1), bk := D.nx } σ2 H2)
    (hd : ∀ σ H, Pv xs.length σ H → D.nx σ H) :
    ∃ W : Nat → Nat → L2.St → Hp → Prop, (∃ m, W 0 m σ H) ∧ ∀ i m σ H, W i m σ H →
      ((Ite K a).stop i H ∧ D.nx σ H) ∨ ((Ite K a).go i H ∧ ∃ N : L2.St → Hp → Prop, (∀ σ' H', N σ' H' → ∃ m', m' < m ∧ W (i + 1) m' σ' H') ∧
        ∀ v H', (Ite K a).yld i H v H' → g v σ H' fun σ2 H2 => tb { D with nx := N, ct := N, bk := D.nx } σ2 H2) := by
  refine ⟨fun i m σ H => i + m = xs.length ∧ Pv i σ H, ⟨xs.length, Nat.zero_add _, h0⟩, ?_⟩
  rintro i m σ H ⟨him, p⟩
  have q := hl i σ H p
  rcases Nat.lt_or_ge i xs.length with hi | hi
  · refine .inr ⟨⟨xs, xs[i], q, List.getElem?_eq_getElem hi⟩, Pv (i + 1), fun σ' H' p' => ⟨m - 1, by omega, by omega, p'⟩, fun v H' y => ?_⟩
    obtain ⟨T, x, rfl, nT, rfl, f⟩ := y
    exact hs i x T σ H (f xs q) p nT
  · refine .inl ⟨⟨xs, q, hi⟩, hd σ H ?_⟩
    have e : i = xs.length := by omega
    rwa [← e]
theorem Ex.set {H H' : Hp} {p : Addr} {o : HO} (e : Ex H H') (h : H p = none) : Ex H (upd H' p o) := Ex.mut e h
theorem take_snoc {α : Type} {l : List α} {i : Nat} {x : α} (h : l[i]? = some x) : l.take (i + 1) = l.take i ++ [x] := by
  rw [List.take_add_one, h]
  rfl
theorem map_at {α : Type} {ns : List α} {f : α → V} {i : Nat} {x : V} (h : (ns.map f)[i]? = some x) : ∃ n, ns[i]? = some n ∧ x = f n := by
  rw [List.getElem?_map, Option.map_eq_some_iff] at h
  obtain ⟨n, h1, h2⟩ := h
  exact ⟨n, h1, h2.symm⟩
theorem nodup_at {α : Type} {l : List α} (nd : l.Nodup) {i : Nat} {x : α} (h : l[i]? = some x) : x ∉ l.take i := by
  intro hm
  obtain ⟨j, hj, e⟩ := List.getElem_of_mem hm
  obtain ⟨hi, e2⟩ := List.getElem?_eq_some_iff.mp h
  have hj2 : j < i := by
    rw [List.length_take] at hj
    omega
  rw [List.getElem_take] at e
  exact absurd ((List.getElem_inj nd).mp (e.trans e2.symm)) (Nat.ne_of_lt hj2)
/-- a tuple stays while another object changes -/
theorem sqT_upd {K : PySem.W.Frag} {H : Hp} {a p : Addr} {xs : List V} {o o' : HO} (h : SqT K H a xs) (hp : H p = some o) (no : ∀ ys, o ≠ .tup ys) (nf : ∀ ob u, o ≠ .frz ob u) : SqT K (upd H p o') a xs := by
  rcases h with (h | ⟨ob, h⟩) | h
  · have ne : a ≠ p := fun e => by
      rw [e, hp] at h
      exact no _ (Option.some.inj h)
    exact .inl (.inl (by rw [upd_ne ne]; exact h))
  · have ne : a ≠ p := fun e => by
      rw [e, hp] at h
      exact nf _ _ (Option.some.inj h)
    exact .inl (.inr ⟨ob, by rw [upd_ne ne]; exact h⟩)
  · exact .inr h
/-- a list stays while another object, that is no list, changes; or a new one -/
theorem sqL_upd {K : PySem.W.Frag} {H : Hp} {a p : Addr} {xs : List V} {o o' : HO} (h : SqL K H a xs) (hp : H p = some o) (no : ∀ ys, o ≠ .lst ys) (nf : ∀ ob u, o ≠ .frz ob u) : SqL K (upd H p o') a xs := by
  rcases h with (h | ⟨ob, h⟩) | h
  · have ne : a ≠ p := fun e => by
      rw [e, hp] at h
      exact no _ (Option.some.inj h)
    exact .inl (.inl (by rw [upd_ne ne]; exact h))
  · have ne : a ≠ p := fun e => by
      rw [e, hp] at h
      exact nf _ _ (Option.some.inj h)
    exact .inl (.inr ⟨ob, by rw [upd_ne ne]; exact h⟩)
  · exact .inr h
end Vf

/-! Comprehensions over ranges; a new list of new lists. -/
namespace Vf
open PySem PySem.Spec PyProof.Rows L2 Evl
section
variable {K : PySem.W.Frag} {σ : L2.St} {H H' : Hp} {ta : TA} {te : TE} {t : TT}
theorem el_lcR2 {j : Nat} {vs : List Nat} {lo n : Int} (f : Nat → Bool) (v : Nat → V) (h : EvA ta σ H [.int lo, .int n]) (hn : -40000 ≤ lo ∧ lo ≤ 40000 ∧ -40000 ≤ n ∧ n - lo ≤ 40000)
    (hw : ∀ x, wipe ((wipe σ vs).set j (some x)) vs = wipe σ vs) (ht : ∀ (i : Nat) H1, Ex H H1 → lo + (i : Int) < n → EvT t ((wipe σ vs).set j (some (.int (lo + (i : Int))))) H1 (f i))
    (he : ∀ (i : Nat) H1, Ex H H1 → lo + (i : Int) < n → f i = true → Ev te ((wipe σ vs).set j (some (.int (lo + (i : Int))))) H1 (v i)) :
    EvL (tLc (iRng2 ta) (gName j) t te vs) σ H (given (n - lo).toNat f v) := by
  intro H0 e Q q
  refine h H0 e _ fun H1 e1 => ⟨lo, n, rfl, by omega, fun Dl hD => ?_⟩
  refine lc_range (lo := lo) (n := (n - lo).toNat) (Cw H1 f v Dl) ⟨hD, Ex.new hD, upd_same⟩ (fun i H' hi p => ⟨hw _, ?_⟩) fun H' p => q Dl H' (fresh_back e1 p.1) (e1.trans p.2.1) p.2.2
  exact cw_turn p (by omega) (ht i H1 (e.trans e1) (by omega)) fun hf => he i H1 (e.trans e1) (by omega) hf

/-- a new list of new lists, seen from H -/
def LLAt (H H2 : Hp) (D : Addr) (ls : List (List V)) : Prop :=
  ∃ ps : List Addr, H2 D = some (.lst (ps.map V.ref)) ∧ ps.length = ls.length ∧ D ∉ ps ∧ ∀ (i : Nat) (p : Addr) (l : List V), ps[i]? = some p → ls[i]? = some l → H p = none ∧ H2 p = some (.lst l)
def EvLL (te : TE) (σ : L2.St) (H : Hp) (ls : List (List V)) : Prop := ∀ H1, Ex H H1 → ∀ Q : VK, (∀ D H2, H1 D = none → Ex H1 H2 → LLAt H1 H2 D ls → Q (.ref D) H2) → te σ H1 Q
def RetLL (ls : List (List V)) (H : Hp) (Q : VK) : Prop := ∀ D H2, H D = none → Ex H H2 → LLAt H H2 D ls → Q (.ref D) H2
theorem LLAt.back {H H1 H2 : Hp} {D : Addr} {ls : List (List V)} (e : Ex H H1) (h : LLAt H1 H2 D ls) : LLAt H H2 D ls := by
  obtain ⟨ps, a, b, c, d⟩ := h
  exact ⟨ps, a, b, c, fun i p l x y => ⟨fresh_back e (d i p l x y).1, (d i p l x y).2⟩⟩
theorem LLAt.on {H H2 H3 : Hp} {D : Addr} {ls : List (List V)} (h : LLAt H H2 D ls) (e : Ex H2 H3) : LLAt H H3 D ls := by
  obtain ⟨ps, a, b, c, d⟩ := h
  exact ⟨ps, e _ _ a, b, c, fun i p l x y => ⟨(d i p l x y).1, e _ _ (d i p l x y).2⟩⟩
theorem RetLL.go {ls : List (List V)} {Q : VK} (k : RetLL ls H Q) (e : Ex H H') {D : Addr} {H2 : Hp} (hD : H' D = none) (e2 : Ex H' H2) (h : LLAt H' H2 D ls) : Q (.ref D) H2 :=
  k D H2 (fresh_back e hD) (e.trans e2) (h.back e)
/-- the rows so far -/
def Rw (H : Hp) (f : Nat → Bool) (L : Nat → List V) (Dl : Addr) (i : Nat) (H' : Hp) : Prop := H Dl = none ∧ Ex H H' ∧ LLAt H H' Dl (((List.range i).filter f).map L)
theorem rw_turn {H H' : Hp} {f : Nat → Bool} {L : Nat → List V} {Dl : Addr} {i : Nat} {σ2 : L2.St} (p : Rw H f L Dl i H') (hi : i < 50000) (ht : EvT t σ2 H (f i)) (he : f i = true → EvL te σ2 H (L i)) :
    t σ2 H' fun b H3 => if b = true then te σ2 H3 fun y H4 => ∃ acc, H4 Dl = some (.lst acc) ∧ acc.length < sizeLine ∧ Rw H f L Dl (i + 1) (upd H4 Dl (.lst (acc ++ [y]))) else Rw H f L Dl (i + 1) H3 := by
  obtain ⟨p1, p2, p3⟩ := p
  refine ht H' p2 _ fun H3 e3 => ?_
  cases hf : f i with
  | true =>
    show te σ2 H3 fun y H4 => ∃ acc, H4 Dl = some (.lst acc) ∧ acc.length < sizeLine ∧ Rw H f L Dl (i + 1) (upd H4 Dl (.lst (acc ++ [y])))
    refine he hf H3 (p2.trans e3) _ fun q H4 nq e4 hq => ?_
    obtain ⟨ps, a, b, c, d⟩ := (p3.on e3).on e4
    have len : ps.length ≤ i := by
      rw [b, List.length_map]
      have z := List.length_filter_le f (List.range i)
      rwa [List.length_range] at z
    have neD : q ≠ Dl := fun z => by
      have a3 := (p3.on e3)
      obtain ⟨_, a3, _⟩ := a3
      rw [← z, nq] at a3
      cases a3
    refine ⟨ps.map V.ref, a, sz_lt (by rw [List.length_map]; omega), p1, Ex.mut ((p2.trans e3).trans e4) p1, ps ++ [q], ?_, ?_, ?_, ?_⟩
    · rw [upd_same, List.map_append]
      rfl
    · rw [List.range_succ, List.filter_append, List.filter_cons, if_pos (by rw [hf])]
      simp [b]
    · intro z
      rcases List.mem_append.mp z with z | z
      · exact c z
      · exact neD (List.mem_singleton.mp z).symm
    · intro k pp l hk hl
      rw [List.range_succ, List.filter_append, List.filter_cons, if_pos (by rw [hf])] at hl
      simp only [List.filter_nil, List.map_append, List.map_cons, List.map_nil] at hl
      by_cases hk2 : k < ps.length
      · rw [List.getElem?_append_left hk2] at hk
        rw [List.getElem?_append_left (by rw [← b]; exact hk2)] at hl
        obtain ⟨d1, d2⟩ := d k pp l hk hl
        exact ⟨d1, by rw [upd_ne (show pp ≠ Dl from fun z => c (by rw [← z]; exact List.mem_of_getElem? hk))]; exact d2⟩
      · have ek : k = ps.length := by
          have z := (List.getElem?_eq_some_iff.mp hk).1
          rw [List.length_append, List.length_singleton] at z
          omega
        rw [ek, List.getElem?_append_right (Nat.le_refl _), Nat.sub_self] at hk
        rw [ek, b, List.getElem?_append_right (Nat.le_refl _), Nat.sub_self] at hl
        cases hk
        cases hl
        exact ⟨fresh_back (p2.trans e3) nq, by rw [upd_ne neD]; exact hq⟩
  | false =>
    show Rw H f L Dl (i + 1) H3
    refine ⟨p1, p2.trans e3, ?_⟩
    rw [List.range_succ, List.filter_append, List.filter_cons, if_neg (by rw [hf]; decide)]
    simpa using p3.on e3
theorem ell_lcR2 {j : Nat} {vs : List Nat} {lo n : Int} (f : Nat → Bool) (L : Nat → List V) (h : EvA ta σ H [.int lo, .int n]) (hn : -40000 ≤ lo ∧ lo ≤ 40000 ∧ -40000 ≤ n ∧ n - lo ≤ 40000)
    (hw : ∀ x, wipe ((wipe σ vs).set j (some x)) vs = wipe σ vs) (ht : ∀ (i : Nat) H1, Ex H H1 → lo + (i : Int) < n → EvT t ((wipe σ vs).set j (some (.int (lo + (i : Int))))) H1 (f i))
    (he : ∀ (i : Nat) H1, Ex H H1 → lo + (i : Int) < n → f i = true → EvL te ((wipe σ vs).set j (some (.int (lo + (i : Int))))) H1 (L i)) :
    EvLL (tLc (iRng2 ta) (gName j) t te vs) σ H (((List.range (n - lo).toNat).filter f).map L) := by
  intro H0 e Q q
  refine h H0 e _ fun H1 e1 => ⟨lo, n, rfl, by omega, fun Dl hD => ?_⟩
  refine lc_range (lo := lo) (n := (n - lo).toNat) (Rw H1 f L Dl) ⟨hD, Ex.new hD, [], upd_same, rfl, (by simp), (fun i p l x => by simp at x)⟩ (fun i H' hi p => ⟨hw _, ?_⟩)
    fun H' p => q Dl H' (fresh_back e1 p.1) (e1.trans p.2.1) (p.2.2.back e1)
  exact rw_turn p (by omega) (ht i H1 (e.trans e1) (by omega)) fun hf => he i H1 (e.trans e1) (by omega) hf
/-- over a list -/
theorem ell_lcL {a : Addr} {xs : List V} {tl : TE} {j : Nat} {vs : List Nat} (f : Nat → Bool) (L : Nat → List V) (h : Ev tl σ H (.ref a)) (hx : SqL K H a xs) (hz : xs.length ≤ 40000) (hw : ∀ x, wipe ((wipe σ vs).set j (some x)) vs = wipe σ vs)
    (ht : ∀ (i : Nat) (x : V) H1, Ex H H1 → xs[i]? = some x → EvT t ((wipe σ vs).set j (some x)) H1 (f i)) (he : ∀ (i : Nat) (x : V) H1, Ex H H1 → xs[i]? = some x → f i = true → EvL te ((wipe σ vs).set j (some x)) H1 (L i)) :
    EvLL (tLc (iList K tl) (gName j) t te vs) σ H (((List.range xs.length).filter f).map L) := by
  intro H0 e Q q
  refine h H0 e _ fun H1 e1 => ⟨a, rfl, ⟨xs, ex_l (e.trans e1) hx⟩, fun Dl hD => ?_⟩
  refine lc_list (xs := xs) (Rw H1 f L Dl) ⟨hD, Ex.new hD, [], upd_same, rfl, (by simp), (fun i p l x => by simp at x)⟩ (fun i H' _ p => ex_l ((e.trans e1).trans p.2.1) hx) (fun i x H' hi p => ⟨hw x, ?_⟩)
    fun H' p => q Dl H' (fresh_back e1 p.1) (e1.trans p.2.1) (p.2.2.back e1)
  have hlt := (List.getElem?_eq_some_iff.mp hi).1
  exact rw_turn p (by omega) (ht i x H1 (e.trans e1) hi) fun hf => he i x H1 (e.trans e1) hi hf
theorem et_yes : EvT tYes σ H true := fun H1 _ _ q => q H1 (Ex.refl H1)
theorem atI_int {l : List Int} {i : Int} (h0 : 0 ≤ i) (h1 : i < l.length) : atI (l.map V.int) i = some (.int (l.getD i.toNat 0)) := by
  obtain ⟨k, rfl⟩ : ∃ k : Nat, i = (k : Int) := ⟨i.toNat, by omega⟩
  have hk : k < l.length := by omega
  refine atI_nat ?_
  rw [List.getElem?_map, List.getElem?_eq_getElem hk, List.getD_eq_getElem?_getD, show ((k : Int)).toNat = k from rfl, List.getElem?_eq_getElem hk]
  rfl
/-- a built-in's call upon a new list -/
theorem ev_cbL {r : List V → Hp → VK → Prop} {xs : List V} {z : V} (h : EvL te σ H xs) (hr : ∀ p H1, Ex H H1 → H1 p = some (.lst xs) → RC r [.ref p] H1 z) : Ev (tCB r (tCons te tNil)) σ H z :=
  fun H1 e Q q => h H1 e _ fun p H2 _ e2 hp => hr p H2 (e.trans e2) hp H2 (Ex.refl H2) Q fun H3 e3 => q H3 (e2.trans e3)
theorem dec_vi (a b : Int) : decide (V.int a = V.int b) = decide (a = b) := by
  by_cases c : a = b
  · rw [decide_eq_true c, decide_eq_true (congrArg V.int c)]
  · rw [decide_eq_false c, decide_eq_false fun z => c (V.int.inj z)]
theorem given_ints (n : Nat) (f : Nat → Bool) (g : Nat → Int) : given n f (fun i => V.int (g i)) = (((List.range n).filter f).map g).map V.int := by
  unfold given
  rw [List.map_map]
  rfl
/-- [y for x in xs for y in x], the rows lists that stand -/
theorem el_flat {a : Addr} {as : List Addr} {rows : List (List V)} {tl : TE} {j j2 : Nat} {vs vs1 : List Nat} (h : Ev tl σ H (.ref a)) (hx : SqL K H a (as.map V.ref)) (hl : as.length = rows.length)
    (hr : ∀ (i : Nat) (b : Addr) (r : List V), as[i]? = some b → rows[i]? = some r → SqL K H b r) (hz : rows.flatten.length ≤ 40000) (hw : ∀ x, wipe ((wipe σ vs).set j (some x)) vs = wipe σ vs)
    (hw1 : ∀ x y, wipe ((wipe ((wipe σ vs).set j (some x)) vs1).set j2 (some y)) vs1 = wipe ((wipe σ vs).set j (some x)) vs1) (hj : ∀ x, ((wipe σ vs).set j (some x))[j]? = some (some x))
    (hj2 : ∀ x y, ((wipe ((wipe σ vs).set j (some x)) vs1).set j2 (some y))[j2]? = some (some y)) :
    EvL (tLc2 (iList K tl) (gName j) tYes (iList K (tVar j)) (gName j2) tYes (tVar j2) vs vs1) σ H rows.flatten := by
  intro H0 e Q q
  refine h H0 e _ fun H1 e1 => ⟨a, rfl, ⟨_, ex_l (e.trans e1) hx⟩, fun D hD => ?_⟩
  refine ⟨fun i m H' => i + m = rows.length ∧ Ex H1 H' ∧ H' D = some (.lst (rows.take i).flatten), ⟨rows.length, Nat.zero_add _, Ex.new hD, upd_same⟩, ?_⟩
  rintro i m H2 ⟨him, e2, h2⟩
  have hS2 : SqL K H2 a (as.map V.ref) := ex_l ((e.trans e1).trans e2) hx
  rcases Nat.lt_or_ge i rows.length with hi | hi
  · have hia : i < as.length := hl ▸ hi
    refine .inr ⟨⟨_, .ref as[i], hS2, by rw [List.getElem?_map, List.getElem?_eq_getElem hia]; rfl⟩, fun H' => Ex H1 H' ∧ H' D = some (.lst (rows.take (i + 1)).flatten), fun H' p => ⟨m - 1, by omega, by omega, p⟩, fun x H' hy => ?_⟩
    obtain ⟨rfl, hy⟩ := hy
    have ex : x = .ref as[i] := Option.some.inj ((hy _ hS2).symm.trans (by rw [List.getElem?_map, List.getElem?_eq_getElem hia]; rfl))
    subst ex
    have hb : as[i]? = some as[i] := List.getElem?_eq_getElem hia
    have hrow : rows[i]? = some rows[i] := List.getElem?_eq_getElem hi
    have hR : ∀ H', Ex H1 H' → SqL K H' as[i] rows[i] := fun H' e' => ex_l ((e.trans e1).trans e') (hr i _ _ hb hrow)
    refine ⟨hw _, ⟨_, hj _, as[i], rfl, ⟨_, hR _ e2⟩, ?_⟩⟩
    refine ⟨fun c k H' => c + k = rows[i].length ∧ Ex H1 H' ∧ H' D = some (.lst ((rows.take i).flatten ++ rows[i].take c)), ⟨rows[i].length, Nat.zero_add _, e2, by simpa using h2⟩, ?_⟩
    rintro c k H3 ⟨hck, e3, h3⟩
    rcases Nat.lt_or_ge c rows[i].length with hc | hc
    · refine .inr ⟨⟨_, rows[i][c], hR _ e3, List.getElem?_eq_getElem hc⟩, fun H' => Ex H1 H' ∧ H' D = some (.lst ((rows.take i).flatten ++ rows[i].take (c + 1))), fun H' p => ⟨k - 1, by omega, by omega, p⟩, fun y H' hy => ?_⟩
      obtain ⟨rfl, hy⟩ := hy
      have ey : y = rows[i][c] := Option.some.inj ((hy _ (hR _ e3)).symm.trans (List.getElem?_eq_getElem hc))
      subst ey
      refine ⟨hw1 _ _, ⟨_, hj2 _ _, _, h3, ?_, ?_, ?_⟩⟩
      · refine sz_lt ?_
        have z0 : rows.flatten = (rows.take (i + 1)).flatten ++ (rows.drop (i + 1)).flatten := by rw [← List.flatten_append, List.take_append_drop]
        rw [take_snoc hrow, List.flatten_append] at z0
        have z := congrArg List.length z0
        simp only [List.length_append, List.flatten_cons, List.flatten_nil, List.append_nil] at z
        rw [List.length_append, List.length_take]
        omega
      · exact Ex.mut e3 hD
      · rw [upd_same, take_snoc (List.getElem?_eq_getElem hc), List.append_assoc]
    · refine .inl ⟨⟨_, hR _ e3, hc⟩, e3, ?_⟩
      show H3 D = _
      rw [h3, List.take_of_length_le hc, take_snoc hrow, List.flatten_append]
      simp
  · refine .inl ⟨⟨_, hS2, by rw [List.length_map, hl]; exact hi⟩, q D H2 (fresh_back e1 hD) (e1.trans e2) ?_⟩
    rw [h2, List.take_of_length_le hi]
end
/-! ### rules told by the module's facts (a comprehension's block has them from its def) -/
section
variable {X : Cx} {K : PySem.W.Frag}
theorem ix_listK (h : X.K = K) : IxR X (rIxL K) := by subst h; exact ix_list
theorem ix_tupK (h : X.K = K) : IxR X (rIxT K) := by subst h; exact ix_tup
theorem op_inK (h : X.K = K) : OpR X (compareOp .In) (rIn K false) := by subst h; exact op_in_seq
theorem op_notInK (h : X.K = K) : OpR X (compareOp .NotIn) (rIn K true) := by subst h; exact op_notIn_seq
theorem sl_listK (h : X.K = K) : SlR X (rSlL K) := by subst h; exact sl_list
theorem call_lenK (h : X.K = K) : CallR X (.builtin "len") (rLenS K) := by subst h; exact call_len_seq
theorem call_listK (h : X.K = K) : CallR X (.type "list") (rListS K) := by subst h; exact call_list_of
theorem cr_sortedK (h : X.K = K) : CallR X (.builtin "sorted") (rSorted K) := by subst h; exact cr_sorted
theorem cr_maxK (hc : X.calm = true) (h : X.K = K) : CallR X (.builtin "max") (rMax K) := by subst h; exact cr_max hc
theorem cr_allK (hc : X.calm = true) (h : X.K = K) : CallR X (.builtin "all") (rAll K) := by subst h; exact cr_all hc
theorem mt_countK (h : X.K = K) : MtR X "list.count" (rCntI K) := by subst h; exact mt_lcount
theorem pe_revK {e : Expr} {te : TE} {k : Nat} {p1 p2 p3 pos : Pos} (h : X.K = K) (he : PE X e te) : PE X (.Subscript e (.Slice none none (some (.UnaryOp .USub (.Constant (.int 1) k p1) p2)) p3) pos) (tRevL K te) := by subst h; exact pe_revL he
theorem pi_listK {tg l : Expr} {tl : TE} (h : X.K = K) (hl : PE X l tl) : PI X tg l (iList K tl) := by subst h; exact pi_list hl
theorem pg_unlK {pos : Pos} {es : List Expr} {k : Nat} {t : TGs} {n : Nat} (h : X.K = K) (hc : X.calm = true) (hs : PGs X es t)
    (hn : (assignEach es X.env).length = n := by rfl) (hst : (assignEach es X.env).findIdx? (·.1) = none := by rfl) : PG X (.Tuple es k pos) (gUnl K n t) := by subst h; exact pg_unl hc hs hn hst
theorem pg_tupK {pos : Pos} {es : List Expr} {k : Nat} {t : TGs} {n : Nat} (h : X.K = K) (hc : X.calm = true) (hs : PGs X es t)
    (hn : (assignEach es X.env).length = n := by rfl) (hst : (assignEach es X.env).findIdx? (·.1) = none := by rfl) : PG X (.Tuple es k pos) (gTup K n t) := by subst h; exact pg_tup hc hs hn hst
theorem pe_bmK {o e : Expr} {es : List Expr} {to : TE} {t : TA} {apos cpos : Pos} {T id : String} {name : Str} {r : V → List V → Hp → VK → Prop} (h : X.K = K) (pa : PlainAttrs T) (slot : Slot T name id)
    (hty : typeOf (.builtin id) = pure (.type "method_descriptor")) (hm : MtR X id r) (ho : PE X o to) (ha : PA X (e :: es) t)
    (k1 : attributeBase o name X.env (eval o X.env) = eval o X.env := by rfl)
    (k2 : ((backTo cpos (starEach (e :: es) X.env)).all (fun x => !x.1) && (backToKw cpos (keywordEach [] X.env)).all (fun x => x.1.isSome) &&
      decide ((e :: es).length + ([] : List Keyword).length + (if ([] : List Keyword).isEmpty then 0 else 1) < 30)) = true := by rfl)
    (k3 : (apos.endLine == cpos.line) = true := by rfl) (k4 : starEach (e :: es) X.env = (false, eval e X.env) :: starEach es X.env := by rfl)
    (k5 : (backTo cpos (starEach es X.env)).any (·.1) = false := by rfl) : PE X (.Call (.Attribute o name apos) (e :: es) [] cpos) (tBM K T r to t) := by
  subst h
  exact pe_bm pa slot hty hm ho ha k1 k2 k3 k4 k5
end
end Vf

/-! Data at any depth: what may be compared and shown. -/
namespace Vf
open PySem PySem.Spec PyProof.Rows L2 Evl
/-- data of at most dep lists one in the other, shown by at most len signs -/
structure Dn (d : PyData) (len dep : Nat) : Prop where
  len_ : d.shown.length ≤ len
  show_ : d.showable = true
  dict_ : d.hasDict = false
  lay_ : d.canLay0 = true
  dep_ : d.depth ≤ dep
theorem Dn.mono {d : PyData} {len dep len' dep' : Nat} (h : Dn d len dep) (h1 : len ≤ len') (h2 : dep ≤ dep') : Dn d len' dep' :=
  ⟨Nat.le_trans h.len_ h1, h.show_, h.dict_, h.lay_, Nat.le_trans h.dep_ h2⟩
theorem Dn.int {i : Int} (h0 : 0 ≤ i) (h1 : i < 10 ^ 10) : Dn (.int i) 10 0 := by
  refine ⟨toString_length_le h0 (by decide) h1, ?_, rfl, rfl, Nat.le_refl _⟩
  refine decide_eq_true ?_
  have h2 : i.natAbs < 2 ^ 40 := by omega
  by_cases c : i.natAbs = 0
  · rw [c]; decide
  · exact Nat.lt_of_lt_of_le ((Nat.log2_lt c).2 h2) (by decide)
theorem Dn.bool (b : Bool) : Dn (.bool b) 5 0 := by
  refine ⟨?_, rfl, rfl, rfl, Nat.le_refl _⟩
  cases b <;> decide
theorem textFrom_le : ∀ (ts : List Str) (k : Nat) (acc : Str), (textFrom k acc ts).length ≤ acc.length + piled ts
  | [], _, _ => Nat.le_add_right _ _
  | t :: r, k, acc => by
    have h := textFrom_le r (k + 1) (acc ++ (if k > 0 then ", " else "" : String) ++ t)
    have e : (acc ++ (if k > 0 then ", " else "" : String) ++ t).length ≤ acc.length + 2 + t.length := by
      rw [strLen_append, strLen_append]
      split
      · exact Nat.le_refl _
      · show acc.length + 0 + t.length ≤ _
        omega
    rw [piled_cons]
    show (textFrom (k + 1) _ r).length ≤ _
    omega
theorem dn_all {len dep : Nat} : ∀ {ds : List PyData}, (∀ d ∈ ds, Dn d len dep) →
    piled (PyData.shownAll ds) ≤ (len + 2) * ds.length ∧ PyData.showableAll ds = true ∧ PyData.hasDictAll ds = false ∧ PyData.canLayAll0 ds = true ∧ PyData.depthAll ds ≤ dep
  | [], _ => ⟨Nat.zero_le _, rfl, rfl, rfl, Nat.zero_le _⟩
  | d :: ds, h => by
    obtain ⟨a1, a2, a3, a4, a5⟩ := h d List.mem_cons_self
    obtain ⟨b1, b2, b3, b4, b5⟩ := dn_all (ds := ds) fun x hx => h x (List.mem_cons_of_mem _ hx)
    refine ⟨?_, ?_, ?_, ?_, ?_⟩
    · show piled (d.shown :: PyData.shownAll ds) ≤ _
      rw [piled_cons, List.length_cons, Nat.mul_add]
      omega
    · show (d.showable && PyData.showableAll ds) = true
      rw [a2, b2]; rfl
    · show (d.hasDict || PyData.hasDictAll ds) = false
      rw [a3, b3]; rfl
    · show (d.canLay0 && PyData.canLayAll0 ds) = true
      rw [a4, b4]; rfl
    · show max d.depth (PyData.depthAll ds) ≤ dep
      omega
theorem Dn.list {ds : List PyData} {len dep : Nat} (h : ∀ d ∈ ds, Dn d len dep) : Dn (.list ds) ((len + 2) * ds.length + 2) (dep + 1) := by
  obtain ⟨b1, b2, b3, b4, b5⟩ := dn_all h
  refine ⟨?_, b2, b3, b4, Nat.succ_le_succ b5⟩
  show (textFrom 0 "[" (PyData.shownAll ds) ++ "]").length ≤ _
  have z := textFrom_le (PyData.shownAll ds) 0 "["
  rw [strLen_append]
  have e1 : (Str.ofString "[").length = 1 := by decide
  have e2 : (Str.ofString "]").length = 1 := by decide
  rw [e1] at z
  rw [e2]
  omega
abbrev dInts (ns : List Int) : PyData := .list (ns.map .int)
abbrev dRows (ls : List (List Int)) : PyData := .list (ls.map dInts)
theorem dn_ints {ns : List Int} (h : ∀ x ∈ ns, 0 ≤ x ∧ x < 10 ^ 10) : Dn (dInts ns) (12 * ns.length + 2) 1 := by
  have z := Dn.list (ds := ns.map .int) (len := 10) (dep := 0) fun d hd => by
    obtain ⟨x, hx, rfl⟩ := List.mem_map.mp hd
    exact Dn.int (h x hx).1 (h x hx).2
  rw [List.length_map] at z
  exact z
theorem dn_rows {ls : List (List Int)} {m : Nat} (h : ∀ l ∈ ls, l.length ≤ m ∧ ∀ x ∈ l, 0 ≤ x ∧ x < 10 ^ 10) : Dn (dRows ls) ((12 * m + 4) * ls.length + 2) 2 := by
  have z := Dn.list (ds := ls.map dInts) (len := 12 * m + 2) (dep := 1) fun d hd => by
    obtain ⟨l, hl, rfl⟩ := List.mem_map.mp hd
    exact (dn_ints (h l hl).2).mono (by have := (h l hl).1; omega) (Nat.le_refl _)
  rw [List.length_map] at z
  exact z
section
variable {K : PySem.W.Frag} {H H' : Hp}
theorem dp_list (ns : List Int) : DpAll K H (ns.map V.int) (ns.map .int) := by
  induction ns with
  | nil => exact .nil
  | cons n ns ih => exact .cons (.int n) ih
theorem dp_ints {a : Addr} {ns : List Int} (h : SqL K H a (ns.map V.int)) : Dp K H (.ref a) (dInts ns) := .lst h (dp_list ns)
theorem dp_rows {a : Addr} {ps : List Addr} {ls : List (List Int)} (h : SqL K H a (ps.map V.ref)) (hl : ps.length = ls.length) (hr : ∀ (i : Nat) (p : Addr) (l : List Int), ps[i]? = some p → ls[i]? = some l → SqL K H p (l.map V.int)) :
    Dp K H (.ref a) (dRows ls) := by
  refine .lst h ?_
  clear h
  induction ps generalizing ls with
  | nil =>
    cases ls with
    | nil => exact .nil
    | cons l ls => cases hl
  | cons p ps ih =>
    cases ls with
    | nil => cases hl
    | cons l ls =>
      exact .cons (dp_ints (hr 0 p l rfl rfl)) (ih (by simpa using hl) fun i p' l' h1 h2 => hr (i + 1) p' l' h1 h2)
mutual
theorem Dp.on (e : Ex H H') : ∀ (d : PyData) (v : V), Dp K H v d → Dp K H' v d
  | .none, _, h => by cases h; exact .non
  | .bool b, _, h => by cases h; exact .bl b
  | .int i, _, h => by cases h; exact .int i
  | .str x, _, h => by cases h; exact .str x
  | .list ds, _, h => by
    cases h with
    | lst hs ha => exact .lst (ex_l e hs) (DpAll.on e ds _ ha)
  | .tuple ds, _, h => by
    cases h with
    | tup hs ha => exact .tup (ex_t e hs) (DpAll.on e ds _ ha)
  | .dict _, _, h => by cases h
theorem DpAll.on (e : Ex H H') : ∀ (ds : List PyData) (vs : List V), DpAll K H vs ds → DpAll K H' vs ds
  | [], _, h => by cases h; exact .nil
  | d :: ds, _, h => by
    cases h with
    | cons h1 h2 => exact .cons (Dp.on e d _ h1) (DpAll.on e ds _ h2)
end
/-- what may be compared, item by item -/
def Sh (K : PySem.W.Frag) (H : Hp) (x : V) : Prop := ∃ e, Dp K H x e ∧ PyData.canLay0 e = true ∧ PyData.depth e ≤ 8
theorem Sh.int (i : Int) : Sh K H (.int i) := ⟨.int i, .int i, rfl, by simp [PyData.depth]⟩
theorem Sh.pair {a : Addr} {x y : Int} (h : SqL K H a [.int x, .int y]) : Sh K H (.ref a) :=
  ⟨dInts [x, y], dp_ints h, rfl, by simp [dInts, PyData.depth, PyData.depthAll]⟩
theorem sh_all : ∀ {xs : List V}, (∀ x ∈ xs, Sh K H x) → ∃ ds, DpAll K H xs ds ∧ ds.length = xs.length ∧ PyData.canLayAll0 ds = true ∧ PyData.depthAll ds ≤ 8
  | [], _ => ⟨[], .nil, rfl, rfl, by simp [PyData.depthAll]⟩
  | x :: xs, h => by
    obtain ⟨e, e1, e2, e3⟩ := h x List.mem_cons_self
    obtain ⟨ds, d1, d2, d3, d4⟩ := sh_all (xs := xs) fun y hy => h y (List.mem_cons_of_mem _ hy)
    refine ⟨e :: ds, .cons e1 d1, by simp [d2], ?_, ?_⟩
    · simp [PyData.canLayAll0, e2, d3]
    · simp only [PyData.depthAll]
      omega
/-- xs != [], the empty list new -/
theorem ne_nil {l p : Addr} {xs : List V} {Q : VK} (hl : SqL K H l xs) (hp : H p = some (.lst [])) (hx : ∀ x ∈ xs, Sh K H x) (q : Q (.bl (!xs.isEmpty)) H) : rNeD K (.ref l) (.ref p) H Q := by
  obtain ⟨ds, d1, d2, d3, d4⟩ := sh_all hx
  refine ⟨.list ds, .list [], .lst hl d1, .lst (.inl (.inl hp)) .nil, ?_, rfl, ?_⟩
  · refine Bool.and_eq_true_iff.mpr ⟨d3, decide_eq_true ?_⟩
    have z : (PyData.list ds).depth = PyData.depthAll ds + 1 := by simp only [PyData.depth]
    omega
  · have e : PyData.eqv (.list ds) (.list []) = xs.isEmpty := by
      cases ds with
      | nil =>
        cases xs with
        | nil => rfl
        | cons _ _ => cases d2
      | cons _ _ =>
        cases xs with
        | nil => cases d2
        | cons _ _ => rfl
    rw [e]
    exact q
end
end Vf

/-! a > b for data that are alike; lists of whole numbers by their first places that part. -/
namespace Vf
open PySem PySem.Spec PyProof.Rows L2 Evl
section
variable {X : Cx}
def rGtD (K : PySem.W.Frag) : R2 := fun x y H Q => ∃ d e, Dp K H x d ∧ Dp K H y e ∧ PySem.W.alike d e = true ∧ d ≠ .none ∧ d.depth ≤ 60 ∧ Q (.bl (PySem.W.dataLt e d)) H
theorem op_gtD (hu : X.A.units + 64 < cLine) : OpR X (compareOp .Gt) (rGtD X.K) := by
  intro pins s σ H x y v u Q I rx ry h
  obtain ⟨d, e, hd, he, ha, hn, hdp, q⟩ := h
  obtain ⟨as, r1⟩ := Dp.reads I d x v hd rx
  obtain ⟨bs, r2⟩ := Dp.reads I e y u he ry
  exact PySem.W.gt_data r1 r2 ha hn (Nat.lt_of_le_of_lt (Nat.add_le_add_left (Nat.le_trans (Nat.min_le_left _ _) (Nat.le_trans hdp (by decide : 60 ≤ 64))) _) hu) ⟨.bl _, H, I, rfl, q⟩
end
theorem alike_ints : ∀ (a b : List Int), PySem.W.alike (dInts a) (dInts b) = true := by
  have key : ∀ a b : List Int, PySem.W.alikeAll (a.map .int) (b.map .int) = true := by
    intro a
    induction a with
    | nil => intro b; cases b <;> rfl
    | cons x a ih =>
      intro b
      cases b with
      | nil => rfl
      | cons y b => exact ih b
  exact fun a b => key a b
/-- a is b, or less where they part first -/
def LexLe : List Int → List Int → Prop
  | [], _ => True
  | _ :: _, [] => False
  | a :: as, b :: bs => a < b ∨ (a = b ∧ LexLe as bs)
theorem not_gt : ∀ {a b : List Int}, LexLe a b → PySem.W.dataLt (dInts b) (dInts a) = false := by
  have key : ∀ {a b : List Int}, LexLe a b → PyProof.Rows.lexLt itemOrd (PySem.W.keyToksAll (b.map .int)) (PySem.W.keyToksAll (a.map .int)) = false := by
    intro a
    induction a with
    | nil =>
      intro b _
      cases b with
      | nil => rfl
      | cons y b =>
        show PyProof.Rows.lexLt itemOrd (.inl 1 :: _) (.inl 0 :: []) = false
        rw [lex_diff (O := itemOrd) (by decide)]
        rfl
    | cons x a ih =>
      intro b h
      cases b with
      | nil => exact h.elim
      | cons y b =>
        show PyProof.Rows.lexLt itemOrd (.inl 1 :: .inl y :: _) (.inl 1 :: .inl x :: _) = false
        rw [lex_self (O := itemOrd)]
        rcases h with h | ⟨h, k⟩
        · rw [lex_diff (O := itemOrd) (by intro z; injection z; omega)]
          show decide (y < x) = false
          exact decide_eq_false (by omega)
        · subst h
          rw [lex_self (O := itemOrd)]
          exact ih k
  intro a b h
  exact key h
end Vf

/-! Slices with a step, left %= made, calls by keywords in the other order, defaults. -/
namespace Vf
open PySem PySem.Spec PyProof.Rows L2 Evl
/-! ### xs[lo:hi:st] -/
def idxF (lo hi st : Option Int) (n : Nat) : List Nat := sliceRange (sliceBounds lo hi st n).1 (sliceBounds lo hi st n).2.1 (sliceBounds lo hi st n).2.2
def pickL {α : Type} (xs : List α) (lo hi st : Option Int) : List α := (idxF lo hi st xs.length).filterMap (xs[·]?)
theorem pick_map {α β : Type} (f : α → β) (xs : List α) (lo hi st : Option Int) : pickL (xs.map f) lo hi st = (pickL xs lo hi st).map f := by
  unfold pickL
  rw [List.length_map, List.map_filterMap]
  refine congrArg (fun g => List.filterMap g _) (funext fun i => ?_)
  rw [List.getElem?_map]
theorem vals_at {xs : List V} {its : List Value} (r : Vals xs its) : ∀ i : Nat, RelO (xs[i]?) (its[i]?) := by
  induction r with
  | nil => intro i; exact True.intro
  | cons h _ ih =>
    intro i
    cases i with
    | zero => exact h
    | succ i => simpa using ih i
theorem vals_pick {xs : List V} {its : List Value} (r : Vals xs its) : ∀ idx : List Nat, Vals (idx.filterMap (xs[·]?)) (idx.filterMap (its[·]?))
  | [] => .nil
  | i :: idx => by
    have a := vals_at r i
    rw [List.filterMap_cons, List.filterMap_cons]
    cases hx : xs[i]? with
    | none =>
      cases hi : its[i]? with
      | none => exact vals_pick r idx
      | some u => rw [hx, hi] at a; exact a.elim
    | some x =>
      cases hi : its[i]? with
      | none => rw [hx, hi] at a; exact a.elim
      | some u => rw [hx, hi] at a; exact .cons a (vals_pick r idx)
theorem pick_le (its : List Value) (lo hi st : Option Int) : (pickL its lo hi st).length ≤ its.length := by
  have := slicePick_size_le its.toArray lo hi st
  unfold slicePick at this
  rw [List.size_toArray, List.size_toArray] at this
  unfold pickL idxF
  have e : (fun i : Nat => its.toArray[i]?) = fun i : Nat => its[i]? := funext fun i => by simp
  rw [e] at this
  exact this
theorem slice_is (its : List Value) (lo hi st : Option Int) : slicePick its.toArray lo hi st = (pickL its lo hi st).toArray := by
  unfold slicePick pickL idxF
  rw [List.size_toArray]
  refine congrArg List.toArray (congrArg (fun g => List.filterMap g _) (funext fun i => ?_))
  simp
def tSl3 (K : PySem.W.Frag) (te : TE) (tl th ts : TO) : TE := fun σ H Q => te σ H fun x H1 => ∃ a, x = .ref a ∧ tl σ H1 fun lo H2 => th σ H2 fun hi H3 => ts σ H3 fun st H4 =>
  ∃ xs, SqL K H4 a xs ∧ st ≠ some 0 ∧ ∀ p, H4 p = none → Q (.ref p) (upd H4 p (.lst (pickL xs lo hi st)))
section
variable {X : Cx} {K : PySem.W.Frag}
theorem pe_slice3 {e es : Expr} {lo hi : Option Expr} {te : TE} {tl th ts : TO} {p2 pos : Pos} (hK : X.K = K) (he : PE X e te) (hl : PO X lo tl) (hu : PO X hi th) (hs : PO X (some es) ts) :
    PE X (.Subscript e (.Slice lo hi (some es) p2) pos) (tSl3 K te tl th ts) := by
  subst hK
  refine ⟨fun pins s σ H Q I h => ?_⟩
  refine Subscript_ (thn (he.run pins s σ H _ I h) fun v s1 ⟨x, H1, I1, r1, q1⟩ => ?_)
  obtain ⟨a, ex, q1⟩ := q1
  subst ex
  cases r1
  refine wpAny_Slice (thn (hl.run pins s1 σ H1 _ I1 q1) fun vl s2 ⟨l, H2, I2, pl, q2⟩ => thn (hu.run pins s2 σ H2 _ I2 q2) fun vu s3 ⟨u, H3, I3, pu, q3⟩ => ?_)
  refine thn (hs.run pins s3 σ H3 _ I3 q3) fun vs s4 ⟨st, H4, I4, ps, q4⟩ => ?_
  obtain ⟨xs, hx, h0, q⟩ := q4
  have I5 : Inv X pins σ H4 { s4 with heap := s4.heap.push { cls := .type "slice", data := .fields #[vl, vu, vs] } } := I4.kept (t' := s4.toks) fun b ob q => Heap.get?_push_of_some _ q
  obtain ⟨its, r, ht, hz⟩ := I5.list hx
  have hlen := r.length
  show wpAny (model X.prog X.w) X.A (subscriptTail e (.Slice lo hi (some es) p2) (.ref a) (.ref s4.heap.objs.size)) (EP X pins σ Q) X.xe { s4 with heap := s4.heap.push { cls := .type "slice", data := .fields #[vl, vu, vs] } }
  refine tail_any (ops := [.ref a, .ref s4.heap.objs.size]) ht.isList.typeIs (PySem.slot_list_getitem.lookup) ?_ (by with_unfolding_all rfl)
  refine wpAny_getItem_list_slice ht.isList (Heap.IsSliceOf.new _ vl vu vs) pl pu ps h0 ?_ (by rw [List.size_toArray]; omega)
  rw [slice_is]
  refine ⟨.ref _, _, I5.laid (t' := s4.toks) (o := .lst (pickL xs l u st)) (fun b ob q => Heap.get?_push_of_some _ q) (Nat.le_refl _) ?_, rfl, q _ (I5.hok.fresh (Nat.le_refl _))⟩
  have rp : Vals (pickL xs l u st) (pickL its l u st) := by
    unfold pickL
    rw [hlen]
    exact vals_pick r _
  exact ⟨by rw [rp.length]; have := pick_le its l u st; omega, _, 0, rp, Heap.get?_push_size _ rfl⟩
theorem el_sl3 {σ : L2.St} {H : Hp} {te : TE} {tl th ts : TO} {a : Addr} {xs : List V} {lo hi st : Option Int} (h : Ev te σ H (.ref a)) (hl : EvO tl σ H lo) (hu : EvO th σ H hi) (hs : EvO ts σ H st) (hx : SqL K H a xs) (h0 : st ≠ some 0) :
    EvL (tSl3 K te tl th ts) σ H (pickL xs lo hi st) := fun H1 e Q q =>
  h H1 e _ fun H2 e2 => ⟨a, rfl, hl H2 (e.trans e2) _ fun H3 e3 => hu H3 ((e.trans e2).trans e3) _ fun H4 e4 => hs H4 (((e.trans e2).trans e3).trans e4) _ fun H5 e5 =>
    ⟨xs, ex_l ((((e.trans e2).trans e3).trans e4).trans e5) hx, h0, fun p np => q p _ (fresh_back (((e2.trans e3).trans e4).trans e5) np) ((((e2.trans e3).trans e4).trans e5).trans (Ex.new np)) upd_same⟩⟩
/-! ### left %= made -/
def ipM : TIp := fun x y H Q => ∃ i j, x = .int i ∧ y = .int j ∧ j ≠ 0 ∧ Q (.int (i.fmod j)) H
theorem ip_modN : PIp X .Mod ipM := by
  intro pins s σ H x y v u Q I r1 r2 h
  obtain ⟨i, j, e1, e2, hj, q⟩ := h
  subst e1; subst e2
  obtain ⟨t, rfl⟩ := r1
  obtain ⟨t', rfl⟩ := r2
  exact imod_int hj ⟨.int _, H, I.tok _, ⟨_, rfl⟩, q⟩
end
/-! ### parameters told by name, in the other order -/
def rev3 {α : Type} : List α → List α → List α
  | [], [a, b, c] => [c, b, a]
  | _, _ => []
def rev4 {α : Type} : List α → List α → List α
  | [], [a, b, c, d] => [d, c, b, a]
  | _, _ => []
def rev5 {α : Type} : List α → List α → List α
  | [], [a, b, c, d, e] => [e, d, c, b, a]
  | _, _ => []
theorem rev3_len {α : Type} {us ws : List α} (h : (rev3 us ws).length = 3) : us = [] ∧ ∃ a b c, ws = [a, b, c] := by
  unfold rev3 at h
  split at h
  · exact ⟨rfl, _, _, _, rfl⟩
  · cases h
theorem rev4_len {α : Type} {us ws : List α} (h : (rev4 us ws).length = 4) : us = [] ∧ ∃ a b c d, ws = [a, b, c, d] := by
  unfold rev4 at h
  split at h
  · exact ⟨rfl, _, _, _, _, rfl⟩
  · cases h
theorem rev5_len {α : Type} {us ws : List α} (h : (rev5 us ws).length = 5) : us = [] ∧ ∃ a b c d e, ws = [a, b, c, d, e] := by
  unfold rev5 at h
  split at h
  · exact ⟨rfl, _, _, _, _, _, rfl⟩
  · cases h
theorem rev3_rel {vs : List V} {us : List Value} {zs : List V} {ws : List Value} (r1 : Vals vs us) (r2 : Vals zs ws) : Vals (rev3 vs zs) (rev3 us ws) := by
  cases r1 with
  | cons _ _ => cases r2 <;> exact .nil
  | nil =>
    cases r2 with
    | nil => exact .nil
    | cons a r => cases r with
      | nil => exact .nil
      | cons b r => cases r with
        | nil => exact .nil
        | cons c r => cases r with
          | nil => exact .cons c (.cons b (.cons a .nil))
          | cons _ _ => exact .nil
theorem rev4_rel {vs : List V} {us : List Value} {zs : List V} {ws : List Value} (r1 : Vals vs us) (r2 : Vals zs ws) : Vals (rev4 vs zs) (rev4 us ws) := by
  cases r1 with
  | cons _ _ => cases r2 <;> exact .nil
  | nil =>
    cases r2 with
    | nil => exact .nil
    | cons a r => cases r with
      | nil => exact .nil
      | cons b r => cases r with
        | nil => exact .nil
        | cons c r => cases r with
          | nil => exact .nil
          | cons d r => cases r with
            | nil => exact .cons d (.cons c (.cons b (.cons a .nil)))
            | cons _ _ => exact .nil
theorem rev5_rel {vs : List V} {us : List Value} {zs : List V} {ws : List Value} (r1 : Vals vs us) (r2 : Vals zs ws) : Vals (rev5 vs zs) (rev5 us ws) := by
  cases r1 with
  | cons _ _ => cases r2 <;> exact .nil
  | nil =>
    cases r2 with
    | nil => exact .nil
    | cons a r => cases r with
      | nil => exact .nil
      | cons b r => cases r with
        | nil => exact .nil
        | cons c r => cases r with
          | nil => exact .nil
          | cons d r => cases r with
            | nil => exact .nil
            | cons e r => cases r with
              | nil => exact .cons e (.cons d (.cons c (.cons b (.cons a .nil))))
              | cons _ _ => exact .nil
theorem rev3_binds {K : PySem.W.Frag} {fd : FuncData} {p1 p2 p3 : Str} (h : ∀ a b c : Value, bindArgs fd ⟨[], [(p3, a), (p2, b), (p1, c)]⟩ = pure [(p1, c), (p2, b), (p3, a)]) :
    KBinds K fd [p1, p2, p3] [p3, p2, p1] rev3 rev3 := by
  refine ⟨fun s us ws _ hl => ?_, rev3_rel⟩
  obtain ⟨rfl, a, b, c, rfl⟩ := rev3_len hl
  exact .of_eq (h a b c)
theorem rev4_binds {K : PySem.W.Frag} {fd : FuncData} {p1 p2 p3 p4 : Str} (h : ∀ a b c d : Value, bindArgs fd ⟨[], [(p4, a), (p3, b), (p2, c), (p1, d)]⟩ = pure [(p1, d), (p2, c), (p3, b), (p4, a)]) :
    KBinds K fd [p1, p2, p3, p4] [p4, p3, p2, p1] rev4 rev4 := by
  refine ⟨fun s us ws _ hl => ?_, rev4_rel⟩
  obtain ⟨rfl, a, b, c, d, rfl⟩ := rev4_len hl
  exact .of_eq (h a b c d)
/-- a def with defaults, all of its parameters told by name -/
theorem rev5_bindsD {K : PySem.W.Frag} {x qual : Str} {params : Arguments} {body : List Stmt} {scope : Scope} {dvs : List V} {kws : List (Str × V)} {f : Addr} {fd : FuncData} {p1 p2 p3 p4 p5 : Str} (F : FunD K x qual params body scope dvs kws f fd) (hd : dvs ≠ [])
    (h : ∀ (T : Addr) (kV doc pm : Value) (an : Option Addr) (cdv ct : Value) (a b c d e : Value) (its : List Value), its.length = dvs.length →
      ∃ k, bindArgs (PySem.W.fnOf x qual params body scope (.ref T) kV doc pm an cdv ct) ⟨[], [(p5, a), (p4, b), (p3, c), (p2, d), (p1, e)]⟩ = seqItems? (.ref T) >>= k ∧ k (some its.toArray) = pure [(p1, e), (p2, d), (p3, c), (p4, b), (p5, a)]) :
    KBinds K fd [p1, p2, p3, p4, p5] [p5, p4, p3, p2, p1] rev5 rev5 := by
  obtain ⟨oc, od, dV, kV, doc, pm, an, cdv, ct, osl, rfl, lk, hcd, hD, hK⟩ := F.ex
  rcases hD with ⟨e, _⟩ | ⟨_, T, o, its, m, rfl, lT, oT, rT⟩
  · exact absurd e hd
  · refine ⟨fun s us ws X hl => ?_, rev5_rel⟩
    obtain ⟨rfl, a, b, c, d, e, rfl⟩ := rev5_len hl
    obtain ⟨k, e1, e2⟩ := h T kV doc pm an cdv ct a b c d e its rT.length.symm
    refine BindsTo.of_looks fun M => ?_
    show PySem.W.Looks M s.heap (bindArgs _ ⟨[], [(p5, a), (p4, b), (p3, c), (p2, d), (p1, e)]⟩) _
    rw [e1]
    exact looks_items X lT oT (.of_pure e2)
/-- every parameter written, though there are defaults -/
theorem bindsD0 {K : PySem.W.Frag} {x qual : Str} {params : Arguments} {body : List Stmt} {scope : Scope} {dvs : List V} {kws : List (Str × V)} {f : Addr} {fd : FuncData} {ps : List Str} (F : FunD K x qual params body scope dvs kws f fd) (hd : dvs ≠ [])
    (h : ∀ (T : Addr) (kV doc pm : Value) (an : Option Addr) (cdv ct : Value) (us its : List Value), us.length = ps.length → its.length = dvs.length →
      ∃ k, bindArgs (PySem.W.fnOf x qual params body scope (.ref T) kV doc pm an cdv ct) ⟨us, []⟩ = seqItems? (.ref T) >>= k ∧ k (some its.toArray) = pure (ps.zip us)) : Binds K fd ps [] := by
  obtain ⟨ds, r, b⟩ := F.binds1 (ps := ps) ps.length dvs.length hd (by rw [Nat.sub_self]; rfl) fun T kV doc pm an cdv ct us its h1 h2 => by
    obtain ⟨k, e1, e2⟩ := h T kV doc pm an cdv ct us its h1 h2
    exact ⟨k, e1, by rw [e2, ← h2, List.drop_length, List.append_nil]⟩
  rw [List.drop_length] at r
  cases r
  exact b
end Vf

/-! A new list of new lists, all different, whose rows are changed. -/
namespace Vf
open PySem PySem.Spec PyProof.Rows L2 Evl
def LLN (H H2 : Hp) (D : Addr) (ls : List (List V)) : Prop :=
  ∃ ps : List Addr, H2 D = some (.lst (ps.map V.ref)) ∧ ps.length = ls.length ∧ D ∉ ps ∧ ps.Nodup ∧ ∀ (i : Nat) (p : Addr) (l : List V), ps[i]? = some p → ls[i]? = some l → H p = none ∧ H2 p = some (.lst l)
theorem LLN.on {H H2 H3 : Hp} {D : Addr} {ls : List (List V)} (h : LLN H H2 D ls) (e : Ex H2 H3) : LLN H H3 D ls := by
  obtain ⟨ps, a, b, c, n, d⟩ := h
  exact ⟨ps, e _ _ a, b, c, n, fun i p l x y => ⟨(d i p l x y).1, e _ _ (d i p l x y).2⟩⟩
theorem LLN.back {H H1 H2 : Hp} {D : Addr} {ls : List (List V)} (e : Ex H H1) (h : LLN H1 H2 D ls) : LLN H H2 D ls := by
  obtain ⟨ps, a, b, c, n, d⟩ := h
  exact ⟨ps, a, b, c, n, fun i p l x y => ⟨fresh_back e (d i p l x y).1, (d i p l x y).2⟩⟩
theorem LLN.row {H H2 : Hp} {D : Addr} {ls : List (List V)} (h : LLN H H2 D ls) {i : Nat} {row : List V} (hi : ls[i]? = some row) :
    ∃ (ps : List Addr) (p : Addr), H2 D = some (.lst (ps.map V.ref)) ∧ ps[i]? = some p ∧ H p = none ∧ H2 p = some (.lst row) := by
  obtain ⟨ps, a, b, c, n, d⟩ := h
  have hl : i < ps.length := by rw [b]; exact (List.getElem?_eq_some_iff.mp hi).1
  exact ⟨ps, ps[i], a, List.getElem?_eq_getElem hl, (d i _ _ (List.getElem?_eq_getElem hl) hi).1, (d i _ _ (List.getElem?_eq_getElem hl) hi).2⟩
theorem LLN.put {H H2 : Hp} {D : Addr} {ls : List (List V)} (h : LLN H H2 D ls) {i : Nat} {row : List V} (hi : ls[i]? = some row) :
    ∃ (ps : List Addr) (p : Addr), H2 D = some (.lst (ps.map V.ref)) ∧ ps[i]? = some p ∧ H p = none ∧ H2 p = some (.lst row) ∧ ∀ row', LLN H (upd H2 p (.lst row')) D (ls.set i row') := by
  obtain ⟨ps, a, b, c, n, d⟩ := h
  have hl : i < ps.length := by rw [b]; exact (List.getElem?_eq_some_iff.mp hi).1
  have hp : ps[i]? = some ps[i] := List.getElem?_eq_getElem hl
  obtain ⟨d1, d2⟩ := d i _ _ hp hi
  refine ⟨ps, ps[i], a, hp, d1, d2, fun row' => ⟨ps, ?_, by rw [List.length_set, b], c, n, fun k q l hk hl' => ?_⟩⟩
  · rw [upd_ne (fun z : D = ps[i] => c (by rw [z]; exact List.getElem_mem hl))]
    exact a
  · by_cases e : k = i
    · subst e
      rw [hp] at hk
      cases hk
      rw [List.getElem?_set_self (by rw [← b]; exact hl)] at hl'
      cases hl'
      exact ⟨d1, upd_same⟩
    · rw [List.getElem?_set_ne (fun z => e z.symm)] at hl'
      obtain ⟨x, y⟩ := d k q l hk hl'
      refine ⟨x, ?_⟩
      rw [upd_ne]
      · exact y
      · intro z
        obtain ⟨hk1, hk2⟩ := List.getElem?_eq_some_iff.mp hk
        exact e ((List.getElem_inj n).mp (hk2.trans z))
section
variable {K : PySem.W.Frag} {σ : L2.St} {H H' : Hp} {ta : TA} {te : TE} {t : TT}
def RwN (H : Hp) (L : Nat → List V) (Dl : Addr) (i : Nat) (H' : Hp) : Prop := H Dl = none ∧ Ex H H' ∧ LLN H H' Dl ((List.range i).map L)
theorem rwn_turn {H H' : Hp} {L : Nat → List V} {Dl : Addr} {i : Nat} {σ2 : L2.St} (p : RwN H L Dl i H') (hi : i < 50000) (he : EvL te σ2 H (L i)) :
    te σ2 H' fun y H4 => ∃ acc, H4 Dl = some (.lst acc) ∧ acc.length < sizeLine ∧ RwN H L Dl (i + 1) (upd H4 Dl (.lst (acc ++ [y]))) := by
  obtain ⟨p1, p2, p3⟩ := p
  refine he H' p2 _ fun q H4 nq e4 hq => ?_
  obtain ⟨_, a3, _⟩ := id p3
  obtain ⟨ps, a, b, c, n, d⟩ := p3
  have a4 := e4 _ _ a
  have neD : q ≠ Dl := fun z => by
    rw [← z, nq] at a
    cases a
  have len : ps.length = i := by rw [b, List.length_map, List.length_range]
  have nin : q ∉ ps := fun z => by
    obtain ⟨k, hk, e⟩ := List.getElem_of_mem z
    have := (d k q (((List.range i).map L)[k]'(by rw [← b]; exact hk)) (by rw [List.getElem?_eq_getElem hk, e]) (List.getElem?_eq_getElem _)).2
    rw [nq] at this
    cases this
  refine ⟨ps.map V.ref, a4, sz_lt (by rw [List.length_map]; omega), p1, Ex.mut (p2.trans e4) p1, ps ++ [q], ?_, ?_, ?_, ?_, ?_⟩
  · rw [upd_same, List.map_append]
    rfl
  · rw [List.range_succ, List.map_append, List.length_append, List.length_append, b]
    rfl
  · intro z
    rcases List.mem_append.mp z with z | z
    · exact c z
    · exact neD (List.mem_singleton.mp z).symm
  · refine List.nodup_append.mpr ⟨n, by simp, fun x hx y hy e => ?_⟩
    rw [List.mem_singleton.mp hy] at e
    exact nin (e ▸ hx)
  · intro k pp l hk hl
    rw [List.range_succ, List.map_append] at hl
    by_cases hk2 : k < ps.length
    · rw [List.getElem?_append_left hk2] at hk
      rw [List.getElem?_append_left (by rw [← b]; exact hk2)] at hl
      obtain ⟨d1, d2⟩ := d k pp l hk hl
      exact ⟨d1, by rw [upd_ne (show pp ≠ Dl from fun z => c (by rw [← z]; exact List.mem_of_getElem? hk))]; exact e4 _ _ d2⟩
    · have ek : k = ps.length := by
        have z := (List.getElem?_eq_some_iff.mp hk).1
        rw [List.length_append, List.length_singleton] at z
        omega
      rw [ek, List.getElem?_append_right (Nat.le_refl _), Nat.sub_self] at hk
      rw [ek, b, List.getElem?_append_right (Nat.le_refl _), Nat.sub_self] at hl
      cases hk
      cases hl
      exact ⟨fresh_back p2 nq, by rw [upd_ne neD]; exact hq⟩
def EvLN (te : TE) (σ : L2.St) (H : Hp) (ls : List (List V)) : Prop := ∀ H1, Ex H H1 → ∀ Q : VK, (∀ D H2, H1 D = none → Ex H1 H2 → LLN H1 H2 D ls → Q (.ref D) H2) → te σ H1 Q
theorem eln_lcR1 {j : Nat} {vs : List Nat} {n : Int} (L : Nat → List V) (h : EvA ta σ H [.int n]) (hn : 0 ≤ n ∧ n ≤ 40000)
    (hw : ∀ x, wipe ((wipe σ vs).set j (some x)) vs = wipe σ vs)
    (he : ∀ (i : Nat) H1, Ex H H1 → (i : Int) < n → EvL te ((wipe σ vs).set j (some (.int (i : Int)))) H1 (L i)) :
    EvLN (tLc (iRng1 ta) (gName j) tYes te vs) σ H ((List.range n.toNat).map L) := by
  intro H0 e Q q
  refine h H0 e _ fun H1 e1 => ⟨n, rfl, by omega, by omega, fun Dl hD => ?_⟩
  refine lc_range (lo := 0) (n := n.toNat) (RwN H1 L Dl) ⟨hD, Ex.new hD, [], upd_same, rfl, (by simp), List.nodup_nil, (fun i p l x => by simp at x)⟩ (fun i H' hi p => ?_)
    fun H' p => q Dl H' (fresh_back e1 p.1) (e1.trans p.2.1) (p.2.2.back e1)
  have e0 : (0 : Int) + (i : Int) = (i : Int) := Int.zero_add _
  show wipe ((wipe σ vs).set j (some (.int ((0 : Int) + (i : Int))))) vs = wipe σ vs ∧ tYes ((wipe σ vs).set j (some (.int ((0 : Int) + (i : Int))))) H' fun b H3 => if b = true then te ((wipe σ vs).set j (some (.int ((0 : Int) + (i : Int))))) H3 fun y H4 => ∃ acc, H4 Dl = some (.lst acc) ∧ acc.length < sizeLine ∧ RwN H1 L Dl (i + 1) (upd H4 Dl (.lst (acc ++ [y]))) else RwN H1 L Dl (i + 1) H3
  rw [e0]
  exact ⟨hw _, rwn_turn p (by omega) (he i H1 (e.trans e1) (by omega))⟩
end
end Vf
namespace Vf
open PySem PySem.Spec PyProof.Rows L2 Evl
/-! ### a new list of new tuples; a list many times over -/
section
variable {K : PySem.W.Frag} {σ : L2.St} {H H' : Hp} {ta : TA} {te tb tl : TE} {t : TT}
def TLAt (H2 : Hp) (D : Addr) (us : List (List V)) : Prop := ∃ ps : List Addr, H2 D = some (.lst (ps.map V.ref)) ∧ ps.length = us.length ∧ ∀ (i : Nat) (p : Addr) (u : List V), ps[i]? = some p → us[i]? = some u → H2 p = some (.tup u)
theorem TLAt.on {H2 H3 : Hp} {D : Addr} {us : List (List V)} (h : TLAt H2 D us) (e : Ex H2 H3) : TLAt H3 D us := by
  obtain ⟨ps, a, b, c⟩ := h
  exact ⟨ps, e _ _ a, b, fun i p l x y => e _ _ (c i p l x y)⟩
def RwT (H : Hp) (L : Nat → List V) (Dl : Addr) (i : Nat) (H' : Hp) : Prop := H Dl = none ∧ Ex H H' ∧ TLAt H' Dl ((List.range i).map L)
theorem rwt_turn {H H' : Hp} {L : Nat → List V} {Dl : Addr} {i : Nat} {σ2 : L2.St} (p : RwT H L Dl i H') (hi : i < 50000) (he : EvU te σ2 H (L i)) :
    te σ2 H' fun y H4 => ∃ acc, H4 Dl = some (.lst acc) ∧ acc.length < sizeLine ∧ RwT H L Dl (i + 1) (upd H4 Dl (.lst (acc ++ [y]))) := by
  obtain ⟨p1, p2, p3⟩ := p
  refine he H' p2 _ fun q H4 nq e4 hq => ?_
  obtain ⟨ps, a, b, d⟩ := p3
  have a4 := e4 _ _ a
  have neD : q ≠ Dl := fun z => by
    rw [← z, nq] at a
    cases a
  have len : ps.length = i := by rw [b, List.length_map, List.length_range]
  refine ⟨ps.map V.ref, a4, sz_lt (by rw [List.length_map]; omega), p1, Ex.mut (p2.trans e4) p1, ps ++ [q], ?_, ?_, ?_⟩
  · rw [upd_same, List.map_append]
    rfl
  · rw [List.range_succ, List.map_append, List.length_append, List.length_append, b]
    rfl
  · intro k pp l hk hl
    rw [List.range_succ, List.map_append] at hl
    by_cases hk2 : k < ps.length
    · rw [List.getElem?_append_left hk2] at hk
      rw [List.getElem?_append_left (by rw [← b]; exact hk2)] at hl
      have d2 := d k pp l hk hl
      have nD : pp ≠ Dl := fun z => by
        rw [z, a] at d2
        cases d2
      rw [upd_ne nD]
      exact e4 _ _ d2
    · have ek : k = ps.length := by
        have z := (List.getElem?_eq_some_iff.mp hk).1
        rw [List.length_append, List.length_singleton] at z
        omega
      rw [ek, List.getElem?_append_right (Nat.le_refl _), Nat.sub_self] at hk
      rw [ek, b, List.getElem?_append_right (Nat.le_refl _), Nat.sub_self] at hl
      cases hk
      cases hl
      rw [upd_ne neD]
      exact hq
def EvLT (te : TE) (σ : L2.St) (H : Hp) (us : List (List V)) : Prop := ∀ H1, Ex H H1 → ∀ Q : VK, (∀ D H2, H1 D = none → Ex H1 H2 → TLAt H2 D us → Q (.ref D) H2) → te σ H1 Q
theorem elt_lcL {a : Addr} {xs : List V} {j : Nat} {vs : List Nat} (L : Nat → List V) (h : Ev tl σ H (.ref a)) (hx : SqL K H a xs) (hz : xs.length ≤ 40000) (hw : ∀ x, wipe ((wipe σ vs).set j (some x)) vs = wipe σ vs)
    (he : ∀ (i : Nat) (x : V) H1, Ex H H1 → xs[i]? = some x → EvU te ((wipe σ vs).set j (some x)) H1 (L i)) :
    EvLT (tLc (iList K tl) (gName j) tYes te vs) σ H ((List.range xs.length).map L) := by
  intro H0 e Q q
  refine h H0 e _ fun H1 e1 => ⟨a, rfl, ⟨xs, ex_l (e.trans e1) hx⟩, fun Dl hD => ?_⟩
  refine lc_list (xs := xs) (RwT H1 L Dl) ⟨hD, Ex.new hD, [], upd_same, rfl, (fun i p l x => by simp at x)⟩ (fun i H' _ p => ex_l ((e.trans e1).trans p.2.1) hx) (fun i x H' hi p => ⟨hw x, ?_⟩)
    fun H' p => q Dl H' (fresh_back e1 p.1) (e1.trans p.2.1) p.2.2
  have hlt := (List.getElem?_eq_some_iff.mp hi).1
  show tYes ((wipe σ vs).set j (some x)) H' fun b H3 => if b = true then te ((wipe σ vs).set j (some x)) H3 fun y H4 => ∃ acc, H4 Dl = some (.lst acc) ∧ acc.length < sizeLine ∧ RwT H1 L Dl (i + 1) (upd H4 Dl (.lst (acc ++ [y]))) else RwT H1 L Dl (i + 1) H3
  exact rwt_turn p (by omega) (he i x H1 (e.trans e1) hi)
theorem el_rep {ta' : TE} {xs : List V} {k : Int} (h : EvL ta' σ H xs) (hk : Ev tb σ H (.int k)) (h0 : -100000 ≤ k ∧ k ≤ 100000) (hz : xs.length * k.toNat ≤ 100000) : EvL (tOp rRep ta' tb) σ H (List.replicate k.toNat xs).flatten := fun H1 e Q q =>
  h H1 e _ fun p H2 np e2 hp => hk H2 (e.trans e2) _ fun H3 e3 => ⟨p, k, xs, rfl, rfl, e3 _ _ hp, by omega, by omega, sz_of hz, fun p2 np2 => q p2 _ (fresh_back (e2.trans e3) np2) ((e2.trans e3).trans (Ex.new np2)) upd_same⟩
theorem q_asgLN {D : Ends} {tz : TS} {i : Nat} {ls : List (List V)} (h : EvLN te σ H ls) (k : ∀ A H1, H A = none → Ex H H1 → LLN H H1 A ls → tz D (σ.set i (some (.ref A))) H1) : tSeq (tAsg te (gName i)) tz D σ H :=
  h H (Ex.refl H) _ fun A H1 nA e1 hA => k A H1 nA e1 hA
theorem s_retLT {D : Ends} {us : List (List V)} (h : EvLT te σ H us) (k : ∀ A H1, H A = none → Ex H H1 → TLAt H1 A us → D.rt (.ref A) H1) : tRet te D σ H :=
  h H (Ex.refl H) _ fun A H1 nA e1 hA => k A H1 nA e1 hA
end
end Vf

/-! Lists of whole numbers: == and != as data. -/
namespace Vf
open PySem PySem.Spec PyProof.Rows L2 Evl
theorem eqv_ints : ∀ (a b : List Int), PyData.eqv (dInts a) (dInts b) = decide (a = b) := by
  have key : ∀ a b : List Int, PyData.eqvAll (a.map .int) (b.map .int) = decide (a = b) := by
    intro a
    induction a with
    | nil =>
      intro b
      cases b with
      | nil => rfl
      | cons y b => exact (decide_eq_false (by simp)).symm
    | cons x a ih =>
      intro b
      cases b with
      | nil => exact (decide_eq_false (by simp)).symm
      | cons y b =>
        show ((x == y) && PyData.eqvAll (a.map .int) (b.map .int)) = _
        rw [ih b, Bool.eq_iff_iff]
        simp
  exact key
theorem shaped_ints (a : List Int) : SeqAt.shaped (dInts a) = true := by
  have key : ∀ a : List Int, PyData.canLayAll0 (a.map .int) = true ∧ PyData.depthAll (a.map .int) = 0 := by
    intro a
    induction a with
    | nil => exact ⟨rfl, rfl⟩
    | cons x a ih =>
      refine ⟨?_, ?_⟩
      · show (PyData.canLay0 (.int x) && PyData.canLayAll0 (a.map .int)) = true
        rw [ih.1]
        rfl
      · show max (PyData.depth (.int x)) (PyData.depthAll (a.map .int)) = 0
        rw [ih.2]
        rfl
  refine Bool.and_eq_true_iff.mpr ⟨(key a).1, decide_eq_true ?_⟩
  show PyData.depthAll (a.map .int) + 1 ≤ 64
  rw [(key a).2]
  decide
section
variable {K : PySem.W.Frag} {H : Hp} {p q : Addr} {a b : List Int} {Q : VK}
theorem eq_ints (hp : SqL K H p (a.map V.int)) (hq : SqL K H q (b.map V.int)) (h : Q (.bl (decide (a = b))) H) : rEqD K (.ref p) (.ref q) H Q :=
  ⟨dInts a, dInts b, dp_ints hp, dp_ints hq, shaped_ints a, shaped_ints b, by rw [eqv_ints]; exact h⟩
theorem ne_ints (hp : SqL K H p (a.map V.int)) (hq : SqL K H q (b.map V.int)) (h : Q (.bl (!decide (a = b))) H) : rNeD K (.ref p) (.ref q) H Q :=
  ⟨dInts a, dInts b, dp_ints hp, dp_ints hq, shaped_ints a, shaped_ints b, by rw [eqv_ints]; exact h⟩
end
end Vf

/-! list(zip(xs, ys)): a new list of new tuples. -/
namespace Vf
open PySem PySem.Spec PyProof.Rows L2
section
variable {X : Cx}
/-- the zip's own cells -/
structure ZAt (h : Heap) (z TI TO i1 i2 l1 l2 : Addr) (i : Nat) : Prop where
  ti : IsPair h TI (.ref i1) (.ref i2)
  it1 : h.IsListIter i1 l1 i
  it2 : h.IsListIter i2 l2 i
  to : ∃ o, h.get? TO = some o
  st : (i = 0 ∧ IsZip h z TI TO .none ∧ ∃ a b, IsPair h TO a b) ∨ ∃ T f oT, IsZipHeld h z TI TO T f ∧ h.get? T = some oT ∧ T ≠ z ∧ T ≠ i1 ∧ T ≠ i2
theorem ZAt.on {h h' : Heap} {z TI TO i1 i2 l1 l2 S : Addr} {i : Nat} (Z : ZAt h z TI TO i1 i2 l1 l2 i) (hS : S ≠ z ∧ S ≠ TI ∧ S ≠ TO ∧ S ≠ i1 ∧ S ≠ i2) (e : ∀ b o, b ≠ S → h.get? b = some o → h'.get? b = some o) (hs : ∃ o, h'.get? S = some o) : ZAt h' z TI TO i1 i2 l1 l2 i := by
  obtain ⟨a, ⟨o1, b1, b2⟩, ⟨o2, c1, c2⟩, ⟨o3, t1⟩, d⟩ := Z
  refine ⟨e _ _ hS.2.1.symm a, ⟨o1, e _ _ hS.2.2.2.1.symm b1, b2⟩, ⟨o2, e _ _ hS.2.2.2.2.symm c1, c2⟩, ⟨o3, e _ _ hS.2.2.1.symm t1⟩, ?_⟩
  rcases d with ⟨d1, d2, x, y, d3⟩ | ⟨T, f, oT, d1, d2, d3, d4, d5⟩
  · exact .inl ⟨d1, e _ _ hS.1.symm d2, x, y, e _ _ hS.2.2.1.symm d3⟩
  · by_cases c : T = S
    · obtain ⟨o, hs⟩ := hs
      exact .inr ⟨T, f, o, e _ _ hS.1.symm d1, by rw [c]; exact hs, d3, d4, d5⟩
    · exact .inr ⟨T, f, oT, e _ _ hS.1.symm d1, e _ _ c d2, d3, d4, d5⟩
/-- one more pair drawn -/
theorem zip_draw {P : Program} {w : World} {A : Around} {E : Value → Shared → Prop} {s : Shared} {z TI TO i1 i2 l1 l2 : Addr} {i : Nat} {xs ys : Array Value} {x y : Value} {Q : Option Value → Shared → Prop} (ap : ZipApart z TI TO i1 i2 l1 l2)
    (Z : ZAt s.heap z TI TO i1 i2 l1 l2 i) (h1 : s.heap.IsList l1 xs) (h2 : s.heap.IsList l2 ys) (hx : xs[i]? = some x) (hy : ys[i]? = some y)
    (h : ∀ h' : Heap, ZAt h' z TI TO i1 i2 l1 l2 (i + 1) → IsPair h' s.heap.objs.size x y → h'.objs.size = s.heap.objs.size + 1 → (∀ (c : Addr) (o : Obj), c ≠ z → c ≠ TO → c ≠ i1 → c ≠ i2 → s.heap.get? c = some o → h'.get? c = some o) →
      Q (some (.ref s.heap.objs.size)) { heap := h', gens := s.gens, drawn := s.drawn, toks := s.toks, os := s.os }) :
    wpAny (model P w) A (pyNext (.ref z)) Q E s := by
  obtain ⟨a, b, c, ⟨o3, t1⟩, d⟩ := Z
  have lz : ∀ {q o}, s.heap.get? q = some o → s.heap.objs.size ≠ q := fun {q o} e z => absurd (Heap.lt_size e) (by rw [← z]; exact Nat.lt_irrefl _)
  obtain ⟨o1, b1, b2⟩ := b
  obtain ⟨o2, c1, c2⟩ := c
  rcases d with ⟨rfl, d2, u, v, d3⟩ | ⟨T, f, oT, d1, d2, d3, d4, d5⟩
  · refine wpAny_pyNext_zip_item ap d2 a d3 ⟨o1, b1, b2⟩ ⟨o2, c1, c2⟩ h1 h2 hx hy fun h' g1 g2 g3 g4 g5 g6 g7 => ?_
    exact h h' ⟨g7 _ _ ap.TIz ap.TITO ap.TIi1 ap.TIi2 a, g3, g4, ⟨_, g2⟩, .inr ⟨_, _, _, g1, g5, lz d2, lz b1, lz c1⟩⟩ g5 g6 g7
  · refine wpAny_pyNext_zip_item_held ap d1 d2 a ⟨o1, b1, b2⟩ ⟨o2, c1, c2⟩ h1 h2 hx hy fun h' g1 g3 g4 g5 g6 g7 => ?_
    exact h h' ⟨g7 _ _ ap.TIz ap.TIi1 ap.TIi2 a, g3, g4, ⟨_, g7 _ _ ap.TOz ap.TOi1 ap.TOi2 t1⟩, .inr ⟨T, _, _, g1, g7 _ _ d3 d4 d5 d2, d3, d4, d5⟩⟩ g5 g6 fun c o e1 _ e3 e4 => g7 c o e1 e3 e4
theorem zip_stop {P : Program} {w : World} {A : Around} {E : Value → Shared → Prop} {s : Shared} {z TI TO i1 i2 l1 l2 : Addr} {i : Nat} {xs ys : Array Value} {Q : Option Value → Shared → Prop} (hh : A.handled = none) (ap : ZipApart z TI TO i1 i2 l1 l2)
    (Z : ZAt s.heap z TI TO i1 i2 l1 l2 i) (h1 : s.heap.IsList l1 xs) (h2 : s.heap.IsList l2 ys) (hx : xs[i]? = none)
    (h : ∀ h' : Heap, (∀ (c : Addr) (o : Obj), c ≠ z → c ≠ TO → c ≠ i1 → c ≠ i2 → s.heap.get? c = some o → h'.get? c = some o) →
      Q none { heap := h', gens := s.gens, drawn := s.drawn, toks := s.toks, os := s.os }) :
    wpAny (model P w) A (pyNext (.ref z)) Q E s := by
  obtain ⟨a, b, c, _, d⟩ := Z
  rcases d with ⟨rfl, d2, u, v, d3⟩ | ⟨T, f, oT, d1, d2, d3, d4, d5⟩
  · exact wpAny_pyNext_zip_end hh ap d2 a d3 b c h1 h2 (.inl hx) h
  · exact wpAny_pyNext_zip_end_held hh ap d1 d2 a b c h1 h2 (.inl hx) fun h' g => h h' fun c o e1 _ e3 e4 => g c o e1 e3 e4
theorem zip_loop {pins : List (Addr × Obj)} {σ : L2.St} {z TI TO i1 i2 l1 l2 S : Addr} {xs ys : List V} {H0 : Hp} (ap : ZipApart z TI TO i1 i2 l1 l2) (hl : xs.length = ys.length) (hx : xs.length ≤ 1000) {A : Around} (hh : A.in1.handled = none)
    (fp : ∀ H s, L2.Inv X pins σ H s → (∀ b ∈ [z, TO, i1, i2], H b = none) → ∀ b ∈ [z, TO, i1, i2], FpOk X pins H b) {R : Result → Shared → Prop}
    (hS : S ≠ z ∧ S ≠ TI ∧ S ≠ TO ∧ S ≠ i1 ∧ S ≠ i2) (hX : ∀ H, (∀ b o, b ≠ S → H0 b = some o → H b = some o) → SqL X.K H l1 xs ∧ SqL X.K H l2 ys)
    (h : ∀ s' H' (ps : List Addr), L2.Inv X pins σ H' s' → (∀ b o, b ≠ S → H0 b = some o → H' b = some o) → H' S = some (.lst (ps.map V.ref)) → ps.length = xs.length →
      (∀ (j : Nat) (p : Addr), ps[j]? = some p → ∃ x y, xs[j]? = some x ∧ ys[j]? = some y ∧ H' p = some (.tup [x, y])) → R (.ok (.ret .none)) s') :
    ∀ (k i : Nat) (s : Shared) (H : Hp) (ps : List Addr), xs.length - i = k → i ≤ xs.length → L2.Inv X pins σ H s → (∀ b o, b ≠ S → H0 b = some o → H b = some o) → H S = some (.lst (ps.map V.ref)) → ps.length = i →
      (∀ (j : Nat) (p : Addr), ps[j]? = some p → ∃ x y, xs[j]? = some x ∧ ys[j]? = some y ∧ H p = some (.tup [x, y])) → (∀ b ∈ [z, TO, i1, i2], H b = none) → ZAt s.heap z TI TO i1 i2 l1 l2 i →
      codeAny (model X.prog X.w) A (Code.builtin "list.extend.loop" { pos := [.ref S, .ref z, .none] }) R s := by
  intro k
  induction k with
  | zero =>
    intro i s H ps hk hi I e hs hp ht hf Z
    obtain ⟨s1, s2⟩ := hX H e
    obtain ⟨its1, r1, p1, _⟩ := I.list s1
    obtain ⟨its2, r2, p2, _⟩ := I.list s2
    have f4 := fp H s I hf
    refine codeAny_builtin F.entry_extend_loop ?_
    rw [Around.under_plain (by rfl) (by rfl)]
    unfold Builtin.«list.extend.loop»
    refine wpAny_bind (zip_stop hh ap Z p1.isList p2.isList ?_ fun h' g => ?_)
    · have := r1.length
      simp
      omega
    · refine wpAny_pure ?_
      have I2 := I.turnedL (h' := h') (t' := s.toks) (ch := [z, TO, i1, i2]) (fun b o hb e => g b o (fun z => hb (by simp [z])) (fun z => hb (by simp [z])) (fun z => hb (by simp [z])) (fun z => hb (by simp [z])) e) f4
      exact h _ H ps I2 e hs (by omega) ht
  | succ k ih =>
    intro i s H ps hk hi I e hs hp ht hf Z
    obtain ⟨s1, s2⟩ := hX H e
    obtain ⟨its1, r1, p1, _⟩ := I.list s1
    obtain ⟨its2, r2, p2, _⟩ := I.list s2
    have f4 := fp H s I hf
    obtain ⟨x, hx⟩ : ∃ x, xs[i]? = some x := ⟨_, List.getElem?_eq_getElem (by omega)⟩
    obtain ⟨y, hy⟩ : ∃ y, ys[i]? = some y := ⟨_, List.getElem?_eq_getElem (by omega)⟩
    have q1 := vals_at r1 i
    have q2 := vals_at r2 i
    rw [hx] at q1
    rw [hy] at q2
    obtain ⟨u, hu, ru⟩ : ∃ u, its1[i]? = some u ∧ RelV x u := by
      cases hu : its1[i]? with
      | none => rw [hu] at q1; exact q1.elim
      | some u => rw [hu] at q1; exact ⟨u, rfl, q1⟩
    obtain ⟨v, hv, rv⟩ : ∃ v, its2[i]? = some v ∧ RelV y v := by
      cases hv : its2[i]? with
      | none => rw [hv] at q2; exact q2.elim
      | some v => rw [hv] at q2; exact ⟨v, rfl, q2⟩
    refine codeAny_builtin F.entry_extend_loop ?_
    rw [Around.under_plain (by rfl) (by rfl)]
    unfold Builtin.«list.extend.loop»
    refine wpAny_bind (zip_draw (x := u) (y := v) ap Z p1.isList p2.isList (by simpa using hu) (by simpa using hv) fun h' Z' hpair hsz g => ?_)
    have nT : H s.heap.objs.size = none := I.fresh
    have I2 := I.turnedNew (h' := h') (t' := s.toks) (ch := [z, TO, i1, i2]) (T := s.heap.objs.size) (ob := .tup [x, y]) (fun b o hb e => g b o (fun z => hb (by simp [z])) (fun z => hb (by simp [z])) (fun z => hb (by simp [z])) (fun z => hb (by simp [z])) e) f4 (Nat.le_refl _)
      ⟨by show 2 ≤ sizeLine; decide, [u, v], .cons ru (.cons rv .nil), ⟨_, hpair, rfl, _, rfl⟩⟩
    have nST : S ≠ s.heap.objs.size := ne_of_none hs nT
    have hs2 : upd H s.heap.objs.size (.tup [x, y]) S = some (.lst (ps.map V.ref)) := by rw [upd_ne nST]; exact hs
    obtain ⟨its, n, rs, hgS, _⟩ := I2.lst hs2
    have hlen := rs.length
    rw [List.length_map] at hlen
    have I3 := I2.lset (ys := (ps ++ [s.heap.objs.size]).map V.ref) (its' := its ++ [.ref s.heap.objs.size]) (f := fun x_1 => x_1.push (.ref s.heap.objs.size)) (t' := s.toks) hs2 hgS (by simp) (by rw [List.map_append]; exact rs.append (.cons rfl .nil)) (by rw [List.length_map, List.length_append]; show ps.length + 1 ≤ _; unfold sizeLine; omega)
    refine wpAny_bind (listUpdate_at hgS rfl ?_ (by unfold sizeLine; simp; omega) (by unfold sizeLine; simp; omega))
    refine wpAny_pure ⟨Code.quiet_builtin _ (by decide +kernel), ?_⟩
    have hT3 : ∀ b o, b ≠ S → upd H s.heap.objs.size (.tup [x, y]) b = some o → upd (upd H s.heap.objs.size (.tup [x, y])) S (.lst ((ps ++ [s.heap.objs.size]).map V.ref)) b = some o := fun b o nb hb => by rw [upd_ne nb]; exact hb
    have up1 : ∀ b o, H b = some o → upd H s.heap.objs.size (.tup [x, y]) b = some o := fun b o hb => by rw [upd_ne (ne_of_none hb nT)]; exact hb
    refine ih (i + 1) _ _ (ps ++ [s.heap.objs.size]) (by omega) (by omega) I3 (fun b o nb hb => hT3 b o nb (up1 b o (e b o nb hb))) upd_same (by rw [List.length_append]; show ps.length + 1 = i + 1; omega) (fun j p hp => ?_) (fun b hb => ?_) (Z'.on hS (fun b o nb hb => ?_) ?_)
    · by_cases c : j < ps.length
      · rw [List.getElem?_append_left c] at hp
        obtain ⟨x', y', h1, h2, h3⟩ := ht j p hp
        have np : p ≠ S := fun z => by rw [z, hs] at h3; cases h3
        exact ⟨x', y', h1, h2, hT3 p _ np (up1 p _ h3)⟩
      · rw [List.getElem?_append_right (by omega)] at hp
        have ej : j - ps.length = 0 := by
          rcases Nat.eq_zero_or_pos (j - ps.length) with z | z
          · exact z
          · rw [List.getElem?_eq_none (by show 1 ≤ _; exact z)] at hp; cases hp
        rw [ej] at hp
        cases hp
        refine ⟨x, y, ?_, ?_, hT3 _ _ nST.symm upd_same⟩
        · rw [show j = i by omega]; exact hx
        · rw [show j = i by omega]; exact hy
    · have nb0 := hf b hb
      have nbS : b ≠ S := fun z => by rw [z, hs] at nb0; cases nb0
      have hbT : b ≠ s.heap.objs.size := by
        obtain ⟨za, ⟨o1, zb, _⟩, ⟨o2, zc, _⟩, ⟨o3, zt⟩, zd⟩ := Z
        have lt : ∀ {q o}, s.heap.get? q = some o → q ≠ s.heap.objs.size := fun {q o} e z => absurd (Heap.lt_size e) (by rw [z]; exact Nat.lt_irrefl _)
        simp only [List.mem_cons, List.not_mem_nil, or_false] at hb
        rcases hb with rfl | rfl | rfl | rfl
        · rcases zd with ⟨_, d2, _⟩ | ⟨T, f, oT, d1, _⟩
          · exact lt d2
          · exact lt d1
        · exact lt zt
        · exact lt zb
        · exact lt zc
      rw [upd_ne nbS, upd_ne hbT]
      exact nb0
    · show (h'.update S _).get? b = some o
      rw [Heap.get?_update_ne _ _ _ _ nb]
      exact hb
    · exact ⟨_, Heap.get?_update_self _ hgS rfl⟩
end
end Vf

/-! list(zip(xs, ys)), the call. -/
namespace Vf
open PySem PySem.Spec PyProof.Rows L2 Evl
theorem zip_no_len : typeLookup (Value.type "zip") (Str.ofString "__len__") = pure none := by kernel_rfl
theorem zip_no_hint : typeLookup (Value.type "zip") (Str.ofString "__length_hint__") = pure none := by kernel_rfl
theorem wp_hint_zip {M : Model} {A : Around} {E : Value → Shared → Prop} {s : Shared} {z : Value} {Q : Bool → Shared → Prop} (hT : s.TypeIs z "zip") (h : Q true s) : wpAny M A (Builtin.List.listLengthHint z) Q E s := by
  unfold Builtin.List.listLengthHint
  refine wpAny_bind (wpAny_specialOf hT zip_no_len ?_)
  dsimp only
  rw [if_neg (by decide), if_neg (by decide)]
  refine wpAny_bind (wpAny_specialOf hT zip_no_hint ?_)
  exact wpAny_pure h
theorem ext_zip {P : Program} {w : World} {A : Around} {s : Shared} {R : Result → Shared → Prop} {z TI TO S : Addr} (hz : IsZip s.heap z TI TO .none) (hS : s.heap.get? S = some { cls := .type "list", data := .seq #[] }) (hne : S ≠ z)
    (h : codeAny (model P w) A (Code.builtin "list.extend.loop" { pos := [.ref S, .ref z, .none] }) R { s with heap := (s.heap.update S (Obj.mapSeq fun x => x.push .none)).update S (Obj.mapSeq fun x => x.pop) }) :
    wpAny (model P w) A.in1 (Builtin.List.listExtendWith (.ref S) (.ref z) .none)
      (fun fin s' => match fin with
        | .done f => R (.ok f) s'
        | .again c' => c'.quiet = true ∧ codeAny (model P w) A c' R s')
      (fun e s' => R (.error e) s') s := by
  have hT2 : Shared.TypeIs s (.ref z) "zip" := ⟨_, hz, rfl⟩
  have k7 : Builtin.List.listSameRef (.ref S) (.ref z) = false := by
    unfold Builtin.List.listSameRef
    simp [hne]
  unfold Builtin.List.listExtendWith
  generalize hPI : pyIter = PI
  generalize hLT : Builtin.List.listTouch = LT
  generalize hLH : Builtin.List.listLengthHint = LH
  wp_walk
  subst hPI
  refine wpAny_pyIter_zip hz ?_
  wp_walk
  subst hLH
  refine wp_hint_zip hT2 ?_
  wp_walk
  subst hLT
  unfold Builtin.List.listTouch
  refine wpAny_bind (listUpdate_at hS rfl ?_ (by decide) (by decide))
  refine listUpdate_at (Heap.get?_update_self _ hS rfl) rfl ?_ (by decide) (by decide)
  exact wpAny_pure ⟨Code.quiet_builtin _ (by decide +kernel), h⟩
theorem li_kind : builtinKind "list.__init__" = some .slot := by kernel_rfl
theorem li_split : splitId "list.__init__" = some ("list", "__init__") := by kernel_rfl
theorem check_list_init_1 {M : Model} {A : Around} {E : Value → Shared → Prop} {s : Shared} {self a : Value} {Q : Unit → Shared → Prop} (hT : s.TypeIs self "list") (h : Q () s) : wpAny M A (checkBuiltinCall "list.__init__" { pos := [self, a] }) Q E s := by
  have k := F.args_list_init_2 self a
  unfold argsOk at k
  unfold checkBuiltinCall
  rw [li_kind, li_split]
  dsimp only
  have ks : isSubtype (.type "list") (.type "list") = pure true := F.called_list.sub
  repeat (any_goals (first | assumption | wp_step))
section
variable {X : Cx}
theorem zip_run {pins : List (Addr × Obj)} {σ : L2.St} {z TI TO i1 i2 l1 l2 : Addr} {xs ys : List V} {H : Hp} {s : Shared} {R : Result → Shared → Prop} (ap : ZipApart z TI TO i1 i2 l1 l2) (hl : xs.length = ys.length) (hx : xs.length ≤ 1000) {A : Around} (hh : A.in1.handled = none)
    (I : L2.Inv X pins σ H s) (fp : ∀ b ∈ [z, TO, i1, i2], FpOk X pins H b) (Z : ZAt s.heap z TI TO i1 i2 l1 l2 0) (hz : IsZip s.heap z TI TO .none) (s1 : SqL X.K H l1 xs) (s2 : SqL X.K H l2 ys)
    (h : ∀ (s' : Shared) (H' : Hp) (ps : List Addr), L2.Inv X pins σ H' s' → (∀ b o, b ≠ s.heap.objs.size → H b = some o → H' b = some o) → H' s.heap.objs.size = some (.lst (ps.map V.ref)) → ps.length = xs.length →
      (∀ (j : Nat) (p : Addr), ps[j]? = some p → ∃ x y, xs[j]? = some x ∧ ys[j]? = some y ∧ H' p = some (.tup [x, y])) → R (.ok (.ret .none)) s') :
    codeAny (model X.prog X.w) A (Code.builtin "list.extend.loop" { pos := [.ref s.heap.objs.size, .ref z, .none] }) R
      { s with heap := (((s.heap.push { cls := .type "list", data := .seq #[] }).update s.heap.objs.size (Obj.mapSeq fun x => #[])).update s.heap.objs.size (Obj.mapSeq fun x => x.push .none)).update s.heap.objs.size (Obj.mapSeq fun x => x.pop) } := by
  have hS : (s.heap.push { cls := .type "list", data := .seq #[] }).get? s.heap.objs.size = some { cls := .type "list", data := .seq #[] } := Heap.get?_push_size _ rfl
  have g1 : ((s.heap.push { cls := .type "list", data := .seq #[] }).update s.heap.objs.size (Obj.mapSeq fun x => #[])).get? s.heap.objs.size = some { cls := .type "list", data := .seq #[] } := Heap.get?_update_self _ hS rfl
  have nS : H s.heap.objs.size = none := I.fresh
  have lt : ∀ {q o}, s.heap.get? q = some o → s.heap.objs.size ≠ q := fun {q o} e z => absurd (Heap.lt_size e) (by rw [← z]; exact Nat.lt_irrefl _)
  obtain ⟨o1, zb, _⟩ := Z.it1
  obtain ⟨o2, zc, _⟩ := Z.it2
  obtain ⟨o3, zt⟩ := Z.to
  have hall : s.heap.objs.size ≠ z ∧ s.heap.objs.size ≠ TI ∧ s.heap.objs.size ≠ TO ∧ s.heap.objs.size ≠ i1 ∧ s.heap.objs.size ≠ i2 := ⟨lt hz, lt Z.ti, lt zt, lt zb, lt zc⟩
  have I1 := I.lnew (ys := []) (its := []) (t' := s.toks) .nil (Nat.zero_le _)
  have I2 := I1.lset (ys := []) (its' := []) (f := fun x => #[]) (t' := s.toks) upd_same hS rfl .nil (Nat.zero_le _)
  have I3 := I2.lset (ys := [.non]) (its' := [.none]) (f := fun x => x.push .none) (t' := s.toks) upd_same g1 rfl (.cons rfl .nil) (by decide)
  have g3 := Heap.get?_update_self (Obj.mapSeq fun x => x.push .none) g1 rfl
  have I4 := I3.lset (ys := []) (its' := []) (f := fun x => x.pop) (t' := s.toks) upd_same g3 rfl .nil (Nat.zero_le _)
  have Z4 : ZAt ((((s.heap.push { cls := .type "list", data := .seq #[] }).update s.heap.objs.size (Obj.mapSeq fun x => #[])).update s.heap.objs.size (Obj.mapSeq fun x => x.push .none)).update s.heap.objs.size (Obj.mapSeq fun x => x.pop)) z TI TO i1 i2 l1 l2 0 := by
    refine Z.on hall (fun b o nb hb => ?_) ⟨_, Heap.get?_update_self _ g3 rfl⟩
    rw [Heap.get?_update_ne _ _ _ _ nb, Heap.get?_update_ne _ _ _ _ nb, Heap.get?_update_ne _ _ _ _ nb]
    exact Heap.get?_push_of_some _ hb
  have hE : ∀ b (o : HO), b ≠ s.heap.objs.size → H b = some o → upd (upd (upd (upd H s.heap.objs.size (HO.lst [])) s.heap.objs.size (HO.lst [])) s.heap.objs.size (HO.lst [V.non])) s.heap.objs.size (HO.lst []) b = some o := fun b o nb hb => by
    rw [upd_ne nb, upd_ne nb, upd_ne nb, upd_ne nb]
    exact hb
  have hf : ∀ b ∈ [z, TO, i1, i2], upd (upd (upd (upd H s.heap.objs.size (HO.lst [])) s.heap.objs.size (HO.lst [])) s.heap.objs.size (HO.lst [V.non])) s.heap.objs.size (HO.lst []) b = none := fun b hb => by
    have nb : b ≠ s.heap.objs.size := by
      simp only [List.mem_cons, List.not_mem_nil, or_false] at hb
      rcases hb with rfl | rfl | rfl | rfl
      · exact hall.1.symm
      · exact hall.2.2.1.symm
      · exact hall.2.2.2.1.symm
      · exact hall.2.2.2.2.symm
    rw [upd_ne nb, upd_ne nb, upd_ne nb, upd_ne nb]
    exact (fp b hb).1
  have hup : upd (upd (upd (upd H s.heap.objs.size (HO.lst [])) s.heap.objs.size (HO.lst [])) s.heap.objs.size (HO.lst [V.non])) s.heap.objs.size (HO.lst []) s.heap.objs.size = some (HO.lst []) := upd_same
  generalize upd (upd (upd (upd H s.heap.objs.size (HO.lst [])) s.heap.objs.size (HO.lst [])) s.heap.objs.size (HO.lst [V.non])) s.heap.objs.size (HO.lst []) = H4 at I4 hE hf hup
  exact zip_loop (X := X) (pins := pins) (σ := σ) (H0 := H) (S := s.heap.objs.size) (xs := xs) (ys := ys) ap hl hx hh (fun H s _ hf b hb => ⟨hf b hb, (fp b hb).2⟩) hall (fun H2 e => ⟨ex_l (fun b o hb => e b o (ne_of_none hb nS) hb) s1, ex_l (fun b o hb => e b o (ne_of_none hb nS) hb) s2⟩) h
    xs.length 0 _ H4 [] (by omega) (Nat.zero_le _) I4 hE hup rfl (fun j p hp => nomatch hp) hf Z4
theorem call_list_zip {pins : List (Addr × Obj)} {σ : L2.St} {z TI TO i1 i2 l1 l2 : Addr} {xs ys : List V} {H : Hp} {s : Shared} {Q : Value → Shared → Prop} {E : Value → Shared → Prop} (ap : ZipApart z TI TO i1 i2 l1 l2) (hl : xs.length = ys.length) (hx : xs.length ≤ 1000) {A : Around} (hh : A.handled = none)
    (I : L2.Inv X pins σ H s) (fp : ∀ b ∈ [z, TO, i1, i2], FpOk X pins H b) (Z : ZAt s.heap z TI TO i1 i2 l1 l2 0) (hz : IsZip s.heap z TI TO .none) (s1 : SqL X.K H l1 xs) (s2 : SqL X.K H l2 ys)
    (h : ∀ (s' : Shared) (H' : Hp) (S : Addr) (ps : List Addr), L2.Inv X pins σ H' s' → Ex H H' → H S = none → H' S = some (.lst (ps.map V.ref)) → ps.length = xs.length →
      (∀ (j : Nat) (p : Addr), ps[j]? = some p → ∃ x y, xs[j]? = some x ∧ ys[j]? = some y ∧ H' p = some (.tup [x, y])) → Q (.ref S) s') :
    wpAny (model X.prog X.w) A (call (.type "list") [.ref z]) Q E s := by
  obtain ⟨c, tl, hmro⟩ := F.called_list.mro
  have hmade := F.called_list.made
  have hsub := F.called_list.sub
  refine wpAny_call (codeAny_of_tree ?_)
  show wpAny _ _ (callAny (.type "list") _) _ _ _
  refine wpAny_pure ⟨Code.quiet_builtin _ (by decide +kernel), codeAny_builtin F.entry_type_call ?_⟩
  rw [Around.under_plain (weight_type_call_type "list" [.ref z] []) rfl]
  have k1 := F.called_list.notType
  have k2 := F.called_list.canCreate
  have k3 := F.typeCall_list_1 (.ref z)
  repeat (any_goals (first | assumption | wp_step))
  refine codeAny_mono (code_list_new (.ref z) (E := E) (Q₁ := fun obj s₁ => obj = .ref s.heap.objs.size ∧ s₁ = { s with heap := s.heap.push { cls := .type "list", data := .seq #[] } }) ⟨rfl, rfl⟩) ?_
  intro r s₁ hr
  cases r with
  | error e => exact hr
  | ok fl =>
    cases fl with
    | ret obj =>
      obtain ⟨rfl, rfl⟩ := hr
      have hS : (s.heap.push { cls := .type "list", data := .seq #[] }).get? s.heap.objs.size = some { cls := .type "list", data := .seq #[] } := Heap.get?_push_size _ rfl
      have hT : Shared.TypeIs { s with heap := s.heap.push { cls := .type "list", data := .seq #[] } } (.ref s.heap.objs.size) "list" := ⟨_, hS, rfl⟩
      have k4 := F.called_list.init.lookup
      have k5 := F.called_list.init.bind (.ref s.heap.objs.size)
      repeat (any_goals (first | assumption | wp_step))
      let G : Value → Shared → Prop := fun r s₂ => r = .none ∧ ∃ (H' : Hp) (ps : List Addr), L2.Inv X pins σ H' s₂ ∧ (∀ b o, b ≠ s.heap.objs.size → H b = some o → H' b = some o) ∧ H' s.heap.objs.size = some (.lst (ps.map V.ref)) ∧ ps.length = xs.length ∧
        (∀ (j : Nat) (p : Addr), ps[j]? = some p → ∃ x y, xs[j]? = some x ∧ ys[j]? = some y ∧ H' p = some (.tup [x, y]))
      refine codeAny_mono (codeAny_call_builtin (R := wants G E) F.called_list.init.plain F.entry_list_init (check_list_init_1 hT ?_)) ?_
      · have hne : s.heap.objs.size ≠ z := fun e => absurd (Heap.lt_size hz) (by rw [e]; exact Nat.lt_irrefl _)
        have hz2 : IsZip (s.heap.push { cls := .type "list", data := .seq #[] }) z TI TO .none := Heap.get?_push_of_some _ hz
        unfold Builtin.«list.__init__»
        generalize hEW : Builtin.List.listExtendWith = EW
        wp_walk
        subst hEW
        have g1 : ((s.heap.push { cls := .type "list", data := .seq #[] }).update s.heap.objs.size (Obj.mapSeq fun x => #[])).get? s.heap.objs.size = some { cls := .type "list", data := .seq #[] } := Heap.get?_update_self _ hS rfl
        have g2 : IsZip ((s.heap.push { cls := .type "list", data := .seq #[] }).update s.heap.objs.size (Obj.mapSeq fun x => #[])) z TI TO .none := by
          show Heap.get? _ _ = _
          rw [Heap.get?_update_ne _ _ _ _ hne.symm]
          exact hz2
        refine ext_zip g2 g1 hne ?_
        exact zip_run ap hl hx (by simp [hh]) I fp Z hz s1 s2 fun s' H' ps J e hp hlen ht => ⟨rfl, H', ps, J, e, hp, hlen, ht⟩
      · intro r₂ s₂ hr₂
        cases r₂ with
        | error e => exact hr₂
        | ok fl₂ =>
          cases fl₂ with
          | ret r =>
            obtain ⟨rfl, H', ps, J, e, hp, hlen, ht⟩ := hr₂
            have nS : H s.heap.objs.size = none := I.fresh
            repeat (any_goals (first | assumption | wp_step))
            exact h _ H' _ ps J (fun b o hb => e b o (ne_of_none hb nS) hb) nS hp hlen ht
          | _ => exact hr₂.elim
    | _ => exact hr.elim
end
end Vf

/-! list(zip(xs, ys)), the rule; sums of bools. -/
namespace Vf
open PySem PySem.Spec PyProof.Rows L2 Evl
section
variable {X : Cx} {K : PySem.W.Frag}
def tLstZip (K : PySem.W.Frag) (ta : TA) : TE := fun σ H Q => ta σ H fun vs H1 => ∃ (a b : Addr) (xs ys : List V), vs = [.ref a, .ref b] ∧ SqL K H1 a xs ∧ SqL K H1 b ys ∧ xs.length = ys.length ∧ xs.length ≤ 1000 ∧
  ∀ (l : Addr) (ps : List Addr) (H2 : Hp), H1 l = none → Ex H1 H2 → H2 l = some (.lst (ps.map V.ref)) → ps.length = xs.length → (∀ (j : Nat) (p : Addr), ps[j]? = some p → ∃ x y, xs[j]? = some x ∧ ys[j]? = some y ∧ H2 p = some (.tup [x, y])) → Q (.ref l) H2
theorem pe_listZip {e e2 : Expr} {ta : TA} {p p2 pos pos2 : Pos} (hK : X.K = K) (hc : X.calm = true) (hg : Gl X "list") (hm : X.mg "list" = none) (hg2 : Gl X "zip") (hm2 : X.mg "zip" = none) (he : PA X [e, e2] ta)
    (hs : starEach [e, e2] X.env = (false, eval e X.env) :: starEach [e2] X.env := by rfl) (hs2 : ((backTo pos2 (starEach [e2] X.env)).any fun x => x.fst) = false := by rfl)
    (hs3 : starEach [Expr.Call (.Name "zip" p2) [e, e2] [] pos2] X.env = [(false, eval (.Call (.Name "zip" p2) [e, e2] [] pos2) X.env)] := by rfl) :
    PE X (.Call (.Name "list" p) [.Call (.Name "zip" p2) [e, e2] [] pos2] [] pos) (tLstZip K ta) := by
  subst hK
  refine ⟨fun pins s σ H Q I h => Call_Name1 (ld_blt I hg hm (u := .type "list") (by decide +kernel) (PySem.callWith_type1 ?_) (by decide) (by decide)) hs3⟩
  refine Call_Name rfl (ld_blt I hg2 hm2 (u := .type "zip") (by decide +kernel) (PyProof.Rows.callWith_type1 ?_ hs hs2) (by decide) (by decide))
  refine thn (he.run pos2 pins s σ H _ I h) fun us s2 ⟨vs, H1, I1, rv, a, b, xs, ys, hvs, s1, s2', hl, hx, k⟩ => ?_
  subst hvs
  obtain ⟨its1, r1, p1, _⟩ := I1.list s1
  obtain ⟨its2, r2, p2, _⟩ := I1.list s2'
  have hus : us = [.ref a, .ref b] := by
    cases rv with
    | cons h1 t =>
      cases t with
      | cons h2 t =>
        cases t
        rw [show _ = Value.ref a from h1, show _ = Value.ref b from h2]
  rw [hus]
  refine call_zip_2 p1.isList p2.isList fun h' g1 g2 g3 g4 g5 g6 g7 => ?_
  have I2 := I1.kept (h' := h') (t' := s2.toks) g7
  have nn : ∀ q, s2.heap.objs.size ≤ q → H1 q = none := fun q hq => I1.hok.fresh hq
  have fo : ∀ q, s2.heap.objs.size ≤ q → FpOk X pins H1 q := fun q hq => I1.fpOk hq (nn q hq)
  have L1 : a < s2.heap.objs.size := p1.lt
  have L2' : b < s2.heap.objs.size := p2.lt
  refine call_list_zip (zipApart_new L1 L2') hl hx (I.ok.hd hc) I2 (fun q hq => ?_) ⟨g2, g4, g5, ⟨_, g3⟩, .inl ⟨rfl, g1, _, _, g3⟩⟩ g1 s1 s2' (fun s' H' S ps J e nS hp hlen ht => ⟨.ref S, H', J, rfl, k S ps H' nS e hp hlen ht⟩)
  simp only [List.mem_cons, List.not_mem_nil, or_false] at hq
  rcases hq with rfl | rfl | rfl | rfl
  · exact fo _ (Nat.le_add_right _ _)
  · exact fo _ (Nat.le_add_right _ _)
  · exact fo _ (Nat.le_refl _)
  · exact fo _ (Nat.le_add_right _ _)
def bcnt (bs : List Bool) : Int := (bs.filter id).length
def rSumB (K : PySem.W.Frag) : List V → Hp → VK → Prop := fun vs H Q => ∃ (a : Addr) (bs : List Bool), vs = [.ref a] ∧ SqL K H a (bs.map V.bl) ∧ Q (.int (bcnt bs)) H
theorem pre_cnt (bs : List Bool) : ∀ n, n ≤ bs.length → preSum (fun i => if bs.getD i false = true then 1 else 0) n = bcnt (bs.take n) := by
  intro n
  induction n with
  | zero => intro _; rfl
  | succ n ih =>
    intro hn
    have hx : bs[n]? = some bs[n] := List.getElem?_eq_getElem (by omega)
    have e : preSum (fun i => if bs.getD i false = true then (1 : Int) else 0) (n + 1) = preSum (fun i => if bs.getD i false = true then 1 else 0) n + if bs.getD n false = true then 1 else 0 := rfl
    rw [e, ih (by omega), take_snoc hx, List.getD_eq_getElem?_getD, hx]
    unfold bcnt
    rw [List.filter_append, List.length_append]
    cases bs[n] <;> simp
theorem cr_sumB (hc : X.calm = true) (hK : X.K = K) : CallR X (.builtin "sum") (rSumB K) := by
  subst hK
  intro pins s σ H xs us Q I r h
  obtain ⟨a, bs, rfl, hs, q⟩ := h
  obtain ⟨its, rv, pl, _⟩ := I.list hs
  rw [Vals.ref1 r]
  have hlen := rv.length
  rw [List.length_map] at hlen
  refine call_sum_walkAnyB (wpAny_pyIter_list pl.isList ?_)
  have hls : a < s.heap.objs.size := pl.lt
  refine ⟨_, _, _, _, _, _, _, fun i => if bs.getD i false = true then 1 else 0, rfl, (Walks.list (by simp [I.ok.hd hc]) _ a (Nat.ne_of_lt hls) its.toArray).toS, ⟨⟨_, Heap.get?_push_size _ rfl, rfl, rfl⟩, pl.isList.push _⟩, fun b hb => ?_, fun i v hv => ?_, fun s' t' M => ?_⟩
  · show b < (s.heap.push _).objs.size
    rw [Heap.size_push]
    simp only [List.mem_cons, List.not_mem_nil, or_false] at hb
    rcases hb with rfl | rfl
    · exact Nat.lt_succ_self _
    · exact Nat.lt_succ_of_lt hls
  · have z := vals_at rv i
    have hv : its[i]? = some v := by simpa using hv
    rw [hv] at z
    have hi : i < bs.length := by
      rw [hlen]
      exact (List.getElem?_eq_some_iff.mp hv).1
    have hx : bs[i]? = some bs[i] := List.getElem?_eq_getElem hi
    rw [List.getElem?_map, hx] at z
    refine .inr ⟨bs[i], z, ?_⟩
    show (if bs.getD i false = true then (1 : Int) else 0) = _
    rw [List.getD_eq_getElem?_getD, hx]
    rfl
  · obtain ⟨h', g2, d', tk', os'⟩ := s'
    obtain rfl : g2 = s.gens := M.gens
    obtain rfl : d' = s.drawn := M.drawn
    obtain rfl : os' = s.os := M.os
    have e : preSum (fun i => if bs.getD i false = true then (1 : Int) else 0) its.toArray.size = bcnt bs := by
      rw [List.size_toArray, ← hlen, pre_cnt bs _ (Nat.le_refl _), List.take_length]
    rw [e]
    refine ⟨.int (bcnt bs), H, I.kept (fun b u hb => M.heap b u (fun hm => ?_) (Heap.get?_push_of_some _ hb)), ⟨_, rfl⟩, q⟩
    have := Heap.lt_size hb
    rw [List.mem_singleton.mp hm] at this
    exact Nat.lt_irrefl _ this
end
end Vf

/-! {t: v}, t a tuple; xs[i] read where it is changed. -/
namespace Vf
open PySem PySem.Spec PyProof.Rows L2 Evl
section
variable {X : Cx} {K : PySem.W.Frag}
def rGetL (K : PySem.W.Frag) : V → V → Hp → VK → Prop := fun o i H Q => ∃ (p : Addr) (xs : List V) (j : Nat) (v : V), o = .ref p ∧ i = .int (j : Int) ∧ SqL K H p xs ∧ xs[j]? = some v ∧ Q v H
theorem get_listK (hK : X.K = K) : PGet X (rGetL K) := by
  subst hK
  intro pins s σ H o i ov iv Q I ro ri h
  obtain ⟨p, xs, j, v, rfl, rfl, hs, hx, q⟩ := h
  obtain ⟨its, rv, pl, hz⟩ := I.list hs
  cases (show ov = Value.ref p from ro)
  obtain ⟨t, rfl⟩ : ∃ t, iv = Value.int (j : Int) t := ri
  have z := vals_at rv j
  rw [hx] at z
  cases hu : its[j]? with
  | none => rw [hu] at z; exact z.elim
  | some u =>
    rw [hu] at z
    have hj : j < xs.length := (List.getElem?_eq_some_iff.mp hx).1
    refine wpAny_getItem_list pl.isList (by omega) (by unfold sizeLine at hz; omega) (by simpa using hu) ⟨v, H, I, z, q⟩
theorem eval_disp1 (k v : Expr) (env : Env) (pos : Pos) : eval (Expr.Dict [some k] [v] pos) env = (do standAt pos; let d ← subDict (pairTrees [some k] [v] env pos); pure (Value.ref d)) := by
  rw [arm_eval_Dict, ← dictDisplay_pairs _ (by simp [pairTrees]) (by simp [pairTrees])]
  rfl
/-- {t: v}, t a tuple -/
def tDisp1T (tk tv : TE) : TE := fun σ H Q => ∀ p, H p = none → tk σ (upd H p (.dT [])) fun x H1 => tv σ H1 fun y H2 => ∃ (b : Addr) (k : List Key), x = .ref b ∧ H2 b = some (.tup (k.map kV)) ∧ H2 p = some (.dT []) ∧ Q (.ref p) (upd H2 p (.dT [(k, y)]))
theorem pe_disp1T {k v : Expr} {tk tv : TE} {pos : Pos} (hu : X.A.units < cLine) (hk : PE X k tk) (hv : PE X v tv) : PE X (.Dict [some k] [v] pos) (tDisp1T tk tv) := by
  refine ⟨fun pins s σ H Q I h => ?_⟩
  rw [eval_disp1]
  refine wpAny_bind ?_
  wp_step
  refine wpAny_bind (wpAny_subDict_any (pairs := pairTrees [some k] [v] X.env pos) (by show 1 ≤ 15; decide) ?_)
  have nD : H s.heap.objs.size = none := I.fresh
  have hD : (s.heap.push { cls := .type "dict", data := .dict #[] }).get? s.heap.objs.size = some { cls := .type "dict", data := .dict #[] } := Heap.get?_push_size _ rfl
  have nsm : (s.heap.objs.size == sysModules) = false := by
    have := I.big
    exact beq_eq_false_iff_ne.mpr fun z => absurd this (by rw [z]; exact Nat.lt_irrefl _)
  have I1 : L2.Inv X pins σ (upd H s.heap.objs.size (.dT [])) { s with heap := s.heap.push { cls := .type "dict", data := .dict #[] } } :=
    I.laid (t' := s.toks) (fun b u e => Heap.get?_push_of_some _ e) (Nat.le_refl _) ⟨Nat.zero_le _, nsm, [], .nil, _, _, _, hD, ⟨rfl, rfl, rfl⟩, rfl, rfl, .nil⟩
  have T := h s.heap.objs.size nD
  have P2 : PPs X pos [some k] [v] [(tk, tv)] := pps_cons hk hv pps_nil
  refine thn (P2.run pins _ σ _ (fun ps H2 => match ps with | [(x, y)] => ∃ (b : Addr) (k : List Key), x = .ref b ∧ H2 b = some (.tup (k.map kV)) ∧ H2 s.heap.objs.size = some (.dT []) ∧ Q (.ref s.heap.objs.size) (upd H2 s.heap.objs.size (.dT [(k, y)])) | _ => False) I1 T) fun vs s2 ⟨ps, H2, I2, vv, z⟩ => ?_
  · match ps, vv, z with
    | [(x, y)], vv, ⟨b, kk, hx, hb, hp, q⟩ =>
    subst hx
    obtain ⟨u, r, rfl, hu1, hr1⟩ : ∃ u r, vs = [(u, r)] ∧ RelV (.ref b) u ∧ RelV y r := by
      cases vv with
      | cons h1 t =>
        cases t
        exact ⟨_, _, rfl, h1.1, h1.2⟩
    cases (show u = Value.ref b from hu1)
    obtain ⟨_, _, xs, kt, dh⟩ := dt_of I2.hok hp
    have e0 : xs = [] := by cases kt; rfl
    subst e0
    unfold storeAll
    rw [List.forIn_cons]
    refine wpAny_bind (wpAny_bind (wpAny_dictSet_heap (knd := tupleKind (mixKind X.prog X.w)) hu (key_of I2.hok hb) dh (fun h' dh' sb => ?_) (by decide)))
    refine wpAny_pure ?_
    refine wpAny_pure ?_
    refine wpAny_pure ?_
    obtain ⟨o, es, ep, d1, d2, d3, d4, _, d6⟩ := dh'
    have nbD : b ≠ s.heap.objs.size := fun z => by rw [z, hp] at hb; cases hb
    refine ⟨.ref s.heap.objs.size, _, I2.write (h' := h') (x := s.heap.objs.size) (e := s.heap.objs.size) (o := .dT [(kk, y)]) (t' := s2.toks + (tupleKind (mixKind X.prog X.w)).draws kk) (by rw [hp]; trivial) (.inl rfl) (fun q u nq e => ?_) ⟨_, d1⟩ ⟨by show 1 ≤ sizeLine; decide, nsm, [(kk, b, r)], .cons ⟨rfl, ?_, hr1⟩ .nil, o, es, ep, d1, d2, d3, d4, d6⟩, rfl, q⟩
    · exact (sb.2 q nq).trans e
    · show upd H2 s.heap.objs.size _ b = _
      rw [upd_ne nbD]
      exact hb
theorem mt_indexK (h : X.K = K) : MtR X "list.index" (rIndex K) := by subst h; exact mt_index
end
end Vf

namespace K24
open PySem PySem.Spec PyProof.Rows L2 Vf Evl
def topS (i : Nat) : Stmt := PySem.Challenge.pw_apartcalls_k24_whole_none_and_all_tied.main.body.getD i (.Pass ⟨0, 0, 0, 0⟩)
abbrev s_is_whole : Stmt := topS 11
theorem sc_is_whole : FnScope ["thing"] ["thing"] (defScope s_is_whole) :=
  ⟨rfl, rfl, rfl, by decide +kernel, rfl, by decide +kernel, by decide +kernel⟩
abbrev s_is_from_one : Stmt := topS 12
theorem sc_is_from_one : FnScope ["thing", "most"] ["thing", "most"] (defScope s_is_from_one) :=
  ⟨rfl, rfl, rfl, by decide +kernel, rfl, by decide +kernel, by decide +kernel⟩
abbrev s_first_wrong : Stmt := topS 13
theorem sc_first_wrong : FnScope ["things", "most", "seen", "at", "thing"] ["things", "most"] (defScope s_first_wrong) :=
  ⟨rfl, rfl, rfl, by decide +kernel, rfl, by decide +kernel, by decide +kernel⟩
abbrev s_check_count : Stmt := topS 14
theorem sc_check_count : FnScope ["number"] ["number"] (defScope s_check_count) :=
  ⟨rfl, rfl, rfl, by decide +kernel, rfl, by decide +kernel, by decide +kernel⟩
abbrev s_is_tie : Stmt := topS 15
theorem sc_is_tie : FnScope ["thing", "seats"] ["thing", "seats"] (defScope s_is_tie) :=
  ⟨rfl, rfl, rfl, by decide +kernel, rfl, by decide +kernel, by decide +kernel⟩
abbrev s_check_ties : Stmt := topS 16
theorem sc_check_ties : FnScope ["ties", "seats", "tied", "at", "tie", "pair"] ["ties", "seats"] (defScope s_check_ties) :=
  ⟨rfl, rfl, rfl, by decide +kernel, rfl, by decide +kernel, by decide +kernel⟩
abbrev s_check_net : Stmt := topS 17
theorem sc_check_net : FnScope ["seats", "ties"] ["seats", "ties"] (defScope s_check_net) :=
  ⟨rfl, rfl, rfl, by decide +kernel, rfl, by decide +kernel, by decide +kernel⟩
abbrev s_check_standing : Stmt := topS 18
theorem sc_check_standing : FnScope ["standing", "seats", "wrong"] ["standing", "seats"] (defScope s_check_standing) :=
  ⟨rfl, rfl, rfl, by decide +kernel, rfl, by decide +kernel, by decide +kernel⟩
abbrev s_check_order_of : Stmt := topS 19
theorem sc_check_order_of : FnScope ["order", "count", "wrong"] ["order", "count"] (defScope s_check_order_of) :=
  ⟨rfl, rfl, rfl, by decide +kernel, rfl, by decide +kernel, by decide +kernel⟩
abbrev s_check_calls : Stmt := topS 20
theorem sc_check_calls : FnScope ["calls", "count", "at", "call"] ["calls", "count"] (defScope s_check_calls) :=
  ⟨rfl, rfl, rfl, by decide +kernel, rfl, by decide +kernel, by decide +kernel⟩
abbrev s_check_many : Stmt := topS 21
theorem sc_check_many : FnScope ["many"] ["many"] (defScope s_check_many) :=
  ⟨rfl, rfl, rfl, by decide +kernel, rfl, by decide +kernel, by decide +kernel⟩
abbrev s_next_call : Stmt := topS 23
theorem sc_next_call : FnScope ["call", "count"] ["call", "count"] (defScope s_next_call) :=
  ⟨rfl, rfl, rfl, by decide +kernel, rfl, by decide +kernel, by decide +kernel⟩
abbrev s_breaks_of : Stmt := topS 24
theorem sc_breaks_of : FnScope ["order", "count", "place", "at", "call"] ["order"] (defScope s_breaks_of) :=
  ⟨rfl, rfl, rfl, by decide +kernel, rfl, by decide +kernel, by decide +kernel⟩
abbrev s_places_of : Stmt := topS 26
theorem sc_places_of : FnScope ["standing"] ["standing"] (defScope s_places_of) :=
  ⟨rfl, rfl, rfl, by decide +kernel, rfl, by decide +kernel, by decide +kernel⟩
abbrev s_standing_of : Stmt := topS 27
theorem sc_standing_of : FnScope ["places"] ["places"] (defScope s_standing_of) :=
  ⟨rfl, rfl, rfl, by decide +kernel, rfl, by decide +kernel, by decide +kernel⟩
abbrev s_turned_about : Stmt := topS 28
theorem sc_turned_about : FnScope ["row", "found", "at", "number"] ["row"] (defScope s_turned_about) :=
  ⟨rfl, rfl, rfl, by decide +kernel, rfl, by decide +kernel, by decide +kernel⟩
abbrev s_tied_seats : Stmt := topS 29
theorem sc_tied_seats : FnScope ["seats", "ties", "tied", "one", "two", "_"] ["seats", "ties"] (defScope s_tied_seats) :=
  ⟨rfl, rfl, rfl, by decide +kernel, rfl, by decide +kernel, by decide +kernel⟩
abbrev s_people_called : Stmt := topS 30
theorem sc_people_called : FnScope ["calls", "count", "call"] ["calls", "count"] (defScope s_people_called) :=
  ⟨rfl, rfl, rfl, by decide +kernel, rfl, by decide +kernel, by decide +kernel⟩
abbrev s_places_after : Stmt := topS 31
theorem sc_places_after : FnScope ["places", "pairs", "tied", "one", "two", "here", "there"] ["places", "pairs", "tied"] (defScope s_places_after) :=
  ⟨rfl, rfl, rfl, by decide +kernel, rfl, by decide +kernel, by decide +kernel⟩
abbrev s_parts_of : Stmt := topS 33
theorem sc_parts_of : FnScope ["seats", "ties", "least", "first", "seat"] ["seats", "ties"] (defScope s_parts_of) :=
  ⟨rfl, rfl, rfl, by decide +kernel, rfl, by decide +kernel, by decide +kernel⟩
abbrev s_is_wood_of : Stmt := topS 34
theorem sc_is_wood_of : FnScope ["seats", "ties"] ["seats", "ties"] (defScope s_is_wood_of) :=
  ⟨rfl, rfl, rfl, by decide +kernel, rfl, by decide +kernel, by decide +kernel⟩
abbrev s_is_row_of : Stmt := topS 35
theorem sc_is_row_of : FnScope ["seats", "ties", "ends", "tie", "seat"] ["seats", "ties"] (defScope s_is_row_of) :=
  ⟨rfl, rfl, rfl, by decide +kernel, rfl, by decide +kernel, by decide +kernel⟩
abbrev s_least_together : Stmt := topS 36
theorem sc_least_together : FnScope ["seats", "ties", "least", "one", "two", "low", "high", "seat"] ["seats", "ties"] (defScope s_least_together) :=
  ⟨rfl, rfl, rfl, by decide +kernel, rfl, by decide +kernel, by decide +kernel⟩
abbrev s_back_after : Stmt := topS 38
theorem sc_back_after : FnScope ["seats", "ties", "standing", "order", "pairs", "tied", "start", "places", "rounds"] ["seats", "ties", "standing", "order"] (defScope s_back_after) :=
  ⟨rfl, rfl, rfl, by decide +kernel, rfl, by decide +kernel, by decide +kernel⟩
abbrev s_backs_counted : Stmt := topS 39
theorem sc_backs_counted : FnScope ["seats", "ties", "order"] ["seats", "ties", "order"] (defScope s_backs_counted) :=
  ⟨rfl, rfl, rfl, by decide +kernel, rfl, by decide +kernel, by decide +kernel⟩
abbrev s_all_back : Stmt := topS 40
theorem sc_all_back : FnScope ["seats", "ties", "order", "together", "rounds", "_"] ["seats", "ties", "order"] (defScope s_all_back) :=
  ⟨rfl, rfl, rfl, by decide +kernel, rfl, by decide +kernel, by decide +kernel⟩
abbrev s_fixed_after : Stmt := topS 41
theorem sc_fixed_after : FnScope ["seats", "ties", "order", "many", "rounds", "standings"] ["seats", "ties", "order", "many"] (defScope s_fixed_after) :=
  ⟨rfl, rfl, rfl, by decide +kernel, rfl, by decide +kernel, by decide +kernel⟩
abbrev s_first_backs : Stmt := topS 42
theorem sc_first_backs : FnScope ["seats", "ties", "order", "broken", "others"] ["seats", "ties", "order"] (defScope s_first_backs) :=
  ⟨rfl, rfl, rfl, by decide +kernel, rfl, by decide +kernel, by decide +kernel⟩
abbrev s_first_backs_in_row : Stmt := topS 43
theorem sc_first_backs_in_row : FnScope ["seats", "broken", "others", "common", "found", "divisor", "ways", "back", "earlier", "number", "greater", "standings"] ["seats", "broken"] (defScope s_first_backs_in_row) :=
  ⟨rfl, rfl, rfl, by decide +kernel, rfl, by decide +kernel, by decide +kernel⟩
abbrev s_first_backs_in_wood : Stmt := topS 44
theorem sc_first_backs_in_wood : FnScope ["seats", "ties", "found", "part", "size", "rounds"] ["seats", "ties"] (defScope s_first_backs_in_wood) :=
  ⟨rfl, rfl, rfl, by decide +kernel, rfl, by decide +kernel, by decide +kernel⟩
abbrev s_first_backs_by_walk : Stmt := topS 45
theorem sc_first_backs_by_walk : FnScope ["seats", "ties", "order", "pairs", "tied", "seen", "found", "people", "places", "rounds"] ["seats", "ties", "order"] (defScope s_first_backs_by_walk) :=
  ⟨rfl, rfl, rfl, by decide +kernel, rfl, by decide +kernel, by decide +kernel⟩
abbrev s_called : Stmt := topS 47
theorem sc_called : FnScope ["seats", "ties", "standing", "calls"] ["seats", "ties", "standing", "calls"] (defScope s_called) :=
  ⟨rfl, rfl, rfl, by decide +kernel, rfl, by decide +kernel, by decide +kernel⟩
abbrev s_after_rounds : Stmt := topS 48
theorem sc_after_rounds : FnScope ["seats", "ties", "standing", "order", "many", "calls", "pairs"] ["seats", "ties", "standing", "order", "many"] (defScope s_after_rounds) :=
  ⟨rfl, rfl, rfl, by decide +kernel, rfl, by decide +kernel, by decide +kernel⟩
abbrev s_places_after_rounds : Stmt := topS 49
theorem sc_places_after_rounds : FnScope ["start", "pairs", "tied", "many", "places", "left", "made"] ["start", "pairs", "tied", "many"] (defScope s_places_after_rounds) :=
  ⟨rfl, rfl, rfl, by decide +kernel, rfl, by decide +kernel, by decide +kernel⟩
abbrev s_l_draws : Stmt := topS 51
theorem sc_l_draws : FnScope ["_law_cell"] ["_law_cell"] (defScope s_l_draws) :=
  ⟨rfl, rfl, rfl, by decide +kernel, rfl, by decide +kernel, by decide +kernel⟩
abbrev s_l_next : Stmt := topS 52
theorem sc_l_next : FnScope ["_law_draws_here", "_law_k", "_law_drawn"] ["_law_draws_here"] (defScope s_l_next) :=
  ⟨rfl, rfl, rfl, by decide +kernel, rfl, by decide +kernel, by decide +kernel⟩
abbrev s_l_shuffled : Stmt := topS 53
theorem sc_l_shuffled : FnScope ["_law_draws_here", "_law_things", "_law_left", "_law_told"] ["_law_draws_here", "_law_things"] (defScope s_l_shuffled) :=
  ⟨rfl, rfl, rfl, by decide +kernel, rfl, by decide +kernel, by decide +kernel⟩
abbrev s_l_order : Stmt := topS 54
theorem sc_l_order : FnScope ["_law_draws_here", "_law_most", "_law_figure", "_law_kind", "_law_first", "_law_turned", "_law_at"] ["_law_draws_here", "_law_most"] (defScope s_l_order) :=
  ⟨rfl, rfl, rfl, by decide +kernel, rfl, by decide +kernel, by decide +kernel⟩
abbrev s_l_breaks : Stmt := topS 55
theorem sc_l_breaks : FnScope ["_law_row", "_law_spots", "_law_at", "_law_one"] ["_law_row"] (defScope s_l_breaks) :=
  ⟨rfl, rfl, rfl, by decide +kernel, rfl, by decide +kernel, by decide +kernel⟩
abbrev s_l_product : Stmt := topS 56
theorem sc_l_product : FnScope ["_law_most", "_law_told", "_law_one"] ["_law_most"] (defScope s_l_product) :=
  ⟨rfl, rfl, rfl, by decide +kernel, rfl, by decide +kernel, by decide +kernel⟩
abbrev s_l_multiple : Stmt := topS 57
theorem sc_l_multiple : FnScope ["_law_one", "_law_two", "_law_told"] ["_law_one", "_law_two"] (defScope s_l_multiple) :=
  ⟨rfl, rfl, rfl, by decide +kernel, rfl, by decide +kernel, by decide +kernel⟩
abbrev s_l_rings : Stmt := topS 58
theorem sc_l_rings : FnScope ["_law_now", "_law_then", "_law_sizes", "_law_person", "_law_here", "_law_size"] ["_law_now", "_law_then"] (defScope s_l_rings) :=
  ⟨rfl, rfl, rfl, by decide +kernel, rfl, by decide +kernel, by decide +kernel⟩
abbrev s_l_loose_right : Stmt := topS 59
theorem sc_l_loose_right : FnScope ["_law_draws_here", "_law_row", "_law_figure", "_law_few", "_law_whole", "_law_now", "_law_then", "_law_drawn", "_law_states", "_law_one", "_law_here", "_law_spot", "_law_other"] ["_law_draws_here", "_law_row"] (defScope s_l_loose_right) :=
  ⟨rfl, rfl, rfl, by decide +kernel, rfl, by decide +kernel, by decide +kernel⟩
abbrev s_l_tight_right : Stmt := topS 60
theorem sc_l_tight_right : FnScope ["_law_draws_here", "_law_row", "_law_figure", "_law_pairs", "_law_seat", "_law_now", "_law_more"] ["_law_draws_here", "_law_row"] (defScope s_l_tight_right) :=
  ⟨rfl, rfl, rfl, by decide +kernel, rfl, by decide +kernel, by decide +kernel⟩
abbrev s_law : Stmt := topS 61
theorem sc_law : FnScope ["_law_script", "_law_draws_here", "_law_most", "_law_row", "_law_some", "_law_cell"] ["_law_script"] (defScope s_law) :=
  ⟨rfl, rfl, rfl, by decide +kernel, rfl, by decide +kernel, by decide +kernel⟩
structure Ad where
  (f_is_whole f_is_from_one f_first_wrong f_check_count f_is_tie f_check_ties f_check_net f_check_standing f_check_order_of f_check_calls f_check_many f_next_call f_breaks_of f_places_of f_standing_of f_turned_about f_tied_seats f_people_called f_places_after f_parts_of f_is_wood_of f_is_row_of f_least_together f_back_after f_backs_counted f_all_back f_fixed_after f_first_backs f_first_backs_in_row f_first_backs_in_wood f_first_backs_by_walk f_called f_after_rounds f_places_after_rounds f_l_draws f_l_next f_l_shuffled f_l_order f_l_breaks f_l_product f_l_multiple f_l_rings f_l_loose_right f_l_tight_right f_law : Addr)
  (d_is_whole d_is_from_one d_first_wrong d_check_count d_is_tie d_check_ties d_check_net d_check_standing d_check_order_of d_check_calls d_check_many d_next_call d_breaks_of d_places_of d_standing_of d_turned_about d_tied_seats d_people_called d_places_after d_parts_of d_is_wood_of d_is_row_of d_least_together d_back_after d_backs_counted d_all_back d_fixed_after d_first_backs d_first_backs_in_row d_first_backs_in_wood d_first_backs_by_walk d_called d_after_rounds d_places_after_rounds d_l_draws d_l_next d_l_shuffled d_l_order d_l_breaks d_l_product d_l_multiple d_l_rings d_l_loose_right d_l_tight_right d_law : FuncData)
  (t_LEAST_COUNT t_MOST_COUNT : Tok)
structure Txt (K : PySem.W.Frag) (mg : Str → Option Value) (A : Ad) : Prop where
  F_is_whole : Fun K "is_whole" "is_whole" s_is_whole A.f_is_whole A.d_is_whole
  g_is_whole : mg "is_whole" = some (.ref A.f_is_whole)
  b_is_whole : Binds K A.d_is_whole ["thing"] []
  F_is_from_one : Fun K "is_from_one" "is_from_one" s_is_from_one A.f_is_from_one A.d_is_from_one
  g_is_from_one : mg "is_from_one" = some (.ref A.f_is_from_one)
  b_is_from_one : Binds K A.d_is_from_one ["thing", "most"] []
  F_first_wrong : Fun K "first_wrong" "first_wrong" s_first_wrong A.f_first_wrong A.d_first_wrong
  g_first_wrong : mg "first_wrong" = some (.ref A.f_first_wrong)
  b_first_wrong : Binds K A.d_first_wrong ["things", "most"] []
  F_check_count : Fun K "check_count" "check_count" s_check_count A.f_check_count A.d_check_count
  g_check_count : mg "check_count" = some (.ref A.f_check_count)
  b_check_count : Binds K A.d_check_count ["number"] []
  F_is_tie : Fun K "is_tie" "is_tie" s_is_tie A.f_is_tie A.d_is_tie
  g_is_tie : mg "is_tie" = some (.ref A.f_is_tie)
  b_is_tie : Binds K A.d_is_tie ["thing", "seats"] []
  F_check_ties : Fun K "check_ties" "check_ties" s_check_ties A.f_check_ties A.d_check_ties
  g_check_ties : mg "check_ties" = some (.ref A.f_check_ties)
  b_check_ties : Binds K A.d_check_ties ["ties", "seats"] []
  F_check_net : Fun K "check_net" "check_net" s_check_net A.f_check_net A.d_check_net
  g_check_net : mg "check_net" = some (.ref A.f_check_net)
  b_check_net : Binds K A.d_check_net ["seats", "ties"] []
  F_check_standing : Fun K "check_standing" "check_standing" s_check_standing A.f_check_standing A.d_check_standing
  g_check_standing : mg "check_standing" = some (.ref A.f_check_standing)
  b_check_standing : Binds K A.d_check_standing ["standing", "seats"] []
  F_check_order_of : Fun K "check_order_of" "check_order_of" s_check_order_of A.f_check_order_of A.d_check_order_of
  g_check_order_of : mg "check_order_of" = some (.ref A.f_check_order_of)
  b_check_order_of : Binds K A.d_check_order_of ["order", "count"] []
  F_check_calls : Fun K "check_calls" "check_calls" s_check_calls A.f_check_calls A.d_check_calls
  g_check_calls : mg "check_calls" = some (.ref A.f_check_calls)
  b_check_calls : Binds K A.d_check_calls ["calls", "count"] []
  F_check_many : Fun K "check_many" "check_many" s_check_many A.f_check_many A.d_check_many
  g_check_many : mg "check_many" = some (.ref A.f_check_many)
  b_check_many : Binds K A.d_check_many ["many"] []
  F_next_call : Fun K "next_call" "next_call" s_next_call A.f_next_call A.d_next_call
  g_next_call : mg "next_call" = some (.ref A.f_next_call)
  b_next_call : Binds K A.d_next_call ["call", "count"] []
  F_breaks_of : Fun K "breaks_of" "breaks_of" s_breaks_of A.f_breaks_of A.d_breaks_of
  g_breaks_of : mg "breaks_of" = some (.ref A.f_breaks_of)
  b_breaks_of : Binds K A.d_breaks_of ["order"] []
  F_places_of : Fun K "places_of" "places_of" s_places_of A.f_places_of A.d_places_of
  g_places_of : mg "places_of" = some (.ref A.f_places_of)
  b_places_of : Binds K A.d_places_of ["standing"] []
  F_standing_of : Fun K "standing_of" "standing_of" s_standing_of A.f_standing_of A.d_standing_of
  g_standing_of : mg "standing_of" = some (.ref A.f_standing_of)
  b_standing_of : Binds K A.d_standing_of ["places"] []
  F_turned_about : Fun K "turned_about" "turned_about" s_turned_about A.f_turned_about A.d_turned_about
  g_turned_about : mg "turned_about" = some (.ref A.f_turned_about)
  b_turned_about : Binds K A.d_turned_about ["row"] []
  F_tied_seats : Fun K "tied_seats" "tied_seats" s_tied_seats A.f_tied_seats A.d_tied_seats
  g_tied_seats : mg "tied_seats" = some (.ref A.f_tied_seats)
  b_tied_seats : Binds K A.d_tied_seats ["seats", "ties"] []
  F_people_called : Fun K "people_called" "people_called" s_people_called A.f_people_called A.d_people_called
  g_people_called : mg "people_called" = some (.ref A.f_people_called)
  b_people_called : Binds K A.d_people_called ["calls", "count"] []
  F_places_after : Fun K "places_after" "places_after" s_places_after A.f_places_after A.d_places_after
  g_places_after : mg "places_after" = some (.ref A.f_places_after)
  b_places_after : Binds K A.d_places_after ["places", "pairs", "tied"] []
  F_parts_of : Fun K "parts_of" "parts_of" s_parts_of A.f_parts_of A.d_parts_of
  g_parts_of : mg "parts_of" = some (.ref A.f_parts_of)
  b_parts_of : Binds K A.d_parts_of ["seats", "ties"] []
  F_is_wood_of : Fun K "is_wood_of" "is_wood_of" s_is_wood_of A.f_is_wood_of A.d_is_wood_of
  g_is_wood_of : mg "is_wood_of" = some (.ref A.f_is_wood_of)
  b_is_wood_of : Binds K A.d_is_wood_of ["seats", "ties"] []
  F_is_row_of : Fun K "is_row_of" "is_row_of" s_is_row_of A.f_is_row_of A.d_is_row_of
  g_is_row_of : mg "is_row_of" = some (.ref A.f_is_row_of)
  b_is_row_of : Binds K A.d_is_row_of ["seats", "ties"] []
  F_least_together : Fun K "least_together" "least_together" s_least_together A.f_least_together A.d_least_together
  g_least_together : mg "least_together" = some (.ref A.f_least_together)
  b_least_together : Binds K A.d_least_together ["seats", "ties"] []
  F_back_after : Fun K "back_after" "back_after" s_back_after A.f_back_after A.d_back_after
  g_back_after : mg "back_after" = some (.ref A.f_back_after)
  b_back_after : Binds K A.d_back_after ["seats", "ties", "standing", "order"] []
  F_backs_counted : Fun K "backs_counted" "backs_counted" s_backs_counted A.f_backs_counted A.d_backs_counted
  g_backs_counted : mg "backs_counted" = some (.ref A.f_backs_counted)
  b_backs_counted : Binds K A.d_backs_counted ["seats", "ties", "order"] []
  F_all_back : Fun K "all_back" "all_back" s_all_back A.f_all_back A.d_all_back
  g_all_back : mg "all_back" = some (.ref A.f_all_back)
  b_all_back : Binds K A.d_all_back ["seats", "ties", "order"] []
  F_fixed_after : Fun K "fixed_after" "fixed_after" s_fixed_after A.f_fixed_after A.d_fixed_after
  g_fixed_after : mg "fixed_after" = some (.ref A.f_fixed_after)
  b_fixed_after : Binds K A.d_fixed_after ["seats", "ties", "order", "many"] []
  F_first_backs : Fun K "first_backs" "first_backs" s_first_backs A.f_first_backs A.d_first_backs
  g_first_backs : mg "first_backs" = some (.ref A.f_first_backs)
  b_first_backs : Binds K A.d_first_backs ["seats", "ties", "order"] []
  F_first_backs_in_row : Fun K "first_backs_in_row" "first_backs_in_row" s_first_backs_in_row A.f_first_backs_in_row A.d_first_backs_in_row
  g_first_backs_in_row : mg "first_backs_in_row" = some (.ref A.f_first_backs_in_row)
  b_first_backs_in_row : Binds K A.d_first_backs_in_row ["seats", "broken"] []
  F_first_backs_in_wood : Fun K "first_backs_in_wood" "first_backs_in_wood" s_first_backs_in_wood A.f_first_backs_in_wood A.d_first_backs_in_wood
  g_first_backs_in_wood : mg "first_backs_in_wood" = some (.ref A.f_first_backs_in_wood)
  b_first_backs_in_wood : Binds K A.d_first_backs_in_wood ["seats", "ties"] []
  F_first_backs_by_walk : Fun K "first_backs_by_walk" "first_backs_by_walk" s_first_backs_by_walk A.f_first_backs_by_walk A.d_first_backs_by_walk
  g_first_backs_by_walk : mg "first_backs_by_walk" = some (.ref A.f_first_backs_by_walk)
  b_first_backs_by_walk : Binds K A.d_first_backs_by_walk ["seats", "ties", "order"] []
  F_called : Fun K "called" "called" s_called A.f_called A.d_called
  g_called : mg "called" = some (.ref A.f_called)
  b_called : Binds K A.d_called ["seats", "ties", "standing", "calls"] []
  F_after_rounds : FunD K "after_rounds" "after_rounds" (defArgs s_after_rounds) (defBody s_after_rounds) (defScope s_after_rounds) [.int 1] [] A.f_after_rounds A.d_after_rounds
  g_after_rounds : mg "after_rounds" = some (.ref A.f_after_rounds)
  b_after_rounds : Binds K A.d_after_rounds ["seats", "ties", "standing", "order", "many"] []
  bd_after_rounds : ∃ ds, Vals [.int 1] ds ∧ Binds K A.d_after_rounds ["seats", "ties", "standing", "order", "many"] ds
  F_places_after_rounds : Fun K "places_after_rounds" "places_after_rounds" s_places_after_rounds A.f_places_after_rounds A.d_places_after_rounds
  g_places_after_rounds : mg "places_after_rounds" = some (.ref A.f_places_after_rounds)
  b_places_after_rounds : Binds K A.d_places_after_rounds ["start", "pairs", "tied", "many"] []
  F_l_draws : Fun K "_law_draws" "_law_draws" s_l_draws A.f_l_draws A.d_l_draws
  g_l_draws : mg "_law_draws" = some (.ref A.f_l_draws)
  b_l_draws : Binds K A.d_l_draws ["_law_cell"] []
  F_l_next : Fun K "_law_next" "_law_next" s_l_next A.f_l_next A.d_l_next
  g_l_next : mg "_law_next" = some (.ref A.f_l_next)
  b_l_next : Binds K A.d_l_next ["_law_draws_here"] []
  F_l_shuffled : Fun K "_law_shuffled" "_law_shuffled" s_l_shuffled A.f_l_shuffled A.d_l_shuffled
  g_l_shuffled : mg "_law_shuffled" = some (.ref A.f_l_shuffled)
  b_l_shuffled : Binds K A.d_l_shuffled ["_law_draws_here", "_law_things"] []
  F_l_order : Fun K "_law_order" "_law_order" s_l_order A.f_l_order A.d_l_order
  g_l_order : mg "_law_order" = some (.ref A.f_l_order)
  b_l_order : Binds K A.d_l_order ["_law_draws_here", "_law_most"] []
  F_l_breaks : Fun K "_law_breaks" "_law_breaks" s_l_breaks A.f_l_breaks A.d_l_breaks
  g_l_breaks : mg "_law_breaks" = some (.ref A.f_l_breaks)
  b_l_breaks : Binds K A.d_l_breaks ["_law_row"] []
  F_l_product : Fun K "_law_product" "_law_product" s_l_product A.f_l_product A.d_l_product
  g_l_product : mg "_law_product" = some (.ref A.f_l_product)
  b_l_product : Binds K A.d_l_product ["_law_most"] []
  F_l_multiple : Fun K "_law_multiple" "_law_multiple" s_l_multiple A.f_l_multiple A.d_l_multiple
  g_l_multiple : mg "_law_multiple" = some (.ref A.f_l_multiple)
  b_l_multiple : Binds K A.d_l_multiple ["_law_one", "_law_two"] []
  F_l_rings : Fun K "_law_rings" "_law_rings" s_l_rings A.f_l_rings A.d_l_rings
  g_l_rings : mg "_law_rings" = some (.ref A.f_l_rings)
  b_l_rings : Binds K A.d_l_rings ["_law_now", "_law_then"] []
  F_l_loose_right : Fun K "_law_loose_right" "_law_loose_right" s_l_loose_right A.f_l_loose_right A.d_l_loose_right
  g_l_loose_right : mg "_law_loose_right" = some (.ref A.f_l_loose_right)
  b_l_loose_right : Binds K A.d_l_loose_right ["_law_draws_here", "_law_row"] []
  F_l_tight_right : Fun K "_law_tight_right" "_law_tight_right" s_l_tight_right A.f_l_tight_right A.d_l_tight_right
  g_l_tight_right : mg "_law_tight_right" = some (.ref A.f_l_tight_right)
  b_l_tight_right : Binds K A.d_l_tight_right ["_law_draws_here", "_law_row"] []
  F_law : Fun K "law" "law" s_law A.f_law A.d_law
  g_law : mg "law" = some (.ref A.f_law)
  b_law : Binds K A.d_law ["_law_script"] []
  g_LEAST_COUNT : mg "LEAST_COUNT" = some (.int 3 A.t_LEAST_COUNT)
  g_MOST_COUNT : mg "MOST_COUNT" = some (.int 40 A.t_MOST_COUNT)
  m_comb : mg "comb" = some (.builtin "math.comb")
  m_factorial : mg "factorial" = some (.builtin "math.factorial")
  m_gcd : mg "gcd" = some (.builtin "math.gcd")
  m_lcm : mg "lcm" = some (.builtin "math.lcm")
  z_isinstance : mg "isinstance" = none
  z_int : mg "int" = none
  z_bool : mg "bool" = none
  z_set : mg "set" = none
  z_enumerate : mg "enumerate" = none
  z_list : mg "list" = none
  z_len : mg "len" = none
  z_tuple : mg "tuple" = none
  z_sorted : mg "sorted" = none
  z_range : mg "range" = none
  z_all : mg "all" = none
  z_sum : mg "sum" = none
  z_abs : mg "abs" = none
  z_repr : mg "repr" = none
section
variable {P : Program} {w : World} {K : PySem.W.Frag} {mg : Str → Option Value} {base : Heap} {A : Ad}
def sp_is_whole : Sp := fun vs H Q _ => ∃ i : Int, vs = [.int i] ∧ RetV (.bl true) H Q
theorem ok_is_whole (T : Txt K mg A) : FnOk P w K mg base CX0 1 A.f_is_whole A.d_is_whole ["thing"] sp_is_whole := by
  refine T.F_is_whole.ok sc_is_whole (fun vs H Q E h => ?_) (fun cdv A' outer s H vs Q E hr h => ?_)
  · obtain ⟨i, rfl, _⟩ := h
    rfl
  · obtain ⟨i, rfl, q⟩ := h
    refine ⟨_, (pss_one (ps_ret (pe_and (pe_callB call_isi (by rfl) T.z_isinstance (by decide +kernel) (pa_cons (pv 0) (pa_cons (pe_bltn (v := .ty "int") (by rfl) T.z_int (by decide +kernel) rfl) pa_nil))) (pe_one (pe_not (pe_callB call_isi (by rfl) T.z_isinstance (by decide +kernel) (pa_cons (pv 0) (pa_cons (pe_bltn (v := .ty "bool") (by rfl) T.z_bool (by decide +kernel) rfl) pa_nil)))))))), ?_⟩
    refine ⟨_, rfl, _, _, .type "int", .type "int", true, rfl, .ty _, .base (.int i), kit_ty (by decide +kernel), true, rfl, iteT ?_⟩
    refine ⟨_, rfl, _, _, .type "int", .type "bool", false, rfl, .ty _, .base (.int i), kit_ty (by decide +kernel), false, rfl, q H (Ex.refl H)⟩
def sp_is_from_one : Sp := fun vs H Q _ => ∃ i m : Int, vs = [.int i, .int m] ∧ RetV (.bl (decide (1 ≤ i ∧ i ≤ m))) H Q
theorem ok_is_from_one (T : Txt K mg A) : FnOk P w K mg base CX0 1 A.f_is_from_one A.d_is_from_one ["thing", "most"] sp_is_from_one := by
  refine T.F_is_from_one.ok sc_is_from_one (fun vs H Q E h => ?_) (fun cdv A' outer s H vs Q E hr h => ?_)
  · obtain ⟨i, m, rfl, _⟩ := h
    rfl
  · obtain ⟨i, m, rfl, q⟩ := h
    refine ⟨_, (pss_one (ps_ret (pe_and (pe_callB call_isi (by rfl) T.z_isinstance (by decide +kernel) (pa_cons (pv 0) (pa_cons (pe_bltn (v := .ty "int") (by rfl) T.z_int (by decide +kernel) rfl) pa_nil))) (pe_and (pe_not (pe_callB call_isi (by rfl) T.z_isinstance (by decide +kernel) (pa_cons (pv 0) (pa_cons (pe_bltn (v := .ty "bool") (by rfl) T.z_bool (by decide +kernel) rfl) pa_nil)))) (pe_one (pe_chain op_le op_le pe_int (pv 0) (pv 1))))))), ?_⟩
    refine ⟨_, rfl, _, _, .type "int", .type "int", true, rfl, .ty _, .base (.int i), kit_ty (by decide +kernel), true, rfl, iteT ?_⟩
    refine ⟨_, rfl, _, _, .type "int", .type "bool", false, rfl, .ty _, .base (.int i), kit_ty (by decide +kernel), false, rfl, true, rfl, iteT ?_⟩
    refine ⟨_, rfl, _, _, rfl, rfl, _, rfl, ?_⟩
    have e : decide (1 ≤ i ∧ i ≤ m) = (decide (1 ≤ i) && decide (i ≤ m)) := by
      by_cases c : 1 ≤ i <;> by_cases d : i ≤ m <;> simp [c, d]
    rw [e] at q
    by_cases c : 1 ≤ i
    · rw [decide_eq_true c] at q ⊢
      exact iteT ⟨_, rfl, _, _, rfl, rfl, q H (Ex.refl H)⟩
    · rw [decide_eq_false c] at q ⊢
      exact iteF (q H (Ex.refl H))
def sp_first_wrong (K : PySem.W.Frag) : Sp := fun vs H Q _ => ∃ (a : Addr) (ns : List Int) (m : Int), vs = [.ref a, .int m] ∧ SqL K H a (ns.map V.int) ∧ ns.Nodup ∧ (∀ x ∈ ns, 1 ≤ x ∧ x ≤ m) ∧ ns.length ≤ 1000 ∧ RetV .non H Q
theorem ok_first_wrong (T : Txt K mg A) : FnOk P w K mg base CX0 2 A.f_first_wrong A.d_first_wrong ["things", "most"] (sp_first_wrong K) := by
  have G_is_from_one : FnOk P w K mg base CX0 1 A.f_is_from_one A.d_is_from_one ["thing", "most"] sp_is_from_one := ok_is_from_one T
  refine T.F_first_wrong.ok sc_first_wrong (fun vs H Q E h => ?_) (fun cdv A' outer s H vs Q E hr h => ?_)
  · obtain ⟨a, ns, m, rfl, _⟩ := h
    rfl
  · obtain ⟨a, ns, m, rfl, hS, nd, hb, hl, q⟩ := h
    refine ⟨_, (pss_cons (ps_set (i := 2) sc_first_wrong.nd rfl (by first | exact .inl rfl | exact .inr rfl) (pe_callTy0 cr_set0 (by rfl) T.z_set (by decide +kernel)))
      (pss_cons (ps_for PassesOwn.never rfl (pi_enum (by rfl) T.z_enumerate (pa_cons (pv 0) pa_nil)) (pg_tupK (n := 2) (K := K) rfl rfl (pgs_cons (pg_name (i := 3) sc_first_wrong.nd rfl (by first | exact .inl rfl | exact .inr rfl)) (pgs_cons (pg_name (i := 4) sc_first_wrong.nd rfl (by first | exact .inl rfl | exact .inr rfl)) pgs_nil))) (pss_cons (ps_if (PW.pt (pw_or (pt_not (pt_val (pe_call G_is_from_one (hr.mono (by decide)) (by rfl) T.g_is_from_one T.F_is_from_one.kp T.b_is_from_one .nil pass0 (pa_cons (pv 4) (pa_cons (pv 1) pa_nil))))) (pw_or1 (pt_cmpR or_sin (pv 4) (pv 2) (by rfl))))) (pss_one (ps_ret (pv 3))) pss_nil)
      (pss_one (ps_expr (pe_sadd (pv 2) (pa_cons (pv 4) pa_nil))))))
      (pss_one (ps_ret pe_non)))), ?_⟩
    -- seen = set()
    refine ⟨rfl, fun p np => ?_⟩
    have e0 : Ex H (upd H p (SetO w p (fun _ => false) 0)) := Ex.new np
    -- for at, thing in enumerate(things)
    refine ⟨.ref a, rfl, a, ns.map V.int, rfl, ex_l e0 hS, ?_⟩
    refine for_enumL (xs := ns.map V.int) (fun i σ' H' => (∃ y3 y4, σ' = [some (.ref a), some (.int m), some (.ref p), y3, y4]) ∧ Ex H H' ∧
        ∃ S c, H' p = some (SetO w p S c) ∧ c ≤ i ∧ ∀ k, S k = true → k ∈ ns.take i)
      ⟨⟨none, none, rfl⟩, e0, _, _, upd_same, Nat.le_refl _, fun k z => nomatch z⟩ (fun i σ' H' z => ex_l z.2.1 hS) ?_ ?_
    · rintro i x Tt σ' H' hx ⟨⟨y3, y4, rfl⟩, e1, S, c, hp, hc, hSk⟩ nT
      obtain ⟨n, hn, rfl⟩ := map_at hx
      have mem : n ∈ ns := List.mem_of_getElem? hn
      have e2 : Ex H' (upd H' Tt (.tup [.int (i : Nat), .int n])) := Ex.new nT
      -- at, thing = the pair
      refine ⟨Tt, _, rfl, .inl (.inl upd_same), rfl, _, _, rfl, _, _, rfl, rfl, ?_⟩
      -- if not is_from_one(thing, most) or thing in seen
      refine ⟨_, rfl, _, rfl, n, m, rfl, fun H3 e3 => ?_⟩
      rw [decide_eq_true (hb n mem)]
      have hp3 : H3 p = some (SetO w p S c) := e3 _ _ (e2 _ _ hp)
      have hi : i < ns.length := (List.getElem?_eq_some_iff.mp hn).1
      refine ⟨true, rfl, iteF ⟨_, rfl, _, rfl, n, p, S, c, rfl, rfl, hp3, ?_⟩⟩
      have no : S n = false := by
        cases z : S n with
        | false => rfl
        | true => exact absurd (hSk n z) (nodup_at nd hn)
      rw [no]
      refine ⟨false, rfl, iteF ?_⟩
      -- seen.add(thing)
      refine ⟨_, rfl, ⟨p, S, c, rfl, hp3⟩, _, rfl, p, n, S, c, rfl, rfl, hp3, by unfold scanBound; omega, ?_⟩
      rw [no]
      refine ⟨⟨_, _, rfl⟩, Ex.mut ((e1.trans e2).trans e3) np, _, c + 1, upd_same, by omega, fun k hk => ?_⟩
      rw [take_snoc hn, List.mem_append]
      rcases Bool.or_eq_true_iff.mp hk with z | z
      · exact .inl (hSk k z)
      · exact .inr (by rw [of_decide_eq_true z]; exact List.mem_singleton.mpr rfl)
    · rintro σ' H' ⟨_, e1, _⟩
      exact q H' e1
end
end K24

/-! Rounds: where the people sit (places), calls, rounds, when all sit as at first. -/
namespace MR
abbrev g0 (l : List Int) (i : Int) : Int := l.getD i.toNat 0
def nxt (n c : Int) : Int := c % n + 1
def stepP (td : Int → Int → Bool) (pl : List Int) (c : Int × Int) : List Int :=
  if td (g0 pl c.1) (g0 pl c.2) = true then pl else (pl.set c.1.toNat (g0 pl c.2)).set c.2.toNat (g0 pl c.1)
def runP (td : Int → Int → Bool) (pl : List Int) (cs : List (Int × Int)) : List Int := cs.foldl (stepP td) pl
def pairsF (n : Int) (cs : List Int) : List (Int × Int) := cs.map fun c => (c, nxt n c)
def tdF (ts : List (Int × Int)) (a b : Int) : Bool := decide ((a, b) ∈ ts ∨ (b, a) ∈ ts)
theorem tdF_sym (ts : List (Int × Int)) (a b : Int) : tdF ts a b = tdF ts b a := by
  unfold tdF
  by_cases h : (a, b) ∈ ts ∨ (b, a) ∈ ts
  · rw [decide_eq_true h, decide_eq_true h.symm]
  · rw [decide_eq_false h, decide_eq_false fun z => h z.symm]
/-! ### lists of so many numbers, each once -/
theorem nodup_len : ∀ (N : Nat) (l : List Nat), l.Nodup → (∀ x ∈ l, x < N) → l.length ≤ N
  | 0, l, _, h => by
    cases l with
    | nil => exact Nat.le_refl _
    | cons x l => exact absurd (h x List.mem_cons_self) (Nat.not_lt_zero _)
  | N + 1, l, nd, h => by
    have e := nodup_len N (l.filter fun x => decide (x ≠ N)) (nd.filter _) fun x hx => by
      have a := List.mem_filter.mp hx
      have b := h x a.1
      have c := of_decide_eq_true a.2
      omega
    have f : l.length ≤ (l.filter fun x => decide (x ≠ N)).length + 1 := by
      clear e h
      induction l with
      | nil => exact Nat.zero_le _
      | cons x l ih =>
        have nd := List.nodup_cons.mp nd
        by_cases c : x = N
        · rw [List.filter_cons_of_neg (by simp [c])]
          have e : l.filter (fun x => decide (x ≠ N)) = l := List.filter_eq_self.mpr fun y hy => decide_eq_true fun e => nd.1 (by rw [c, ← e]; exact hy)
          rw [e]
          exact Nat.le_refl _
        · rw [List.filter_cons_of_pos (by simp [c])]
          have := ih nd.2
          simp only [List.length_cons]
          omega
    omega
theorem nodup_all {N : Nat} {l : List Nat} (nd : l.Nodup) (h : ∀ x ∈ l, x < N) (hl : l.length = N) : ∀ i, i < N → i ∈ l := by
  intro i hi
  refine Decidable.byContradiction fun c => ?_
  have := nodup_len N (i :: l) (List.nodup_cons.mpr ⟨c, nd⟩) fun x hx => by
    rcases List.mem_cons.mp hx with rfl | hx
    · exact hi
    · exact h x hx
  rw [List.length_cons] at this
  omega
/-- a row of the numbers 0 .. N - 1, each once -/
structure Row (N : Nat) (r : List Int) : Prop where
  len : r.length = N
  lo : ∀ x ∈ r, 0 ≤ x ∧ x < N
  nd : r.Nodup
theorem Row.nat {N : Nat} {r : List Int} (h : Row N r) : (r.map Int.toNat).Nodup ∧ ∀ x ∈ r.map Int.toNat, x < N := by
  constructor
  · have nd := h.nd
    have lo := h.lo
    clear h
    induction r with
    | nil => exact List.nodup_nil
    | cons x r ih =>
      have nd := List.nodup_cons.mp nd
      refine List.nodup_cons.mpr ⟨fun z => ?_, ih nd.2 fun y hy => lo y (List.mem_cons_of_mem _ hy)⟩
      obtain ⟨y, hy, e⟩ := List.mem_map.mp z
      have a := lo x List.mem_cons_self
      have b := lo y (List.mem_cons_of_mem _ hy)
      have : y = x := by omega
      exact nd.1 (this ▸ hy)
  · intro x hx
    obtain ⟨y, hy, rfl⟩ := List.mem_map.mp hx
    have := h.lo y hy
    omega
theorem Row.all {N : Nat} {r : List Int} (h : Row N r) {i : Int} (h0 : 0 ≤ i) (h1 : i < N) : i ∈ r := by
  have := nodup_all h.nat.1 h.nat.2 (by rw [List.length_map, h.len]) i.toNat (by omega)
  obtain ⟨y, hy, e⟩ := List.mem_map.mp this
  have := h.lo y hy
  have : y = i := by omega
  exact this ▸ hy
theorem Row.at_ {N : Nat} {r : List Int} (h : Row N r) {i : Nat} (hi : i < N) : ∃ x, r[i]? = some x ∧ 0 ≤ x ∧ x < N := by
  have : i < r.length := by rw [h.len]; exact hi
  exact ⟨_, List.getElem?_eq_getElem this, h.lo _ (List.getElem_mem this)⟩
theorem Row.inj {N : Nat} {r : List Int} (h : Row N r) {i j : Nat} {x : Int} (a : r[i]? = some x) (b : r[j]? = some x) : i = j := by
  obtain ⟨h1, e1⟩ := List.getElem?_eq_some_iff.mp a
  obtain ⟨h2, e2⟩ := List.getElem?_eq_some_iff.mp b
  have z := List.pairwise_iff_getElem.mp (List.nodup_iff_pairwise_ne.mp h.nd)
  refine Decidable.byContradiction fun c => ?_
  rcases Nat.lt_or_gt_of_ne c with d | d
  · exact z i j h1 h2 d (e1.trans e2.symm)
  · exact z j i h2 h1 d (e2.trans e1.symm)
/-! ### turned about -/
def turnS (r f : List Int) (k : Nat) : List Int := (List.range k).foldl (fun f i => f.set (r.getD i 0).toNat (i : Int)) f
def turnF (r : List Int) : List Int := turnS r r r.length
theorem turnS_succ (r f : List Int) (k : Nat) : turnS r f (k + 1) = (turnS r f k).set (r.getD k 0).toNat (k : Int) := by
  unfold turnS
  rw [List.range_succ, List.foldl_append]
  rfl
theorem turnS_len (r f : List Int) : ∀ k, (turnS r f k).length = f.length
  | 0 => rfl
  | k + 1 => by rw [turnS_succ, List.length_set, turnS_len r f k]
theorem turnS_at {N : Nat} {r f : List Int} (h : Row N r) (hf : f.length = N) : ∀ k, k ≤ N → ∀ i x, i < k → r[i]? = some x → (turnS r f k)[x.toNat]? = some (i : Int)
  | 0, _, i, x, hi, _ => absurd hi (Nat.not_lt_zero _)
  | k + 1, hk, i, x, hi, hx => by
    rw [turnS_succ]
    obtain ⟨y, hy, y0, y1⟩ := h.at_ (i := k) (by omega)
    rw [List.getD_eq_getElem?_getD, hy, Option.getD_some]
    have lx := h.lo x (List.mem_of_getElem? hx)
    by_cases c : i = k
    · subst c
      have : x = y := Option.some.inj (hx.symm.trans hy)
      subst this
      rw [List.getElem?_set_self (by rw [turnS_len, hf]; omega)]
    · rw [List.getElem?_set_ne]
      · exact turnS_at h hf k (by omega) i x (by omega) hx
      · intro e
        have : x = y := by omega
        subst this
        exact c (h.inj hx hy)
theorem turn_at {N : Nat} {r : List Int} (h : Row N r) {i : Nat} {x : Int} (hx : r[i]? = some x) : (turnF r)[x.toNat]? = some (i : Int) := by
  have : i < N := by rw [← h.len]; exact (List.getElem?_eq_some_iff.mp hx).1
  unfold turnF
  rw [h.len]
  exact turnS_at h h.len N (Nat.le_refl _) i x this hx
theorem turn_len (r : List Int) : (turnF r).length = r.length := turnS_len r r _
theorem turn_row {N : Nat} {r : List Int} (h : Row N r) : Row N (turnF r) := by
  have key : ∀ j, j < N → ∃ i : Nat, i < N ∧ (turnF r)[j]? = some (i : Int) ∧ r[i]? = some (j : Int) := by
    intro j hj
    obtain ⟨i, hi, e⟩ := List.mem_iff_getElem.mp (h.all (i := (j : Int)) (by omega) (by omega))
    have hr : r[i]? = some (j : Int) := by rw [List.getElem?_eq_getElem hi, e]
    exact ⟨i, by rw [← h.len]; exact hi, turn_at h hr, hr⟩
  refine ⟨by rw [turn_len, h.len], fun x hx => ?_, ?_⟩
  · obtain ⟨j, hj, e⟩ := List.mem_iff_getElem.mp hx
    rw [turn_len, h.len] at hj
    obtain ⟨i, hi, e2, _⟩ := key j hj
    rw [List.getElem?_eq_getElem (by rw [turn_len, h.len]; exact hj), e] at e2
    have := Option.some.inj e2
    omega
  · rw [List.nodup_iff_pairwise_ne, List.pairwise_iff_getElem]
    intro i j hi hj hij e
    rw [turn_len, h.len] at hi hj
    obtain ⟨a, _, a2, a3⟩ := key i hi
    obtain ⟨b, _, b2, b3⟩ := key j hj
    rw [List.getElem?_eq_getElem (by rw [turn_len, h.len]; exact hi)] at a2
    rw [List.getElem?_eq_getElem (by rw [turn_len, h.len]; exact hj)] at b2
    have e1 := Option.some.inj a2
    have e2 := Option.some.inj b2
    have : a = b := by omega
    subst this
    have := Option.some.inj (a3.symm.trans b3)
    omega
theorem turn_turn {N : Nat} {r : List Int} (h : Row N r) : turnF (turnF r) = r := by
  refine List.ext_getElem? fun i => ?_
  by_cases hi : i < N
  · obtain ⟨x, hx, x0, x1⟩ := h.at_ hi
    have := turn_at (turn_row h) (turn_at h hx)
    rw [Int.toNat_natCast] at this
    rw [this, hx]
    exact congrArg some (by omega)
  · rw [List.getElem?_eq_none (by rw [turn_len, turn_len, h.len]; omega), List.getElem?_eq_none (by rw [h.len]; omega)]
/-! ### standings -/
structure Stn (n : Nat) (s : List Int) : Prop where
  len : s.length = n
  lo : ∀ x ∈ s, 1 ≤ x ∧ x ≤ n
  nd : s.Nodup
def plOf (s : List Int) : List Int := turnF (0 :: s)
def stOf (p : List Int) : List Int := (turnF p).tail
/-- places: the seat of each person, at index 0 the number 0 -/
structure Plc (n : Nat) (p : List Int) : Prop where
  row : Row (n + 1) p
  zero : p[0]? = some 0
theorem Stn.row {n : Nat} {s : List Int} (h : Stn n s) : Row (n + 1) (0 :: s) := by
  refine ⟨by rw [List.length_cons, h.len], fun x hx => ?_, List.nodup_cons.mpr ⟨fun z => ?_, h.nd⟩⟩
  · rcases List.mem_cons.mp hx with rfl | hx
    · omega
    · have := h.lo x hx
      omega
  · have := h.lo 0 z
    omega
theorem Stn.plc {n : Nat} {s : List Int} (h : Stn n s) : Plc n (plOf s) := ⟨turn_row h.row, turn_at h.row (i := 0) (x := 0) rfl⟩
theorem cons_tail {l : List Int} (h : l[0]? = some 0) : l = 0 :: l.tail := by
  cases l with
  | nil => cases h
  | cons x l => rw [List.getElem?_cons_zero] at h; rw [Option.some.inj h]; rfl
theorem Plc.turn {n : Nat} {p : List Int} (h : Plc n p) : turnF p = 0 :: stOf p := cons_tail (turn_at h.row h.zero)
theorem Plc.stn {n : Nat} {p : List Int} (h : Plc n p) : Stn n (stOf p) := by
  have r := turn_row h.row
  rw [h.turn] at r
  have nd := List.nodup_cons.mp r.nd
  refine ⟨by have := r.len; rw [List.length_cons] at this; omega, fun x hx => ?_, nd.2⟩
  have a := r.lo x (List.mem_cons_of_mem _ hx)
  have : x ≠ 0 := fun e => nd.1 (e ▸ hx)
  omega
theorem Plc.back {n : Nat} {p : List Int} (h : Plc n p) : plOf (stOf p) = p := by
  unfold plOf
  rw [← h.turn, turn_turn h.row]
theorem Stn.back {n : Nat} {s : List Int} (h : Stn n s) : stOf (plOf s) = s := by
  unfold stOf plOf
  rw [turn_turn h.row]
  rfl
theorem Plc.of {n : Nat} {p : List Int} (h : Plc n p) {i : Int} (h0 : 1 ≤ i) (h1 : i ≤ n) : 1 ≤ g0 p i ∧ g0 p i ≤ n ∧ p[i.toNat]? = some (g0 p i) := by
  obtain ⟨x, hx, x0, x1⟩ := h.row.at_ (i := i.toNat) (by omega)
  have e : g0 p i = x := by unfold g0; rw [List.getD_eq_getElem?_getD, hx]; rfl
  rw [e]
  refine ⟨?_, by omega, hx⟩
  have : x ≠ 0 := fun z => by
    have := h.row.inj (hx.trans (by rw [z])) h.zero
    omega
  omega
theorem Plc.inj {n : Nat} {p : List Int} (h : Plc n p) {i j : Int} (h0 : 1 ≤ i) (h1 : i ≤ n) (j0 : 1 ≤ j) (j1 : j ≤ n) (e : g0 p i = g0 p j) : i = j := by
  have a := (h.of h0 h1).2.2
  have b := (h.of j0 j1).2.2
  rw [e] at a
  have := h.row.inj a b
  omega
/-! ### calls -/
def CallOk (n : Nat) (c : Int × Int) : Prop := (1 ≤ c.1 ∧ c.1 ≤ n) ∧ (1 ≤ c.2 ∧ c.2 ≤ n) ∧ c.1 ≠ c.2
theorem g0_set {l : List Int} {i j : Nat} {v : Int} (hi : i < l.length) : (l.set i v).getD j 0 = if j = i then v else l.getD j 0 := by
  rw [List.getD_eq_getElem?_getD, List.getD_eq_getElem?_getD]
  by_cases c : j = i
  · subst c
    rw [if_pos rfl, List.getElem?_set_self hi]
    rfl
  · rw [if_neg c, List.getElem?_set_ne (fun z => c z.symm)]
theorem plc_ext {n : Nat} {p q : List Int} (hp : p.length = n + 1) (hq : q.length = n + 1) (h : ∀ i : Nat, i ≤ n → p.getD i 0 = q.getD i 0) : p = q := by
  refine List.ext_getElem? fun i => ?_
  by_cases c : i ≤ n
  · have := h i c
    rw [List.getD_eq_getElem?_getD, List.getD_eq_getElem?_getD, List.getElem?_eq_getElem (by omega), List.getElem?_eq_getElem (by omega)] at this
    rw [List.getElem?_eq_getElem (by omega), List.getElem?_eq_getElem (by omega)]
    exact congrArg some this
  · rw [List.getElem?_eq_none (by omega), List.getElem?_eq_none (by omega)]
theorem step_len (td : Int → Int → Bool) (p : List Int) (c : Int × Int) : (stepP td p c).length = p.length := by
  unfold stepP
  split
  · rfl
  · rw [List.length_set, List.length_set]
theorem swap_at {n : Nat} {p : List Int} (hp : p.length = n + 1) {c : Int × Int} (hc : CallOk n c) (i : Nat) :
    ((p.set c.1.toNat (g0 p c.2)).set c.2.toNat (g0 p c.1)).getD i 0 = if i = c.2.toNat then g0 p c.1 else if i = c.1.toNat then g0 p c.2 else p.getD i 0 := by
  obtain ⟨a, b, d⟩ := hc
  rw [g0_set (by rw [List.length_set]; omega), g0_set (by omega)]
theorem step_plc {td : Int → Int → Bool} {n : Nat} {p : List Int} (h : Plc n p) {c : Int × Int} (hc : CallOk n c) : Plc n (stepP td p c) := by
  unfold stepP
  split
  · exact h
  · have sw := swap_at h.row.len hc
    obtain ⟨a, b, d⟩ := hc
    have A := h.of a.1 a.2
    have B := h.of b.1 b.2
    have len : ((p.set c.1.toNat (g0 p c.2)).set c.2.toNat (g0 p c.1)).length = n + 1 := by rw [List.length_set, List.length_set, h.row.len]
    have val : ∀ i : Nat, i ≤ n → ∀ x, ((p.set c.1.toNat (g0 p c.2)).set c.2.toNat (g0 p c.1))[i]? = some x → x = if i = c.2.toNat then g0 p c.1 else if i = c.1.toNat then g0 p c.2 else p.getD i 0 := by
      intro i hi x hx
      rw [← sw i, List.getD_eq_getElem?_getD, hx]
      rfl
    have old : ∀ i : Nat, i ≤ n → p[i]? = some (p.getD i 0) := fun i hi => by
      rw [List.getD_eq_getElem?_getD, List.getElem?_eq_getElem (by rw [h.row.len]; omega)]
      rfl
    refine ⟨⟨len, fun x hx => ?_, ?_⟩, ?_⟩
    · obtain ⟨i, hi, e⟩ := List.mem_iff_getElem.mp hx
      have v := val i (by omega) x (by rw [List.getElem?_eq_getElem hi, e])
      rw [v]
      split
      · omega
      · split
        · omega
        · exact h.row.lo _ (List.mem_of_getElem? (old i (by omega)))
    · rw [List.nodup_iff_pairwise_ne, List.pairwise_iff_getElem]
      intro i j hi hj hij e
      have v := val i (by omega) _ (List.getElem?_eq_getElem hi)
      have u := val j (by omega) _ (List.getElem?_eq_getElem hj)
      rw [e] at v
      have z := v.symm.trans u
      -- where each stood before
      have key : ∀ k : Nat, k ≤ n → (if k = c.2.toNat then g0 p c.1 else if k = c.1.toNat then g0 p c.2 else p.getD k 0) = p.getD (if k = c.2.toNat then c.1.toNat else if k = c.1.toNat then c.2.toNat else k) 0 := by
        intro k hk
        split
        · rfl
        · split
          · rfl
          · rfl
      rw [key i (by omega), key j (by omega)] at z
      have li : i ≤ n := by omega
      have lj : j ≤ n := by omega
      have le3 : ∀ {k : Nat}, k ≤ n → (if k = c.2.toNat then c.1.toNat else if k = c.1.toNat then c.2.toNat else k) ≤ n := by
        intro k hk
        split
        · omega
        · split
          · omega
          · exact hk
      have inj := h.row.inj (i := if i = c.2.toNat then c.1.toNat else if i = c.1.toNat then c.2.toNat else i) (j := if j = c.2.toNat then c.1.toNat else if j = c.1.toNat then c.2.toNat else j) (old _ (le3 li)) ((old _ (le3 lj)).trans (by rw [z]))
      clear z key u v old val sw e le3
      split at inj <;> split at inj <;> (try split at inj) <;> (try split at inj) <;> omega
    · have e := sw 0
      rw [if_neg (by omega), if_neg (by omega)] at e
      have o := old 0 (by omega)
      rw [h.zero] at o
      rw [← Option.some.inj o, List.getD_eq_getElem?_getD, List.getElem?_eq_getElem (by omega)] at e
      rw [List.getElem?_eq_getElem (by omega)]
      exact congrArg some e
/-- a call made twice does nothing -/
theorem step_step {td : Int → Int → Bool} (sym : ∀ a b, td a b = td b a) {n : Nat} {p : List Int} (hp : p.length = n + 1) {c : Int × Int} (hc : CallOk n c) : stepP td (stepP td p c) c = p := by
  by_cases t : td (g0 p c.1) (g0 p c.2) = true
  · have e : stepP td p c = p := by unfold stepP; rw [if_pos t]
    rw [e, e]
  · have e : stepP td p c = (p.set c.1.toNat (g0 p c.2)).set c.2.toNat (g0 p c.1) := by unfold stepP; rw [if_neg t]
    have sw := swap_at hp hc
    have hl : (stepP td p c).length = n + 1 := by rw [step_len, hp]
    have g1 : g0 (stepP td p c) c.1 = g0 p c.2 := by
      rw [e]
      show ((p.set c.1.toNat (g0 p c.2)).set c.2.toNat (g0 p c.1)).getD c.1.toNat 0 = _
      obtain ⟨a, b, d⟩ := hc
      rw [sw, if_neg (by omega), if_pos rfl]
    have g2 : g0 (stepP td p c) c.2 = g0 p c.1 := by
      rw [e]
      show ((p.set c.1.toNat (g0 p c.2)).set c.2.toNat (g0 p c.1)).getD c.2.toNat 0 = _
      rw [sw, if_pos rfl]
    have e2 : stepP td (stepP td p c) c = ((stepP td p c).set c.1.toNat (g0 (stepP td p c) c.2)).set c.2.toNat (g0 (stepP td p c) c.1) := by
      conv => lhs; unfold stepP
      rw [if_neg]
      · show ((stepP td p c).set _ _).set _ _ = _
        rfl
      · show ¬ td (g0 (stepP td p c) c.1) (g0 (stepP td p c) c.2) = true
        rw [g1, g2, sym]
        exact t
    have sw2 := swap_at hl hc
    refine plc_ext (n := n) (by rw [step_len, hl]) hp fun i hi => ?_
    rw [e2, sw2, g1, g2]
    split
    · rename_i z
      rw [z]
    · split
      · rename_i z
        rw [z]
      · rename_i z1 z2
        rw [e, sw, if_neg z1, if_neg z2]
theorem run_plc {td : Int → Int → Bool} {n : Nat} : ∀ {cs : List (Int × Int)} {p : List Int}, Plc n p → (∀ c ∈ cs, CallOk n c) → Plc n (runP td p cs)
  | [], p, h, _ => h
  | c :: cs, p, h, hc => run_plc (cs := cs) (step_plc h (hc c List.mem_cons_self)) fun d hd => hc d (List.mem_cons_of_mem _ hd)
theorem run_append (td : Int → Int → Bool) (p : List Int) (a b : List (Int × Int)) : runP td p (a ++ b) = runP td (runP td p a) b := List.foldl_append
theorem run_back {td : Int → Int → Bool} (sym : ∀ a b, td a b = td b a) {n : Nat} : ∀ {cs : List (Int × Int)} {p : List Int}, Plc n p → (∀ c ∈ cs, CallOk n c) → runP td (runP td p cs) cs.reverse = p
  | [], p, _, _ => rfl
  | c :: cs, p, h, hc => by
    have h1 := step_plc (td := td) h (hc c List.mem_cons_self)
    have ih := run_back sym (cs := cs) h1 fun d hd => hc d (List.mem_cons_of_mem _ hd)
    rw [List.reverse_cons, run_append]
    show stepP td (runP td (runP td (stepP td p c) cs) cs.reverse) c = p
    rw [ih]
    exact step_step sym h.row.len (hc c List.mem_cons_self)
theorem pairs_ok {n : Nat} (hn : 2 ≤ n) {cs : List Int} (h : ∀ c ∈ cs, 1 ≤ c ∧ c ≤ n) : ∀ c ∈ pairsF n cs, CallOk n c := by
  intro c hc
  obtain ⟨x, hx, rfl⟩ := List.mem_map.mp hc
  have a := h x hx
  have b := Int.emod_nonneg x (show (n : Int) ≠ 0 by omega)
  have d := Int.emod_lt_of_pos x (show (0 : Int) < n by omega)
  refine ⟨a, ⟨?_, ?_⟩, ?_⟩
  · show 1 ≤ x % n + 1
    omega
  · show x % n + 1 ≤ n
    omega
  · show x ≠ x % n + 1
    by_cases e : x = n
    · subst e
      rw [Int.emod_self]
      omega
    · rw [Int.emod_eq_of_lt (by omega) (by omega)]
      omega
theorem pairs_rev (n : Int) (cs : List Int) : pairsF n cs.reverse = (pairsF n cs).reverse := List.map_reverse
/-! ### rounds -/
def it (f : List Int → List Int) : Nat → List Int → List Int
  | 0, x => x
  | k + 1, x => it f k (f x)
theorem it_add (f : List Int → List Int) : ∀ (a b : Nat) (x : List Int), it f (a + b) x = it f b (it f a x)
  | 0, b, x => by rw [Nat.zero_add]; rfl
  | a + 1, b, x => by
    rw [Nat.add_right_comm]
    exact it_add f a b (f x)
theorem it_succ (f : List Int → List Int) (k : Nat) (x : List Int) : it f (k + 1) x = f (it f k x) := by
  rw [it_add]
  rfl
theorem it_mul (f : List Int → List Int) {L : Nat} {x : List Int} (h : it f L x = x) : ∀ q, it f (L * q) x = x
  | 0 => rfl
  | q + 1 => by rw [Nat.mul_succ, it_add, it_mul f h q, h]
theorem it_mod (f : List Int → List Int) {L : Nat} {x : List Int} (h : it f L x = x) (k : Nat) : it f (k % L) x = it f k x := by
  conv => rhs; rw [← Nat.div_add_mod k L, it_add, it_mul f h]
def roundP (td : Int → Int → Bool) (cs : List (Int × Int)) (p : List Int) : List Int := runP td p cs
theorem it_plc {td : Int → Int → Bool} {n : Nat} {cs : List (Int × Int)} (hc : ∀ c ∈ cs, CallOk n c) : ∀ (k : Nat) {p : List Int}, Plc n p → Plc n (it (roundP td cs) k p)
  | 0, p, h => h
  | k + 1, p, h => it_plc hc k (p := roundP td cs p) (run_plc h hc)
theorem run_rep (td : Int → Int → Bool) (cs : List (Int × Int)) : ∀ (k : Nat) (p : List Int), runP td p (List.replicate k cs).flatten = it (roundP td cs) k p
  | 0, p => rfl
  | k + 1, p => by
    rw [List.replicate_succ, List.flatten_cons, run_append]
    exact run_rep td cs k _
theorem it_undo {td : Int → Int → Bool} (sym : ∀ a b, td a b = td b a) {n : Nat} {cs : List (Int × Int)} (hc : ∀ c ∈ cs, CallOk n c) : ∀ (k : Nat) {p : List Int}, Plc n p → it (roundP td cs.reverse) k (it (roundP td cs) k p) = p
  | 0, p, _ => rfl
  | k + 1, p, h => by
    rw [it_succ (roundP td cs)]
    show it (roundP td cs.reverse) k (roundP td cs.reverse (roundP td cs (it (roundP td cs) k p))) = p
    have : roundP td cs.reverse (roundP td cs (it (roundP td cs) k p)) = it (roundP td cs) k p := run_back sym (it_plc hc k h) hc
    rw [this]
    exact it_undo sym hc k h
/-- what comes back behind L rounds comes back behind L rounds backwards -/
theorem back_rev {td : Int → Int → Bool} (sym : ∀ a b, td a b = td b a) {n : Nat} {cs : List (Int × Int)} (hc : ∀ c ∈ cs, CallOk n c) {p : List Int} (hp : Plc n p) {L : Nat} (h : it (roundP td cs) L p = p) : it (roundP td cs.reverse) L p = p := by
  have := it_undo (cs := cs) sym hc L hp
  rw [h] at this
  exact this
/-- k rounds backwards are L - k % L rounds forwards -/
theorem rev_mod {td : Int → Int → Bool} (sym : ∀ a b, td a b = td b a) {n : Nat} {cs : List (Int × Int)} (hc : ∀ c ∈ cs, CallOk n c) {p : List Int} (hp : Plc n p) {L : Nat} (hL : 0 < L) (h : it (roundP td cs) L p = p) (k : Nat) {j : Nat} (hj : (j + k) % L = 0) : it (roundP td cs.reverse) k p = it (roundP td cs) j p := by
  have e : it (roundP td cs) (j + k) p = p := by rw [← it_mod _ h, hj]; rfl
  rw [it_add] at e
  have z := it_undo (cs := cs) sym hc k (it_plc (td := td) hc j hp)
  rw [e] at z
  exact z
end MR

namespace MR
/-! ### all sit again as at first -/
theorem not_nodup : ∀ {l : List Nat}, ¬ l.Nodup → ∃ i j : Nat, i < j ∧ j < l.length ∧ l[i]? = l[j]?
  | [], h => absurd List.nodup_nil h
  | x :: l, h => by
    by_cases hx : x ∈ l
    · obtain ⟨j, hj, e⟩ := List.mem_iff_getElem.mp hx
      exact ⟨0, j + 1, by omega, by rw [List.length_cons]; omega, by rw [List.getElem?_cons_zero, List.getElem?_cons_succ, List.getElem?_eq_getElem hj, e]⟩
    · obtain ⟨i, j, h1, h2, e⟩ := not_nodup (l := l) fun z => h (List.nodup_cons.mpr ⟨hx, z⟩)
      exact ⟨i + 1, j + 1, by omega, by rw [List.length_cons]; omega, by rw [List.getElem?_cons_succ, List.getElem?_cons_succ, e]⟩
def code (b : Nat) (l : List Int) : Nat := l.foldl (fun a x => a * b + x.toNat) 0
theorem code_go (b : Nat) : ∀ (l m : List Int) (a c : Nat), l.length = m.length → (∀ x ∈ l, 0 ≤ x ∧ x < b) → (∀ x ∈ m, 0 ≤ x ∧ x < b) → l.foldl (fun a x => a * b + x.toNat) a = m.foldl (fun a x => a * b + x.toNat) c → a = c ∧ l = m
  | [], [], a, c, _, _, _, e => ⟨e, rfl⟩
  | [], _ :: _, _, _, h, _, _, _ => by cases h
  | _ :: _, [], _, _, h, _, _, _ => by cases h
  | x :: l, y :: m, a, c, h, h1, h2, e => by
    obtain ⟨e1, e2⟩ := code_go b l m _ _ (Nat.succ.inj h) (fun z hz => h1 z (List.mem_cons_of_mem _ hz)) (fun z hz => h2 z (List.mem_cons_of_mem _ hz)) e
    have a1 := h1 x List.mem_cons_self
    have a2 := h2 y List.mem_cons_self
    have b1 : x.toNat < b := by omega
    have b2 : y.toNat < b := by omega
    have d1 := congrArg (· / b) e1
    have d2 := congrArg (· % b) e1
    simp only [Nat.mul_add_mod_of_lt b1, Nat.mul_add_mod_of_lt b2, Nat.mul_comm a, Nat.mul_comm c, Nat.mul_add_mod, Nat.mod_eq_of_lt b1, Nat.mod_eq_of_lt b2] at d2
    simp only [Nat.mul_comm a, Nat.mul_comm c, Nat.mul_add_div (show 0 < b by omega), Nat.div_eq_of_lt b1, Nat.div_eq_of_lt b2, Nat.add_zero] at d1
    refine ⟨d1, ?_⟩
    rw [e2, show x = y by omega]
theorem code_lt (b : Nat) : ∀ (l : List Int) (a : Nat), (∀ x ∈ l, 0 ≤ x ∧ x < b) → l.foldl (fun a x => a * b + x.toNat) a < (a + 1) * b ^ l.length
  | [], a, _ => by simp
  | x :: l, a, h => by
    have ih := code_lt b l (a * b + x.toNat) fun z hz => h z (List.mem_cons_of_mem _ hz)
    have hx := h x List.mem_cons_self
    refine Nat.lt_of_lt_of_le ih ?_
    rw [List.length_cons, Nat.pow_succ, Nat.mul_comm (b ^ l.length) b, ← Nat.mul_assoc]
    refine Nat.mul_le_mul_right _ ?_
    rw [Nat.add_mul, Nat.one_mul]
    omega
theorem code_inj {b : Nat} {l m : List Int} (h : l.length = m.length) (h1 : ∀ x ∈ l, 0 ≤ x ∧ x < b) (h2 : ∀ x ∈ m, 0 ≤ x ∧ x < b) (e : code b l = code b m) : l = m := (code_go b l m 0 0 h h1 h2 e).2
section
variable {td : Int → Int → Bool} {n : Nat} {cs : List (Int × Int)}
/-- how soon all sit as at first -/
structure Per (td : Int → Int → Bool) (cs : List (Int × Int)) (p : List Int) (L : Nat) : Prop where
  pos : 0 < L
  back : it (roundP td cs) L p = p
  least : ∀ k, 0 < k → k < L → it (roundP td cs) k p ≠ p
theorem per_of {p : List Int} : ∀ (N : Nat), 0 < N → it (roundP td cs) N p = p → ∃ L, L ≤ N ∧ Per td cs p L := by
  intro N
  induction N using Nat.strongRecOn with
  | ind N ih =>
    intro h0 hb
    by_cases c : ∃ k, 0 < k ∧ k < N ∧ it (roundP td cs) k p = p
    · obtain ⟨k, k0, k1, kb⟩ := c
      obtain ⟨L, hL, P⟩ := ih k k1 k0 kb
      exact ⟨L, by omega, P⟩
    · exact ⟨N, Nat.le_refl _, h0, hb, fun k k0 k1 e => c ⟨k, k0, k1, e⟩⟩
theorem it_cancel (sym : ∀ a b, td a b = td b a) (hc : ∀ c ∈ cs, CallOk n c) {p : List Int} (hp : Plc n p) {i j : Nat} (h : i < j) (e : it (roundP td cs) i p = it (roundP td cs) j p) : it (roundP td cs) (j - i) p = p := by
  have e2 : it (roundP td cs) j p = it (roundP td cs) i (it (roundP td cs) (j - i) p) := by rw [← it_add, show j - i + i = j by omega]
  have u1 := it_undo (cs := cs) sym hc i hp
  have u2 := it_undo (cs := cs) sym hc i (it_plc (td := td) hc (j - i) hp)
  rw [← e2, ← e, u1] at u2
  exact u2.symm
/-- on few seats all sit soon as at first -/
theorem back_soon (sym : ∀ a b, td a b = td b a) (hc : ∀ c ∈ cs, CallOk n c) {p : List Int} (hp : Plc n p) : ∃ L, L ≤ (n + 1) ^ (n + 1) ∧ Per td cs p L := by
  have bound : ∀ k, code (n + 1) (it (roundP td cs) k p) < (n + 1) ^ (n + 1) := fun k => by
    have q := (it_plc (td := td) hc k hp).row
    have := code_lt (n + 1) (it (roundP td cs) k p) 0 q.lo
    rw [q.len] at this
    unfold code
    omega
  have nn : ¬ ((List.range ((n + 1) ^ (n + 1) + 1)).map fun k => code (n + 1) (it (roundP td cs) k p)).Nodup := fun nd => by
    have := nodup_len ((n + 1) ^ (n + 1)) _ nd fun x hx => by
      obtain ⟨k, _, rfl⟩ := List.mem_map.mp hx
      exact bound k
    rw [List.length_map, List.length_range] at this
    omega
  obtain ⟨i, j, hij, hj, e⟩ := not_nodup nn
  rw [List.length_map, List.length_range] at hj
  rw [List.getElem?_map, List.getElem?_map, List.getElem?_range hj, List.getElem?_range (by omega)] at e
  have e := Option.some.inj e
  have q1 := (it_plc (td := td) hc i hp).row
  have q2 := (it_plc (td := td) hc j hp).row
  have e := code_inj (by rw [q1.len, q2.len]) q1.lo q2.lo e
  have b := it_cancel sym hc hp hij e
  obtain ⟨L, hL, P⟩ := per_of (td := td) (cs := cs) (j - i) (by omega) b
  exact ⟨L, by omega, P⟩
theorem Per.dvd {p : List Int} {L : Nat} (P : Per td cs p L) (k : Nat) : it (roundP td cs) k p = p ↔ k % L = 0 := by
  constructor
  · intro h
    rw [← it_mod _ P.back] at h
    exact Decidable.byContradiction fun c => P.least (k % L) (Nat.pos_of_ne_zero c) (Nat.mod_lt _ P.pos) h
  · intro h
    rw [← it_mod _ P.back, h]
    rfl
theorem Per.rev (sym : ∀ a b, td a b = td b a) (hc : ∀ c ∈ cs, CallOk n c) {p : List Int} (hp : Plc n p) {L : Nat} (P : Per td cs p L) : Per td cs.reverse p L := by
  refine ⟨P.pos, back_rev sym hc hp P.back, fun k k0 k1 e => ?_⟩
  have hc' : ∀ c ∈ cs.reverse, CallOk n c := fun c h => hc c (List.mem_reverse.mp h)
  have := back_rev (cs := cs.reverse) sym hc' hp e
  rw [List.reverse_reverse] at this
  exact P.least k k0 k1 this
/-- the rounds as the program counts them: what is left is taken anew whenever all sit as at first -/
theorem left_mod {p : List Int} {k left many : Nat} (h : it (roundP td cs) left (it (roundP td cs) k p) = it (roundP td cs) many p) (b : it (roundP td cs) k p = p) : it (roundP td cs) (left % k) (it (roundP td cs) k p) = it (roundP td cs) many p := by
  rw [b] at h ⊢
  rw [it_mod _ b, h]
end
end MR

namespace K24
open PySem PySem.Spec PyProof.Rows L2 Vf Evl
/-! ### ties -/
def nrm (t : Int × Int) : Int × Int := if t.1 ≤ t.2 then t else (t.2, t.1)
def key2 (t : Int × Int) : List Int := [(nrm t).1, (nrm t).2]
structure NetOk (n : Int) (ts : List (Int × Int)) : Prop where
  lo : 3 ≤ n
  hi : n ≤ 40
  ok : ∀ t ∈ ts, (1 ≤ t.1 ∧ t.1 ≤ n) ∧ (1 ≤ t.2 ∧ t.2 ≤ n) ∧ t.1 ≠ t.2
  nd : (ts.map nrm).Nodup
  few : ts.length ≤ 1000
theorem key2_inj {s t : Int × Int} (h : key2 s = key2 t) : nrm s = nrm t := by
  unfold key2 at h
  injection h with h1 h2
  injection h2 with h2 _
  exact Prod.ext h1 h2
theorem sorted_two {ns : List Int} {x y : Int} (h : ns.Perm [x, y]) (hs : ns.Pairwise (· ≤ ·)) : ns = key2 (x, y) := by
  have hl := h.length_eq
  match ns, hl with
  | [a, b], _ =>
    have hab : a ≤ b := by simpa using hs
    have ha : a ∈ [x, y] := h.mem_iff.mp (by simp)
    have hb : b ∈ [x, y] := h.mem_iff.mp (by simp)
    have hx : x ∈ [a, b] := h.mem_iff.mpr (by simp)
    have hy : y ∈ [a, b] := h.mem_iff.mpr (by simp)
    simp only [List.mem_cons, List.not_mem_nil, or_false] at ha hb hx hy
    unfold key2 nrm
    by_cases c : x ≤ y
    · simp only [c, if_true]
      have : a = x ∧ b = y := by omega
      rw [this.1, this.2]
    · simp only [c, if_false]
      have : a = y ∧ b = x := by omega
      rw [this.1, this.2]
def TiesAt (K : PySem.W.Frag) (H : Hp) (a : Addr) (ts : List (Int × Int)) : Prop :=
  ∃ as : List Addr, SqL K H a (as.map V.ref) ∧ as.length = ts.length ∧ ∀ (i : Nat) (b : Addr) (t : Int × Int), as[i]? = some b → ts[i]? = some t → SqL K H b [.int t.1, .int t.2]
theorem TiesAt.mono {K : PySem.W.Frag} {H H' : Hp} {a : Addr} {ts : List (Int × Int)} (e : Ex H H') (h : TiesAt K H a ts) : TiesAt K H' a ts := by
  obtain ⟨as, h1, h2, h3⟩ := h
  exact ⟨as, ex_l e h1, h2, fun i b t x y => ex_l e (h3 i b t x y)⟩
theorem ty_list {K : PySem.W.Frag} {H : Hp} {a : Addr} {xs : List V} (h : SqL K H a xs) : TyX K H (.ref a) (.type "list") := by
  rcases h with (h | ⟨o, h⟩) | ⟨o, its, n, h, hc, _⟩
  · exact .base (.lst h)
  · exact .base (.frz h)
  · exact .kList h hc
section
variable {P : Program} {w : World} {K : PySem.W.Frag} {mg : Str → Option Value} {base : Heap} {A : Ad}
def sp_check_count : Sp := fun vs H Q _ => ∃ n : Int, vs = [.int n] ∧ 3 ≤ n ∧ n ≤ 40 ∧ RetV .non H Q
theorem ok_check_count (T : Txt K mg A) : FnOk P w K mg base CX0 2 A.f_check_count A.d_check_count ["number"] sp_check_count := by
  have G_is_from_one : FnOk P w K mg base CX0 1 A.f_is_from_one A.d_is_from_one ["thing", "most"] sp_is_from_one := ok_is_from_one T
  refine T.F_check_count.ok sc_check_count (fun vs H Q E h => ?_) (fun cdv A' outer s H vs Q E hr h => ?_)
  · obtain ⟨n, rfl, _⟩ := h
    rfl
  · obtain ⟨n, rfl, h1, h2, q⟩ := h
    refine ⟨_, (pss_one (ps_if (PW.pt (pw_or (pt_not (pt_val (pe_call G_is_from_one (hr.mono (by decide)) (by rfl) T.g_is_from_one T.F_is_from_one.kp T.b_is_from_one .nil pass0 (pa_cons (pv 0) (pa_cons (pe_glob (v := .int 40) (by rfl) T.g_MOST_COUNT ⟨_, rfl⟩) pa_nil))))) (pw_or1 (pt_cmpR op_lt (pv 0) (pe_glob (v := .int 3) (by rfl) T.g_LEAST_COUNT ⟨_, rfl⟩) (nomark _))))) (pss_one ps_never) pss_nil)), ?_⟩
    refine ⟨_, rfl, n, 40, rfl, fun H1 e1 => ?_⟩
    rw [decide_eq_true (show 1 ≤ n ∧ n ≤ 40 by omega)]
    refine ⟨true, rfl, iteF ⟨_, rfl, _, _, rfl, rfl, _, rfl, ?_⟩⟩
    rw [decide_eq_false (show ¬ n < 3 by omega)]
    exact iteF (q H1 e1)
def sp_is_tie (K : PySem.W.Frag) : Sp := fun vs H Q _ => ∃ (b : Addr) (x y n : Int), vs = [.ref b, .int n] ∧ SqL K H b [.int x, .int y] ∧ (1 ≤ x ∧ x ≤ n) ∧ (1 ≤ y ∧ y ≤ n) ∧ x ≠ y ∧ RetV (.bl true) H Q
theorem ok_is_tie (T : Txt K mg A) : FnOk P w K mg base CX0 3 A.f_is_tie A.d_is_tie ["thing", "seats"] (sp_is_tie K) := by
  have G_first_wrong : FnOk P w K mg base CX0 2 A.f_first_wrong A.d_first_wrong ["things", "most"] (sp_first_wrong K) := ok_first_wrong T
  refine T.F_is_tie.ok sc_is_tie (fun vs H Q E h => ?_) (fun cdv A' outer s H vs Q E hr h => ?_)
  · obtain ⟨b, x, y, n, rfl, _⟩ := h
    rfl
  · obtain ⟨b, x, y, n, rfl, hS, hx, hy, ne, q⟩ := h
    refine ⟨_, (pss_one (ps_ret (pe_and (pe_callB call_isi (by rfl) T.z_isinstance (by decide +kernel) (pa_cons (pv 0) (pa_cons (pe_bltn (v := .ty "list") (by rfl) T.z_list (by decide +kernel) rfl) pa_nil))) (pe_and (pe_cmpR op_eq (pe_callB (call_lenK (K := K) rfl) (by rfl) T.z_len PySem.boot_len (pa_cons (pv 0) pa_nil)) pe_int (nomark _)) (pe_one (pe_cmp (pc_isN (pe_call G_first_wrong (hr.mono (by decide)) (by rfl) T.g_first_wrong T.F_first_wrong.kp T.b_first_wrong .nil pass0 (pa_cons (pv 0) (pa_cons (pv 1) pa_nil)))))))))), ?_⟩
    refine ⟨_, rfl, _, _, .type "list", .type "list", true, rfl, .ty _, ty_list hS, kit_ty (by decide +kernel), true, rfl, iteT ?_⟩
    refine ⟨_, rfl, b, _, rfl, .inl hS, rfl, true, rfl, iteT ?_⟩
    refine ⟨_, rfl, _, rfl, b, [x, y], n, rfl, hS, by simpa using ne, fun z hz => ?_, by show 2 ≤ 1000; decide, fun H1 e1 => q H1 e1⟩
    simp only [List.mem_cons, List.not_mem_nil, or_false] at hz
    rcases hz with rfl | rfl
    · exact hx
    · exact hy
def sp_check_ties (K : PySem.W.Frag) : Sp := fun vs H Q _ => ∃ (a : Addr) (ts : List (Int × Int)) (n : Int), vs = [.ref a, .int n] ∧ TiesAt K H a ts ∧ NetOk n ts ∧ RetV .non H Q
theorem ok_check_ties (T : Txt K mg A) : FnOk P w K mg base CX0 4 A.f_check_ties A.d_check_ties ["ties", "seats"] (sp_check_ties K) := by
  have G_is_tie : FnOk P w K mg base CX0 3 A.f_is_tie A.d_is_tie ["thing", "seats"] (sp_is_tie K) := ok_is_tie T
  refine T.F_check_ties.ok sc_check_ties (fun vs H Q E h => ?_) (fun cdv A' outer s H vs Q E hr h => ?_)
  · obtain ⟨a, ts, n, rfl, _⟩ := h
    rfl
  · obtain ⟨a, ts, n, rfl, hT, N, q⟩ := h
    obtain ⟨as, hS, hlen, hat⟩ := hT
    refine ⟨_, (pss_cons (ps_if (pt_not (pt_val (pe_callB call_isi (by rfl) T.z_isinstance (by decide +kernel) (pa_cons (pv 0) (pa_cons (pe_bltn (v := .ty "list") (by rfl) T.z_list (by decide +kernel) rfl) pa_nil))))) (pss_one ps_never) pss_nil)
      (pss_cons (ps_set (i := 2) sc_check_ties.nd rfl (by first | exact .inl rfl | exact .inr rfl) (pe_callTy0 cr_set0W (by rfl) T.z_set (by decide +kernel)))
      (pss_one (ps_for PassesOwn.never rfl (pi_enum (by rfl) T.z_enumerate (pa_cons (pv 0) pa_nil)) (pg_tupK (n := 2) (K := K) rfl rfl (pgs_cons (pg_name (i := 3) sc_check_ties.nd rfl (by first | exact .inl rfl | exact .inr rfl)) (pgs_cons (pg_name (i := 4) sc_check_ties.nd rfl (by first | exact .inl rfl | exact .inr rfl)) pgs_nil))) (pss_cons (ps_if (pt_not (pt_val (pe_call G_is_tie (hr.mono (by decide)) (by rfl) T.g_is_tie T.F_is_tie.kp T.b_is_tie .nil pass0 (pa_cons (pv 4) (pa_cons (pv 1) pa_nil))))) (pss_one ps_never) pss_nil)
      (pss_cons (ps_set (i := 5) sc_check_ties.nd rfl (by first | exact .inl rfl | exact .inr rfl) (pe_callTy call_tuple_of (by rfl) T.z_tuple (by decide +kernel) (pa_cons (pe_callB (cr_sortedK (K := K) rfl) (by rfl) T.z_sorted (by decide +kernel) (pa_cons (pv 4) pa_nil)) pa_nil)))
      (pss_cons (ps_if (pt_cmpR (op_inW (hu10 hr)) (pv 5) (pv 2) (by rfl)) (pss_one ps_never) pss_nil)
      (pss_one (ps_expr (pe_saddW (hu10 hr) (pv 2) (pa_cons (pv 5) pa_nil))))))))))), ?_⟩
    refine ⟨_, rfl, _, _, .type "list", .type "list", true, rfl, .ty _, ty_list hS, kit_ty (by decide +kernel), true, rfl, iteF ?_⟩
    refine ⟨rfl, fun p np => ?_⟩
    have e0 : Ex H (upd H p (SetWO P w p [])) := Ex.new np
    refine ⟨.ref a, rfl, a, as.map V.ref, rfl, ex_l e0 hS, ?_⟩
    refine for_enumL (xs := as.map V.ref) (fun i σ' H' => (∃ y3 y4 y5, σ' = [some (.ref a), some (.int n), some (.ref p), y3, y4, y5]) ∧ Ex H H' ∧
        ∃ L, H' p = some (SetWO P w p L) ∧ L.length ≤ i ∧ (∀ x ∈ L, SqT K H' x.1 (x.2.map V.int)) ∧ ∀ k, k ∈ L.map (·.2) → k ∈ (ts.take i).map key2)
      ⟨⟨none, none, none, rfl⟩, e0, [], upd_same, Nat.le_refl _, (fun x hx => by cases hx), (fun k hk => by cases hk)⟩ (fun i σ' H' z => ex_l z.2.1 hS) ?_ ?_
    · rintro i x Tt σ' H' hx ⟨⟨y3, y4, y5, rfl⟩, e1, L, hp, hLi, hLt, hLk⟩ nT
      obtain ⟨b, hb, rfl⟩ := map_at hx
      have hi : i < ts.length := by rw [← hlen]; exact (List.getElem?_eq_some_iff.mp hb).1
      obtain ⟨t, ht⟩ : ∃ t, ts[i]? = some t := ⟨_, List.getElem?_eq_getElem hi⟩
      have tok := N.ok t (List.mem_of_getElem? ht)
      have e2 : Ex H' (upd H' Tt (.tup [.int (i : Nat), .ref b])) := Ex.new nT
      refine ⟨Tt, _, rfl, .inl (.inl upd_same), rfl, _, _, rfl, _, _, rfl, rfl, ?_⟩
      -- if not is_tie(tie, seats)
      refine ⟨_, rfl, _, rfl, b, t.1, t.2, n, rfl, ex_l (e1.trans e2) (hat i b t hb ht), tok.1, tok.2.1, tok.2.2, fun H3 e3 => ?_⟩
      refine ⟨true, rfl, iteF ?_⟩
      -- pair = tuple(sorted(tie))
      refine ⟨_, rfl, b, [t.1, t.2], rfl, ex_l ((e1.trans e2).trans e3) (hat i b t hb ht), (by show 2 < 64; decide), fun ns' p4 pm sr np4 => ?_⟩
      obtain rfl := sorted_two pm sr
      have e4 : Ex H3 (upd H3 p4 (.lst ((key2 t).map V.int))) := Ex.new np4
      refine ⟨p4, _, rfl, .inl ⟨.inl (.inl upd_same), fun tp ntp => ?_⟩⟩
      have e5 : Ex (upd H3 p4 (.lst ((key2 t).map V.int))) (upd (upd H3 p4 (.lst ((key2 t).map V.int))) tp (.tup ((key2 t).map V.int))) := Ex.new ntp
      have eall := (e2.trans e3).trans (e4.trans e5)
      have tpat : SqT K (upd (upd H3 p4 (.lst ((key2 t).map V.int))) tp (.tup ((key2 t).map V.int))) tp ((key2 t).map V.int) := .inl (.inl upd_same)
      generalize upd (upd H3 p4 (.lst ((key2 t).map V.int))) tp (.tup ((key2 t).map V.int)) = H5 at e5 eall tpat
      have hp5 := eall _ _ hp
      have hL5 : ∀ x ∈ L, SqT K H5 x.1 (x.2.map V.int) := fun x hx => ex_t eall (hLt x hx)
      have fresh : key2 t ∉ L.map (·.2) := fun z => by
        obtain ⟨t', ht', e⟩ := List.mem_map.mp (hLk _ z)
        have e := key2_inj e
        have h1 : (ts.map nrm)[i]? = some (nrm t) := by rw [List.getElem?_map, ht]; rfl
        refine nodup_at N.nd h1 ?_
        rw [← List.map_take]
        exact List.mem_map.mpr ⟨t', ht', e⟩
      -- if pair in tied
      refine ⟨_, rfl, _, rfl, p, tp, key2 t, L, rfl, rfl, hp5, tpat, hL5, ?_⟩
      rw [decide_eq_false fresh]
      refine ⟨false, rfl, iteF ?_⟩
      -- tied.add(pair)
      have few := N.few
      refine ⟨_, rfl, ⟨p, L, rfl, hp5⟩, _, rfl, p, tp, key2 t, L, rfl, rfl, hp5, tpat, hL5, by omega, fun L' _ hL' => ?_⟩
      have pm := hL' fresh
      refine ⟨⟨_, _, _, rfl⟩, Ex.mut (e1.trans eall) np, L', upd_same, by rw [pm.length_eq]; simp; omega, fun x hx => ?_, fun k hk => ?_⟩
      · have e6 : SqT K H5 x.1 (x.2.map V.int) := by
          rcases List.mem_cons.mp (pm.mem_iff.mp hx) with rfl | hx
          · exact tpat
          · exact hL5 x hx
        exact sqT_upd e6 hp5 (fun ys z => by cases z) (fun ob u z => by cases z)
      · rw [take_snoc ht, List.map_append, List.mem_append]
        rcases List.mem_cons.mp ((pm.map (·.2)).mem_iff.mp hk) with rfl | hk
        · exact .inr (by simp)
        · exact .inl (hLk k hk)
    · rintro σ' H' ⟨_, e1, _⟩
      exact q H' e1
def sp_check_net (K : PySem.W.Frag) : Sp := fun vs H Q _ => ∃ (a : Addr) (ts : List (Int × Int)) (n : Int), vs = [.int n, .ref a] ∧ TiesAt K H a ts ∧ NetOk n ts ∧ RetV .non H Q
theorem ok_check_net (T : Txt K mg A) : FnOk P w K mg base CX0 5 A.f_check_net A.d_check_net ["seats", "ties"] (sp_check_net K) := by
  have G_check_count : FnOk P w K mg base CX0 2 A.f_check_count A.d_check_count ["number"] sp_check_count := ok_check_count T
  have G_check_ties : FnOk P w K mg base CX0 4 A.f_check_ties A.d_check_ties ["ties", "seats"] (sp_check_ties K) := ok_check_ties T
  refine T.F_check_net.ok sc_check_net (fun vs H Q E h => ?_) (fun cdv A' outer s H vs Q E hr h => ?_)
  · obtain ⟨a, ts, n, rfl, _⟩ := h
    rfl
  · obtain ⟨a, ts, n, rfl, hT, N, q⟩ := h
    refine ⟨_, (pss_cons (ps_expr (pe_call G_check_count (hr.mono (by decide)) (by rfl) T.g_check_count T.F_check_count.kp T.b_check_count .nil pass0 (pa_cons (pv 0) pa_nil)))
      (pss_one (ps_expr (pe_call G_check_ties (hr.mono (by decide)) (by rfl) T.g_check_ties T.F_check_ties.kp T.b_check_ties .nil pass0 (pa_cons (pv 1) (pa_cons (pv 0) pa_nil)))))), ?_⟩
    refine ⟨_, rfl, n, rfl, N.lo, N.hi, fun H1 e1 => ?_⟩
    refine ⟨_, rfl, _, rfl, a, ts, n, rfl, hT.mono e1, N, fun H2 e2 => ?_⟩
    exact q H2 (e1.trans e2)
/-! ### standings, orders, calls -/
def sp_check_standing (K : PySem.W.Frag) : Sp := fun vs H Q _ => ∃ (a : Addr) (st : List Int) (n : Nat), vs = [.ref a, .int (n : Int)] ∧ SqL K H a (st.map V.int) ∧ MR.Stn n st ∧ n ≤ 1000 ∧ RetV .non H Q
theorem ok_check_standing (T : Txt K mg A) : FnOk P w K mg base CX0 3 A.f_check_standing A.d_check_standing ["standing", "seats"] (sp_check_standing K) := by
  have G_first_wrong : FnOk P w K mg base CX0 2 A.f_first_wrong A.d_first_wrong ["things", "most"] (sp_first_wrong K) := ok_first_wrong T
  refine T.F_check_standing.ok sc_check_standing (fun vs H Q E h => ?_) (fun cdv A' outer s H vs Q E hr h => ?_)
  · obtain ⟨a, st, n, rfl, _⟩ := h
    rfl
  · obtain ⟨a, st, n, rfl, hS, S, hn, q⟩ := h
    refine ⟨_, (pss_cons (ps_if (PW.pt (pw_or (pt_not (pt_val (pe_callB call_isi (by rfl) T.z_isinstance (by decide +kernel) (pa_cons (pv 0) (pa_cons (pe_bltn (v := .ty "list") (by rfl) T.z_list (by decide +kernel) rfl) pa_nil))))) (pw_or1 (pt_cmpR op_ne (pe_callB (call_lenK (K := K) rfl) (by rfl) T.z_len PySem.boot_len (pa_cons (pv 0) pa_nil)) (pv 1) (nomark _))))) (pss_one ps_never) pss_nil)
      (pss_cons (ps_set (i := 2) sc_check_standing.nd rfl (by first | exact .inl rfl | exact .inr rfl) (pe_call G_first_wrong (hr.mono (by decide)) (by rfl) T.g_first_wrong T.F_first_wrong.kp T.b_first_wrong .nil pass0 (pa_cons (pv 0) (pa_cons (pv 1) pa_nil))))
      (pss_one (ps_if (pt_cmp (pc_notN (pv 2))) (pss_one ps_never) pss_nil)))), ?_⟩
    refine ⟨_, rfl, _, _, .type "list", .type "list", true, rfl, .ty _, ty_list hS, kit_ty (by decide +kernel), true, rfl, iteF ?_⟩
    refine ⟨_, rfl, a, _, rfl, .inl hS, _, rfl, rfl, _, rfl, ?_⟩
    rw [decide_eq_true (show V.int ((st.map V.int).length : Int) = V.int (n : Int) by rw [List.length_map, S.len])]
    refine iteF ?_
    refine ⟨_, rfl, _, rfl, a, st, (n : Int), rfl, hS, S.nd, S.lo, by rw [S.len]; exact hn, fun H1 e1 => ?_⟩
    refine ⟨_, rfl, _, rfl, ?_⟩
    rw [decide_eq_true (show V.non = V.non from rfl)]
    exact iteF (q H1 e1)
def sp_check_order_of (K : PySem.W.Frag) : Sp := sp_check_standing K
theorem ok_check_order_of (T : Txt K mg A) : FnOk P w K mg base CX0 3 A.f_check_order_of A.d_check_order_of ["order", "count"] (sp_check_order_of K) := by
  have G_first_wrong : FnOk P w K mg base CX0 2 A.f_first_wrong A.d_first_wrong ["things", "most"] (sp_first_wrong K) := ok_first_wrong T
  refine T.F_check_order_of.ok sc_check_order_of (fun vs H Q E h => ?_) (fun cdv A' outer s H vs Q E hr h => ?_)
  · obtain ⟨a, st, n, rfl, _⟩ := h
    rfl
  · obtain ⟨a, st, n, rfl, hS, S, hn, q⟩ := h
    refine ⟨_, (pss_cons (ps_if (PW.pt (pw_or (pt_not (pt_val (pe_callB call_isi (by rfl) T.z_isinstance (by decide +kernel) (pa_cons (pv 0) (pa_cons (pe_bltn (v := .ty "list") (by rfl) T.z_list (by decide +kernel) rfl) pa_nil))))) (pw_or1 (pt_cmpR op_ne (pe_callB (call_lenK (K := K) rfl) (by rfl) T.z_len PySem.boot_len (pa_cons (pv 0) pa_nil)) (pv 1) (nomark _))))) (pss_one ps_never) pss_nil)
      (pss_cons (ps_set (i := 2) sc_check_order_of.nd rfl (by first | exact .inl rfl | exact .inr rfl) (pe_call G_first_wrong (hr.mono (by decide)) (by rfl) T.g_first_wrong T.F_first_wrong.kp T.b_first_wrong .nil pass0 (pa_cons (pv 0) (pa_cons (pv 1) pa_nil))))
      (pss_one (ps_if (pt_cmp (pc_notN (pv 2))) (pss_one ps_never) pss_nil)))), ?_⟩
    refine ⟨_, rfl, _, _, .type "list", .type "list", true, rfl, .ty _, ty_list hS, kit_ty (by decide +kernel), true, rfl, iteF ?_⟩
    refine ⟨_, rfl, a, _, rfl, .inl hS, _, rfl, rfl, _, rfl, ?_⟩
    rw [decide_eq_true (show V.int ((st.map V.int).length : Int) = V.int (n : Int) by rw [List.length_map, S.len])]
    refine iteF ?_
    refine ⟨_, rfl, _, rfl, a, st, (n : Int), rfl, hS, S.nd, S.lo, by rw [S.len]; exact hn, fun H1 e1 => ?_⟩
    refine ⟨_, rfl, _, rfl, ?_⟩
    rw [decide_eq_true (show V.non = V.non from rfl)]
    exact iteF (q H1 e1)
def sp_check_calls (K : PySem.W.Frag) : Sp := fun vs H Q _ => ∃ (a : Addr) (cs : List Int) (n : Int), vs = [.ref a, .int n] ∧ SqL K H a (cs.map V.int) ∧ (∀ c ∈ cs, 1 ≤ c ∧ c ≤ n) ∧ RetV .non H Q
theorem ok_check_calls (T : Txt K mg A) : FnOk P w K mg base CX0 2 A.f_check_calls A.d_check_calls ["calls", "count"] (sp_check_calls K) := by
  have G_is_from_one : FnOk P w K mg base CX0 1 A.f_is_from_one A.d_is_from_one ["thing", "most"] sp_is_from_one := ok_is_from_one T
  refine T.F_check_calls.ok sc_check_calls (fun vs H Q E h => ?_) (fun cdv A' outer s H vs Q E hr h => ?_)
  · obtain ⟨a, cs, n, rfl, _⟩ := h
    rfl
  · obtain ⟨a, cs, n, rfl, hS, hc, q⟩ := h
    refine ⟨_, (pss_cons (ps_if (pt_not (pt_val (pe_callB call_isi (by rfl) T.z_isinstance (by decide +kernel) (pa_cons (pv 0) (pa_cons (pe_bltn (v := .ty "list") (by rfl) T.z_list (by decide +kernel) rfl) pa_nil))))) (pss_one ps_never) pss_nil)
      (pss_one (ps_for PassesOwn.never rfl (pi_enum (by rfl) T.z_enumerate (pa_cons (pv 0) pa_nil)) (pg_tupK (n := 2) (K := K) rfl rfl (pgs_cons (pg_name (i := 2) sc_check_calls.nd rfl (by first | exact .inl rfl | exact .inr rfl)) (pgs_cons (pg_name (i := 3) sc_check_calls.nd rfl (by first | exact .inl rfl | exact .inr rfl)) pgs_nil))) (pss_one (ps_if (pt_not (pt_val (pe_call G_is_from_one (hr.mono (by decide)) (by rfl) T.g_is_from_one T.F_is_from_one.kp T.b_is_from_one .nil pass0 (pa_cons (pv 3) (pa_cons (pv 1) pa_nil))))) (pss_one ps_never) pss_nil))))), ?_⟩
    refine ⟨_, rfl, _, _, .type "list", .type "list", true, rfl, .ty _, ty_list hS, kit_ty (by decide +kernel), true, rfl, iteF ?_⟩
    refine ⟨.ref a, rfl, a, cs.map V.int, rfl, hS, ?_⟩
    refine for_enumL (xs := cs.map V.int) (fun i σ' H' => (∃ y2 y3, σ' = [some (.ref a), some (.int n), y2, y3]) ∧ Ex H H')
      ⟨⟨none, none, rfl⟩, Ex.refl H⟩ (fun i σ' H' z => ex_l z.2 hS) ?_ ?_
    · rintro i x Tt σ' H' hx ⟨⟨y2, y3, rfl⟩, e1⟩ nT
      obtain ⟨c, hcc, rfl⟩ := map_at hx
      have mem : c ∈ cs := List.mem_of_getElem? hcc
      have e2 : Ex H' (upd H' Tt (.tup [.int (i : Nat), .int c])) := Ex.new nT
      refine ⟨Tt, _, rfl, .inl (.inl upd_same), rfl, _, _, rfl, _, _, rfl, rfl, ?_⟩
      refine ⟨_, rfl, _, rfl, c, n, rfl, fun H3 e3 => ?_⟩
      rw [decide_eq_true (hc c mem)]
      exact ⟨true, rfl, iteF ⟨⟨_, _, rfl⟩, (e1.trans e2).trans e3⟩⟩
    · rintro σ' H' ⟨_, e1⟩
      exact q H' e1
def sp_check_many : Sp := fun vs H Q _ => ∃ m : Int, vs = [.int m] ∧ RetV .non H Q
theorem ok_check_many (T : Txt K mg A) : FnOk P w K mg base CX0 2 A.f_check_many A.d_check_many ["many"] sp_check_many := by
  have G_is_whole : FnOk P w K mg base CX0 1 A.f_is_whole A.d_is_whole ["thing"] sp_is_whole := ok_is_whole T
  refine T.F_check_many.ok sc_check_many (fun vs H Q E h => ?_) (fun cdv A' outer s H vs Q E hr h => ?_)
  · obtain ⟨m, rfl, _⟩ := h
    rfl
  · obtain ⟨m, rfl, q⟩ := h
    refine ⟨_, (pss_one (ps_if (pt_not (pt_val (pe_call G_is_whole (hr.mono (by decide)) (by rfl) T.g_is_whole T.F_is_whole.kp T.b_is_whole .nil pass0 (pa_cons (pv 0) pa_nil)))) (pss_one ps_never) pss_nil)), ?_⟩
    refine ⟨_, rfl, m, rfl, fun H1 e1 => ?_⟩
    exact ⟨true, rfl, iteF (q H1 e1)⟩
end
end K24

namespace K24
open PySem PySem.Spec PyProof.Rows L2 Vf Evl StX
/-! ### places and calls -/
theorem fm (c : Int) {n : Int} (h : 0 < n) : c.fmod n = c % n := Int.fmod_eq_emod_of_nonneg c (by omega)
/-- which seats are tied, as the program keeps it -/
def tdRow (td : Int → Int → Bool) (n i : Nat) : List V := (List.range (n + 1)).map fun j : Nat => V.bl (td (i : Int) (j : Int))
def tdM (td : Int → Int → Bool) (n : Nat) : List (List V) := (List.range (n + 1)).map (tdRow td n)
theorem tdM_at {td : Int → Int → Bool} {n i : Nat} (h : i ≤ n) : (tdM td n)[i]? = some (tdRow td n i) := by
  unfold tdM
  rw [List.getElem?_map, List.getElem?_range (by omega)]
  rfl
theorem tdRow_at {td : Int → Int → Bool} {n i j : Nat} (h : j ≤ n) : (tdRow td n i)[j]? = some (V.bl (td (i : Int) (j : Int))) := by
  unfold tdRow
  rw [List.getElem?_map, List.getElem?_range (by omega)]
  rfl
/-- one tie more, one way about -/
def td1 (td : Int → Int → Bool) (a b : Int) : Int → Int → Bool := fun x y => td x y || (decide (x = a) && decide (y = b))
theorem tdM_put {td : Int → Int → Bool} {n : Nat} {a b : Nat} (ha : a ≤ n) (hb : b ≤ n) : (tdM td n).set a ((tdRow td n a).set b (.bl true)) = tdM (td1 td (a : Int) (b : Int)) n := by
  refine List.ext_getElem? fun i => ?_
  by_cases hi : i ≤ n
  · by_cases e : i = a
    · subst e
      rw [List.getElem?_set_self (by unfold tdM; rw [List.length_map, List.length_range]; omega), tdM_at hi]
      refine congrArg some (List.ext_getElem? fun j => ?_)
      by_cases hj : j ≤ n
      · rw [tdRow_at hj]
        by_cases e2 : j = b
        · subst e2
          rw [List.getElem?_set_self (by unfold tdRow; rw [List.length_map, List.length_range]; omega)]
          unfold td1
          simp
        · rw [List.getElem?_set_ne (fun z => e2 z.symm), tdRow_at hj]
          unfold td1
          rw [decide_eq_false (show ¬ ((j : Int) = (b : Int)) by omega), Bool.and_false, Bool.or_false]
      · rw [List.getElem?_eq_none (by rw [List.length_set]; unfold tdRow; rw [List.length_map, List.length_range]; omega), List.getElem?_eq_none (by unfold tdRow; rw [List.length_map, List.length_range]; omega)]
    · rw [List.getElem?_set_ne (fun z => e z.symm), tdM_at hi, tdM_at hi]
      refine congrArg some (List.map_congr_left fun j _ => ?_)
      unfold td1
      rw [decide_eq_false (show ¬ ((i : Int) = (a : Int)) by omega), Bool.false_and, Bool.or_false]
  · rw [List.getElem?_eq_none (by rw [List.length_set]; unfold tdM; rw [List.length_map, List.length_range]; omega), List.getElem?_eq_none (by unfold tdM; rw [List.length_map, List.length_range]; omega)]
theorem tdF_nil : MR.tdF [] = fun _ _ => false := by
  funext a b
  simp [MR.tdF]
theorem tdF_snoc (ts : List (Int × Int)) (t : Int × Int) : MR.tdF (ts ++ [t]) = td1 (td1 (MR.tdF ts) t.1 t.2) t.2 t.1 := by
  funext a b
  obtain ⟨x, y⟩ := t
  unfold MR.tdF td1
  rw [Bool.eq_iff_iff]
  simp only [Bool.or_eq_true, Bool.and_eq_true, decide_eq_true_eq, List.mem_append, List.mem_singleton, Prod.mk.injEq]
  grind
/-- the table of ties, seen from H -/
def TdAt (K : PySem.W.Frag) (H2 : Hp) (D : Addr) (n : Nat) (td : Int → Int → Bool) : Prop := ∃ ps : List Addr, SqL K H2 D (ps.map V.ref) ∧ ps.length = n + 1 ∧ ∀ (i : Nat) (p : Addr), ps[i]? = some p → SqL K H2 p (tdRow td n i)
theorem TdAt.on {K : PySem.W.Frag} {H H' : Hp} {D : Addr} {n : Nat} {td : Int → Int → Bool} (h : TdAt K H D n td) (e : Ex H H') : TdAt K H' D n td := by
  obtain ⟨ps, a, b, c⟩ := h
  exact ⟨ps, ex_l e a, b, fun i p x => ex_l e (c i p x)⟩
theorem td_of {K : PySem.W.Frag} {H H2 : Hp} {D : Addr} {n : Nat} {td : Int → Int → Bool} (h : LLN H H2 D (tdM td n)) : TdAt K H2 D n td := by
  obtain ⟨ps, a, b, c, d, e⟩ := h
  have hl : ps.length = n + 1 := by rw [b]; unfold tdM; rw [List.length_map, List.length_range]
  refine ⟨ps, .inl (.inl a), hl, fun i p x => .inl (.inl (e i p _ x (tdM_at ?_)).2)⟩
  have := (List.getElem?_eq_some_iff.mp x).1
  omega
/-- a list of pairs of people -/
def PairsAt (K : PySem.W.Frag) (H : Hp) (a : Addr) (cs : List (Int × Int)) : Prop := ∃ as : List Addr, SqL K H a (as.map V.ref) ∧ as.length = cs.length ∧ ∀ (i : Nat) (b : Addr) (c : Int × Int), as[i]? = some b → cs[i]? = some c → SqT K H b [.int c.1, .int c.2]
theorem PairsAt.on {K : PySem.W.Frag} {H H' : Hp} {a : Addr} {cs : List (Int × Int)} (h : PairsAt K H a cs) (e : Ex H H') : PairsAt K H' a cs := by
  obtain ⟨as, x, y, z⟩ := h
  exact ⟨as, ex_l e x, y, fun i b c p q => ex_t e (z i b c p q)⟩
section
variable {P : Program} {w : World} {K : PySem.W.Frag} {mg : Str → Option Value} {base : Heap} {A : Ad}
def sp_next_call : Sp := fun vs H Q _ => ∃ c n : Int, vs = [.int c, .int n] ∧ 0 < n ∧ RetV (.int (MR.nxt n c)) H Q
theorem ok_next_call (T : Txt K mg A) : FnOk P w K mg base CX0 1 A.f_next_call A.d_next_call ["call", "count"] sp_next_call := by
  refine T.F_next_call.ok sc_next_call (fun vs H Q E h => ?_) (fun cdv A' outer s H vs Q E hr h => ?_)
  · obtain ⟨c, n, rfl, _⟩ := h
    rfl
  · obtain ⟨c, n, rfl, hn, q⟩ := h
    refine ⟨_, (pss_one (ps_ret (pe_op op_add (pe_op op_modN (pv 0) (pv 1)) pe_int))), ?_⟩
    refine ⟨_, rfl, _, rfl, _, _, rfl, rfl, (by show n ≠ 0; omega), _, _, rfl, rfl, ?_⟩
    have z := q H (Ex.refl H)
    unfold MR.nxt at z
    rw [fm c hn]
    exact z
def sp_turned_about (K : PySem.W.Frag) : Sp := fun vs H Q _ => ∃ (a : Addr) (r : List Int) (N : Nat), vs = [.ref a] ∧ SqL K H a (r.map V.int) ∧ MR.Row N r ∧ N ≤ 1000 ∧ RetL ((MR.turnF r).map V.int) H Q
theorem ok_turned_about (T : Txt K mg A) : FnOk P w K mg base CX0 1 A.f_turned_about A.d_turned_about ["row"] (sp_turned_about K) := by
  refine T.F_turned_about.ok sc_turned_about (fun vs H Q E h => ?_) (fun cdv A' outer s H vs Q E hr h => ?_)
  · obtain ⟨a, r, N, rfl, _⟩ := h
    rfl
  · obtain ⟨a, r, N, rfl, hS, R, hN, q⟩ := h
    refine ⟨_, (pss_cons (ps_set (i := 1) sc_turned_about.nd rfl (by first | exact .inl rfl | exact .inr rfl) (pe_callTy (call_listK (K := K) rfl) (by rfl) T.z_list (by decide +kernel) (pa_cons (pv 0) pa_nil)))
      (pss_cons (ps_for PassesOwn.never rfl (pi_enum (by rfl) T.z_enumerate (pa_cons (pv 0) pa_nil)) (pg_tupK (n := 2) (K := K) rfl rfl (pgs_cons (pg_name (i := 2) sc_turned_about.nd rfl (by first | exact .inl rfl | exact .inr rfl)) (pgs_cons (pg_name (i := 3) sc_turned_about.nd rfl (by first | exact .inl rfl | exact .inr rfl)) pgs_nil))) (pss_one (ps_asg (pv 2) (pg_sub (pv 1) (pv 3) set_list))))
      (pss_one (ps_ret (pv 1))))), ?_⟩
    refine ⟨_, rfl, a, _, rfl, .inl hS, fun f nf => ?_⟩
    have e0 : Ex H (upd H f (.lst (r.map V.int))) := Ex.new nf
    refine ⟨.ref a, rfl, a, r.map V.int, rfl, ex_l e0 hS, ?_⟩
    refine for_enumL (xs := r.map V.int) (fun i σ' H' => (∃ y2 y3, σ' = [some (.ref a), some (.ref f), y2, y3]) ∧ Ex H H' ∧ H' f = some (.lst ((MR.turnS r r i).map V.int)))
      ⟨⟨none, none, rfl⟩, e0, upd_same⟩ (fun i σ' H' z => ex_l z.2.1 hS) ?_ ?_
    · rintro i x Tt σ' H' hx ⟨⟨y2, y3, rfl⟩, e1, hf⟩ nT
      obtain ⟨c, hc, rfl⟩ := map_at hx
      have mem := List.mem_of_getElem? hc
      have b := R.lo c mem
      have e2 : Ex H' (upd H' Tt (.tup [.int (i : Nat), .int c])) := Ex.new nT
      refine ⟨Tt, _, rfl, .inl (.inl upd_same), rfl, _, _, rfl, _, _, rfl, rfl, ?_⟩
      have hf2 := e2 _ _ hf
      have hl : (MR.turnS r r i).length = N := by rw [MR.turnS_len, R.len]
      refine ⟨_, rfl, _, rfl, _, rfl, f, _, c, c.toNat, rfl, rfl, hf2, ?_, ?_⟩
      · rw [List.length_map, hl]
        have := ixN_nat (n := N) (j := c.toNat) (by omega)
        rw [show ((c.toNat : Nat) : Int) = c by omega] at this
        exact this
      · refine ⟨⟨_, _, rfl⟩, Ex.mut (e1.trans e2) nf, ?_⟩
        rw [upd_same, MR.turnS_succ, List.getD_eq_getElem?_getD, hc, Option.getD_some, List.map_set]
    · rintro σ' H' ⟨⟨y2, y3, rfl⟩, e1, hf⟩
      rw [List.length_map] at hf
      exact ⟨_, rfl, q f H' nf e1 hf⟩
def sp_places_of (K : PySem.W.Frag) : Sp := fun vs H Q _ => ∃ (a : Addr) (st : List Int) (n : Nat), vs = [.ref a] ∧ SqL K H a (st.map V.int) ∧ MR.Stn n st ∧ n ≤ 900 ∧ RetL ((MR.plOf st).map V.int) H Q
theorem ok_places_of (T : Txt K mg A) : FnOk P w K mg base CX0 2 A.f_places_of A.d_places_of ["standing"] (sp_places_of K) := by
  have G_turned_about : FnOk P w K mg base CX0 1 A.f_turned_about A.d_turned_about ["row"] (sp_turned_about K) := ok_turned_about T
  refine T.F_places_of.ok sc_places_of (fun vs H Q E h => ?_) (fun cdv A' outer s H vs Q E hr h => ?_)
  · obtain ⟨a, st, n, rfl, _⟩ := h
    rfl
  · obtain ⟨a, st, n, rfl, hS, S, hn, q⟩ := h
    refine ⟨_, (pss_one (ps_ret (pe_call G_turned_about (hr.mono (by decide)) (by rfl) T.g_turned_about T.F_turned_about.kp T.b_turned_about .nil pass0 (pa_cons (pe_lst (pa_cons pe_int (pa_star (pv 0) pa_nil))) pa_nil)))), ?_⟩
    refine ⟨_, rfl, a, st.map V.int, rfl, .inr hS, ?_⟩
    refine ⟨sz_of (by simp [S.len]; omega), fun p np => ?_⟩
    have e1 : Ex H (upd H p (.lst (V.int 0 :: (st.map V.int ++ [])))) := Ex.new np
    refine ⟨p, 0 :: st, n + 1, rfl, .inl (.inl ?_), S.row, by omega, fun p2 H2 np2 e2 h2 => q p2 H2 (fresh_back e1 np2) (e1.trans e2) h2⟩
    rw [List.append_nil]
    exact upd_same
def sp_standing_of (K : PySem.W.Frag) : Sp := fun vs H Q _ => ∃ (a : Addr) (pl : List Int) (n : Nat), vs = [.ref a] ∧ SqL K H a (pl.map V.int) ∧ MR.Plc n pl ∧ n ≤ 900 ∧ RetL ((MR.stOf pl).map V.int) H Q
theorem ok_standing_of (T : Txt K mg A) : FnOk P w K mg base CX0 2 A.f_standing_of A.d_standing_of ["places"] (sp_standing_of K) := by
  have G_turned_about : FnOk P w K mg base CX0 1 A.f_turned_about A.d_turned_about ["row"] (sp_turned_about K) := ok_turned_about T
  refine T.F_standing_of.ok sc_standing_of (fun vs H Q E h => ?_) (fun cdv A' outer s H vs Q E hr h => ?_)
  · obtain ⟨a, pl, n, rfl, _⟩ := h
    rfl
  · obtain ⟨a, pl, n, rfl, hS, Pl, hn, q⟩ := h
    refine ⟨_, (pss_one (ps_ret (pe_slice (sl_listK (K := K) rfl) (pe_call G_turned_about (hr.mono (by decide)) (by rfl) T.g_turned_about T.F_turned_about.kp T.b_turned_about .nil pass0 (pa_cons (pv 0) pa_nil)) (po_some pe_int) po_none))), ?_⟩
    refine ⟨_, rfl, a, pl, n + 1, rfl, hS, Pl.row, by omega, fun p H2 np e2 h2 => ?_⟩
    refine ⟨1, rfl, p, _, rfl, .inl (.inl h2), fun p3 np3 => ?_⟩
    have e : cutV ((MR.turnF pl).map V.int) (some 1) none = (MR.stOf pl).map V.int := by
      rw [Pl.turn]
      unfold cutV
      rw [HT.sIx_none]
      have z : HT.sIx ((0 :: MR.stOf pl).map V.int).length 0 (some ((1 : Nat) : Int)) = 1 := by
        rw [HT.sIx_nat]
        simp only [List.length_map, List.length_cons]
        omega
      rw [show (1 : Int) = ((1 : Nat) : Int) from rfl, z]
      simp [List.take_of_length_le]
    rw [e]
    exact q p3 _ (fresh_back e2 np3) (e2.trans (Ex.new np3)) upd_same
end
end K24

namespace K24
open PySem PySem.Spec PyProof.Rows L2 Vf Evl StX
theorem atI_refs {ps : List Addr} {i : Nat} {p : Addr} (h : ps[i]? = some p) : atI (ps.map V.ref) (i : Int) = some (.ref p) := atI_nat (by rw [List.getElem?_map, h]; rfl)
/-- a place of the table written -/
theorem td_put {H H2 : Hp} {D : Addr} {n : Nat} {td : Int → Int → Bool} (h : LLN H H2 D (tdM td n)) (e : Ex H H2) {a b : Int} (ha : 1 ≤ a ∧ a ≤ n) (hb : 1 ≤ b ∧ b ≤ n) :
    ∃ (ps : List Addr) (p : Addr), H2 D = some (.lst (ps.map V.ref)) ∧ atI (ps.map V.ref) a = some (.ref p) ∧ H2 p = some (.lst (tdRow td n a.toNat)) ∧ ixN (tdRow td n a.toNat).length b = some b.toNat ∧
      LLN H (upd H2 p (.lst ((tdRow td n a.toNat).set b.toNat (.bl true)))) D (tdM (td1 td a b) n) ∧ Ex H (upd H2 p (.lst ((tdRow td n a.toNat).set b.toNat (.bl true)))) := by
  obtain ⟨ps, p, h1, h2, h3, h4, h5⟩ := h.put (tdM_at (i := a.toNat) (by omega))
  refine ⟨ps, p, h1, ?_, h4, ?_, ?_, Ex.mut e h3⟩
  · have := atI_refs h2
    rwa [show ((a.toNat : Nat) : Int) = a by omega] at this
  · have : (tdRow td n a.toNat).length = n + 1 := by unfold tdRow; rw [List.length_map, List.length_range]
    rw [this]
    have z := ixN_nat (n := n + 1) (j := b.toNat) (by omega)
    rwa [show ((b.toNat : Nat) : Int) = b by omega] at z
  · have := h5 ((tdRow td n a.toNat).set b.toNat (.bl true))
    rw [tdM_put (a := a.toNat) (b := b.toNat) (by omega) (by omega)] at this
    rwa [show ((a.toNat : Nat) : Int) = a by omega, show ((b.toNat : Nat) : Int) = b by omega] at this
section
variable {P : Program} {w : World} {K : PySem.W.Frag} {mg : Str → Option Value} {base : Heap} {A : Ad}
def sp_tied_seats (K : PySem.W.Frag) : Sp := fun vs H Q _ => ∃ (a : Addr) (ts : List (Int × Int)) (n : Nat), vs = [.int (n : Int), .ref a] ∧ TiesAt K H a ts ∧ NetOk (n : Int) ts ∧
  ∀ D H2, H D = none → Ex H H2 → TdAt K H2 D n (MR.tdF ts) → Q (.ref D) H2
theorem ok_tied_seats (T : Txt K mg A) : FnOk P w K mg base CX0 1 A.f_tied_seats A.d_tied_seats ["seats", "ties"] (sp_tied_seats K) := by
  refine T.F_tied_seats.ok sc_tied_seats (fun vs H Q E h => ?_) (fun cdv A' outer s H vs Q E hr h => ?_)
  · obtain ⟨a, ts, n, rfl, _⟩ := h
    rfl
  · obtain ⟨a, ts, n, rfl, hT, N, q⟩ := h
    obtain ⟨as, hS, hlen, hat⟩ := hT
    have n1 := N.lo
    have n2 := N.hi
    refine ⟨_, (pss_cons (ps_setLc (i := 2) (own := [("_", 5)]) rfl sc_tied_seats.nd rfl rfl (sw_true rfl rfl rfl (by decide +kernel)) (pi_range1 (by rfl) T.z_range (pa_cons (pe_op op_add (pv 0) pe_int) pa_nil)) (blkOk_by (by kernel_rfl)) (fun _ _ _ _ _ => (pg_name (i := 5) sc_tied_seats.nd rfl (by first | exact .inl rfl | exact .inr rfl))) (fun _ _ _ _ _ => pts_nil) (fun _ _ _ _ _ => (pe_op op_rep (pe_lst (pa_cons pe_bl pa_nil)) (pe_op op_add (pv 0) pe_int))))
      (pss_cons (ps_for PassesOwn.never rfl (pi_listK (K := K) rfl (pv 1)) (pg_unlK (n := 2) (K := K) rfl rfl (pgs_cons (pg_name (i := 3) sc_tied_seats.nd rfl (by first | exact .inl rfl | exact .inr rfl)) (pgs_cons (pg_name (i := 4) sc_tied_seats.nd rfl (by first | exact .inl rfl | exact .inr rfl)) pgs_nil))) (pss_cons (ps_asg pe_bl (pg_sub (pe_ix (ix_listK (K := K) rfl) (pv 2) (pv 3) (fun _ _ => rfl)) (pv 4) set_list))
      (pss_one (ps_asg pe_bl (pg_sub (pe_ix (ix_listK (K := K) rfl) (pv 2) (pv 4) (fun _ _ => rfl)) (pv 3) set_list)))))
      (pss_one (ps_ret (pv 2))))), ?_⟩
    refine q_asgLN (eln_lcR1 (n := (n : Int) + 1) (fun _ => (List.replicate ((n : Int) + 1).toNat [V.bl false]).flatten) ?_ ?_ ?_ ?_) fun D H1 nD e1 hD => ?_
    · exact ea_cons (ev_op (ev_var rfl) ev_c rv_I0) ea_nil
    · omega
    · exact fun x => rfl
    · exact fun i H1 e1 hi => el_rep (el_lst (ea_cons ev_c ea_nil) (by show 1 ≤ 100000; decide)) (ev_op (ev_var rfl) ev_c rv_I0) (by omega) (by show 1 * _ ≤ _; omega)
    have e0 : (List.replicate ((n : Int) + 1).toNat [V.bl false]).flatten = tdRow (fun _ _ => false) n 0 := by
      unfold tdRow
      rw [show ((n : Int) + 1).toNat = n + 1 by omega]
      refine List.ext_getElem? fun i => ?_
      have er : (List.replicate (n + 1) [V.bl false]).flatten = List.replicate (n + 1) (V.bl false) := by simp
      rw [er, List.getElem?_replicate, List.getElem?_map]
      by_cases c : i < n + 1
      · rw [if_pos c, List.getElem?_range c]
        rfl
      · rw [if_neg c, List.getElem?_eq_none (by rw [List.length_range]; omega)]
        rfl
    have eM : (List.range ((n : Int) + 1).toNat).map (fun _ => (List.replicate ((n : Int) + 1).toNat [V.bl false]).flatten) = tdM (MR.tdF []) n := by
      unfold tdM
      rw [e0, show ((n : Int) + 1).toNat = n + 1 by omega, tdF_nil]
      exact List.map_congr_left fun i _ => rfl
    rw [eM] at hD
    -- for one, two in ties
    refine ⟨.ref a, rfl, a, rfl, ⟨_, ex_l e1 hS⟩, ?_⟩
    refine for_list (xs := as.map V.ref) (fun i σ' H' => (∃ y3 y4, σ' = [some (.int (n : Int)), some (.ref a), some (.ref D), y3, y4, none]) ∧ Ex H H' ∧ LLN H H' D (tdM (MR.tdF (ts.take i)) n))
      ⟨⟨none, none, rfl⟩, e1, hD⟩ (fun i σ' H' _ z => ex_l z.2.1 hS) ?_ ?_
    · rintro i x σ' H' hx ⟨⟨y3, y4, rfl⟩, e2, hL⟩
      obtain ⟨b, hb, rfl⟩ := map_at hx
      have hi : i < ts.length := by rw [← hlen]; exact (List.getElem?_eq_some_iff.mp hb).1
      obtain ⟨t, ht⟩ : ∃ t, ts[i]? = some t := ⟨_, List.getElem?_eq_getElem hi⟩
      obtain ⟨k1, k2, k3⟩ := N.ok t (List.mem_of_getElem? ht)
      refine ⟨b, _, rfl, ex_l e2 (hat i b t hb ht), rfl, _, _, rfl, _, _, rfl, rfl, ?_⟩
      obtain ⟨ps, p, h1, h2, h3, h4, h5, h6⟩ := td_put hL e2 k1 k2
      refine ⟨_, rfl, _, rfl, D, _, _, _, rfl, rfl, .inl (.inl h1), h2, _, rfl, p, _, _, _, rfl, rfl, h3, h4, ?_⟩
      obtain ⟨ps', p', g1, g2, g3, g4, g5, g6⟩ := td_put h5 h6 k2 k1
      refine ⟨_, rfl, _, rfl, D, _, _, _, rfl, rfl, .inl (.inl g1), g2, _, rfl, p', _, _, _, rfl, rfl, g3, g4, ?_⟩
      refine ⟨⟨_, _, rfl⟩, g6, ?_⟩
      rw [take_snoc ht, tdF_snoc]
      exact g5
    · rintro σ' H' ⟨⟨y3, y4, rfl⟩, e2, hL⟩
      rw [List.length_map, hlen, List.take_length] at hL
      exact ⟨_, rfl, q D H' nD e2 (td_of hL)⟩
def sp_people_called (K : PySem.W.Frag) : Sp := fun vs H Q _ => ∃ (a : Addr) (cs : List Int) (n : Int), vs = [.ref a, .int n] ∧ SqL K H a (cs.map V.int) ∧ 0 < n ∧ cs.length ≤ 10000 ∧
  ∀ D H2, H D = none → Ex H H2 → PairsAt K H2 D (MR.pairsF n cs) → Q (.ref D) H2
theorem ok_people_called (T : Txt K mg A) : FnOk P w K mg base CX0 2 A.f_people_called A.d_people_called ["calls", "count"] (sp_people_called K) := by
  have G_next_call : FnOk P w K mg base CX0 1 A.f_next_call A.d_next_call ["call", "count"] sp_next_call := ok_next_call T
  refine T.F_people_called.ok sc_people_called (fun vs H Q E h => ?_) (fun cdv A' outer s H vs Q E hr h => ?_)
  · obtain ⟨a, cs, n, rfl, _⟩ := h
    rfl
  · obtain ⟨a, cs, n, rfl, hS, hn, hl, q⟩ := h
    refine ⟨_, (pss_one (ps_ret (pe_lc (own := [("call", 2)]) rfl sc_people_called.nd (pi_listK (K := K) rfl (pv 0)) (blkOk_by (by kernel_rfl)) (fun _ _ _ _ _ => (pg_name (i := 2) sc_people_called.nd rfl (by first | exact .inl rfl | exact .inr rfl))) (fun _ _ _ _ _ => pts_nil) (fun _ _ _ _ _ => (pe_tup (pa_cons (pv 2) (pa_cons (pe_call G_next_call (hr.mono (by decide)) (by rfl) T.g_next_call T.F_next_call.kp T.b_next_call .nil pass0 (pa_cons (pv 2) (pa_cons (pv 1) pa_nil))) pa_nil))))))), ?_⟩
    refine s_retLT (elt_lcL (K := K) (xs := cs.map V.int) (fun i => [V.int (cs.getD i 0), V.int (MR.nxt n (cs.getD i 0))]) (ev_var rfl) hS (by rw [List.length_map]; omega) (fun x => rfl) (fun i x H1 e1 hx => ?_)) fun D H1 nD e1 hD => ?_
    · obtain ⟨c, hc, rfl⟩ := map_at hx
      have ec : cs.getD i 0 = c := by rw [List.getD_eq_getElem?_getD, hc]; rfl
      rw [ec]
      exact eu_tup (ea_cons (ev_var rfl) (ea_cons (ev_call (ea_cons (ev_var rfl) (ea_cons (ev_var rfl) ea_nil)) fun H2 e2 Q q E => ⟨c, n, rfl, hn, q⟩) ea_nil)) (by show 2 ≤ 100000; decide)
    · refine q D H1 nD e1 ?_
      obtain ⟨ps, h1, h2, h3⟩ := hD
      rw [List.length_map, List.length_map, List.length_range] at h2
      refine ⟨ps, .inl (.inl h1), by rw [h2]; unfold MR.pairsF; rw [List.length_map], fun i b c x y => .inl (.inl ?_)⟩
      unfold MR.pairsF at y
      rw [List.getElem?_map, Option.map_eq_some_iff] at y
      obtain ⟨c0, hc, rfl⟩ := y
      have hi := (List.getElem?_eq_some_iff.mp hc).1
      refine h3 i b _ x ?_
      rw [List.length_map, List.getElem?_map, List.getElem?_range hi]
      show some [V.int (cs.getD i 0), _] = _
      rw [List.getD_eq_getElem?_getD, hc]
      rfl
def sp_places_after (K : PySem.W.Frag) : Sp := fun vs H Q _ => ∃ (a b t : Addr) (pl : List Int) (cs : List (Int × Int)) (n : Nat) (td : Int → Int → Bool), vs = [.ref a, .ref b, .ref t] ∧ SqL K H a (pl.map V.int) ∧ PairsAt K H b cs ∧ TdAt K H t n td ∧
  MR.Plc n pl ∧ (∀ c ∈ cs, MR.CallOk n c) ∧ RetL ((MR.runP td pl cs).map V.int) H Q
theorem run_more {td : Int → Int → Bool} {pl : List Int} {cs : List (Int × Int)} {i : Nat} {c : Int × Int} (h : cs[i]? = some c) : MR.runP td pl (cs.take (i + 1)) = MR.stepP td (MR.runP td pl (cs.take i)) c := by
  rw [take_snoc h, MR.run_append]
  rfl
theorem ok_places_after (T : Txt K mg A) : FnOk P w K mg base CX0 1 A.f_places_after A.d_places_after ["places", "pairs", "tied"] (sp_places_after K) := by
  refine T.F_places_after.ok sc_places_after (fun vs H Q E h => ?_) (fun cdv A' outer s H vs Q E hr h => ?_)
  · obtain ⟨a, b, t, pl, cs, n, td, rfl, _⟩ := h
    rfl
  · obtain ⟨a, b, t, pl, cs, n, td, rfl, hS, hP, hT, Pl, hC, q⟩ := h
    refine ⟨_, (pss_cons (ps_set (i := 0) sc_places_after.nd rfl (by first | exact .inl rfl | exact .inr rfl) (pe_callTy (call_listK (K := K) rfl) (by rfl) T.z_list (by decide +kernel) (pa_cons (pv 0) pa_nil)))
      (pss_cons (ps_for PassesOwn.never rfl (pi_listK (K := K) rfl (pv 1)) (pg_tupK (n := 2) (K := K) rfl rfl (pgs_cons (pg_name (i := 3) sc_places_after.nd rfl (by first | exact .inl rfl | exact .inr rfl)) (pgs_cons (pg_name (i := 4) sc_places_after.nd rfl (by first | exact .inl rfl | exact .inr rfl)) pgs_nil))) (pss_cons (ps_set (i := 5) sc_places_after.nd rfl (by first | exact .inl rfl | exact .inr rfl) (pe_ix (ix_listK (K := K) rfl) (pv 0) (pv 3) (fun _ _ => rfl)))
      (pss_cons (ps_set (i := 6) sc_places_after.nd rfl (by first | exact .inl rfl | exact .inr rfl) (pe_ix (ix_listK (K := K) rfl) (pv 0) (pv 4) (fun _ _ => rfl)))
      (pss_one (ps_if (pt_not (pt_val (pe_ix (ix_listK (K := K) rfl) (pe_ix (ix_listK (K := K) rfl) (pv 2) (pv 5) (fun _ _ => rfl)) (pv 6) (fun _ _ => rfl)))) (pss_cons (ps_asg (pv 6) (pg_sub (pv 0) (pv 3) set_list))
      (pss_one (ps_asg (pv 5) (pg_sub (pv 0) (pv 4) set_list)))) pss_nil)))))
      (pss_one (ps_ret (pv 0))))), ?_⟩
    refine ⟨_, rfl, a, _, rfl, .inl hS, fun p np => ?_⟩
    have e0 : Ex H (upd H p (.lst (pl.map V.int))) := Ex.new np
    obtain ⟨as, hA, hlen, hat⟩ := hP
    refine ⟨.ref b, rfl, b, rfl, ⟨_, ex_l e0 hA⟩, ?_⟩
    refine for_list (xs := as.map V.ref) (fun i σ' H' => (∃ y3 y4 y5 y6, σ' = [some (.ref p), some (.ref b), some (.ref t), y3, y4, y5, y6]) ∧ Ex H H' ∧ H' p = some (.lst ((MR.runP td pl (cs.take i)).map V.int)))
      ⟨⟨none, none, none, none, rfl⟩, e0, upd_same⟩ (fun i σ' H' _ z => ex_l z.2.1 hA) ?_ ?_
    · rintro i x σ' H' hx ⟨⟨y3, y4, y5, y6, rfl⟩, e1, hp⟩
      obtain ⟨r, hr0, rfl⟩ := map_at hx
      have hi : i < cs.length := by rw [← hlen]; exact (List.getElem?_eq_some_iff.mp hr0).1
      obtain ⟨c, hc⟩ : ∃ c, cs[i]? = some c := ⟨_, List.getElem?_eq_getElem hi⟩
      have ok := hC c (List.mem_of_getElem? hc)
      have Pi : MR.Plc n (MR.runP td pl (cs.take i)) := MR.run_plc Pl fun d hd => hC d (List.mem_of_mem_take hd)
      have hrm := run_more (td := td) (pl := pl) hc
      generalize MR.runP td pl (cs.take i) = m at hp Pi hrm
      obtain ⟨k1, k2, k3⟩ := ok
      have A1 := Pi.of k1.1 k1.2
      have A2 := Pi.of k2.1 k2.2
      have ml := Pi.row.len
      refine ⟨r, _, rfl, ex_t e1 (hat i r c hr0 hc), rfl, _, _, rfl, _, _, rfl, rfl, ?_⟩
      refine ⟨_, rfl, _, rfl, p, _, c.1, _, rfl, rfl, .inl (.inl hp), atI_int (by omega) (by omega), ?_⟩
      refine ⟨_, rfl, _, rfl, p, _, c.2, _, rfl, rfl, .inl (.inl hp), atI_int (by omega) (by omega), ?_⟩
      -- if not tied[here][there]
      obtain ⟨ps, t1, t2, t3⟩ := hT.on e1
      have hx1 : (MR.g0 m c.1).toNat < ps.length := by omega
      have hps : ps[(MR.g0 m c.1).toNat]? = some ps[(MR.g0 m c.1).toNat] := List.getElem?_eq_getElem hx1
      have a1 := atI_refs hps
      rw [show (((MR.g0 m c.1).toNat : Nat) : Int) = MR.g0 m c.1 by omega] at a1
      have a2 : atI (tdRow td n (MR.g0 m c.1).toNat) (MR.g0 m c.2) = some (V.bl (td (MR.g0 m c.1) (MR.g0 m c.2))) := by
        have z := atI_nat (tdRow_at (td := td) (n := n) (i := (MR.g0 m c.1).toNat) (j := (MR.g0 m c.2).toNat) (by omega))
        rwa [show (((MR.g0 m c.1).toNat : Nat) : Int) = MR.g0 m c.1 by omega, show (((MR.g0 m c.2).toNat : Nat) : Int) = MR.g0 m c.2 by omega] at z
      refine ⟨_, rfl, _, rfl, t, _, _, _, rfl, rfl, t1, a1, _, rfl, _, _, _, _, rfl, rfl, t3 _ _ hps, a2, ?_⟩
      by_cases tt : td (MR.g0 m c.1) (MR.g0 m c.2) = true
      · have es : MR.stepP td m c = m := by unfold MR.stepP; rw [if_pos tt]
        rw [tt]
        refine ⟨true, rfl, iteF ⟨⟨_, _, _, _, rfl⟩, e1, ?_⟩⟩
        rw [hrm, es]
        exact hp
      · have es : MR.stepP td m c = (m.set c.1.toNat (MR.g0 m c.2)).set c.2.toNat (MR.g0 m c.1) := by unfold MR.stepP; rw [if_neg tt]
        rw [Bool.eq_false_iff.mpr tt]
        have i1 : ∀ {l : List V} {k : Int}, l.length = n + 1 → 1 ≤ k → k ≤ n → ixN l.length k = some k.toNat := fun {l k} hl h1 h2 => by
          have z := ixN_nat (n := n + 1) (j := k.toNat) (by omega)
          rw [hl]
          rwa [show ((k.toNat : Nat) : Int) = k by omega] at z
        refine ⟨false, rfl, iteT ?_⟩
        refine ⟨_, rfl, _, rfl, _, rfl, p, _, c.1, _, rfl, rfl, hp, i1 (by rw [List.length_map, ml]) k1.1 k1.2, ?_⟩
        refine ⟨_, rfl, _, rfl, _, rfl, p, _, c.2, _, rfl, rfl, upd_same, i1 (by rw [List.length_set, List.length_map, ml]) k2.1 k2.2, ?_⟩
        refine ⟨⟨_, _, _, _, rfl⟩, Ex.mut (Ex.mut e1 np) np, ?_⟩
        rw [upd_same, hrm, es, List.map_set, List.map_set]
    · rintro σ' H' ⟨⟨y3, y4, y5, y6, rfl⟩, e1, hp⟩
      rw [List.length_map, hlen, List.take_length] at hp
      exact ⟨_, rfl, q p H' np e1 hp⟩
end
end K24

namespace K24
open PySem PySem.Spec PyProof.Rows L2 Vf Evl StX
/-- so many rounds, backwards if below 0 -/
def roundsZ (td : Int → Int → Bool) (n : Int) (ord : List Int) (m : Int) (pl : List Int) : List Int :=
  if 0 ≤ m then MR.it (MR.roundP td (MR.pairsF n ord)) m.toNat pl else MR.it (MR.roundP td (MR.pairsF n ord.reverse)) (-m).toNat pl
section
variable {P : Program} {w : World} {K : PySem.W.Frag} {mg : Str → Option Value} {base : Heap} {A : Ad}
def sp_called (K : PySem.W.Frag) : Sp := fun vs H Q _ => ∃ (a s c : Addr) (ts : List (Int × Int)) (st cs : List Int) (n : Nat), vs = [.int (n : Int), .ref a, .ref s, .ref c] ∧ TiesAt K H a ts ∧ NetOk (n : Int) ts ∧
  SqL K H s (st.map V.int) ∧ MR.Stn n st ∧ SqL K H c (cs.map V.int) ∧ (∀ x ∈ cs, 1 ≤ x ∧ x ≤ (n : Int)) ∧ cs.length ≤ 10000 ∧ RetL ((MR.stOf (MR.runP (MR.tdF ts) (MR.plOf st) (MR.pairsF n cs))).map V.int) H Q
theorem ok_called (T : Txt K mg A) : FnOk P w K mg base CX0 6 A.f_called A.d_called ["seats", "ties", "standing", "calls"] (sp_called K) := by
  have G_check_net : FnOk P w K mg base CX0 5 A.f_check_net A.d_check_net ["seats", "ties"] (sp_check_net K) := ok_check_net T
  have G_check_standing : FnOk P w K mg base CX0 3 A.f_check_standing A.d_check_standing ["standing", "seats"] (sp_check_standing K) := ok_check_standing T
  have G_check_calls : FnOk P w K mg base CX0 2 A.f_check_calls A.d_check_calls ["calls", "count"] (sp_check_calls K) := ok_check_calls T
  have G_standing_of : FnOk P w K mg base CX0 2 A.f_standing_of A.d_standing_of ["places"] (sp_standing_of K) := ok_standing_of T
  have G_places_after : FnOk P w K mg base CX0 1 A.f_places_after A.d_places_after ["places", "pairs", "tied"] (sp_places_after K) := ok_places_after T
  have G_places_of : FnOk P w K mg base CX0 2 A.f_places_of A.d_places_of ["standing"] (sp_places_of K) := ok_places_of T
  have G_people_called : FnOk P w K mg base CX0 2 A.f_people_called A.d_people_called ["calls", "count"] (sp_people_called K) := ok_people_called T
  have G_tied_seats : FnOk P w K mg base CX0 1 A.f_tied_seats A.d_tied_seats ["seats", "ties"] (sp_tied_seats K) := ok_tied_seats T
  refine T.F_called.ok sc_called (fun vs H Q E h => ?_) (fun cdv A' outer s0 H vs Q E hr h => ?_)
  · obtain ⟨a, s, c, ts, st, cs, n, rfl, _⟩ := h
    rfl
  · obtain ⟨a, s, c, ts, st, cs, n, rfl, hT, N, hS, S, hC, hc, hl, q⟩ := h
    have n1 := N.lo
    have n2 := N.hi
    refine ⟨_, (pss_cons (ps_expr (pe_call G_check_net (hr.mono (by decide)) (by rfl) T.g_check_net T.F_check_net.kp T.b_check_net .nil pass0 (pa_cons (pv 0) (pa_cons (pv 1) pa_nil))))
      (pss_cons (ps_expr (pe_call G_check_standing (hr.mono (by decide)) (by rfl) T.g_check_standing T.F_check_standing.kp T.b_check_standing .nil pass0 (pa_cons (pv 2) (pa_cons (pv 0) pa_nil))))
      (pss_cons (ps_expr (pe_call G_check_calls (hr.mono (by decide)) (by rfl) T.g_check_calls T.F_check_calls.kp T.b_check_calls .nil pass0 (pa_cons (pv 3) (pa_cons (pv 0) pa_nil))))
      (pss_one (ps_ret (pe_call G_standing_of (hr.mono (by decide)) (by rfl) T.g_standing_of T.F_standing_of.kp T.b_standing_of .nil pass0 (pa_cons (pe_call G_places_after (hr.mono (by decide)) (by rfl) T.g_places_after T.F_places_after.kp T.b_places_after .nil pass0 (pa_cons (pe_call G_places_of (hr.mono (by decide)) (by rfl) T.g_places_of T.F_places_of.kp T.b_places_of .nil pass0 (pa_cons (pv 2) pa_nil)) (pa_cons (pe_call G_people_called (hr.mono (by decide)) (by rfl) T.g_people_called T.F_people_called.kp T.b_people_called .nil pass0 (pa_cons (pv 3) (pa_cons (pv 0) pa_nil))) (pa_cons (pe_call G_tied_seats (hr.mono (by decide)) (by rfl) T.g_tied_seats T.F_tied_seats.kp T.b_tied_seats .nil pass0 (pa_cons (pv 0) (pa_cons (pv 1) pa_nil))) pa_nil)))) pa_nil))))))), ?_⟩
    refine ⟨_, rfl, _, rfl, a, ts, n, rfl, hT, N, fun H1 e1 => ?_⟩
    refine ⟨_, rfl, _, rfl, s, st, n, rfl, ex_l e1 hS, S, by omega, fun H2 e2 => ?_⟩
    refine ⟨_, rfl, _, rfl, c, cs, n, rfl, ex_l (e1.trans e2) hC, hc, fun H3 e3 => ?_⟩
    have e13 := (e1.trans e2).trans e3
    refine ⟨_, rfl, s, st, n, rfl, ex_l e13 hS, S, by omega, fun p H4 np e4 hp => ?_⟩
    refine ⟨_, rfl, _, rfl, c, cs, n, rfl, ex_l (e13.trans e4) hC, by omega, hl, fun b H5 nb e5 hb => ?_⟩
    refine ⟨_, rfl, _, rfl, a, ts, n, rfl, hT.mono ((e13.trans e4).trans e5), N, fun t H6 nt e6 ht => ?_⟩
    have ok := MR.pairs_ok (n := n) (by omega) hc
    refine ⟨p, b, t, MR.plOf st, MR.pairsF n cs, n, MR.tdF ts, rfl, .inl (.inl (e6 _ _ (e5 _ _ hp))), hb.on e6, ht, S.plc, ok, fun r H7 nr e7 hr7 => ?_⟩
    refine ⟨r, _, n, rfl, .inl (.inl hr7), MR.run_plc S.plc ok, by omega, fun z H8 nz e8 hz => ?_⟩
    exact q z H8 (fresh_back e13 (fresh_back e4 (fresh_back e5 (fresh_back e6 (fresh_back e7 nz))))) ((((e13.trans e4).trans e5).trans e6).trans (e7.trans e8)) hz
def sp_places_after_rounds (K : PySem.W.Frag) : Sp := fun vs H Q _ => ∃ (a b t : Addr) (pl : List Int) (cs : List (Int × Int)) (n : Nat) (td : Int → Int → Bool) (m : Int), vs = [.ref a, .ref b, .ref t, .int m] ∧ SqL K H a (pl.map V.int) ∧ PairsAt K H b cs ∧ TdAt K H t n td ∧
  MR.Plc n pl ∧ (∀ c ∈ cs, MR.CallOk n c) ∧ 0 ≤ m ∧ ∀ p H2, Ex H H2 → SqL K H2 p ((MR.it (MR.roundP td cs) m.toNat pl).map V.int) → Q (.ref p) H2
theorem ok_places_after_rounds (T : Txt K mg A) : FnOk P w K mg base CX0 2 A.f_places_after_rounds A.d_places_after_rounds ["start", "pairs", "tied", "many"] (sp_places_after_rounds K) := by
  have G_places_after : FnOk P w K mg base CX0 1 A.f_places_after A.d_places_after ["places", "pairs", "tied"] (sp_places_after K) := ok_places_after T
  refine T.F_places_after_rounds.ok sc_places_after_rounds (fun vs H Q E h => ?_) (fun cdv A' outer s0 H vs Q E hr h => ?_)
  · obtain ⟨a, b, t, pl, cs, n, td, m, rfl, _⟩ := h
    rfl
  · obtain ⟨a, b, t, pl, cs, n, td, m, rfl, hS, hP, hT, Pl, hC, hm, q⟩ := h
    refine ⟨_, (pss_cons (ps_set (i := 4) sc_places_after_rounds.nd rfl (by first | exact .inl rfl | exact .inr rfl) (pv 0))
      (pss_cons (ps_set (i := 5) sc_places_after_rounds.nd rfl (by first | exact .inl rfl | exact .inr rfl) (pv 3))
      (pss_cons (ps_set (i := 6) sc_places_after_rounds.nd rfl (by first | exact .inl rfl | exact .inr rfl) pe_int)
      (pss_cons (ps_while PassesOwn.never (pt_cmpR op_gt (pv 5) pe_int (nomark _)) (pss_cons (ps_set (i := 4) sc_places_after_rounds.nd rfl (by first | exact .inl rfl | exact .inr rfl) (pe_call G_places_after (hr.mono (by decide)) (by rfl) T.g_places_after T.F_places_after.kp T.b_places_after .nil pass0 (pa_cons (pv 4) (pa_cons (pv 1) (pa_cons (pv 2) pa_nil)))))
      (pss_cons (ps_aug (i := 5) sc_places_after_rounds.nd rfl (by first | exact .inl rfl | exact .inr rfl) pe_int ip_sub)
      (pss_cons (ps_aug (i := 6) sc_places_after_rounds.nd rfl (by first | exact .inl rfl | exact .inr rfl) pe_int ip_add)
      (pss_one (ps_if (pt_cmpR (op_eqD hr.units) (pv 4) (pv 0) (nomark _)) (pss_one (ps_aug (i := 5) sc_places_after_rounds.nd rfl (by first | exact .inl rfl | exact .inr rfl) (pv 6) ip_modN)) pss_nil))))))
      (pss_one (ps_ret (pv 4))))))), ?_⟩
    refine ⟨_, rfl, _, rfl, ?_⟩
    generalize hf : MR.roundP td cs = f at q
    refine ⟨fun k σ' H' => ∃ (p : Addr) (left made : Nat), σ' = [some (.ref a), some (.ref b), some (.ref t), some (.int m), some (.ref p), some (.int (left : Int)), some (.int (made : Int))] ∧ Ex H H' ∧ SqL K H' p ((MR.it f made pl).map V.int) ∧ k = left ∧
        MR.it f left (MR.it f made pl) = MR.it f m.toNat pl, ⟨m.toNat, a, m.toNat, 0, ?_, Ex.refl H, hS, rfl, rfl⟩, ?_⟩
    · rw [show ((m.toNat : Nat) : Int) = m by omega]
      rfl
    rintro left σ' H' ⟨p, left', made, rfl, e1, hp, rfl, hit⟩
    refine ⟨_, rfl, _, _, rfl, rfl, _, rfl, ?_⟩
    by_cases c : left = 0
    · subst c
      rw [decide_eq_false (show ¬ (0 : Int) < ((0 : Nat) : Int) by decide)]
      refine iteF ⟨_, rfl, q p H' e1 ?_⟩
      rw [← hit]
      exact hp
    · rw [decide_eq_true (show (0 : Int) < (left : Int) by omega)]
      refine iteT ⟨fun σ2 H2 => ∃ k', k' < left ∧ ∃ (p : Addr) (left made : Nat), σ2 = [some (.ref a), some (.ref b), some (.ref t), some (.int m), some (.ref p), some (.int (left : Int)), some (.int (made : Int))] ∧ Ex H H2 ∧ SqL K H2 p ((MR.it f made pl).map V.int) ∧ k' = left ∧
        MR.it f left (MR.it f made pl) = MR.it f m.toNat pl, fun σ2 H2 z => z, ?_⟩
      have Pm : MR.Plc n (MR.it f made pl) := by rw [← hf]; exact MR.it_plc hC made Pl
      refine ⟨_, rfl, _, rfl, _, rfl, p, b, t, _, cs, n, td, rfl, hp, hP.on e1, hT.on e1, Pm, hC, fun r H3 nr e3 hr3 => ?_⟩
      have er : MR.runP td (MR.it f made pl) cs = MR.it f (made + 1) pl := by rw [MR.it_succ, ← hf]; rfl
      rw [er] at hr3
      have e13 := e1.trans e3
      refine ⟨_, rfl, _, _, rfl, rfl, ?_⟩
      refine ⟨_, rfl, _, _, rfl, rfl, ?_⟩
      have hit2 : MR.it f (left - 1) (MR.it f (made + 1) pl) = MR.it f m.toNat pl := by
        rw [← hit, MR.it_succ]
        conv => rhs; rw [show left = (left - 1) + 1 by omega]
        rfl
      -- if places == start
      refine ⟨_, rfl, _, rfl, eq_ints (.inl (.inl hr3)) (ex_l e13 hS) ⟨_, rfl, ?_⟩⟩
      by_cases d : MR.it f (made + 1) pl = pl
      · rw [decide_eq_true d]
        refine iteT ⟨_, rfl, _, rfl, _, _, rfl, rfl, (by show (made : Int) + 1 ≠ 0; omega), ?_⟩
        have lt := Nat.mod_lt (left - 1) (show 0 < made + 1 by omega)
        have le := Nat.mod_le (left - 1) (made + 1)
        refine ⟨(left - 1) % (made + 1), by omega, r, (left - 1) % (made + 1), made + 1, ?_, e13, .inl (.inl hr3), rfl, ?_⟩
        · have ei : ((left : Int) - 1).fmod ((made : Int) + 1) = (((left - 1) % (made + 1) : Nat) : Int) := by
            rw [Int.fmod_eq_emod_of_nonneg _ (by omega), Int.natCast_emod, show (((left - 1 : Nat)) : Int) = (left : Int) - 1 by omega]
            rfl
          show [_, _, _, _, _, some (V.int (((left : Int) - 1).fmod ((made : Int) + 1))), some (V.int ((made : Int) + 1))] = _
          rw [ei]
          rfl
        · rw [← hf] at hit2 d ⊢
          exact MR.left_mod hit2 d
      · rw [decide_eq_false d]
        refine iteF ⟨left - 1, by omega, r, left - 1, made + 1, ?_, e13, .inl (.inl hr3), rfl, hit2⟩
        show [_, _, _, _, _, some (V.int ((left : Int) - 1)), some (V.int ((made : Int) + 1))] = _
        rw [show (((left - 1 : Nat)) : Int) = (left : Int) - 1 by omega]
        rfl
def sp_after_rounds (K : PySem.W.Frag) : Sp := fun vs H Q _ => ∃ (a s o : Addr) (ts : List (Int × Int)) (st ord : List Int) (n : Nat) (m : Int), vs = [.int (n : Int), .ref a, .ref s, .ref o, .int m] ∧ TiesAt K H a ts ∧ NetOk (n : Int) ts ∧
  SqL K H s (st.map V.int) ∧ MR.Stn n st ∧ SqL K H o (ord.map V.int) ∧ MR.Stn n ord ∧ RetL ((MR.stOf (roundsZ (MR.tdF ts) n ord m (MR.plOf st))).map V.int) H Q
theorem ok_after_rounds (T : Txt K mg A) : FnOk P w K mg base CX0 6 A.f_after_rounds A.d_after_rounds ["seats", "ties", "standing", "order", "many"] (sp_after_rounds K) := by
  have G_check_net : FnOk P w K mg base CX0 5 A.f_check_net A.d_check_net ["seats", "ties"] (sp_check_net K) := ok_check_net T
  have G_check_standing : FnOk P w K mg base CX0 3 A.f_check_standing A.d_check_standing ["standing", "seats"] (sp_check_standing K) := ok_check_standing T
  have G_check_order_of : FnOk P w K mg base CX0 3 A.f_check_order_of A.d_check_order_of ["order", "count"] (sp_check_order_of K) := ok_check_order_of T
  have G_check_many : FnOk P w K mg base CX0 2 A.f_check_many A.d_check_many ["many"] sp_check_many := ok_check_many T
  have G_standing_of : FnOk P w K mg base CX0 2 A.f_standing_of A.d_standing_of ["places"] (sp_standing_of K) := ok_standing_of T
  have G_places_after_rounds : FnOk P w K mg base CX0 2 A.f_places_after_rounds A.d_places_after_rounds ["start", "pairs", "tied", "many"] (sp_places_after_rounds K) := ok_places_after_rounds T
  have G_places_of : FnOk P w K mg base CX0 2 A.f_places_of A.d_places_of ["standing"] (sp_places_of K) := ok_places_of T
  have G_people_called : FnOk P w K mg base CX0 2 A.f_people_called A.d_people_called ["calls", "count"] (sp_people_called K) := ok_people_called T
  have G_tied_seats : FnOk P w K mg base CX0 1 A.f_tied_seats A.d_tied_seats ["seats", "ties"] (sp_tied_seats K) := ok_tied_seats T
  refine T.F_after_rounds.ok sc_after_rounds (fun vs H Q E h => ?_) (fun cdv A' outer s0 H vs Q E hr h => ?_)
  · obtain ⟨a, s, o, ts, st, ord, n, m, rfl, _⟩ := h
    rfl
  · obtain ⟨a, s, o, ts, st, ord, n, m, rfl, hT, N, hS, S, hO, O, q⟩ := h
    have n1 := N.lo
    have n2 := N.hi
    have ol := O.len
    refine ⟨_, (pss_cons (ps_expr (pe_call G_check_net (hr.mono (by decide)) (by rfl) T.g_check_net T.F_check_net.kp T.b_check_net .nil pass0 (pa_cons (pv 0) (pa_cons (pv 1) pa_nil))))
      (pss_cons (ps_expr (pe_call G_check_standing (hr.mono (by decide)) (by rfl) T.g_check_standing T.F_check_standing.kp T.b_check_standing .nil pass0 (pa_cons (pv 2) (pa_cons (pv 0) pa_nil))))
      (pss_cons (ps_expr (pe_call G_check_order_of (hr.mono (by decide)) (by rfl) T.g_check_order_of T.F_check_order_of.kp T.b_check_order_of .nil pass0 (pa_cons (pv 3) (pa_cons (pv 0) pa_nil))))
      (pss_cons (ps_expr (pe_call G_check_many (hr.mono (by decide)) (by rfl) T.g_check_many T.F_check_many.kp T.b_check_many .nil pass0 (pa_cons (pv 4) pa_nil)))
      (pss_cons (ps_set (i := 5) sc_after_rounds.nd rfl (by first | exact .inl rfl | exact .inr rfl) (pe_ifExp (pt_cmpR op_ge (pv 4) pe_int (nomark _)) (pv 3) (pe_revK (K := K) rfl (pv 3))))
      (pss_cons (ps_set (i := 6) sc_after_rounds.nd rfl (by first | exact .inl rfl | exact .inr rfl) (pe_call G_people_called (hr.mono (by decide)) (by rfl) T.g_people_called T.F_people_called.kp T.b_people_called .nil pass0 (pa_cons (pv 5) (pa_cons (pv 0) pa_nil))))
      (pss_one (ps_ret (pe_call G_standing_of (hr.mono (by decide)) (by rfl) T.g_standing_of T.F_standing_of.kp T.b_standing_of .nil pass0 (pa_cons (pe_call G_places_after_rounds (hr.mono (by decide)) (by rfl) T.g_places_after_rounds T.F_places_after_rounds.kp T.b_places_after_rounds .nil pass0 (pa_cons (pe_call G_places_of (hr.mono (by decide)) (by rfl) T.g_places_of T.F_places_of.kp T.b_places_of .nil pass0 (pa_cons (pv 2) pa_nil)) (pa_cons (pv 6) (pa_cons (pe_call G_tied_seats (hr.mono (by decide)) (by rfl) T.g_tied_seats T.F_tied_seats.kp T.b_tied_seats .nil pass0 (pa_cons (pv 0) (pa_cons (pv 1) pa_nil))) (pa_cons (pe_callB call_abs (by rfl) T.z_abs (by decide +kernel) (pa_cons (pv 4) pa_nil)) pa_nil))))) pa_nil)))))))))), ?_⟩
    refine ⟨_, rfl, _, rfl, a, ts, n, rfl, hT, N, fun H1 e1 => ?_⟩
    refine ⟨_, rfl, _, rfl, s, st, n, rfl, ex_l e1 hS, S, by omega, fun H2 e2 => ?_⟩
    refine ⟨_, rfl, _, rfl, o, ord, n, rfl, ex_l (e1.trans e2) hO, O, by omega, fun H3 e3 => ?_⟩
    refine ⟨_, rfl, m, rfl, fun H4 e4 => ?_⟩
    have e14 := ((e1.trans e2).trans e3).trans e4
    have hO4 := ex_l e14 hO
    obtain ⟨cs, hcs⟩ : ∃ cs, cs = if 0 ≤ m then ord else ord.reverse := ⟨_, rfl⟩
    have hcb : ∀ x ∈ cs, 1 ≤ x ∧ x ≤ (n : Int) := fun x hx => by
      rw [hcs] at hx
      split at hx
      · exact O.lo x hx
      · exact O.lo x (List.mem_reverse.mp hx)
    have hcl : cs.length ≤ 10000 := by
      rw [hcs]
      split
      · omega
      · rw [List.length_reverse]; omega
    have hgo : MR.it (MR.roundP (MR.tdF ts) (MR.pairsF n cs)) (if m < 0 then -m else m).toNat (MR.plOf st) = roundsZ (MR.tdF ts) n ord m (MR.plOf st) := by
      unfold roundsZ
      by_cases c : 0 ≤ m
      · rw [if_pos c, if_neg (by omega), hcs, if_pos c]
      · rw [if_neg c, if_pos (by omega), hcs, if_neg c]
    -- calls = order if many >= 0 else order[::-1]
    have pick : ∀ Qx : VK, (∀ c H5, Ex H4 H5 → SqL K H5 c (cs.map V.int) → Qx (.ref c) H5) →
        tIf (tTest (tOp (rI0 fun i j => V.bl (decide (j ≤ i))) (tVar 4) (tC (.int 0)))) (tVar 3) (tRevL K (tVar 3)) [some (.int (n : Int)), some (.ref a), some (.ref s), some (.ref o), some (.int m), none, none] H4 Qx := by
      intro Qx k
      refine ⟨_, rfl, _, _, rfl, rfl, _, rfl, ?_⟩
      by_cases c : 0 ≤ m
      · rw [decide_eq_true c]
        refine iteT ⟨_, rfl, k o H4 (Ex.refl H4) ?_⟩
        rw [hcs, if_pos c]
        exact hO4
      · rw [decide_eq_false c]
        refine iteF ⟨_, rfl, o, _, rfl, hO4, fun r nr => k r _ (Ex.new nr) (.inl (.inl ?_))⟩
        rw [upd_same, hcs, if_neg c, List.map_reverse]
    refine pick _ fun c H5 e5 hc => ?_
    have ok := MR.pairs_ok (n := n) (by omega) hcb
    refine ⟨_, rfl, _, rfl, c, cs, n, rfl, hc, by omega, hcl, fun b H6 nb e6 hb => ?_⟩
    have e16 := (e14.trans e5).trans e6
    refine ⟨_, rfl, s, st, n, rfl, ex_l e16 hS, S, by omega, fun p H7 np e7 hp => ?_⟩
    refine ⟨_, rfl, _, rfl, _, rfl, a, ts, n, rfl, hT.mono (e16.trans e7), N, fun t H8 nt e8 ht => ?_⟩
    refine ⟨_, rfl, m, rfl, ?_⟩
    refine ⟨p, b, t, MR.plOf st, MR.pairsF n cs, n, MR.tdF ts, _, rfl, .inl (.inl (e8 _ _ hp)), (hb.on e7).on e8, ht, S.plc, ok, by split <;> omega, fun r H9 e9 hr9 => ?_⟩
    rw [hgo] at hr9
    refine ⟨r, _, n, rfl, hr9, ?_, by omega, fun z Hz nz ez hz => ?_⟩
    · rw [← hgo]
      exact MR.it_plc ok _ S.plc
    · exact q z Hz (fresh_back e16 (fresh_back e7 (fresh_back e8 (fresh_back e9 nz)))) (((e16.trans e7).trans e8).trans (e9.trans ez)) hz
end
end K24

namespace K24
open PySem PySem.Spec PyProof.Rows L2 Vf Evl
/-! ### the law's draws -/
/-- all but the object at a is as it was -/
def ExA (a : Addr) (H H' : Hp) : Prop := ∀ b o, b ≠ a → H b = some o → H' b = some o
theorem ExA.trans {a : Addr} {H H1 H2 : Hp} (x : ExA a H H1) (y : ExA a H1 H2) : ExA a H H2 := fun b o ne h => y b o ne (x b o ne h)
theorem ExA.of {a : Addr} {H H' : Hp} (e : Ex H H') : ExA a H H' := fun b o _ h => e b o h
theorem ExA.upd (a : Addr) (H : Hp) (o : HO) : ExA a H (upd H a o) := fun b u ne h => by rw [upd_ne ne]; exact h
theorem ExA.list {K : PySem.W.Frag} {a b : Addr} {H H' : Hp} {xs : List V} (e : ExA a H H') (ne : b ≠ a) (h : SqL K H b xs) : SqL K H' b xs := by
  rcases h with (h | ⟨o, h⟩) | h
  · exact .inl (.inl (e _ _ ne h))
  · exact .inl (.inr ⟨o, e _ _ ne h⟩)
  · exact .inr h
/-- a list of draws at a, k of them made -/
def Dr (H : Hp) (a : Addr) (k : Int) : Prop := ∃ (x : Int) (b : Bool), H a = some (.lst [.int x, .int k, .bl b])
theorem Dr.on {H H' : Hp} {a : Addr} {k : Int} (e : Ex H H') (d : Dr H a k) : Dr H' a k := by
  obtain ⟨x, b, h⟩ := d
  exact ⟨x, b, e _ _ h⟩
theorem fmod_at {i j : Int} (h : 0 < j) : 0 ≤ i.fmod j ∧ i.fmod j < j := by
  rw [Int.fmod_eq_emod_of_nonneg i (by omega)]
  exact ⟨Int.emod_nonneg _ (by omega), Int.emod_lt_of_pos _ h⟩
theorem fdiv_at {i j : Int} (h : 0 ≤ i) (hj : 0 ≤ j) : 0 ≤ i.fdiv j := by
  rw [Int.fdiv_eq_ediv_of_nonneg i hj]
  exact Int.ediv_nonneg h hj
section
variable {P : Program} {w : World} {K : PySem.W.Frag} {mg : Str → Option Value} {base : Heap} {A : Ad}
def DrX (H : Hp) (a : Addr) (x k : Int) (b : Bool) : Prop := H a = some (.lst [.int x, .int k, .bl b])
theorem DrX.dr {H : Hp} {a : Addr} {x k : Int} {b : Bool} (h : DrX H a x k b) : Dr H a k := ⟨x, b, h⟩
theorem DrX.on {H H' : Hp} {a : Addr} {x k : Int} {b : Bool} (e : Ex H H') (h : DrX H a x k b) : DrX H' a x k b := e _ _ h
def cellX (c : Int) : Int := c.fmod (((10 ^ 60) ^ 60) ^ 4)
def nextV (x k : Int) (b : Bool) : Int :=
  if b then x.fmod 1000000 else
    let y := ((x.fmod 1000003 + k * k * 7919 + k) * 48271).fmod 2147483629
    let z := (y * y).fmod 2147483587
    (((z * (z + 2)).fmod 2147483579)).fdiv 7
def nextX (x : Int) (b : Bool) : Int := if b then x.fdiv 1000000 else x
theorem nextV_nn (x k : Int) (b : Bool) : 0 ≤ nextV x k b := by
  unfold nextV
  split
  · exact (fmod_at (by decide)).1
  · exact fdiv_at (fmod_at (by decide)).1 (by decide)
def sp_l_draws : Sp := fun vs H Q _ => ∃ c : Int, vs = [.int c] ∧ ∀ (x : Int) (b : Bool) (p : Addr) (H2 : Hp), H p = none → Ex H H2 → H2 p = some (.lst [.int x, .int 0, .bl b]) → Q (.ref p) H2
theorem ok_l_draws (T : Txt K mg A) : FnOk P w K mg base CX0 1 A.f_l_draws A.d_l_draws ["_law_cell"] sp_l_draws := by
  refine T.F_l_draws.ok sc_l_draws (fun vs H Q E h => ?_) (fun cdv A' outer s H vs Q E hr h => ?_)
  · obtain ⟨c, rfl, _⟩ := h
    rfl
  · obtain ⟨c, rfl, q⟩ := h
    refine ⟨_, (pss_one (ps_ret (pe_lst (pa_cons (pe_op op_modN (pe_callTy call_int1 (by rfl) T.z_int (by decide +kernel) (pa_cons (pv 0) pa_nil)) (pe_op op_powW (pe_op op_powW (pe_op op_powW pe_int pe_int) pe_int) pe_int)) (pa_cons pe_int (pa_cons (pe_cmpR op_ge (pv 0) (pe_op op_powW pe_int pe_int) (nomark _)) pa_nil)))))), ?_⟩
    refine ⟨_, rfl, .inl ⟨c, rfl, ?_⟩⟩
    refine ⟨_, _, rfl, rfl, ⟨by decide, by decide +kernel⟩, _, _, rfl, rfl, ⟨by decide, by decide +kernel⟩, _, _, rfl, rfl, ⟨by decide, by decide +kernel⟩, ?_⟩
    refine ⟨_, _, rfl, rfl, (by show (_ : Int) ≠ 0; decide +kernel), ?_⟩
    refine ⟨_, rfl, _, _, rfl, rfl, ⟨by decide, by decide +kernel⟩, _, _, rfl, rfl, ?_⟩
    refine ⟨(by show 3 ≤ sizeLine; decide), fun p np => ?_⟩
    exact q _ _ p _ np (Ex.new np) upd_same
def sp_l_next : Sp := fun vs H Q _ => ∃ (a : Addr) (k : Int), vs = [.ref a] ∧ Dr H a k ∧ (0 ≤ k ∧ k < 2 ^ 40) ∧ ∀ (r : Int) (H2 : Hp), 0 ≤ r → ExA a H H2 → Dr H2 a (k + 1) → Q (.int r) H2
theorem ok_l_next (T : Txt K mg A) : FnOk P w K mg base CX0 1 A.f_l_next A.d_l_next ["_law_draws_here"] sp_l_next := by
  refine T.F_l_next.ok sc_l_next (fun vs H Q E h => ?_) (fun cdv A' outer s H vs Q E hr h => ?_)
  · obtain ⟨a, k, rfl, _⟩ := h
    rfl
  · obtain ⟨a, k, rfl, ⟨x, b, hd⟩, hk, q⟩ := h
    refine ⟨_, (pss_cons (ps_asg (pe_op op_add (pe_ix (ix_listK (K := K) rfl) (pv 0) pe_int (fun _ _ => rfl)) pe_int) (pg_sub (pv 0) pe_int set_list))
      (pss_cons (ps_set (i := 1) sc_l_next.nd rfl (by first | exact .inl rfl | exact .inr rfl) (pe_ix (ix_listK (K := K) rfl) (pv 0) pe_int (fun _ _ => rfl)))
      (pss_cons (ps_if (pt_val (pe_ix (ix_listK (K := K) rfl) (pv 0) pe_int (fun _ _ => rfl))) (pss_cons (ps_set (i := 2) sc_l_next.nd rfl (by first | exact .inl rfl | exact .inr rfl) (pe_op op_modN (pe_callTy call_int1 (by rfl) T.z_int (by decide +kernel) (pa_cons (pe_ix (ix_listK (K := K) rfl) (pv 0) pe_int (fun _ _ => rfl)) pa_nil)) (pe_op op_powW pe_int pe_int)))
      (pss_cons (ps_asg (pe_op op_fdivN (pe_ix (ix_listK (K := K) rfl) (pv 0) pe_int (fun _ _ => rfl)) (pe_op op_powW pe_int pe_int)) (pg_sub (pv 0) pe_int set_list))
      (pss_one (ps_ret (pv 2))))) pss_nil)
      (pss_cons (ps_set (i := 2) sc_l_next.nd rfl (by first | exact .inl rfl | exact .inr rfl) (pe_op op_modN (pe_callTy call_int1 (by rfl) T.z_int (by decide +kernel) (pa_cons (pe_op op_mul (pe_op op_add (pe_op op_add (pe_op op_modN (pe_callTy call_int1 (by rfl) T.z_int (by decide +kernel) (pa_cons (pe_ix (ix_listK (K := K) rfl) (pv 0) pe_int (fun _ _ => rfl)) pa_nil)) pe_int) (pe_op op_mul (pe_op op_mul (pv 1) (pv 1)) pe_int)) (pv 1)) pe_int) pa_nil)) pe_int))
      (pss_cons (ps_set (i := 2) sc_l_next.nd rfl (by first | exact .inl rfl | exact .inr rfl) (pe_op op_modN (pe_callTy call_int1 (by rfl) T.z_int (by decide +kernel) (pa_cons (pe_op op_mul (pv 2) (pv 2)) pa_nil)) pe_int))
      (pss_one (ps_ret (pe_op op_fdivN (pe_op op_modN (pe_callTy call_int1 (by rfl) T.z_int (by decide +kernel) (pa_cons (pe_op op_mul (pv 2) (pe_op op_add (pv 2) pe_int)) pa_nil)) pe_int) pe_int)))))))), ?_⟩
    -- d[1] = d[1] + 1
    refine ⟨_, rfl, a, _, _, _, rfl, rfl, .inl (.inl hd), atI_nat (j := 1) rfl, _, _, rfl, rfl, ?_⟩
    refine ⟨_, rfl, a, _, 1, 1, rfl, rfl, hd, rfl, ?_⟩
    have h1 : upd H a (.lst [.int x, .int (k + 1), .bl b]) a = some (.lst [.int x, .int (k + 1), .bl b]) := upd_same
    have e1 := ExA.upd a H (.lst [.int x, .int (k + 1), .bl b])
    show _
    generalize hH1 : upd H a (.lst [.int x, .int (k + 1), .bl b]) = H1 at h1 e1
    have hH1' : upd H a (.lst ([V.int x, .int k, .bl b].set 1 (.int (k + 1)))) = H1 := hH1
    rw [hH1']
    -- k = d[1]
    refine ⟨_, rfl, a, _, _, _, rfl, rfl, .inl (.inl h1), atI_nat (j := 1) rfl, ?_⟩
    -- if d[2]
    refine ⟨_, rfl, a, _, _, _, rfl, rfl, .inl (.inl h1), atI_nat (j := 2) rfl, b, rfl, ?_⟩
    cases b with
    | true =>
      refine iteT ?_
      refine ⟨_, rfl, a, _, _, _, rfl, rfl, .inl (.inl h1), atI_nat (j := 0) rfl, .inl ⟨x, rfl, _, _, rfl, rfl, ⟨by decide, by decide +kernel⟩, _, _, rfl, rfl, (by show (_ : Int) ≠ 0; decide +kernel), ?_⟩⟩
      refine ⟨_, rfl, a, _, _, _, rfl, rfl, .inl (.inl h1), atI_nat (j := 0) rfl, _, _, rfl, rfl, ⟨by decide, by decide +kernel⟩, _, _, rfl, rfl, ⟨by decide +kernel, by decide +kernel⟩, ?_⟩
      refine ⟨_, rfl, a, _, 0, 0, rfl, rfl, h1, rfl, ?_⟩
      refine ⟨_, rfl, q _ _ (fmod_at (by decide +kernel)).1 (e1.trans (ExA.upd a H1 _)) ⟨_, _, upd_same⟩⟩
    | false =>
      refine iteF ?_
      have ne1 : (1000003 : Int) ≠ 0 := by decide
      have ne2 : (2147483629 : Int) ≠ 0 := by decide
      have ne3 : (2147483587 : Int) ≠ 0 := by decide
      have ne4 : (2147483579 : Int) ≠ 0 := by decide
      -- number = int((int(d[0]) % 1000003 + k * k * 7919 + k) * 48271) % 2147483629
      refine ⟨_, rfl, a, _, _, _, rfl, rfl, .inl (.inl h1), atI_nat (j := 0) rfl, .inl ⟨x, rfl, _, _, rfl, rfl, ne1, ?_⟩⟩
      refine ⟨_, rfl, _, rfl, _, _, rfl, rfl, .inl ⟨by omega, by omega⟩, _, _, rfl, rfl, .inr ⟨by decide, by decide⟩, _, _, rfl, rfl, ?_⟩
      refine ⟨_, rfl, _, _, rfl, rfl, _, _, rfl, rfl, .inr ⟨by decide, by decide⟩, .inl ⟨_, rfl, _, _, rfl, rfl, ne2, ?_⟩⟩
      generalize (x.fmod 1000003 + (k + 1) * (k + 1) * 7919 + (k + 1)) * 48271 = y
      have y0 := fmod_at (i := y) (j := 2147483629) (by decide)
      -- number = int(number * number) % 2147483587
      refine ⟨_, rfl, _, rfl, _, _, rfl, rfl, .inl ⟨by omega, by omega⟩, .inl ⟨_, rfl, _, _, rfl, rfl, ne3, ?_⟩⟩
      have u0 := fmod_at (i := y.fmod 2147483629 * y.fmod 2147483629) (j := 2147483587) (by decide)
      -- return int(number * (number + 2)) % 2147483579 // 7
      refine ⟨_, rfl, _, rfl, _, _, rfl, rfl, _, _, rfl, rfl, .inl ⟨by omega, by omega⟩, .inl ⟨_, rfl, _, _, rfl, rfl, ne4, _, _, rfl, rfl, ⟨by decide, by decide⟩, ?_⟩⟩
      exact q _ H1 (fdiv_at (fmod_at (by decide)).1 (by decide)) e1 ⟨_, _, h1⟩
def sp_l_drawsX : Sp := fun vs H Q _ => ∃ c : Int, vs = [.int c] ∧ ∀ (p : Addr) (H2 : Hp), H p = none → Ex H H2 → DrX H2 p (cellX c) 0 (decide (10 ^ 18 ≤ c)) → Q (.ref p) H2
theorem ok_l_drawsX (T : Txt K mg A) : FnOk P w K mg base CX0 1 A.f_l_draws A.d_l_draws ["_law_cell"] sp_l_drawsX := by
  refine T.F_l_draws.ok sc_l_draws (fun vs H Q E h => ?_) (fun cdv A' outer s H vs Q E hr h => ?_)
  · obtain ⟨c, rfl, _⟩ := h
    rfl
  · obtain ⟨c, rfl, q⟩ := h
    refine ⟨_, (pss_one (ps_ret (pe_lst (pa_cons (pe_op op_modN (pe_callTy call_int1 (by rfl) T.z_int (by decide +kernel) (pa_cons (pv 0) pa_nil)) (pe_op op_powW (pe_op op_powW (pe_op op_powW pe_int pe_int) pe_int) pe_int)) (pa_cons pe_int (pa_cons (pe_cmpR op_ge (pv 0) (pe_op op_powW pe_int pe_int) (nomark _)) pa_nil)))))), ?_⟩
    refine ⟨_, rfl, .inl ⟨c, rfl, ?_⟩⟩
    refine ⟨_, _, rfl, rfl, ⟨by decide, by decide +kernel⟩, _, _, rfl, rfl, ⟨by decide, by decide +kernel⟩, _, _, rfl, rfl, ⟨by decide, by decide +kernel⟩, ?_⟩
    refine ⟨_, _, rfl, rfl, (by show (_ : Int) ≠ 0; decide +kernel), ?_⟩
    refine ⟨_, rfl, _, _, rfl, rfl, ⟨by decide, by decide +kernel⟩, _, _, rfl, rfl, ?_⟩
    refine ⟨(by show 3 ≤ sizeLine; decide), fun p np => ?_⟩
    refine q p _ np (Ex.new np) ?_
    exact upd_same
def sp_l_nextX : Sp := fun vs H Q _ => ∃ (a : Addr) (x k : Int) (b : Bool), vs = [.ref a] ∧ DrX H a x k b ∧ (0 ≤ k ∧ k < 2 ^ 40) ∧ ∀ (H2 : Hp), ExA a H H2 → DrX H2 a (nextX x b) (k + 1) b → Q (.int (nextV x (k + 1) b)) H2
theorem ok_l_nextX (T : Txt K mg A) : FnOk P w K mg base CX0 1 A.f_l_next A.d_l_next ["_law_draws_here"] sp_l_nextX := by
  refine T.F_l_next.ok sc_l_next (fun vs H Q E h => ?_) (fun cdv A' outer s H vs Q E hr h => ?_)
  · obtain ⟨a, x, k, b, rfl, _⟩ := h
    rfl
  · obtain ⟨a, x, k, b, rfl, hd, hk, q⟩ := h
    unfold DrX at hd
    refine ⟨_, (pss_cons (ps_asg (pe_op op_add (pe_ix (ix_listK (K := K) rfl) (pv 0) pe_int (fun _ _ => rfl)) pe_int) (pg_sub (pv 0) pe_int set_list))
      (pss_cons (ps_set (i := 1) sc_l_next.nd rfl (by first | exact .inl rfl | exact .inr rfl) (pe_ix (ix_listK (K := K) rfl) (pv 0) pe_int (fun _ _ => rfl)))
      (pss_cons (ps_if (pt_val (pe_ix (ix_listK (K := K) rfl) (pv 0) pe_int (fun _ _ => rfl))) (pss_cons (ps_set (i := 2) sc_l_next.nd rfl (by first | exact .inl rfl | exact .inr rfl) (pe_op op_modN (pe_callTy call_int1 (by rfl) T.z_int (by decide +kernel) (pa_cons (pe_ix (ix_listK (K := K) rfl) (pv 0) pe_int (fun _ _ => rfl)) pa_nil)) (pe_op op_powW pe_int pe_int)))
      (pss_cons (ps_asg (pe_op op_fdivN (pe_ix (ix_listK (K := K) rfl) (pv 0) pe_int (fun _ _ => rfl)) (pe_op op_powW pe_int pe_int)) (pg_sub (pv 0) pe_int set_list))
      (pss_one (ps_ret (pv 2))))) pss_nil)
      (pss_cons (ps_set (i := 2) sc_l_next.nd rfl (by first | exact .inl rfl | exact .inr rfl) (pe_op op_modN (pe_callTy call_int1 (by rfl) T.z_int (by decide +kernel) (pa_cons (pe_op op_mul (pe_op op_add (pe_op op_add (pe_op op_modN (pe_callTy call_int1 (by rfl) T.z_int (by decide +kernel) (pa_cons (pe_ix (ix_listK (K := K) rfl) (pv 0) pe_int (fun _ _ => rfl)) pa_nil)) pe_int) (pe_op op_mul (pe_op op_mul (pv 1) (pv 1)) pe_int)) (pv 1)) pe_int) pa_nil)) pe_int))
      (pss_cons (ps_set (i := 2) sc_l_next.nd rfl (by first | exact .inl rfl | exact .inr rfl) (pe_op op_modN (pe_callTy call_int1 (by rfl) T.z_int (by decide +kernel) (pa_cons (pe_op op_mul (pv 2) (pv 2)) pa_nil)) pe_int))
      (pss_one (ps_ret (pe_op op_fdivN (pe_op op_modN (pe_callTy call_int1 (by rfl) T.z_int (by decide +kernel) (pa_cons (pe_op op_mul (pv 2) (pe_op op_add (pv 2) pe_int)) pa_nil)) pe_int) pe_int)))))))), ?_⟩
    -- d[1] = d[1] + 1
    refine ⟨_, rfl, a, _, _, _, rfl, rfl, .inl (.inl hd), atI_nat (j := 1) rfl, _, _, rfl, rfl, ?_⟩
    refine ⟨_, rfl, a, _, 1, 1, rfl, rfl, hd, rfl, ?_⟩
    have h1 : upd H a (.lst [.int x, .int (k + 1), .bl b]) a = some (.lst [.int x, .int (k + 1), .bl b]) := upd_same
    have e1 := ExA.upd a H (.lst [.int x, .int (k + 1), .bl b])
    show _
    generalize hH1 : upd H a (.lst [.int x, .int (k + 1), .bl b]) = H1 at h1 e1
    have hH1' : upd H a (.lst ([V.int x, .int k, .bl b].set 1 (.int (k + 1)))) = H1 := hH1
    rw [hH1']
    -- k = d[1]
    refine ⟨_, rfl, a, _, _, _, rfl, rfl, .inl (.inl h1), atI_nat (j := 1) rfl, ?_⟩
    -- if d[2]
    refine ⟨_, rfl, a, _, _, _, rfl, rfl, .inl (.inl h1), atI_nat (j := 2) rfl, b, rfl, ?_⟩
    cases b with
    | true =>
      refine iteT ?_
      refine ⟨_, rfl, a, _, _, _, rfl, rfl, .inl (.inl h1), atI_nat (j := 0) rfl, .inl ⟨x, rfl, _, _, rfl, rfl, ⟨by decide, by decide +kernel⟩, _, _, rfl, rfl, (by show (_ : Int) ≠ 0; decide +kernel), ?_⟩⟩
      refine ⟨_, rfl, a, _, _, _, rfl, rfl, .inl (.inl h1), atI_nat (j := 0) rfl, _, _, rfl, rfl, ⟨by decide, by decide +kernel⟩, _, _, rfl, rfl, ⟨by decide +kernel, by decide +kernel⟩, ?_⟩
      refine ⟨_, rfl, a, _, 0, 0, rfl, rfl, h1, rfl, ?_⟩
      exact ⟨_, rfl, q _ (e1.trans (ExA.upd a H1 _)) upd_same⟩
    | false =>
      refine iteF ?_
      have ne1 : (1000003 : Int) ≠ 0 := by decide
      have ne2 : (2147483629 : Int) ≠ 0 := by decide
      have ne3 : (2147483587 : Int) ≠ 0 := by decide
      have ne4 : (2147483579 : Int) ≠ 0 := by decide
      -- number = int((int(d[0]) % 1000003 + k * k * 7919 + k) * 48271) % 2147483629
      refine ⟨_, rfl, a, _, _, _, rfl, rfl, .inl (.inl h1), atI_nat (j := 0) rfl, .inl ⟨x, rfl, _, _, rfl, rfl, ne1, ?_⟩⟩
      refine ⟨_, rfl, _, rfl, _, _, rfl, rfl, .inl ⟨by omega, by omega⟩, _, _, rfl, rfl, .inr ⟨by decide, by decide⟩, _, _, rfl, rfl, ?_⟩
      refine ⟨_, rfl, _, _, rfl, rfl, _, _, rfl, rfl, .inr ⟨by decide, by decide⟩, .inl ⟨_, rfl, _, _, rfl, rfl, ne2, ?_⟩⟩
      have hv : ∀ y, (x.fmod 1000003 + (k + 1) * (k + 1) * 7919 + (k + 1)) * 48271 = y → nextV x (k + 1) false = (((y.fmod 2147483629 * y.fmod 2147483629).fmod 2147483587 * ((y.fmod 2147483629 * y.fmod 2147483629).fmod 2147483587 + 2)).fmod 2147483579).fdiv 7 := fun y e => by
        subst e
        rfl
      generalize hy : (x.fmod 1000003 + (k + 1) * (k + 1) * 7919 + (k + 1)) * 48271 = y
      have y0 := fmod_at (i := y) (j := 2147483629) (by decide)
      -- number = int(number * number) % 2147483587
      refine ⟨_, rfl, _, rfl, _, _, rfl, rfl, .inl ⟨by omega, by omega⟩, .inl ⟨_, rfl, _, _, rfl, rfl, ne3, ?_⟩⟩
      have u0 := fmod_at (i := y.fmod 2147483629 * y.fmod 2147483629) (j := 2147483587) (by decide)
      -- return int(number * (number + 2)) % 2147483579 // 7
      refine ⟨_, rfl, _, rfl, _, _, rfl, rfl, _, _, rfl, rfl, .inl ⟨by omega, by omega⟩, .inl ⟨_, rfl, _, _, rfl, rfl, ne4, _, _, rfl, rfl, ⟨by decide, by decide⟩, ?_⟩⟩
      have go := q H1 e1 h1
      rw [hv y hy] at go
      exact go
end
end K24

namespace K24
open PySem PySem.Spec PyProof.Rows L2 Vf Evl
theorem ExA.new {a p : Addr} {H H' : Hp} {o : HO} (e : ExA a H H') (h : H' p = none) : ExA a H (L2.upd H' p o) := fun b u ne hb => by
  have z := e b u ne hb
  rw [upd_ne (ne_of_none z h)]
  exact z
theorem ExA.mut {a p : Addr} {H H' : Hp} {o : HO} (e : ExA a H H') (h : H p = none) : ExA a H (L2.upd H' p o) := fun b u ne hb => by
  rw [upd_ne (ne_of_none hb h)]
  exact e b u ne hb
theorem seqIx {i : Int} {n : Nat} (h0 : 0 ≤ i) (h1 : i < n) : seqIndex? i n = some i.toNat := by
  unfold seqIndex?
  rw [if_neg (show ¬ i < 0 by omega)]
  simp [h0, h1]
section
variable {P : Program} {w : World} {K : PySem.W.Frag} {mg : Str → Option Value} {base : Heap} {A : Ad}
def sp_l_shuffled (K : PySem.W.Frag) : Sp := fun vs H Q _ => ∃ (d a : Addr) (k : Int) (xs : List V), vs = [.ref d, .ref a] ∧ Dr H d k ∧ (0 ≤ k ∧ k + xs.length < 2 ^ 40) ∧ SqL K H a xs ∧ xs.length ≤ 1000 ∧
  (∀ H', ExA d H H' → ∀ x ∈ xs, Sh K H' x) ∧ ∀ (ys : List V) (p : Addr) (H2 : Hp), ys.Perm xs → H p = none → ExA d H H2 → Dr H2 d (k + xs.length) → H2 p = some (.lst ys) → Q (.ref p) H2
theorem ok_l_shuffled (T : Txt K mg A) : FnOk P w K mg base CX0 2 A.f_l_shuffled A.d_l_shuffled ["_law_draws_here", "_law_things"] (sp_l_shuffled K) := by
  have G_l_next : FnOk P w K mg base CX0 1 A.f_l_next A.d_l_next ["_law_draws_here"] sp_l_next := ok_l_next T
  refine T.F_l_shuffled.ok sc_l_shuffled (fun vs H Q E h => ?_) (fun cdv A' outer s H vs Q E hr h => ?_)
  · obtain ⟨d, a, k, xs, rfl, _⟩ := h
    rfl
  · obtain ⟨d, a, k, xs, rfl, hd, hk, hS, hl, hsh, q⟩ := h
    refine ⟨_, (pss_cons (ps_set (i := 2) sc_l_shuffled.nd rfl (by first | exact .inl rfl | exact .inr rfl) (pe_callTy (call_listK (K := K) rfl) (by rfl) T.z_list (by decide +kernel) (pa_cons (pv 1) pa_nil)))
      (pss_cons (ps_set (i := 3) sc_l_shuffled.nd rfl (by first | exact .inl rfl | exact .inr rfl) (pe_lst pa_nil))
      (pss_cons (ps_while PassesOwn.never (pt_cmpR (op_neD hr.units) (pv 2) (pe_lst pa_nil) (nomark _)) (pss_one (ps_expr (pe_bmK (K := K) rfl PySem.F.plainAttrs_list PySem.F.slot_list_append PySem.F.type_list_append mt_append (pv 3) (pa_cons (pe_bmK (K := K) rfl PySem.F.plainAttrs_list PySem.F.slot_list_pop PySem.F.type_list_pop mt_popAt (pv 2) (pa_cons (pe_op op_modN (pe_callTy call_int1 (by rfl) T.z_int (by decide +kernel) (pa_cons (pe_call G_l_next (hr.mono (by decide)) (by rfl) T.g_l_next T.F_l_next.kp T.b_l_next .nil pass0 (pa_cons (pv 0) pa_nil)) pa_nil)) (pe_callB (call_lenK (K := K) rfl) (by rfl) T.z_len PySem.boot_len (pa_cons (pv 2) pa_nil))) pa_nil)) pa_nil)))))
      (pss_one (ps_ret (pv 3)))))), ?_⟩
    have hdn : H d ≠ none := by
      obtain ⟨x, b, h⟩ := hd
      rw [h]
      exact fun z => nomatch z
    -- left = list(some); told = []
    refine ⟨_, rfl, a, xs, rfl, .inl hS, fun l nl => ?_⟩
    have e1 : Ex H (upd H l (.lst xs)) := Ex.new nl
    refine ⟨Nat.zero_le _, fun t nt => ?_⟩
    have e2 : Ex (upd H l (.lst xs)) (upd (upd H l (.lst xs)) t (.lst [])) := Ex.new nt
    have nlt : l ≠ t := ne_of_none upd_same nt
    have nt0 : H t = none := fresh_back e1 nt
    have ndl : d ≠ l := fun z => hdn (z ▸ nl)
    have ndt : d ≠ t := fun z => hdn (z ▸ nt0)
    refine ⟨fun m σ' H' => σ' = [some (.ref d), some (.ref a), some (.ref l), some (.ref t)] ∧ ∃ ls ts : List V, H' l = some (.lst ls) ∧ H' t = some (.lst ts) ∧ m = ls.length ∧
        (ts ++ ls).Perm xs ∧ ExA d H H' ∧ Dr H' d (k + ts.length), ⟨xs.length, rfl, xs, [], e2 _ _ upd_same, upd_same, rfl, .refl _, ExA.of (e1.trans e2), ?_⟩, ?_⟩
    · have z := hd.on (e1.trans e2)
      simpa using z
    rintro m σ' H' ⟨rfl, ls, ts, h1, h2, rfl, pm, e, hd'⟩
    have hsub : ∀ x ∈ ls, x ∈ xs := fun x hx => pm.mem_iff.mp (List.mem_append_right _ hx)
    have hlen : ts.length + ls.length = xs.length := by rw [← List.length_append]; exact pm.length_eq
    -- while left != []
    refine ⟨_, rfl, Nat.zero_le _, fun z nz => ?_⟩
    have e3 : Ex H' (upd H' z (.lst [])) := Ex.new nz
    refine ne_nil (.inl (.inl (e3 _ _ h1))) upd_same (fun x hx => hsh _ (e.trans (ExA.of e3)) x (hsub x hx)) ⟨_, rfl, ?_⟩
    have h1' := e3 _ _ h1
    have h2' := e3 _ _ h2
    have hd3 := hd'.on e3
    have ee := e.trans (ExA.of (a := d) e3)
    generalize upd H' z (.lst []) = H3 at e3 h1' h2' hd3 ee
    cases ls with
    | nil =>
      refine iteF ?_
      rw [List.append_nil] at pm
      refine ⟨_, rfl, q ts t H3 pm nt0 ee ?_ h2'⟩
      have hl0 : ts.length = xs.length := by simpa using hlen
      rw [← hl0]
      exact hd3
    | cons y0 ls =>
      refine iteT ⟨fun σ' H' => ∃ m', m' < (y0 :: ls).length ∧ (σ' = [some (.ref d), some (.ref a), some (.ref l), some (.ref t)] ∧ ∃ ls ts : List V, H' l = some (.lst ls) ∧ H' t = some (.lst ts) ∧ m' = ls.length ∧
        (ts ++ ls).Perm xs ∧ ExA d H H' ∧ Dr H' d (k + ts.length)), fun σ' H' z => z, ?_⟩
      -- told.append(left.pop(int(next(draws)) % len(left)))
      refine ⟨_, rfl, .inl ⟨rfl, _, .inl (.inl h2')⟩, _, rfl, .inl ⟨rfl, _, .inl (.inl h1')⟩, _, rfl, d, _, rfl, hd3, ⟨by omega, by simp only [List.length_cons] at hlen; omega⟩, fun r H4 hr0 e4 hd4 => ?_⟩
      have h1'' := e4 _ _ ndl.symm h1'
      have h2'' := e4 _ _ ndt.symm h2'
      refine .inl ⟨r, rfl, _, rfl, l, _, rfl, .inl (.inl (.inl h1'')), _, _, rfl, rfl, (by simp only [List.length_cons]; omega), ?_⟩
      have fm := fmod_at (i := r) (j := ((y0 :: ls).length : Int)) (by simp only [List.length_cons]; omega)
      generalize hi : r.fmod ((y0 :: ls).length : Int) = i at fm
      have hi' : i.toNat < (y0 :: ls).length := by omega
      have hll : (y0 :: ls).length ≤ 1000 := by omega
      refine ⟨l, y0 :: ls, i, i.toNat, (y0 :: ls)[i.toNat], rfl, by rw [← hi], h1'', by omega, by omega, seqIx fm.1 fm.2, List.getElem?_eq_getElem hi', ?_⟩
      have h3 : (upd H4 l (.lst ((y0 :: ls).eraseIdx i.toNat))) t = some (.lst ts) := by rw [upd_ne nlt.symm]; exact h2''
      refine ⟨t, ts, _, rfl, rfl, h3, sz_lt (by omega), ?_⟩
      have pm2 := erase_perm (y0 :: ls) i.toNat (y0 :: ls)[i.toNat] (List.getElem?_eq_getElem hi')
      refine ⟨((y0 :: ls).eraseIdx i.toNat).length, by rw [List.length_eraseIdx_of_lt hi']; omega, rfl, (y0 :: ls).eraseIdx i.toNat, ts ++ [(y0 :: ls)[i.toNat]], ?_, upd_same, rfl, ?_, ?_, ?_⟩
      · rw [upd_ne nlt]; exact upd_same
      · rw [List.append_assoc]
        exact (List.Perm.append_left ts pm2).trans pm
      · exact ExA.mut (ExA.mut (ee.trans e4) nl) nt0
      · obtain ⟨x, b, hx⟩ := hd4
        refine ⟨x, b, ?_⟩
        rw [upd_ne ndt, upd_ne ndl, hx, List.length_append]
        simp only [List.length_cons, List.length_nil]
        rw [show k + (ts.length : Int) + 1 = k + ((ts.length + (0 + 1) : Nat) : Int) by omega]
end
end K24

namespace K24
open PySem PySem.Spec PyProof.Rows L2 Vf Evl
/-! ### a drawn order -/
def turnedF (n : Nat) (f : Int) : List Int := (List.range n).map fun i : Nat => (f + (i : Int)) % (n : Int) + 1
theorem turned_stn {n : Nat} (hn : 0 < n) (f : Int) : MR.Stn n (turnedF n f) := by
  refine ⟨by simp [turnedF], fun x hx => ?_, ?_⟩
  · obtain ⟨i, hi, rfl⟩ := List.mem_map.mp hx
    have a := Int.emod_nonneg (f + (i : Int)) (show (n : Int) ≠ 0 by omega)
    have b := Int.emod_lt_of_pos (f + (i : Int)) (show (0 : Int) < n by omega)
    omega
  · unfold turnedF
    rw [List.nodup_iff_pairwise_ne, List.pairwise_map]
    refine List.Pairwise.imp_of_mem ?_ (List.nodup_iff_pairwise_ne.mp List.nodup_range)
    intro a b ha hb hab e
    have ha := List.mem_range.mp ha
    have hb := List.mem_range.mp hb
    have e : (f + (a : Int)) % (n : Int) = (f + (b : Int)) % (n : Int) := by omega
    have z := Int.emod_emod_of_dvd (f + (a : Int)) (Int.dvd_refl (n : Int))
    have d : ((f + (a : Int)) - (f + (b : Int))) % (n : Int) = 0 := Int.emod_eq_emod_iff_emod_sub_eq_zero.mp e
    have d2 : (n : Int) ∣ ((a : Int) - (b : Int)) := by
      have := Int.dvd_of_emod_eq_zero d
      rwa [show (f + (a : Int)) - (f + (b : Int)) = (a : Int) - (b : Int) by omega] at this
    obtain ⟨c, hc⟩ := d2
    have c1 : -1 < c := by
      refine Int.lt_of_mul_lt_mul_left (a := (n : Int)) ?_ (by omega)
      rw [← hc]; omega
    have c2 : c < 1 := by
      refine Int.lt_of_mul_lt_mul_left (a := (n : Int)) ?_ (by omega)
      rw [← hc]; omega
    have : c = 0 := by omega
    rw [this, Int.mul_zero] at hc
    omega
/-- every other one, then the others -/
theorem halves_perm {α : Type} (xs : List α) (h : xs.length ≤ 40) : (pickL xs none none (some 2) ++ pickL xs (some 1) none (some 2)).Perm xs := by
  have key : ∀ n, n ≤ 40 → (idxF none none (some 2) n ++ idxF (some 1) none (some 2) n).Perm (List.range n) := by
    intro n hn
    have z : ∀ n : Fin 41, (idxF none none (some 2) n.1 ++ idxF (some 1) none (some 2) n.1).Perm (List.range n.1) := by decide +kernel
    exact z ⟨n, by omega⟩
  have e : xs = (List.range xs.length).filterMap (xs[·]?) := by
    refine List.ext_getElem? fun i => ?_
    have : ∀ m, m ≤ xs.length → (List.range m).filterMap (xs[·]?) = xs.take m := by
      intro m hm
      induction m with
      | zero => rfl
      | succ m ih =>
        rw [List.range_succ, List.filterMap_append, ih (by omega)]
        have hx : xs[m]? = some xs[m] := List.getElem?_eq_getElem (by omega)
        rw [take_snoc hx]
        simp [hx]
    rw [this _ (Nat.le_refl _), List.take_length]
  unfold pickL
  rw [← List.filterMap_append]
  conv => rhs; rw [e]
  exact (key _ h).filterMap _
theorem stn_perm {n : Nat} {a b : List Int} (h : MR.Stn n a) (p : b.Perm a) : MR.Stn n b := ⟨by rw [p.length_eq, h.len], fun x hx => h.lo x (p.mem_iff.mp hx), p.nodup_iff.mpr h.nd⟩
theorem map_perm {ys : List V} {ns : List Int} (p : ys.Perm (ns.map V.int)) : ∃ ms : List Int, ys = ms.map V.int ∧ ms.Perm ns := by
  let un : V → Int := fun v => match v with | .int i => i | _ => 0
  have q := p.map un
  have e1 : (ns.map V.int).map un = ns := by
    rw [List.map_map]
    exact (List.map_congr_left fun _ _ => rfl).trans (List.map_id _)
  rw [e1] at q
  refine ⟨ys.map un, ?_, q⟩
  rw [List.map_map]
  refine ((List.map_congr_left fun v hv => ?_).trans (List.map_id _)).symm
  obtain ⟨i, _, rfl⟩ := List.mem_map.mp (p.mem_iff.mp hv)
  rfl
theorem exA_fresh {d p : Addr} {H H' : Hp} (e : ExA d H H') (hd : ∃ k, Dr H' d k) (h : H' p = none) : H p = none := by
  cases hq : H p with
  | none => rfl
  | some o =>
    obtain ⟨k, x, b, hx⟩ := hd
    have nd : p ≠ d := fun z => by
      rw [z, hx] at h
      cases h
    have z := e _ _ nd hq
    rw [h] at z
    cases z
section
variable {P : Program} {w : World} {K : PySem.W.Frag} {mg : Str → Option Value} {base : Heap} {A : Ad}
def sp_l_order : Sp := fun vs H Q _ => ∃ (d : Addr) (k m : Int), vs = [.ref d, .int m] ∧ Dr H d k ∧ (0 ≤ k ∧ k < 2 ^ 39) ∧ (4 ≤ m ∧ m ≤ 40) ∧
  ∀ (n : Nat) (ord : List Int) (p : Addr) (k' : Int) (H2 : Hp), 3 ≤ n → (n : Int) ≤ m → MR.Stn n ord → H p = none → ExA d H H2 → Dr H2 d k' → (0 ≤ k' ∧ k' ≤ k + 100) → H2 p = some (.lst (ord.map V.int)) → Q (.ref p) H2
theorem ok_l_order (T : Txt K mg A) : FnOk P w K mg base CX0 3 A.f_l_order A.d_l_order ["_law_draws_here", "_law_most"] sp_l_order := by
  have G_l_next : FnOk P w K mg base CX0 1 A.f_l_next A.d_l_next ["_law_draws_here"] sp_l_next := ok_l_next T
  have G_l_shuffled : FnOk P w K mg base CX0 2 A.f_l_shuffled A.d_l_shuffled ["_law_draws_here", "_law_things"] (sp_l_shuffled K) := ok_l_shuffled T
  refine T.F_l_order.ok sc_l_order (fun vs H Q E h => ?_) (fun cdv A' outer s H vs Q E hr h => ?_)
  · obtain ⟨d, k, m, rfl, _⟩ := h
    rfl
  · obtain ⟨d, k, m, rfl, hd, hk, hm, q⟩ := h
    refine ⟨_, (pss_cons (ps_set (i := 2) sc_l_order.nd rfl (by first | exact .inl rfl | exact .inr rfl) (pe_op op_add pe_int (pe_op op_modN (pe_callTy call_int1 (by rfl) T.z_int (by decide +kernel) (pa_cons (pe_call G_l_next (hr.mono (by decide)) (by rfl) T.g_l_next T.F_l_next.kp T.b_l_next .nil pass0 (pa_cons (pv 0) pa_nil)) pa_nil)) (pe_op op_sub (pv 1) pe_int))))
      (pss_cons (ps_set (i := 3) sc_l_order.nd rfl (by first | exact .inl rfl | exact .inr rfl) (pe_op op_modN (pe_callTy call_int1 (by rfl) T.z_int (by decide +kernel) (pa_cons (pe_call G_l_next (hr.mono (by decide)) (by rfl) T.g_l_next T.F_l_next.kp T.b_l_next .nil pass0 (pa_cons (pv 0) pa_nil)) pa_nil)) pe_int))
      (pss_cons (ps_set (i := 4) sc_l_order.nd rfl (by first | exact .inl rfl | exact .inr rfl) (pe_op op_modN (pe_callTy call_int1 (by rfl) T.z_int (by decide +kernel) (pa_cons (pe_call G_l_next (hr.mono (by decide)) (by rfl) T.g_l_next T.F_l_next.kp T.b_l_next .nil pass0 (pa_cons (pv 0) pa_nil)) pa_nil)) (pv 2)))
      (pss_cons (ps_setLc (i := 5) (own := [("_law_at", 6)]) rfl sc_l_order.nd rfl rfl (sw_true rfl rfl rfl (by decide +kernel)) (pi_range1 (by rfl) T.z_range (pa_cons (pv 2) pa_nil)) (blkOk_by (by kernel_rfl)) (fun _ _ _ _ _ => (pg_name (i := 6) sc_l_order.nd rfl (by first | exact .inl rfl | exact .inr rfl))) (fun _ _ _ _ _ => pts_nil) (fun _ _ _ _ _ => (pe_op op_add (pe_op op_modN (pe_op op_add (pv 4) (pv 6)) (pv 2)) pe_int)))
      (pss_cons (ps_if (pt_cmpR op_lt (pv 3) pe_int (nomark _)) (pss_one (ps_ret (pe_ix (ix_listK (K := K) rfl) (pe_lst (pa_cons (pv 5) (pa_cons (pe_revK (K := K) rfl (pv 5)) pa_nil))) (pv 3) (fun _ _ => rfl)))) pss_nil)
      (pss_cons (ps_if (pt_cmpR op_eq (pv 3) pe_int (nomark _)) (pss_one (ps_ret (pe_op op_cat (pe_slice3 (K := K) rfl (pv 5) po_none po_none (po_some pe_int)) (pe_slice3 (K := K) rfl (pv 5) (po_some pe_int) po_none (po_some pe_int))))) pss_nil)
      (pss_one (ps_ret (pe_call G_l_shuffled (hr.mono (by decide)) (by rfl) T.g_l_shuffled T.F_l_shuffled.kp T.b_l_shuffled .nil pass0 (pa_cons (pv 0) (pa_cons (pv 5) pa_nil))))))))))), ?_⟩
    refine ⟨_, rfl, d, k, rfl, hd, ⟨hk.1, by omega⟩, fun r1 H1 r1p e1 hd1 => .inl ⟨r1, rfl, _, rfl, m, 2, rfl, rfl, _, _, rfl, rfl, (by omega), _, _, rfl, rfl, ?_⟩⟩
    have f1 := fmod_at (i := r1) (j := m - 2) (by omega)
    refine ⟨_, rfl, d, _, rfl, hd1, ⟨by omega, by omega⟩, fun r2 H2 r2p e2 hd2 => .inl ⟨r2, rfl, _, _, rfl, rfl, (by show (5 : Int) ≠ 0; decide), ?_⟩⟩
    have f2 := fmod_at (i := r2) (j := 5) (by decide)
    refine ⟨_, rfl, d, _, rfl, hd2, ⟨by omega, by omega⟩, fun r3 H3 r3p e3 hd3 => .inl ⟨r3, rfl, _, rfl, _, _, rfl, rfl, (by show 3 + r1.fmod (m - 2) ≠ 0; omega), ?_⟩⟩
    have f3 := fmod_at (i := r3) (j := 3 + r1.fmod (m - 2)) (by omega)
    dsimp only [gName]
    show tSeq (tAsg _ (gName 5)) _ _ [some (.ref d), some (.int m), some (.int (3 + r1.fmod (m - 2))), some (.int (r2.fmod 5)), some (.int (r3.fmod (3 + r1.fmod (m - 2)))), none, none] H3
    generalize hf : r3.fmod (3 + r1.fmod (m - 2)) = f at f3
    generalize hkd : r2.fmod 5 = kd at f2
    obtain ⟨n, hn⟩ : ∃ n : Nat, 3 + r1.fmod (m - 2) = (n : Int) := ⟨(3 + r1.fmod (m - 2)).toNat, by omega⟩
    rw [hn] at f3 ⊢
    have n3 : 3 ≤ n := by omega
    have nm : (n : Int) ≤ m := by omega
    have e13 := (e1.trans e2).trans e3
    have S := turned_stn (n := n) (by omega) f
    -- turned = [..]
    refine q_asgL (xs := (turnedF n f).map V.int) ?_ fun p H4 np e4 hp => ?_
    · have go := el_lcR1 (H := H3) (σ := [some (.ref d), some (.int m), some (.int (n : Int)), some (.int kd), some (.int f), none, none]) (j := 6) (vs := [6]) (n := (n : Int)) (ta := tCons (tVar 2) tNil) (t := tYes)
        (te := tOp (rI0 fun i j => .int (i + j)) (tOp (rI (fun _ j => j ≠ 0) fun i j => .int (i.fmod j)) (tOp (rI0 fun i j => .int (i + j)) (tVar 4) (tVar 6)) (tVar 2)) (tC (.int 1)))
        (fun _ => true) (fun i => V.int ((f + (i : Int)) % (n : Int) + 1)) (ea_cons (ev_var rfl) ea_nil) (by omega) (fun x => rfl) (fun _ _ _ _ => et_yes) (fun i H4 e4 hi _ => ?_)
      · have e : given (n : Int).toNat (fun _ => true) (fun i => V.int ((f + (i : Int)) % (n : Int) + 1)) = (turnedF n f).map V.int := by
          unfold given turnedF
          rw [List.filter_eq_self.mpr (fun _ _ => rfl), List.map_map, show (n : Int).toNat = n by omega]
          rfl
        rw [e] at go
        exact go
      · rw [← fm (f + (i : Int)) (show (0 : Int) < n by omega)]
        exact ev_op (ev_op (ev_op (ev_var rfl) (ev_var rfl) rv_I0) (ev_var rfl) (rv_I (by show (n : Int) ≠ 0; omega))) ev_c rv_I0
    have hd4 := hd3.on e4
    have e14 := e13.trans (ExA.of e4)
    have np0 : H p = none := exA_fresh e13 ⟨_, hd3⟩ np
    have fin : ∀ (o : List Int) (r : Addr) (H5 : Hp), MR.Stn n o → H r = none → Ex H4 H5 → H5 r = some (.lst (o.map V.int)) → Q (.ref r) H5 := fun o r H5 O nr e5 hr5 => q n o r _ H5 n3 nm O nr (e14.trans (ExA.of e5)) (hd4.on e5) (by omega) hr5
    show tSeq (tIfS _ _ _) _ _ [some (.ref d), some (.int m), some (.int (n : Int)), some (.int kd), some (.int f), some (.ref p), none] H4
    -- if kind < 2
    refine ⟨_, rfl, _, _, rfl, rfl, _, rfl, ?_⟩
    by_cases c2 : kd < 2
    · rw [decide_eq_true c2]
      refine iteT ⟨_, rfl, _, rfl, p, _, rfl, .inl (.inl hp), fun rv nrv => ⟨(by show 2 ≤ sizeLine; decide), fun l nl => ?_⟩⟩
      have e5 : Ex H4 (upd H4 rv (.lst ((turnedF n f).map V.int).reverse)) := Ex.new nrv
      have e6 := e5.trans (Ex.new (o := .lst [.ref p, .ref rv]) nl)
      have hrv : (upd (upd H4 rv (.lst ((turnedF n f).map V.int).reverse)) l (.lst [.ref p, .ref rv])) rv = some (.lst ((turnedF n f).reverse.map V.int)) := by
        rw [upd_ne (ne_of_none upd_same nl), upd_same, List.map_reverse]
      have nrv0 : H rv = none := exA_fresh e14 ⟨_, hd4⟩ nrv
      by_cases c0 : kd = 0
      · refine ⟨_, rfl, l, _, _, _, rfl, rfl, .inl (.inl upd_same), (by rw [c0]; exact atI_nat (j := 0) rfl), ?_⟩
        exact fin _ p _ S np0 e6 (e6 _ _ hp)
      · refine ⟨_, rfl, l, _, _, _, rfl, rfl, .inl (.inl upd_same), (by rw [show kd = ((1 : Nat) : Int) by omega]; exact atI_nat (j := 1) rfl), ?_⟩
        exact fin _ rv _ (stn_perm S (List.reverse_perm _)) nrv0 e6 hrv
    · rw [decide_eq_false c2]
      refine iteF ?_
      -- if kind == 2
      refine ⟨_, rfl, rfl, _, rfl, ?_⟩
      rw [dec_vi]
      by_cases c3 : kd = 2
      · rw [decide_eq_true c3]
        refine iteT (s_retL (xs := (pickL (turnedF n f) none none (some 2) ++ pickL (turnedF n f) (some 1) none (some 2)).map V.int) ?_ fun r H5 nr e5 hr5 => fin _ r H5 (stn_perm S (halves_perm _ (by rw [S.len]; omega))) (exA_fresh e14 ⟨_, hd4⟩ nr) e5 hr5)
        intro H5 e5 Qx k
        refine el_sl3 (K := K) (ev_var rfl) eo_none eo_none (eo_some ev_c) (.inl (.inl hp)) (by decide) H5 e5 _ fun a H6 na e6 ha => ?_
        refine el_sl3 (K := K) (ev_var rfl) (eo_some ev_c) eo_none (eo_some ev_c) (.inl (.inl hp)) (by decide) H6 (e5.trans e6) _ fun b H7 nb e7 hb => ?_
        rw [pick_map] at ha hb
        have hz : (pickL (turnedF n f) none none (some 2) ++ pickL (turnedF n f) (some 1) none (some 2)).length = n := by
          rw [(halves_perm _ (by rw [S.len]; omega)).length_eq, S.len]
        refine ⟨a, b, _, _, rfl, rfl, e7 _ _ ha, hb, sz_of ?_, fun r nr => k r _ (fresh_back (e6.trans e7) nr) ((e6.trans e7).trans (Ex.new nr)) ?_⟩
        · rw [List.length_map, List.length_map, ← List.length_append, hz]
          omega
        · rw [upd_same, List.map_append]
      · rw [decide_eq_false c3]
        refine iteF ⟨_, rfl, _, rfl, d, p, _, (turnedF n f).map V.int, rfl, hd4, ⟨by omega, by rw [List.length_map, S.len]; omega⟩, .inl (.inl hp), by rw [List.length_map, S.len]; omega, fun H' _ x hx => ?_, fun ys r H5 pm nr e5 hd5 hr5 => ?_⟩
        · obtain ⟨i, _, rfl⟩ := List.mem_map.mp hx
          exact Sh.int _
        · obtain ⟨ms, rfl, pm2⟩ := map_perm pm
          refine q n ms r _ H5 n3 nm (stn_perm S pm2) (exA_fresh e14 ⟨_, hd4⟩ nr) (e14.trans e5) hd5 (by rw [List.length_map, S.len]; omega) hr5
end
end K24

namespace K24
open PySem PySem.Spec PyProof.Rows L2 Vf Evl
/-! ### a drawn net: its ties by their places in a line of all seats -/
structure LineOk (n : Nat) (ln : List Int) : Prop where
  len : ln.length = n
  nd : ln.Nodup
  at_ : ∀ x ∈ ln, 1 ≤ x ∧ x ≤ (n : Int)
abbrev at0 (ln : List Int) (i : Nat) : Int := ln.getD i 0
theorem LineOk.mem {n : Nat} {ln : List Int} (L : LineOk n ln) {i : Nat} (h : i < n) : at0 ln i ∈ ln := by
  have h' : i < ln.length := by rw [L.len]; exact h
  unfold at0
  rw [List.getD_eq_getElem?_getD, List.getElem?_eq_getElem h']
  exact List.getElem_mem h'
theorem LineOk.inj {n : Nat} {ln : List Int} (L : LineOk n ln) {i j : Nat} (hi : i < n) (hj : j < n) (e : at0 ln i = at0 ln j) : i = j := by
  have hi' : i < ln.length := by rw [L.len]; exact hi
  have hj' : j < ln.length := by rw [L.len]; exact hj
  unfold at0 at e
  rw [List.getD_eq_getElem?_getD, List.getD_eq_getElem?_getD, List.getElem?_eq_getElem hi', List.getElem?_eq_getElem hj'] at e
  exact (List.getElem_inj L.nd).mp e
/-- t ties the seats at the places i, j of the line -/
def Ties2 (ln : List Int) (i j : Nat) (t : Int × Int) : Prop := t = (at0 ln i, at0 ln j) ∨ t = (at0 ln j, at0 ln i)
theorem nrm_swap (x y : Int) : nrm (x, y) = nrm (y, x) := by
  unfold nrm
  by_cases c : x ≤ y <;> by_cases d : y ≤ x <;> simp only [c, d, if_true, if_false]
  · rw [show x = y by omega]
  · omega
theorem nrm_cases {x y u v : Int} (h : nrm (x, y) = nrm (u, v)) : (x = u ∧ y = v) ∨ (x = v ∧ y = u) := by
  unfold nrm at h
  by_cases c : x ≤ y <;> by_cases d : u ≤ v <;> simp only [c, d, if_true, if_false] at h <;> injection h with h1 h2
  · exact .inl ⟨h1, h2⟩
  · exact .inr ⟨h1, h2⟩
  · exact .inr ⟨h2, h1⟩
  · exact .inl ⟨h2, h1⟩
theorem Ties2.nrm {ln : List Int} {i j : Nat} {t : Int × Int} (h : Ties2 ln i j t) : nrm t = nrm (at0 ln i, at0 ln j) := by
  rcases h with rfl | rfl
  · rfl
  · exact nrm_swap _ _
theorem ties_apart {n : Nat} {ln : List Int} (L : LineOk n ln) {i j i' j' : Nat} {t t' : Int × Int} (h : Ties2 ln i j t) (h' : Ties2 ln i' j' t') (hi : i < n) (hj : j < n) (hi' : i' < n) (hj' : j' < n) (e : nrm t = nrm t') :
    (i = i' ∧ j = j') ∨ (i = j' ∧ j = i') := by
  rw [h.nrm, h'.nrm] at e
  rcases nrm_cases e with ⟨a, b⟩ | ⟨a, b⟩
  · exact .inl ⟨L.inj hi hi' a, L.inj hj hj' b⟩
  · exact .inr ⟨L.inj hi hj' a, L.inj hj hi' b⟩
structure Good (n : Nat) (ln : List Int) (a o : Nat) (ts : List (Int × Int)) : Prop where
  pl : ∀ t ∈ ts, ∃ i j, i < j ∧ j < n ∧ (j < a ∨ (j = a ∧ i < o)) ∧ Ties2 ln i j t
  nd : (ts.map nrm).Nodup
  few : 2 * ts.length ≤ a * (a - 1) + 2 * o
theorem Good.nil (n : Nat) (ln : List Int) : Good n ln 1 0 [] := ⟨(fun t h => by cases h), List.nodup_nil, Nat.zero_le _⟩
theorem Good.mono {n : Nat} {ln : List Int} {a o o' : Nat} {ts : List (Int × Int)} (g : Good n ln a o ts) (h : o ≤ o') : Good n ln a o' ts := by
  refine ⟨fun t ht => ?_, g.nd, by have := g.few; omega⟩
  obtain ⟨i, j, a1, a2, a3, a4⟩ := g.pl t ht
  exact ⟨i, j, a1, a2, by omega, a4⟩
theorem Good.next {n : Nat} {ln : List Int} {a : Nat} {ts : List (Int × Int)} (g : Good n ln a a ts) (h : 1 ≤ a) : Good n ln (a + 1) 0 ts := by
  refine ⟨fun t ht => ?_, g.nd, ?_⟩
  · obtain ⟨i, j, a1, a2, a3, a4⟩ := g.pl t ht
    exact ⟨i, j, a1, a2, by omega, a4⟩
  · have z := g.few
    obtain ⟨b, rfl⟩ : ∃ b, a = b + 1 := ⟨a - 1, by omega⟩
    have e : (b + 1) * (b + 1 - 1) + 2 * (b + 1) = (b + 1 + 1) * (b + 1 + 1 - 1) + 2 * 0 := by
      rw [Nat.add_sub_cancel, Nat.add_sub_cancel, Nat.mul_comm (b + 1 + 1) (b + 1), Nat.mul_add (b + 1) (b + 1) 1, Nat.mul_add (b + 1) b 1]
      omega
    omega
theorem nodup_snoc {α : Type} {l : List α} {x : α} (h : l.Nodup) (hx : x ∉ l) : (l ++ [x]).Nodup := by
  refine List.nodup_append.mpr ⟨h, by simp, fun a ha b hb e => ?_⟩
  rw [List.mem_singleton.mp hb] at e
  exact hx (e ▸ ha)
theorem Good.add {n : Nat} {ln : List Int} {a o i : Nat} {ts : List (Int × Int)} {t : Int × Int} (L : LineOk n ln) (g : Good n ln a o ts) (ha : a < n) (hi : i < a) (ho : o ≤ i) (ht : Ties2 ln i a t) : Good n ln a (i + 1) (ts ++ [t]) := by
  refine ⟨fun u hu => ?_, ?_, ?_⟩
  · rcases List.mem_append.mp hu with hu | hu
    · exact (g.mono (by omega : o ≤ i + 1)).pl u hu
    · rw [List.mem_singleton.mp hu]
      exact ⟨i, a, hi, ha, .inr ⟨rfl, Nat.lt_succ_self i⟩, ht⟩
  · rw [List.map_append]
    refine nodup_snoc g.nd fun hm => ?_
    obtain ⟨u, hu, e⟩ := List.mem_map.mp hm
    obtain ⟨i', j', a1, a2, a3, a4⟩ := g.pl u hu
    rcases ties_apart L a4 ht (by omega) a2 (by omega) ha e with ⟨b1, b2⟩ | ⟨b1, b2⟩ <;> omega
  · have z := g.few
    rw [List.length_append, List.length_singleton]
    omega
theorem Good.net {n : Nat} {ln : List Int} {o : Nat} {ts : List (Int × Int)} (L : LineOk n ln) (g : Good n ln n 0 ts) (h3 : 3 ≤ n) (h40 : n ≤ 40) : NetOk (n : Int) ts := by
  refine ⟨by omega, by omega, fun t ht => ?_, g.nd, ?_⟩
  · obtain ⟨i, j, a1, a2, a3, a4⟩ := g.pl t ht
    have b1 := L.at_ _ (L.mem (show i < n by omega))
    have b2 := L.at_ _ (L.mem a2)
    have b3 : at0 ln i ≠ at0 ln j := fun e => by
      have := L.inj (by omega) a2 e
      omega
    rcases a4 with rfl | rfl
    · exact ⟨b1, b2, b3⟩
    · exact ⟨b2, b1, b3.symm⟩
  · have z := g.few
    have y : n * (n - 1) ≤ 40 * 39 := Nat.mul_le_mul h40 (by omega)
    omega
/-- neighbours in the line, and its ends -/
theorem Good.ring {n : Nat} {ln : List Int} {ts : List (Int × Int)} (L : LineOk n ln) (g : Good n ln n 0 ts) (h3 : 3 ≤ n) (h40 : n ≤ 40) (hn : ∀ t ∈ ts, ∃ i, i + 1 < n ∧ Ties2 ln i (i + 1) t) :
    NetOk (n : Int) (ts ++ [(at0 ln 0, at0 ln (n - 1))]) := by
  have N := Good.net (o := 0) L g h3 h40
  have b1 := L.at_ _ (L.mem (show 0 < n by omega))
  have b2 := L.at_ _ (L.mem (show n - 1 < n by omega))
  refine ⟨N.lo, N.hi, fun t ht => ?_, ?_, ?_⟩
  · rcases List.mem_append.mp ht with ht | ht
    · exact N.ok t ht
    · rw [List.mem_singleton.mp ht]
      refine ⟨b1, b2, fun e => ?_⟩
      have := L.inj (by omega) (by omega) e
      omega
  · rw [List.map_append]
    refine nodup_snoc g.nd fun hm => ?_
    obtain ⟨u, hu, e⟩ := List.mem_map.mp hm
    obtain ⟨i, a1, a2⟩ := hn u hu
    rcases ties_apart L a2 (.inl rfl : Ties2 ln 0 (n - 1) _) (by omega) a1 (by omega) (by omega) e with ⟨c1, c2⟩ | ⟨c1, c2⟩ <;> omega
  · rw [List.length_append, List.length_singleton]
    have z := g.few
    have y : n * (n - 1) ≤ 40 * 39 := Nat.mul_le_mul h40 (by omega)
    omega
/-! ### the list of ties while it is made -/
def TM (H : Hp) (a : Addr) (ts : List (Int × Int)) : Prop :=
  ∃ as : List Addr, H a = some (.lst (as.map V.ref)) ∧ as.length = ts.length ∧ a ∉ as ∧ ∀ (i : Nat) (b : Addr) (t : Int × Int), as[i]? = some b → ts[i]? = some t → H b = some (.lst [.int t.1, .int t.2])
theorem TM.on {H H' : Hp} {a : Addr} {ts : List (Int × Int)} (h : TM H a ts) (e : Ex H H') : TM H' a ts := by
  obtain ⟨as, h1, h2, h3, h4⟩ := h
  exact ⟨as, e _ _ h1, h2, h3, fun i b t x y => e _ _ (h4 i b t x y)⟩
theorem TM.at_ {K : PySem.W.Frag} {H : Hp} {a : Addr} {ts : List (Int × Int)} (h : TM H a ts) : TiesAt K H a ts := by
  obtain ⟨as, h1, h2, h3, h4⟩ := h
  exact ⟨as, .inl (.inl h1), h2, fun i b t x y => .inl (.inl (h4 i b t x y))⟩
theorem TM.exA {H H' : Hp} {a d : Addr} {k : Int} {ts : List (Int × Int)} (h : TM H a ts) (hd : Dr H d k) (e : ExA d H H') : TM H' a ts := by
  obtain ⟨as, h1, h2, h3, h4⟩ := h
  obtain ⟨x, b, hx⟩ := hd
  refine ⟨as, e _ _ ?_ h1, h2, h3, fun i b t x y => e _ _ ?_ (h4 i b t x y)⟩
  · rintro rfl
    rw [hx] at h1
    cases as with
    | nil => cases h1
    | cons _ _ => cases h1
  · rintro rfl
    have z := h4 i _ t x y
    rw [hx] at z
    cases z
theorem TM.push {H : Hp} {a p : Addr} {ts : List (Int × Int)} (h : TM H a ts) (np : H p = none) (x y : Int) :
    ∃ as : List Addr, (upd H p (.lst [.int x, .int y])) a = some (.lst (as.map V.ref)) ∧ as.length = ts.length ∧ TM (upd (upd H p (.lst [.int x, .int y])) a (.lst (as.map V.ref ++ [.ref p]))) a (ts ++ [(x, y)]) := by
  obtain ⟨as, h1, h2, h3, h4⟩ := h
  have nap : a ≠ p := ne_of_none h1 np
  refine ⟨as, by rw [upd_ne nap]; exact h1, h2, as ++ [p], by rw [upd_same, List.map_append]; rfl, by simp [h2], ?_, ?_⟩
  · intro hm
    rcases List.mem_append.mp hm with hm | hm
    · exact h3 hm
    · exact nap (List.mem_singleton.mp hm)
  · intro i b t hb ht
    by_cases hi : i < as.length
    · rw [List.getElem?_append_left hi] at hb
      rw [List.getElem?_append_left (by rw [← h2]; exact hi)] at ht
      have z := h4 i b t hb ht
      have nba : b ≠ a := fun e => h3 (e ▸ List.mem_of_getElem? hb)
      rw [upd_ne nba, upd_ne (ne_of_none z np)]
      exact z
    · have hi2 : i = as.length := by
        have z := (List.getElem?_eq_some_iff.mp hb).1
        rw [List.length_append, List.length_singleton] at z
        omega
      rw [hi2, List.getElem?_append_right (Nat.le_refl _), Nat.sub_self] at hb
      rw [hi2, h2, List.getElem?_append_right (Nat.le_refl _), Nat.sub_self] at ht
      cases hb
      cases ht
      rw [upd_ne nap.symm]
      exact upd_same
theorem TM.push2 {H : Hp} {a : Addr} {ts : List (Int × Int)} (h : TM H a ts) (x y : Int) :
    ∃ as : List Addr, H a = some (.lst (as.map V.ref)) ∧ as.length = ts.length ∧ ∀ (p : Addr) (H1 : Hp), H p = none → Ex H H1 → H1 p = some (.lst [.int x, .int y]) → TM (upd H1 a (.lst (as.map V.ref ++ [.ref p]))) a (ts ++ [(x, y)]) := by
  obtain ⟨as, h1, h2, h3, h4⟩ := h
  refine ⟨as, h1, h2, fun p H1 np e hp => ?_⟩
  have nap : a ≠ p := ne_of_none h1 np
  refine ⟨as ++ [p], by rw [upd_same, List.map_append]; rfl, by simp [h2], ?_, ?_⟩
  · intro hm
    rcases List.mem_append.mp hm with hm | hm
    · exact h3 hm
    · exact nap (List.mem_singleton.mp hm)
  · intro i b t hb ht
    by_cases hi : i < as.length
    · rw [List.getElem?_append_left hi] at hb
      rw [List.getElem?_append_left (by rw [← h2]; exact hi)] at ht
      have nba : b ≠ a := fun e => h3 (e ▸ List.mem_of_getElem? hb)
      rw [upd_ne nba]
      exact e _ _ (h4 i b t hb ht)
    · have hi2 : i = as.length := by
        have z := (List.getElem?_eq_some_iff.mp hb).1
        rw [List.length_append, List.length_singleton] at z
        omega
      rw [hi2, List.getElem?_append_right (Nat.le_refl _), Nat.sub_self] at hb
      rw [hi2, h2, List.getElem?_append_right (Nat.le_refl _), Nat.sub_self] at ht
      cases hb
      cases ht
      rw [upd_ne nap.symm]
      exact hp
/-- the net while it is drawn: behind the ties of the places below a, and of a with those below o -/
def NS (H : Hp) (d pl pt : Addr) (ln : List Int) (n : Nat) (kd kmax : Int) (a o : Nat) (H' : Hp) : Prop :=
  ∃ (ts : List (Int × Int)) (k' : Int), TM H' pt ts ∧ H' pl = some (.lst (ln.map V.int)) ∧ ExA d H H' ∧ Dr H' d k' ∧ (0 ≤ k' ∧ k' ≤ kmax) ∧ Good n ln a o ts ∧ (kd = 4 → ∀ t ∈ ts, ∃ i, i + 1 < n ∧ Ties2 ln i (i + 1) t)
section
variable {H H' H1 : Hp} {d pl pt : Addr} {ln : List Int} {n : Nat} {kd kmax : Int} {a o i : Nat}
theorem NS.on (h : NS H d pl pt ln n kd kmax a o H') (e : Ex H' H1) : NS H d pl pt ln n kd kmax a o H1 := by
  obtain ⟨ts, k', h1, h2, h3, h4, h5, h6, h7⟩ := h
  exact ⟨ts, k', h1.on e, e _ _ h2, h3.trans (ExA.of e), h4.on e, h5, h6, h7⟩
theorem NS.mono {o' : Nat} {kmax' : Int} (h : NS H d pl pt ln n kd kmax a o H') (ho : o ≤ o') (hk : kmax ≤ kmax') : NS H d pl pt ln n kd kmax' a o' H' := by
  obtain ⟨ts, k', h1, h2, h3, h4, h5, h6, h7⟩ := h
  exact ⟨ts, k', h1, h2, h3, h4, by omega, h6.mono ho, h7⟩
theorem NS.next (h : NS H d pl pt ln n kd kmax a a H') (ha : 1 ≤ a) : NS H d pl pt ln n kd kmax (a + 1) 0 H' := by
  obtain ⟨ts, k', h1, h2, h3, h4, h5, h6, h7⟩ := h
  exact ⟨ts, k', h1, h2, h3, h4, h5, h6.next ha, h7⟩
theorem NS.push (h : NS H d pl pt ln n kd kmax a o H') (L : LineOk n ln) (ha : a < n) (hi : i < a) (ho : o ≤ i) {x y : Int} (hx : Ties2 ln i a (x, y)) (h4 : kd = 4 → i + 1 = a) (hn : H pt = none) (hp : pl ≠ pt) (hd : d ≠ pt) (h40 : n ≤ 40) :
    ∃ as : List Addr, H' pt = some (.lst (as.map V.ref)) ∧ as.length < 2000 ∧ ∀ (p : Addr) (H1 : Hp), H' p = none → Ex H' H1 → H1 p = some (.lst [.int x, .int y]) → NS H d pl pt ln n kd kmax a (i + 1) (upd H1 pt (.lst (as.map V.ref ++ [.ref p]))) := by
  obtain ⟨ts, k', h1, h2, h3, ⟨xx, bb, hdr⟩, h5, h6, h7⟩ := h
  obtain ⟨as, a1, a2, a3⟩ := h1.push2 x y
  have few := h6.few
  have y1 : a * (a - 1) ≤ 40 * 40 := Nat.mul_le_mul (by omega) (by omega)
  refine ⟨as, a1, by omega, fun p H1 np e hpp => ⟨ts ++ [(x, y)], k', a3 p H1 np e hpp, ?_, (h3.trans (ExA.of e)).mut hn, ⟨xx, bb, ?_⟩, h5, h6.add L ha hi ho hx, fun c t ht => ?_⟩⟩
  · rw [upd_ne hp]; exact e _ _ h2
  · rw [upd_ne hd]; exact e _ _ hdr
  · rcases List.mem_append.mp ht with ht | ht
    · exact h7 c t ht
    · rw [List.mem_singleton.mp ht]
      have := h4 c
      exact ⟨i, by omega, by rw [show i + 1 = a from this]; exact hx⟩
/-- behind a draw -/
theorem NS.draw {ts : List (Int × Int)} {k' : Int} (h1 : TM H' pt ts) (h2 : H' pl = some (.lst (ln.map V.int))) (h3 : ExA d H H') (h4 : Dr H' d k') (h5 : 0 ≤ k' ∧ k' ≤ kmax) (h6 : Good n ln a o ts)
    (h7 : kd = 4 → ∀ t ∈ ts, ∃ i, i + 1 < n ∧ Ties2 ln i (i + 1) t) (e : ExA d H' H1) (hd : Dr H1 d (k' + 1)) (hp : pl ≠ d) : NS H d pl pt ln n kd (kmax + 1) a o H1 :=
  ⟨ts, k' + 1, h1.exA h4 e, e _ _ hp h2, h3.trans e, hd, by omega, h6, h7⟩
end
theorem in14 (k : Int) : inV (.int k) [.int 1, .int 4] = (decide (k = 1) || decide (k = 4)) := by
  show ((1 : Int) == k || ((4 : Int) == k || false)) = _
  rw [Bool.or_false, Bool.eq_iff_iff]
  simp only [Bool.or_eq_true, beq_iff_eq, decide_eq_true_eq]
  omega
theorem cut_to (xs : List V) (k : Nat) : cutV xs none (some (k : Int)) = xs.take k := by
  unfold cutV
  rw [HT.sIx_none, HT.sIx_nat]
  by_cases h : k ≤ xs.length
  · rw [Nat.min_eq_left h]
    rfl
  · rw [Nat.min_eq_right (by omega), List.take_of_length_le (by show (xs.drop 0).length ≤ _; simp), List.take_of_length_le (by omega)]
    rfl
theorem line_of {n : Int} (hn : 0 ≤ n) {ys : List V} (h : ys.Perm (rgV 1 (n + 1))) : ∃ ln : List Int, ys = ln.map V.int ∧ LineOk n.toNat ln := by
  let un : V → Int := fun v => match v with | .int i => i | _ => 0
  have e0 : rgV 1 (n + 1) = ((List.range n.toNat).map fun i : Nat => 1 + (i : Int)).map V.int := by
    unfold rgV
    rw [List.map_map, show (n + 1 - 1).toNat = n.toNat by omega]
    rfl
  have e1 : (((List.range n.toNat).map fun i : Nat => 1 + (i : Int)).map V.int).map un = (List.range n.toNat).map fun i : Nat => 1 + (i : Int) := by
    rw [List.map_map]
    exact (List.map_congr_left fun _ _ => rfl).trans (List.map_id _)
  rw [e0] at h
  have hp : (ys.map un).Perm ((List.range n.toNat).map fun i : Nat => 1 + (i : Int)) := by
    have z := h.map un
    rw [e1] at z
    exact z
  refine ⟨ys.map un, ?_, ?_, ?_, ?_⟩
  · rw [List.map_map]
    refine ((List.map_congr_left fun v hv => ?_).trans (List.map_id _)).symm
    obtain ⟨i, _, rfl⟩ := List.mem_map.mp (h.mem_iff.mp hv)
    rfl
  · rw [hp.length_eq]
    simp
  · refine hp.nodup_iff.mpr ?_
    refine List.Pairwise.map _ (fun a b hab => ?_) List.nodup_range
    intro e
    exact hab (by omega)
  · intro x hx
    obtain ⟨i, hi, rfl⟩ := List.mem_map.mp (hp.mem_iff.mp hx)
    have := List.mem_range.mp hi
    omega
/-! ### two lists, item by item -/
inductive F2 {α β : Type} (R : α → β → Prop) : List α → List β → Prop
  | nil : F2 R [] []
  | cons {a b as bs} : R a b → F2 R as bs → F2 R (a :: as) (b :: bs)
section
variable {α β : Type} {R S : α → β → Prop}
theorem F2.len {as : List α} {bs : List β} (h : F2 R as bs) : as.length = bs.length := by
  induction h with
  | nil => rfl
  | cons _ _ ih => simp [ih]
theorem F2.mono {as : List α} {bs : List β} (h : F2 R as bs) (hi : ∀ a b, R a b → S a b) : F2 S as bs := by
  induction h with
  | nil => exact .nil
  | cons x _ ih => exact .cons (hi _ _ x) ih
theorem F2.at_ {as : List α} {bs : List β} (h : F2 R as bs) : ∀ {i : Nat} {a : α} {b : β}, as[i]? = some a → bs[i]? = some b → R a b := by
  induction h with
  | nil => intro i a b x _; cases x
  | cons x _ ih =>
    intro i a b y z
    cases i with
    | zero => cases y; cases z; exact x
    | succ i => exact ih (by simpa using y) (by simpa using z)
theorem F2.of_at : ∀ {as : List α} {bs : List β}, as.length = bs.length → (∀ (i : Nat) (a : α) (b : β), as[i]? = some a → bs[i]? = some b → R a b) → F2 R as bs
  | [], [], _, _ => .nil
  | [], _ :: _, h, _ => nomatch h
  | _ :: _, [], h, _ => nomatch h
  | a :: as, b :: bs, h, k => .cons (k 0 a b rfl rfl) (F2.of_at (by simpa using h) fun i x y p q => k (i + 1) x y p q)
theorem F2.append {as as' : List α} {bs bs' : List β} (h : F2 R as bs) (k : F2 R as' bs') : F2 R (as ++ as') (bs ++ bs') := by
  induction h with
  | nil => exact k
  | cons x _ ih => exact .cons x ih
theorem F2.take {as : List α} {bs : List β} (h : F2 R as bs) (n : Nat) : F2 R (as.take n) (bs.take n) := by
  induction h generalizing n with
  | nil => simpa using F2.nil
  | cons x _ ih =>
    cases n with
    | zero => exact .nil
    | succ n => exact .cons x (ih n)
theorem F2.perm {as as' : List α} (p : as.Perm as') : ∀ {bs : List β}, F2 R as bs → ∃ bs', bs.Perm bs' ∧ F2 R as' bs' := by
  induction p with
  | nil => intro bs h; cases h; exact ⟨[], .refl _, .nil⟩
  | cons a p ih =>
    intro bs h
    cases h with
    | cons x h =>
      obtain ⟨bs', h1, h2⟩ := ih h
      exact ⟨_, h1.cons _, .cons x h2⟩
  | swap a b l =>
    intro bs h
    cases h with
    | cons x h =>
      cases h with
      | cons y h => exact ⟨_, .swap _ _ _, .cons y (.cons x h)⟩
  | trans p1 p2 ih1 ih2 =>
    intro bs h
    obtain ⟨b1, h1, h2⟩ := ih1 h
    obtain ⟨b2, h3, h4⟩ := ih2 h2
    exact ⟨b2, h1.trans h3, h4⟩
end
def At2 (H : Hp) (b : Addr) (t : Int × Int) : Prop := H b = some (.lst [.int t.1, .int t.2])
/-- a list of pairs, all of it lists of this run -/
def Ps (H : Hp) (a : Addr) (as : List Addr) (ts : List (Int × Int)) : Prop := H a = some (.lst (as.map V.ref)) ∧ F2 (At2 H) as ts
theorem Ps.on {H H' : Hp} {a : Addr} {as : List Addr} {ts : List (Int × Int)} (h : Ps H a as ts) (e : Ex H H') : Ps H' a as ts := ⟨e _ _ h.1, h.2.mono fun _ _ x => e _ _ x⟩
theorem Ps.ties {K : PySem.W.Frag} {H : Hp} {a : Addr} {as : List Addr} {ts : List (Int × Int)} (h : Ps H a as ts) : TiesAt K H a ts :=
  ⟨as, .inl (.inl h.1), h.2.len, fun i b t x y => .inl (.inl (h.2.at_ x y))⟩
theorem TM.ps {H : Hp} {a : Addr} {ts : List (Int × Int)} (h : TM H a ts) : ∃ as, Ps H a as ts ∧ a ∉ as := by
  obtain ⟨as, h1, h2, h3, h4⟩ := h
  exact ⟨as, ⟨h1, F2.of_at h2 h4⟩, h3⟩
def netB (n : Int) (ts : List (Int × Int)) : Bool := decide (3 ≤ n) && decide (n ≤ 40) && ts.all (fun t => decide (1 ≤ t.1) && decide (t.1 ≤ n) && decide (1 ≤ t.2) && decide (t.2 ≤ n) && decide (t.1 ≠ t.2)) && decide (ts.map nrm).Nodup && decide (ts.length ≤ 1000)
theorem netB_ok {n : Int} {ts : List (Int × Int)} (h : netB n ts = true) : NetOk n ts := by
  unfold netB at h
  simp only [Bool.and_eq_true, decide_eq_true_eq, List.all_eq_true] at h
  obtain ⟨⟨⟨⟨h1, h2⟩, h3⟩, h4⟩, h5⟩ := h
  refine ⟨h1, h2, fun t ht => ?_, h4, h5⟩
  obtain ⟨⟨⟨⟨a, b⟩, c⟩, d⟩, e⟩ := h3 t ht
  exact ⟨⟨a, b⟩, ⟨c, d⟩, e⟩
/-- the same ties, in another order, turned or not -/
theorem net_turned {n : Int} {ts us : List (Int × Int)} (N : NetOk n ts) (h : (us.map nrm).Perm (ts.map nrm)) : NetOk n us := by
  have hl : us.length = ts.length := by
    have z := h.length_eq
    rwa [List.length_map, List.length_map] at z
  refine ⟨N.lo, N.hi, fun u hu => ?_, h.nodup_iff.mpr N.nd, by rw [hl]; exact N.few⟩
  obtain ⟨t, ht, e⟩ := List.mem_map.mp (h.mem_iff.mp (List.mem_map.mpr ⟨u, hu, rfl⟩))
  obtain ⟨a, b, c⟩ := N.ok t ht
  have e2 : nrm (t.1, t.2) = nrm (u.1, u.2) := e
  rcases nrm_cases e2 with ⟨x, y⟩ | ⟨x, y⟩
  · rw [← x, ← y]
    exact ⟨a, b, c⟩
  · rw [← x, ← y]
    exact ⟨b, a, c.symm⟩
/-! ### nets written down -/
section
variable {K : PySem.W.Frag} {σ : L2.St} {H : Hp} {te tn : TE} {ta tr : TA} {ts us : List (Int × Int)} {tss : List (List (Int × Int))}
def EvP (te : TE) (σ : L2.St) (H : Hp) (ts : List (Int × Int)) : Prop := ∀ H1, Ex H H1 → ∀ Q : VK, (∀ a as H2, H1 a = none → Ex H1 H2 → Ps H2 a as ts → Q (.ref a) H2) → te σ H1 Q
def EaP (ta : TA) (σ : L2.St) (H : Hp) (ts : List (Int × Int)) : Prop := ∀ H1, Ex H H1 → ∀ Q : List V → Hp → Prop, (∀ (as : List Addr) H2, Ex H1 H2 → F2 (At2 H2) as ts → Q (as.map V.ref) H2) → ta σ H1 Q
theorem ep_nil : EaP tNil σ H [] := fun H1 _ _ q => q [] H1 (Ex.refl H1) .nil
theorem ep_cons {x y : Int} (h : EvL te σ H [.int x, .int y]) (k : EaP tr σ H ts) : EaP (tCons te tr) σ H ((x, y) :: ts) := fun H1 e _ q =>
  h H1 e _ fun p H2 np e2 hp => k H2 (e.trans e2) _ fun as H3 e3 hF => q (p :: as) H3 (e2.trans e3) (.cons (e3 _ _ hp) hF)
theorem ep_lst (h : EaP ta σ H ts) (hl : ts.length ≤ 1000) : EvP (tLst ta) σ H ts := fun H1 e _ q =>
  h H1 e _ fun as H2 e2 hF => ⟨sz_of (by rw [List.length_map, hF.len]; omega), fun p np => q p as _ (fresh_back e2 np) (e2.trans (Ex.new np)) ⟨upd_same, hF.mono fun _ _ x => (Ex.new (o := .lst (as.map V.ref)) np) _ _ x⟩⟩
theorem el_cc {x y : Int} : EvL (tLst (tCons (tC (.int x)) (tCons (tC (.int y)) tNil))) σ H [.int x, .int y] := el_lst (ea_cons ev_c (ea_cons ev_c ea_nil)) (by show 2 ≤ 100000; decide)
def EvTs (K : PySem.W.Frag) (te : TE) (σ : L2.St) (H : Hp) (ts : List (Int × Int)) : Prop := ∀ H1, Ex H H1 → ∀ Q : VK, (∀ a H2, Ex H1 H2 → TiesAt K H2 a ts → Q (.ref a) H2) → te σ H1 Q
def EaT (K : PySem.W.Frag) (ta : TA) (σ : L2.St) (H : Hp) (tss : List (List (Int × Int))) : Prop := ∀ H1, Ex H H1 → ∀ Q : List V → Hp → Prop, (∀ (as : List Addr) H2, Ex H1 H2 → F2 (TiesAt K H2) as tss → Q (as.map V.ref) H2) → ta σ H1 Q
theorem EvP.t (h : EvP te σ H ts) : EvTs K te σ H ts := fun H1 e _ q => h H1 e _ fun a _ H2 _ e2 hP => q a H2 e2 hP.ties
theorem et_var {i : Nat} {a : Addr} {as : List Addr} (h : σ[i]? = some (some (.ref a))) (hP : Ps H a as ts) : EvTs K (tVar i) σ H ts := fun H1 e _ q => ⟨_, h, q a H1 (Ex.refl H1) (hP.on e).ties⟩
theorem et_cat {i : Nat} {a : Addr} {as : List Addr} (h : σ[i]? = some (some (.ref a))) (hP : Ps H a as ts) (k : EvP te σ H us) (hl : ts.length + us.length ≤ 1000) : EvTs K (tOp rCat (tVar i) te) σ H (ts ++ us) := fun H1 e _ q =>
  ⟨_, h, k H1 e _ fun b bs H2 _ e2 hB => by
    have hA := (hP.on e).on e2
    refine ⟨a, b, _, _, rfl, rfl, hA.1, hB.1, ?_, fun p np => ?_⟩
    · rw [List.length_map, List.length_map, hA.2.len, hB.2.len]
      exact sz_of (by omega)
    · rw [← List.map_append]
      have e3 : Ex H2 (upd H2 p (.lst ((as ++ bs).map V.ref))) := Ex.new np
      exact q p _ (e2.trans e3) (Ps.ties ⟨upd_same, (hA.2.append hB.2).mono fun _ _ x => e3 _ _ x⟩)⟩
theorem et_cut {i : Nat} {a : Addr} {as : List Addr} {n : Nat} (h : σ[i]? = some (some (.ref a))) (hP : Ps H a as ts) : EvTs K (tSl (rSlL K) (tVar i) tNoPart (tPart (tC (.int (n : Int))))) σ H (ts.take n) := fun H1 e _ q => by
  refine el_sl (ev_var h) eo_none (eo_some ev_c) (.inl (.inl hP.1)) H1 e _ fun p H2 np e2 hp => ?_
  rw [cut_to, ← List.map_take] at hp
  exact q p H2 e2 (Ps.ties (as := as.take n) ⟨hp, ((hP.on e).on e2).2.take n⟩)
theorem ea_nilT : EaT K tNil σ H [] := fun H1 _ _ q => q [] H1 (Ex.refl H1) .nil
theorem ea_consT (h : EvTs K te σ H ts) (k : EaT K tr σ H tss) : EaT K (tCons te tr) σ H (ts :: tss) := fun H1 e _ q =>
  h H1 e _ fun a H2 e2 hT => k H2 (e.trans e2) _ fun as H3 e3 hF => q (a :: as) H3 (e2.trans e3) (.cons (hT.mono e3) hF)
/-- a comprehension's list of pairs -/
theorem ep_of {ls : List (List V)} (h : EvLL te σ H ls) (hl : ls = ts.map fun t => [V.int t.1, V.int t.2]) : EvP te σ H ts := fun H1 e _ q => h H1 e _ fun D H2 nD e2 hD => by
  obtain ⟨ps, a, b, c, d⟩ := hD
  refine q D ps H2 nD e2 ⟨a, F2.of_at (by rw [b, hl, List.length_map]) fun i p t x y => (d i p _ x ?_).2⟩
  rw [hl, List.getElem?_map, y]
  rfl
theorem q_asgP {D : Ends} {tz : TS} {i : Nat} (h : EvP te σ H ts) (k : ∀ a as H1, H a = none → Ex H H1 → Ps H1 a as ts → tz D (σ.set i (some (.ref a))) H1) : tSeq (tAsg te (gName i)) tz D σ H :=
  h H (Ex.refl H) _ fun a as H1 na e hP => k a as H1 na e hP
end
theorem perm_refs {ys : List V} {as : List Addr} (h : ys.Perm (as.map V.ref)) : ∃ as' : List Addr, ys = as'.map V.ref ∧ as'.Perm as := by
  have key : ∀ {xs ys : List V}, xs.Perm ys → ∀ {as : List Addr}, xs = as.map V.ref → ∃ as' : List Addr, ys = as'.map V.ref ∧ as'.Perm as := by
    intro xs ys h
    induction h with
    | nil =>
      intro as e
      cases as with
      | nil => exact ⟨[], rfl, .refl _⟩
      | cons _ _ => cases e
    | cons x p ih =>
      intro as e
      cases as with
      | nil => cases e
      | cons b bs =>
        injection e with e1 e2
        obtain ⟨cs, h1, h2⟩ := ih e2
        exact ⟨b :: cs, by rw [e1, h1]; rfl, h2.cons _⟩
    | swap x y l =>
      intro as e
      match as, e with
      | b :: c :: bs, e =>
        injection e with e1 e2
        injection e2 with e2 e3
        exact ⟨c :: b :: bs, by rw [e1, e2, e3]; rfl, .swap _ _ _⟩
    | trans p1 p2 ih1 ih2 =>
      intro as e
      obtain ⟨b1, h1, h2⟩ := ih1 e
      obtain ⟨b2, h3, h4⟩ := ih2 h1
      exact ⟨b2, h3, h4.trans h2⟩
  exact key h.symm rfl
section
variable {K : PySem.W.Frag} {σ : L2.St} {H : Hp} {te tl : TE}
def EvD (te : TE) (σ : L2.St) (H : Hp) : Prop := ∀ H1, Ex H H1 → ∀ Q : VK, (∀ (R : Addr) (ds : List Addr) (H2 : Hp), Ex H1 H2 → H2 R = some (.lst (ds.map V.ref)) → R ∉ ds → (∀ d ∈ ds, Dr H2 d 0) → ds.length ≤ 100 → Q (.ref R) H2) → te σ H1 Q
def DW (H1 : Hp) (Dl : Addr) (i : Nat) (H' : Hp) : Prop := H1 Dl = none ∧ Ex H1 H' ∧ ∃ ds : List Addr, H' Dl = some (.lst (ds.map V.ref)) ∧ ds.length = i ∧ Dl ∉ ds ∧ ∀ d ∈ ds, Dr H' d 0
theorem ed_lc {cs : List Int} {j : Nat} {vs : List Nat} (h : EvL tl σ H (cs.map V.int)) (hl : cs.length ≤ 100) (hw : ∀ x, wipe ((wipe σ vs).set j (some x)) vs = wipe σ vs) (hj : ∀ x, ((wipe σ vs).set j (some x))[j]? = some (some x)) :
    EvD (tLc (iList K tl) (gName j) tYes (tCall sp_l_draws [] E0 (tCons (tVar j) tNil)) vs) σ H := by
  intro H0 e Q q
  refine h H0 e _ fun a H1 na e1 hx => ⟨a, rfl, ⟨_, .inl (.inl hx)⟩, fun Dl hD => ?_⟩
  refine lc_list (xs := cs.map V.int) (DW H1 Dl) ⟨hD, Ex.new hD, [], upd_same, rfl, (by simp), fun d hd => (by simp at hd)⟩
    (fun i H' _ p => .inl (.inl (p.2.1 _ _ hx))) (fun i x H' hi p => ⟨hw x, ?_⟩) fun H' p => ?_
  · obtain ⟨c, hc, rfl⟩ := map_at hi
    obtain ⟨p1, p2, ds, h1, h2, h3, h4⟩ := p
    have hlt := (List.getElem?_eq_some_iff.mp hc).1
    show tCall sp_l_draws [] E0 (tCons (tVar j) tNil) _ H' fun y H4 => ∃ acc, H4 Dl = some (.lst acc) ∧ acc.length < sizeLine ∧ DW H1 Dl (i + 1) (upd H4 Dl (.lst (acc ++ [y])))
    refine ⟨_, hj _, c, rfl, fun x b p H2 np e2 hp => ⟨ds.map V.ref, e2 _ _ h1, sz_lt (by rw [List.length_map]; omega), p1, Ex.mut (p2.trans e2) p1, ds ++ [p], ?_, ?_, ?_, ?_⟩⟩
    · rw [upd_same, List.map_append]
      rfl
    · rw [List.length_append, h2]
      rfl
    · intro z
      rcases List.mem_append.mp z with z | z
      · exact h3 z
      · rw [List.mem_singleton.mp z, np] at h1
        cases h1
    · intro d hd
      rcases List.mem_append.mp hd with z | z
      · obtain ⟨xx, bb, hh⟩ := h4 d z
        refine ⟨xx, bb, ?_⟩
        rw [upd_ne (show d ≠ Dl from fun y => h3 (y ▸ z))]
        exact e2 _ _ hh
      · rw [List.mem_singleton.mp z]
        refine ⟨x, b, ?_⟩
        rw [upd_ne (show p ≠ Dl from fun y => by rw [y, h1] at np; cases np)]
        exact hp
  · obtain ⟨p1, p2, ds, h1, h2, h3, h4⟩ := p
    exact q Dl ds H' (e1.trans p2) h1 h3 h4 (by rw [h2, List.length_map]; exact hl)
theorem q_forD {tu tz : TS} {D : Ends} {j : Nat} (h : EvD te σ H) (Pv : Addr → List Addr → Nat → L2.St → Hp → Prop) (h0 : ∀ R ds H1, Ex H H1 → H1 R = some (.lst (ds.map V.ref)) → R ∉ ds → (∀ d ∈ ds, Dr H1 d 0) → ds.length ≤ 100 → Pv R ds 0 σ H1)
    (hl : ∀ R ds i σ' H', Pv R ds i σ' H' → H' R = some (.lst (ds.map V.ref))) (hs : ∀ R (ds : List Addr) i d σ' H', ds[i]? = some d → Pv R ds i σ' H' → tu { D with nx := Pv R ds (i + 1), ct := Pv R ds (i + 1), bk := tz D } (σ'.set j (some (.ref d))) H')
    (hd : ∀ R ds i σ' H', Pv R ds i σ' H' → tz D σ' H') : tSeq (tFor (iList K te) (gName j) tu) tz D σ H :=
  h H (Ex.refl H) _ fun R ds H1 e1 hR nR hds dl => ⟨R, rfl, ⟨_, .inl (.inl hR)⟩, for_list (xs := ds.map V.ref) (D := { D with nx := tz D }) (Pv R ds) (h0 R ds H1 e1 hR nR hds dl) (fun i σ' H' _ z => .inl (.inl (hl R ds i σ' H' z)))
    (fun i x σ' H' hx z => by
      obtain ⟨d, hd, rfl⟩ := map_at hx
      exact hs R ds i d σ' H' hd z) fun σ' H' z => hd R ds _ σ' H' z⟩
/-- each of the draws is a list of draws, and none of them far gone -/
def Drs (H : Hp) (ds : List Addr) (m : Int) : Prop := ∀ d ∈ ds, ∃ k, Dr H d k ∧ 0 ≤ k ∧ k ≤ m
theorem Drs.step {H H' : Hp} {ds : List Addr} {m m' : Int} {d : Addr} {k : Int} (h : Drs H ds m) (e : ExA d H H') (hd : Dr H' d k) (h0 : 0 ≤ k) (h1 : k ≤ m') (hm : m ≤ m') : Drs H' ds m' := fun b hb => by
  by_cases c : b = d
  · rw [c]
    exact ⟨k, hd, h0, h1⟩
  · obtain ⟨kk, ⟨x, bb, hx⟩, k0, k1⟩ := h b hb
    exact ⟨kk, ⟨x, bb, e _ _ c hx⟩, k0, by omega⟩
theorem Drs.on {H H' : Hp} {ds : List Addr} {m m' : Int} (h : Drs H ds m) (e : Ex H H') (hm : m ≤ m') : Drs H' ds m' := fun b hb => by
  obtain ⟨kk, hd, k0, k1⟩ := h b hb
  exact ⟨kk, hd.on e, k0, by omega⟩
end
/-- the turned ties while they are made -/
def TW (H3 : Hp) (Dl p2 d : Addr) (as' : List Addr) (ts' : List (Int × Int)) (k3 : Int) (i : Nat) (H' : Hp) : Prop :=
  H3 Dl = none ∧ H' p2 = some (.lst (as'.map V.ref)) ∧ ∃ (us : List (Int × Int)) (k2 : Int), TM H' Dl us ∧ us.map nrm = (ts'.take i).map nrm ∧ ExA d H3 H' ∧ Dr H' d k2 ∧ (0 ≤ k2 ∧ k2 ≤ k3 + i)
theorem TW.push {H3 H4 : Hp} {Dl p2 d : Addr} {as' : List Addr} {ts' us : List (Int × Int)} {k3 k2 : Int} {i : Nat} {t : Int × Int} {x y : Int} {q : Addr} (ht : ts'[i]? = some t) (hl : ts'.length ≤ 1000) (h0 : H3 Dl = none) (hp2 : H4 p2 = some (.lst (as'.map V.ref)))
    (hT : TM H4 Dl us) (hu : us.map nrm = (ts'.take i).map nrm) (e : ExA d H3 H4) (hd : Dr H4 d k2) (hk : 0 ≤ k2 ∧ k2 ≤ k3 + (i + 1 : Nat)) (nq : H4 q = none) (hx : nrm (x, y) = nrm t) (npl : p2 ≠ Dl) (ndl : d ≠ Dl) :
    ∃ acc, (upd H4 q (.lst [.int x, .int y])) Dl = some (.lst acc) ∧ acc.length < sizeLine ∧ TW H3 Dl p2 d as' ts' k3 (i + 1) (upd (upd H4 q (.lst [.int x, .int y])) Dl (.lst (acc ++ [.ref q]))) := by
  obtain ⟨as, a1, a2, a3⟩ := hT.push2 x y
  have eq : Ex H4 (upd H4 q (.lst [.int x, .int y])) := Ex.new nq
  have hi := (List.getElem?_eq_some_iff.mp ht).1
  have ul : us.length = i := by
    have z := congrArg List.length hu
    rw [List.length_map, List.length_map, List.length_take] at z
    omega
  refine ⟨as.map V.ref, eq _ _ a1, sz_lt (by rw [List.length_map]; omega), h0, ?_, us ++ [(x, y)], k2, a3 q _ nq eq upd_same, ?_, (e.trans (ExA.of eq)).mut h0, ?_, hk⟩
  · rw [upd_ne npl]
    exact eq _ _ hp2
  · rw [List.map_append, hu, take_snoc ht, List.map_append]
    show _ ++ [nrm (x, y)] = _ ++ [nrm t]
    rw [hx]
  · obtain ⟨xx, bb, hh⟩ := hd
    refine ⟨xx, bb, ?_⟩
    rw [upd_ne ndl]
    exact eq _ _ hh
theorem yes_if {σ : L2.St} {H : Hp} {A B : Hp → Prop} (h : A H) : tYes σ H fun b H3 => if b = true then A H3 else B H3 := iteT (B := B H) h

theorem TW.push' {H3 H4 : Hp} {Dl p2 d : Addr} {as' : List Addr} {ts' us : List (Int × Int)} {k3 k2 : Int} {i : Nat} {t : Int × Int} {q : Addr} (ht : ts'[i]? = some t) (hl : ts'.length ≤ 1000) (h0 : H3 Dl = none) (hp2 : H4 p2 = some (.lst (as'.map V.ref)))
    (hT : TM H4 Dl us) (hu : us.map nrm = (ts'.take i).map nrm) (e : ExA d H3 H4) (hd : Dr H4 d k2) (hk : 0 ≤ k2 ∧ k2 ≤ k3 + (i + 1 : Nat)) (hq : At2 H4 q t) (nq : q ≠ Dl) (npl : p2 ≠ Dl) (ndl : d ≠ Dl) :
    ∃ acc, H4 Dl = some (.lst acc) ∧ acc.length < sizeLine ∧ TW H3 Dl p2 d as' ts' k3 (i + 1) (upd H4 Dl (.lst (acc ++ [.ref q]))) := by
  obtain ⟨as, a1, a2, a3, a4⟩ := hT
  have hi := (List.getElem?_eq_some_iff.mp ht).1
  have ul : us.length = i := by
    have z := congrArg List.length hu
    rw [List.length_map, List.length_map, List.length_take] at z
    omega
  refine ⟨as.map V.ref, a1, sz_lt (by rw [List.length_map]; omega), h0, ?_, us ++ [t], k2, ⟨as ++ [q], by rw [upd_same, List.map_append]; rfl, by simp [a2], ?_, fun j b u hb hu' => ?_⟩, ?_, e.mut h0, ?_, hk⟩
  · rw [upd_ne npl]
    exact hp2
  · intro z
    rcases List.mem_append.mp z with z | z
    · exact a3 z
    · exact nq (List.mem_singleton.mp z).symm
  · by_cases c : j < as.length
    · rw [List.getElem?_append_left c] at hb
      rw [List.getElem?_append_left (by rw [← a2]; exact c)] at hu'
      rw [upd_ne (fun z => a3 (by rw [← z]; exact List.mem_of_getElem? hb))]
      exact a4 j b u hb hu'
    · have hj : j = as.length := by
        have z := (List.getElem?_eq_some_iff.mp hb).1
        rw [List.length_append, List.length_singleton] at z
        omega
      rw [hj, List.getElem?_append_right (Nat.le_refl _), Nat.sub_self] at hb
      rw [hj, a2, List.getElem?_append_right (Nat.le_refl _), Nat.sub_self] at hu'
      cases hb
      cases hu'
      rw [upd_ne nq]
      exact hq
  · rw [List.map_append, hu, take_snoc ht, List.map_append, List.map_singleton]
  · obtain ⟨xx, bb, hh⟩ := hd
    exact ⟨xx, bb, by rw [upd_ne ndl]; exact hh⟩
end K24

/-! Breaks led round the clock: how far, told in two ways (sums over the breaks, sums over the calls). -/
namespace M30
def sumN (m : Nat) (f : Nat → Nat) : Nat := ((List.range m).map f).sum
theorem sumN_zero (f : Nat → Nat) : sumN 0 f = 0 := rfl
theorem sumN_succ (m : Nat) (f : Nat → Nat) : sumN (m + 1) f = sumN m f + f m := by
  unfold sumN
  rw [List.range_succ, List.map_append, List.sum_append]
  simp
theorem sumN_congr {m : Nat} {f g : Nat → Nat} (h : ∀ i, i < m → f i = g i) : sumN m f = sumN m g := by
  unfold sumN
  exact congrArg List.sum (List.map_congr_left fun i hi => h i (List.mem_range.mp hi))
theorem sumN_add (m : Nat) (f g : Nat → Nat) : sumN m (fun i => f i + g i) = sumN m f + sumN m g := by
  induction m with
  | zero => rfl
  | succ m ih => rw [sumN_succ, sumN_succ, sumN_succ, ih]; omega
theorem sumN_const (m : Nat) : sumN m (fun _ => 0) = 0 := by
  induction m with
  | zero => rfl
  | succ m ih => rw [sumN_succ, ih]
theorem sumN_comm (m k : Nat) (f : Nat → Nat → Nat) : sumN m (fun i => sumN k fun j => f i j) = sumN k fun j => sumN m fun i => f i j := by
  induction m with
  | zero => exact (sumN_const k).symm
  | succ m ih =>
    rw [sumN_succ, ih, ← sumN_add]
    exact sumN_congr fun j _ => (sumN_succ m fun i => f i j).symm
theorem sumN_append (m k : Nat) (f : Nat → Nat) : sumN (m + k) f = sumN m f + sumN k fun j => f (m + j) := by
  induction k with
  | zero => rw [Nat.add_zero, sumN_zero, Nat.add_zero]
  | succ k ih => rw [← Nat.add_assoc, sumN_succ, ih, sumN_succ, Nat.add_assoc]
theorem sumN_mul (q n : Nat) (f : Nat → Nat) : sumN (q * n) f = sumN q fun i => sumN n fun r => f (i * n + r) := by
  induction q with
  | zero => rw [Nat.zero_mul]; rfl
  | succ q ih => rw [Nat.succ_mul, sumN_append, ih, sumN_succ]
/-- the other way through -/
theorem sumN_rev (m : Nat) (f : Nat → Nat) : sumN m f = sumN m fun i => f (m - 1 - i) := by
  induction m with
  | zero => rfl
  | succ m ih =>
    rw [sumN_succ, ih, Nat.add_comm m 1, sumN_append, Nat.add_comm]
    congr 1
    · show f m = sumN 1 _
      unfold sumN
      simp
    · exact sumN_congr fun j hj => congrArg f (by omega)
/-! ### two marks on a line -/
def xr (p q : Bool) : Nat := if p = q then 0 else 1
def dst (u v : Nat) : Nat := max u v - min u v
theorem xr_sum (u v : Nat) : ∀ m, u ≤ m → v ≤ m → sumN m (fun j => xr (decide (j < u)) (decide (j < v))) = dst u v := by
  have key : ∀ m, sumN m (fun j => xr (decide (j < u)) (decide (j < v))) = dst (min u m) (min v m) := by
    intro m
    induction m with
    | zero => simp [sumN_zero, dst]
    | succ m ih =>
      rw [sumN_succ, ih]
      unfold xr dst
      by_cases a : m < u <;> by_cases b : m < v <;> simp only [a, b, decide_true, decide_false, if_true, reduceCtorEq, if_false] <;> omega
  intro m hu hv
  rw [key m, Nat.min_eq_left hu, Nat.min_eq_left hv]
theorem xr_le (a b X : Nat) (ha : a ≤ X) (hb : b ≤ X) : sumN X (fun x => xr (decide (a ≤ x)) (decide (b ≤ x))) = dst a b := by
  rw [← xr_sum a b X ha hb]
  refine sumN_congr fun j _ => ?_
  unfold xr
  by_cases c : j < a <;> by_cases d : j < b <;> simp [c, d, Nat.not_le.mpr, Nat.not_lt.mp] <;> omega
/-! ### breaks round the clock -/
/-- breaks, ascending, each from 1 to n -/
structure Brk (n : Nat) (a : List Nat) : Prop where
  lo : ∀ x ∈ a, 1 ≤ x ∧ x ≤ n
  up : a.Pairwise (· < ·)
/-- the j-th break, gone on round the clock -/
def ext (n : Nat) (a : List Nat) (j : Nat) : Nat := a.getD (j % a.length) 0 + n * (j / a.length)
/-- how many are not beyond r -/
def cnt (a : List Nat) (r : Nat) : Nat := (a.filter fun x => decide (x ≤ r)).length
theorem cnt_le (a : List Nat) (r : Nat) : cnt a r ≤ a.length := List.length_filter_le _ _
theorem cnt_at {r : Nat} : ∀ {a : List Nat}, a.Pairwise (· < ·) → ∀ i, i < a.length → (a.getD i 0 ≤ r ↔ i < cnt a r)
  | [], _, i, hi => absurd hi (Nat.not_lt_zero _)
  | x :: a, up, i, hi => by
    have up2 := List.pairwise_cons.mp up
    have c0 : ¬ x ≤ r → cnt a r = 0 := fun h => by
      unfold cnt
      rw [List.filter_eq_nil_iff.mpr fun y hy => by have := up2.1 y hy; simp; omega]
      rfl
    have cc : cnt (x :: a) r = if x ≤ r then cnt a r + 1 else cnt a r := by
      unfold cnt
      by_cases h : x ≤ r
      · rw [List.filter_cons_of_pos (by simpa using h), if_pos h, List.length_cons]
      · rw [List.filter_cons_of_neg (by simpa using h), if_neg h]
    cases i with
    | zero =>
      rw [cc]
      show x ≤ r ↔ _
      by_cases h : x ≤ r
      · rw [if_pos h]
        exact ⟨fun _ => Nat.succ_pos _, fun _ => h⟩
      · rw [if_neg h, c0 h]
        exact ⟨fun z => absurd z h, fun z => absurd z (Nat.lt_irrefl 0)⟩
    | succ i =>
      have ih := cnt_at (r := r) up2.2 i (by simpa using hi)
      rw [List.getD_cons_succ, ih, cc]
      by_cases h : x ≤ r
      · rw [if_pos h]
        omega
      · rw [if_neg h, c0 h]
        omega
theorem ext_le {n : Nat} {a : List Nat} (A : Brk n a) {q r j : Nat} (hd : 0 < a.length) (hr : r < n) : ext n a j ≤ q * n + r ↔ j < cnt a r + q * a.length := by
  have hj := Nat.div_add_mod j a.length
  have hm := Nat.mod_lt j hd
  have cl := cnt_le a r
  have hmem : a.getD (j % a.length) 0 ∈ a := by
    rw [List.getD_eq_getElem?_getD, List.getElem?_eq_getElem hm]
    exact List.getElem_mem hm
  have lo := A.lo _ hmem
  have hc := cnt_at (r := r) A.up (j % a.length) hm
  unfold ext
  generalize hJ : j / a.length = J at hj ⊢
  generalize hM : j % a.length = M at hj hm hc lo ⊢
  generalize hV : a.getD M 0 = v at hc lo ⊢
  generalize hD : a.length = d at hj hm cl hd ⊢
  rcases Nat.lt_trichotomy J q with h | h | h
  · have e1 : n * J + n ≤ q * n := by
      rw [Nat.mul_comm q n, ← Nat.mul_succ]
      exact Nat.mul_le_mul_left n h
    have e2 : d * J + d ≤ q * d := by
      rw [Nat.mul_comm q d, ← Nat.mul_succ]
      exact Nat.mul_le_mul_left d h
    constructor
    · intro _; omega
    · intro _; omega
  · subst h
    rw [Nat.mul_comm J n, Nat.mul_comm J d]
    constructor
    · intro z
      have := hc.mp (by omega)
      omega
    · intro z
      have := hc.mpr (by omega)
      omega
  · have e1 : q * n + n ≤ n * J := by
      rw [Nat.mul_comm q n, ← Nat.mul_succ]
      exact Nat.mul_le_mul_left n h
    have e2 : q * d + d ≤ d * J := by
      rw [Nat.mul_comm q d, ← Nat.mul_succ]
      exact Nat.mul_le_mul_left d h
    constructor
    · intro _; omega
    · intro _; omega
theorem ext_lt {n : Nat} {a : List Nat} (A : Brk n a) {q j : Nat} (hd : 0 < a.length) (hj : j < q * a.length) : ext n a j ≤ q * n := by
  have hm := Nat.mod_lt j hd
  have hmem : a.getD (j % a.length) 0 ∈ a := by
    rw [List.getD_eq_getElem?_getD, List.getElem?_eq_getElem hm]
    exact List.getElem_mem hm
  have lo := A.lo _ hmem
  have h1 : j / a.length < q := (Nat.div_lt_iff_lt_mul hd).mpr hj
  have e1 : n * (j / a.length) + n ≤ q * n := by
    rw [Nat.mul_comm q n, ← Nat.mul_succ]
    exact Nat.mul_le_mul_left n h1
  unfold ext
  omega
/-- the two ways to tell how far the breaks go, T - 2 d places on -/
theorem far_is {n : Nat} {a b : List Nat} (A : Brk n a) (B : Brk n b) (hl : b.length = a.length) (hd : 0 < a.length) {T : Nat} (h1 : a.length ≤ T) (h2 : T ≤ 3 * a.length) :
    sumN a.length (fun i => dst (ext n a (i + 2 * a.length)) (ext n b (i + T))) = sumN n fun r => dst (cnt a r + T) (cnt b r + 2 * a.length) := by
  generalize hD : a.length = d at *
  have s1 : ∀ i, i < d → dst (ext n a (i + 2 * d)) (ext n b (i + T)) = sumN 6 fun q => sumN n fun r => xr (decide (i + 2 * d < cnt a r + q * d)) (decide (i + T < cnt b r + q * d)) := by
    intro i hi
    rw [← xr_le _ _ (6 * n) (Nat.le_trans (ext_lt A (q := 3) (by omega) (by rw [hD]; omega)) (Nat.mul_le_mul_right n (by decide))) (Nat.le_trans (ext_lt B (q := 4) (by omega) (by rw [hl]; omega)) (Nat.mul_le_mul_right n (by decide))), sumN_mul]
    refine sumN_congr fun q _ => sumN_congr fun r hr => ?_
    have x1 := ext_le A (q := q) (j := i + 2 * d) (by omega) hr
    have x2 := ext_le B (q := q) (j := i + T) (by omega) hr
    rw [hD] at x1
    rw [hl] at x2
    rw [decide_eq_decide.mpr x1, decide_eq_decide.mpr x2]
  rw [sumN_congr s1]
  have s2 : sumN d (fun i => sumN 6 fun q => sumN n fun r => xr (decide (i + 2 * d < cnt a r + q * d)) (decide (i + T < cnt b r + q * d))) =
      sumN n fun r => sumN 6 fun q => sumN d fun i => xr (decide (i + 2 * d < cnt a r + q * d)) (decide (i + T < cnt b r + q * d)) := by
    rw [sumN_comm d 6]
    have e : ∀ q, q < 6 → sumN d (fun i => sumN n fun r => xr (decide (i + 2 * d < cnt a r + q * d)) (decide (i + T < cnt b r + q * d))) = sumN n fun r => sumN d fun i => xr (decide (i + 2 * d < cnt a r + q * d)) (decide (i + T < cnt b r + q * d)) := fun q _ => sumN_comm d n _
    rw [sumN_congr e, sumN_comm 6 n]
  rw [s2]
  refine sumN_congr fun r hr => ?_
  have ca := cnt_le a r
  have cb := cnt_le b r
  rw [hD] at ca
  rw [hl] at cb
  have s3 : sumN 6 (fun q => sumN d fun i => xr (decide (i + 2 * d < cnt a r + q * d)) (decide (i + T < cnt b r + q * d))) = sumN (6 * d) fun j => xr (decide (j < cnt a r + 3 * d)) (decide (j < cnt b r + 5 * d - T)) := by
    rw [sumN_rev, sumN_mul]
    refine sumN_congr fun q hq => sumN_congr fun i hi => ?_
    have e1 : (6 - 1 - q) * d = 5 * d - q * d := by rw [Nat.sub_mul]
    have e2 : q * d ≤ 5 * d := Nat.mul_le_mul_right d (by omega)
    rw [e1, decide_eq_decide.mpr (show i + 2 * d < cnt a r + (5 * d - q * d) ↔ q * d + i < cnt a r + 3 * d by omega), decide_eq_decide.mpr (show i + T < cnt b r + (5 * d - q * d) ↔ q * d + i < cnt b r + 5 * d - T by omega)]
  rw [s3, xr_sum _ _ (6 * d) (by omega) (by omega)]
  unfold dst
  omega
end M30

/-! Calls made when they are due: how the breaks are led from one order's to the other's. -/
namespace M30
def b2 (b : Bool) : Int := if b then 1 else 0
def pr (n i : Nat) : Nat := (i + n - 1) % n
def nx (n i : Nat) : Nat := (i + 1) % n
/-- the mark at i and the one ahead of it change places -/
def sw (n i : Nat) (f : Nat → Bool) : Nat → Bool := fun k => if k = i then f (pr n i) else if k = pr n i then f i else f k
def ad (i : Nat) (d : Int) (l : Nat → Int) : Nat → Int := fun k => if k = i then l k + d else l k
def E (n : Nat) (f g : Nat → Bool) (l : Nat → Int) : Prop := ∀ k, k < n → b2 (f k) - b2 (g k) = l (nx n k) - l k
def due (l : Int) (a h : Bool) : Bool := if 0 < l then a && !h else decide (l < 0) && (h && !a)
theorem pr_lt {n i : Nat} (h : i < n) : pr n i < n := Nat.mod_lt _ (by omega)
theorem nx_lt {n i : Nat} (h : i < n) : nx n i < n := Nat.mod_lt _ (by omega)
theorem pr_eq {n i : Nat} (h : i < n) : pr n i = if i = 0 then n - 1 else i - 1 := by
  unfold pr
  split
  · rename_i h0; subst h0; rw [Nat.mod_eq_of_lt (by omega)]; omega
  · rw [show i + n - 1 = (i - 1) + n by omega, Nat.add_mod_right, Nat.mod_eq_of_lt (by omega)]
theorem nx_eq {n i : Nat} (h : i < n) : nx n i = if i + 1 = n then 0 else i + 1 := by
  unfold nx
  split
  · rename_i h0; rw [h0, Nat.mod_self]
  · rw [Nat.mod_eq_of_lt (by omega)]
theorem nx_pr {n i : Nat} (h : i < n) : nx n (pr n i) = i := by
  rw [nx_eq (pr_lt h), pr_eq h]
  split <;> split <;> omega
theorem pr_nx {n i : Nat} (h : i < n) : pr n (nx n i) = i := by
  rw [pr_eq (nx_lt h), nx_eq h]
  split <;> split <;> omega
theorem pr_ne {n i : Nat} (h : i < n) (h2 : 2 ≤ n) : pr n i ≠ i := by
  rw [pr_eq h]; split <;> omega
theorem sw_sw {n i : Nat} (h : i < n) (h2 : 2 ≤ n) (f : Nat → Bool) : sw n i (sw n i f) = f := by
  have := pr_ne h h2
  funext k
  unfold sw
  by_cases c : k = i
  · subst c
    simp [this]
  · by_cases d : k = pr n i
    · subst d
      simp [c]
    · simp [c, d]
theorem E_sw {n i : Nat} {f g : Nat → Bool} {l : Nat → Int} (e : E n f g l) (h : i < n) (h2 : 2 ≤ n) : E n (sw n i f) g (ad i (b2 (f i) - b2 (f (pr n i))) l) := by
  intro k hk
  have e1 := e k hk
  have hp := pr_ne h h2
  have hpl := pr_lt h
  unfold sw ad
  by_cases c : k = i
  · subst c
    have : nx n k ≠ k := fun z => hp (by rw [← z, pr_nx hk]; exact z.symm ▸ rfl)
    simp [this]
    omega
  · by_cases d : k = pr n i
    · subst d
      rw [nx_pr h] at e1 ⊢
      simp [c]
      omega
    · have : nx n k ≠ i := fun z => d (by rw [← z, pr_nx hk])
      simp [c, d, this]
      omega
theorem all_on {n : Nat} {p : Nat → Prop} (k : Nat) (hk : k < n) (h0 : p k) (hs : ∀ i, i < n → p i → p (nx n i)) : ∀ i, i < n → p i := by
  have go : ∀ j, p ((k + j) % n) := by
    intro j
    induction j with
    | zero => rw [Nat.add_zero, Nat.mod_eq_of_lt hk]; exact h0
    | succ j ih =>
      have z := hs _ (Nat.mod_lt _ (by omega)) ih
      unfold nx at z
      rwa [Nat.mod_add_mod] at z
  intro i hi
  have z := go (i + n - k)
  rwa [show k + (i + n - k) = i + n by omega, Nat.add_mod_right, Nat.mod_eq_of_lt hi] at z
theorem all_back {n : Nat} {p : Nat → Prop} (k : Nat) (hk : k < n) (h0 : p k) (hs : ∀ i, i < n → p i → p (pr n i)) : ∀ i, i < n → p i := by
  have go : ∀ j, p ((k + j * (n - 1)) % n) := by
    intro j
    induction j with
    | zero => rw [Nat.zero_mul, Nat.add_zero, Nat.mod_eq_of_lt hk]; exact h0
    | succ j ih =>
      have z := hs _ (Nat.mod_lt _ (by omega)) ih
      unfold pr at z
      rw [Nat.add_sub_assoc (by omega), Nat.mod_add_mod] at z
      rwa [Nat.succ_mul, ← Nat.add_assoc]
  intro i hi
  have z := go (k + n - i)
  have e : k + (k + n - i) * (n - 1) = i + n * (k + n - i - 1) + (if k + n - i = 0 then 0 else 0) := by
    obtain ⟨a, ha⟩ : ∃ a, a = k + n - i := ⟨_, rfl⟩
    rw [← ha]
    obtain ⟨m, rfl⟩ : ∃ m, n = m + 1 := ⟨n - 1, by omega⟩
    obtain ⟨a', rfl⟩ : ∃ a', a = a' + 1 := ⟨a - 1, by omega⟩
    simp only [Nat.add_sub_cancel, ite_self, Nat.add_zero]
    rw [Nat.succ_mul, Nat.mul_comm (m + 1) a', Nat.mul_succ]
    omega
  rw [e] at z
  simp only [ite_self, Nat.add_zero] at z
  rwa [Nat.add_mul_mod_self_left, Nat.mod_eq_of_lt hi] at z
theorem some_due {n : Nat} {f g : Nat → Bool} {l : Nat → Int} (e : E n f g l) (hT : ∃ k, k < n ∧ f k = true) (hF : ∃ k, k < n ∧ f k = false) (hl : ∃ k, k < n ∧ l k ≠ 0) : ∃ i, i < n ∧ due (l i) (f (pr n i)) (f i) = true := by
  refine Decidable.byContradiction fun no => ?_
  have no : ∀ i, i < n → due (l i) (f (pr n i)) (f i) = false := fun i hi => by
    cases z : due (l i) (f (pr n i)) (f i) with
    | false => rfl
    | true => exact absurd ⟨i, hi, z⟩ no
  obtain ⟨kt, ht, hT⟩ := hT
  obtain ⟨kf, hf, hF⟩ := hF
  obtain ⟨k, hk, hl⟩ := hl
  have b01 : ∀ b, 0 ≤ b2 b ∧ b2 b ≤ 1 := fun b => by cases b <;> decide
  rcases Int.lt_or_gt_of_ne hl with c | c
  · -- below 0
    have nd : ∀ i, i < n → l i < 0 → f i = true → f (pr n i) = true := fun i hi h1 h2 => by
      have z := no i hi
      unfold due at z
      rw [if_neg (by omega), decide_eq_true h1, h2] at z
      cases y : f (pr n i) with
      | true => rfl
      | false => rw [y] at z; exact absurd z (by decide)
    cases y : f k with
    | true =>
      have z := all_back (p := fun i => l i < 0 ∧ f i = true) k hk ⟨c, y⟩ (fun i hi h => by
        have f1 := nd i hi h.1 h.2
        refine ⟨?_, f1⟩
        have e1 := e (pr n i) (pr_lt hi)
        rw [nx_pr hi, f1] at e1
        have := b01 (g (pr n i))
        have : b2 true = 1 := rfl
        omega) kf hf
      rw [hF] at z
      exact absurd z.2 (by decide)
    | false =>
      have z := all_on (p := fun i => l i < 0 ∧ f i = false) k hk ⟨c, y⟩ (fun i hi h => by
        have e1 := e i hi
        rw [h.2] at e1
        have := b01 (g i)
        have : b2 false = 0 := rfl
        have h1 : l (nx n i) < 0 := by have := h.1; omega
        refine ⟨h1, ?_⟩
        cases q : f (nx n i) with
        | false => rfl
        | true =>
          have := nd _ (nx_lt hi) h1 q
          rw [pr_nx hi, h.2] at this
          exact absurd this (by decide)) kt ht
      rw [hT] at z
      exact absurd z.2 (by decide)
  · have nd : ∀ i, i < n → 0 < l i → f (pr n i) = true → f i = true := fun i hi h1 h2 => by
      have z := no i hi
      unfold due at z
      rw [if_pos h1, h2] at z
      cases y : f i with
      | true => rfl
      | false => rw [y] at z; exact absurd z (by decide)
    cases y : f k with
    | true =>
      have z := all_on (p := fun i => 0 < l i ∧ f i = true) k hk ⟨c, y⟩ (fun i hi h => by
        have e1 := e i hi
        rw [h.2] at e1
        have := b01 (g i)
        have : b2 true = 1 := rfl
        have h1 : 0 < l (nx n i) := by have := h.1; omega
        refine ⟨h1, nd _ (nx_lt hi) h1 ?_⟩
        rw [pr_nx hi]
        exact h.2) kf hf
      rw [hF] at z
      exact absurd z.2 (by decide)
    | false =>
      have z := all_back (p := fun i => 0 < l i ∧ f i = false) k hk ⟨c, y⟩ (fun i hi h => by
        have f1 : f (pr n i) = false := by
          cases q : f (pr n i) with
          | false => rfl
          | true =>
            have := nd i hi h.1 q
            rw [h.2] at this
            exact absurd this (by decide)
        refine ⟨?_, f1⟩
        have e1 := e (pr n i) (pr_lt hi)
        rw [nx_pr hi, f1] at e1
        have := b01 (g (pr n i))
        have : b2 false = 0 := rfl
        have := h.1
        omega) kt ht
      rw [hT] at z
      exact absurd z.2 (by decide)
theorem E_zero {n : Nat} {f g : Nat → Bool} {l : Nat → Int} (e : E n f g l) (z : ∀ k, k < n → l k = 0) : ∀ k, k < n → f k = g k := fun k hk => by
  have e1 := e k hk
  rw [z k hk, z _ (nx_lt hk)] at e1
  cases h1 : f k <;> cases h2 : g k <;> rw [h1, h2] at e1 <;> first | rfl | exact absurd e1 (by decide)
/-- a way of calls, each of which may be turned on when its turn comes -/
inductive Pth (n : Nat) : (Nat → Bool) → List Nat → (Nat → Bool) → Prop
  | nil (f) : Pth n f [] f
  | snoc {f m h i} : Pth n f m h → i < n → h i ≠ h (pr n i) → Pth n f (m ++ [i]) (sw n i h)
theorem Pth.bound {n : Nat} {f h : Nat → Bool} {m : List Nat} (p : Pth n f m h) : ∀ i ∈ m, i < n := by
  induction p with
  | nil => intro i hi; cases hi
  | snoc p hi ne ih =>
    intro j hj
    rcases List.mem_append.mp hj with hj | hj
    · exact ih j hj
    · rw [List.mem_singleton.mp hj]; exact hi
def far (n : Nat) (l : Nat → Int) : Nat := sumN n fun k => (l k).natAbs
theorem far_ad {n i : Nat} {l : Nat → Int} {d : Int} (hi : i < n) (hd : (l i + d).natAbs + 1 = (l i).natAbs) : far n (ad i d l) + 1 = far n l := by
  unfold far
  obtain ⟨r, rfl⟩ : ∃ r, n = (i + 1) + r := ⟨n - (i + 1), by omega⟩
  rw [sumN_append (i + 1) r, sumN_append (i + 1) r, sumN_succ i, sumN_succ i]
  have e1 : sumN i (fun k => (ad i d l k).natAbs) = sumN i fun k => (l k).natAbs := sumN_congr fun k hk => by
    unfold ad; rw [if_neg (by omega)]
  have e2 : sumN r (fun j => (ad i d l (i + 1 + j)).natAbs) = sumN r fun j => (l (i + 1 + j)).natAbs := sumN_congr fun k hk => by
    unfold ad; rw [if_neg (by omega)]
  rw [e1, e2]
  have e3 : (ad i d l i).natAbs = (l i + d).natAbs := by unfold ad; rw [if_pos rfl]
  rw [e3]
  omega
theorem far_ad_le {n i : Nat} {l : Nat → Int} {d : Int} (hi : i < n) (hd : d.natAbs ≤ 1) : far n (ad i d l) ≤ far n l + 1 := by
  unfold far
  obtain ⟨r, rfl⟩ : ∃ r, n = (i + 1) + r := ⟨n - (i + 1), by omega⟩
  rw [sumN_append (i + 1) r, sumN_append (i + 1) r, sumN_succ i, sumN_succ i]
  have e1 : sumN i (fun k => (ad i d l k).natAbs) = sumN i fun k => (l k).natAbs := sumN_congr fun k hk => by
    unfold ad; rw [if_neg (by omega)]
  have e2 : sumN r (fun j => (ad i d l (i + 1 + j)).natAbs) = sumN r fun j => (l (i + 1 + j)).natAbs := sumN_congr fun k hk => by
    unfold ad; rw [if_neg (by omega)]
  rw [e1, e2]
  have e3 : (ad i d l i).natAbs = (l i + d).natAbs := by unfold ad; rw [if_pos rfl]
  rw [e3]
  omega
theorem far_zero {n : Nat} {l : Nat → Int} (h : far n l = 0) : ∀ k, k < n → l k = 0 := by
  induction n with
  | zero => intro k hk; omega
  | succ n ih =>
    unfold far at h ih
    rw [sumN_succ] at h
    intro k hk
    rcases Nat.lt_or_eq_of_le (Nat.le_of_lt_succ hk) with c | c
    · exact ih (by omega) k c
    · subst c; omega
theorem due_far {n i : Nat} {f : Nat → Bool} {l : Nat → Int} (hi : i < n) (h : due (l i) (f (pr n i)) (f i) = true) :
    f i ≠ f (pr n i) ∧ far n (ad i (b2 (f i) - b2 (f (pr n i))) l) + 1 = far n l ∧ b2 (f i) - b2 (f (pr n i)) = if 0 < l i then -1 else 1 := by
  unfold due at h
  by_cases c : 0 < l i
  · rw [if_pos c] at h
    rw [if_pos c]
    cases y : f (pr n i) <;> cases z : f i <;> rw [y, z] at h <;> first | exact absurd h (by decide) | skip
    refine ⟨by decide, ?_, rfl⟩
    exact far_ad hi (by show (l i + (0 - 1)).natAbs + 1 = _; omega)
  · rw [if_neg c] at h
    rw [if_neg c]
    obtain ⟨c1, h⟩ := Bool.and_eq_true_iff.mp h
    have c1 := of_decide_eq_true c1
    cases y : f (pr n i) <;> cases z : f i <;> rw [y, z] at h <;> first | exact absurd h (by decide) | skip
    refine ⟨by decide, ?_, rfl⟩
    exact far_ad hi (by show (l i + (1 - 0)).natAbs + 1 = _; omega)
theorem sw_some {n i : Nat} {f : Nat → Bool} {b : Bool} (hi : i < n) (h : ∃ k, k < n ∧ f k = b) : ∃ k, k < n ∧ sw n i f k = b := by
  obtain ⟨k, hk, e⟩ := h
  by_cases c : k = i
  · subst c
    by_cases c2 : pr n k = k
    · refine ⟨k, hk, ?_⟩
      unfold sw
      rw [if_pos rfl, c2]
      exact e
    · refine ⟨pr n k, pr_lt hk, ?_⟩
      unfold sw
      rw [if_neg c2, if_pos rfl]
      exact e
  · by_cases d : k = pr n i
    · subst d
      refine ⟨i, hi, ?_⟩
      unfold sw
      rw [if_pos rfl]
      exact e
    · refine ⟨k, hk, ?_⟩
      unfold sw
      rw [if_neg c, if_neg d]
      exact e
/-! ### the least way -/
/-- how far it is from f to g -/
def IsD (n : Nat) (f g : Nat → Bool) (k : Nat) : Prop := (∃ l, E n f g l ∧ far n l = k) ∧ ∀ l, E n f g l → k ≤ far n l
theorem IsD.one {n : Nat} {f g : Nat → Bool} {k j : Nat} (a : IsD n f g k) (b : IsD n f g j) : k = j := by
  obtain ⟨⟨l1, e1, h1⟩, m1⟩ := a
  obtain ⟨⟨l2, e2, h2⟩, m2⟩ := b
  have := m1 l2 e2
  have := m2 l1 e1
  omega
theorem E.neg {n : Nat} {f g : Nat → Bool} {l : Nat → Int} (e : E n f g l) : E n g f fun k => -(l k) := fun k hk => by
  have := e k hk
  show _ = -(l (nx n k)) - -(l k)
  omega
theorem far_neg (n : Nat) (l : Nat → Int) : far n (fun k => -(l k)) = far n l := sumN_congr fun k _ => Int.natAbs_neg _
theorem IsD.symm {n : Nat} {f g : Nat → Bool} {k : Nat} (a : IsD n f g k) : IsD n g f k := by
  obtain ⟨⟨l, e, h⟩, m⟩ := a
  refine ⟨⟨_, e.neg, by rw [far_neg]; exact h⟩, fun l2 e2 => ?_⟩
  have := m _ e2.neg
  rwa [far_neg] at this
theorem IsD.self (n : Nat) (f : Nat → Bool) : IsD n f f 0 := by
  refine ⟨⟨fun _ => 0, fun k _ => by show _ = (0 : Int) - 0; omega, sumN_const n⟩, fun _ _ => Nat.zero_le _⟩
theorem IsD.zero {n : Nat} {f g : Nat → Bool} (a : IsD n f g 0) : ∀ k, k < n → f k = g k := by
  obtain ⟨⟨l, e, h⟩, _⟩ := a
  exact E_zero e (far_zero h)
theorem isD_of {n : Nat} {f g : Nat → Bool} {l : Nat → Int} (e : E n f g l) : ∃ k, IsD n f g k := by
  have go : ∀ b, ∀ l, E n f g l → far n l ≤ b → ∃ k, IsD n f g k := by
    intro b
    induction b with
    | zero => exact fun l e h => ⟨0, ⟨l, e, by omega⟩, fun _ _ => Nat.zero_le _⟩
    | succ b ih =>
      intro l e h
      by_cases c : ∃ l2, E n f g l2 ∧ far n l2 ≤ b
      · obtain ⟨l2, e2, h2⟩ := c
        exact ih l2 e2 h2
      · refine ⟨far n l, ⟨l, e, rfl⟩, fun l2 e2 => ?_⟩
        refine Decidable.byContradiction fun z => c ⟨l2, e2, by omega⟩
  exact go _ l e (Nat.le_refl _)
/-- one call turned on changes how far it is by one at most -/
theorem IsD.near {n i : Nat} {f g : Nat → Bool} {k j : Nat} (a : IsD n f g k) (b : IsD n f (sw n i g) j) (hi : i < n) (h2 : 2 ≤ n) : j ≤ k + 1 := by
  obtain ⟨⟨l, e, h⟩, _⟩ := a.symm
  have := b.symm.2 _ (E_sw e hi h2)
  have b01 : ∀ b, 0 ≤ b2 b ∧ b2 b ≤ 1 := fun b => by cases b <;> decide
  have := far_ad_le (l := l) (d := b2 (g i) - b2 (g (pr n i))) hi (by have := b01 (g i); have := b01 (g (pr n i)); omega)
  omega
/-- and where it is not 0, one call brings nearer -/
theorem IsD.nearer {n : Nat} {f g : Nat → Bool} {k : Nat} (a : IsD n f g (k + 1)) (h2 : 2 ≤ n) (hT : ∃ k, k < n ∧ g k = true) (hF : ∃ k, k < n ∧ g k = false) :
    ∃ i, i < n ∧ g i ≠ g (pr n i) ∧ IsD n f (sw n i g) k := by
  obtain ⟨⟨l, e, h⟩, m⟩ := a.symm
  have hl : ∃ k, k < n ∧ l k ≠ 0 := by
    refine Decidable.byContradiction fun z => ?_
    have : far n l = sumN n fun _ => 0 := sumN_congr fun k hk => by
      have : l k = 0 := Decidable.byContradiction fun y => z ⟨k, hk, y⟩
      rw [this]; rfl
    rw [sumN_const] at this
    omega
  obtain ⟨i, hi, hd⟩ := some_due e hT hF hl
  obtain ⟨ne, fa, _⟩ := due_far hi hd
  refine ⟨i, hi, ne, ?_⟩
  have e2 := E_sw e hi h2
  obtain ⟨j, hj⟩ := isD_of e2
  have hle := hj.2 _ e2
  have := IsD.near (i := i) hj.symm (by rw [sw_sw hi h2]; exact a) hi h2
  have : j = k := by omega
  subst this
  exact hj.symm
end M30

/-! The middle one of the sums makes the least way; the law's way to tell it. -/
namespace M30
/-! ### the middle one -/
def dsum (xs : List Int) (y : Int) : Nat := (xs.map fun x => (x - y).natAbs).sum
theorem dsum_cons (x : Int) (xs : List Int) (y : Int) : dsum (x :: xs) y = (x - y).natAbs + dsum xs y := rfl
theorem dsum_append (xs zs : List Int) (y : Int) : dsum (xs ++ zs) y = dsum xs y + dsum zs y := by
  unfold dsum
  rw [List.map_append, List.sum_append]
theorem dsum_perm {xs zs : List Int} (h : xs.Perm zs) (y : Int) : dsum xs y = dsum zs y := by
  unfold dsum
  exact (h.map _).foldr_eq' (fun a _ b _ c => by omega) 0
theorem dsum_above {m y : Int} (hy : m ≤ y) : ∀ {xs : List Int}, (∀ x ∈ xs, x ≤ m) → dsum xs y = dsum xs m + xs.length * (y - m).natAbs
  | [], _ => by simp [dsum]
  | x :: xs, h => by
    have ih := dsum_above hy fun z hz => h z (List.mem_cons_of_mem _ hz)
    have h1 := h x List.mem_cons_self
    rw [dsum_cons, dsum_cons, ih, List.length_cons, Nat.succ_mul]
    omega
theorem dsum_below {m y : Int} (hy : y ≤ m) : ∀ {xs : List Int}, (∀ x ∈ xs, m ≤ x) → dsum xs y = dsum xs m + xs.length * (y - m).natAbs
  | [], _ => by simp [dsum]
  | x :: xs, h => by
    have ih := dsum_below hy fun z hz => h z (List.mem_cons_of_mem _ hz)
    have h1 := h x List.mem_cons_self
    rw [dsum_cons, dsum_cons, ih, List.length_cons, Nat.succ_mul]
    omega
theorem dsum_any (m y : Int) : ∀ xs : List Int, dsum xs m ≤ dsum xs y + xs.length * (y - m).natAbs
  | [] => by simp [dsum]
  | x :: xs => by
    have ih := dsum_any m y xs
    rw [dsum_cons, dsum_cons, List.length_cons, Nat.succ_mul]
    omega
theorem med_least {xs ns : List Int} (pm : ns.Perm xs) (sr : ns.Pairwise (· ≤ ·)) {m : Int} (hm : ns[ns.length / 2]? = some m) (y : Int) : dsum xs m ≤ dsum xs y := by
  rw [← dsum_perm pm, ← dsum_perm pm]
  obtain ⟨a, b, split, l1⟩ : ∃ a b, ns = a ++ m :: b ∧ a.length = ns.length / 2 := by
    obtain ⟨hlt, hm⟩ := List.getElem?_eq_some_iff.mp hm
    refine ⟨ns.take (ns.length / 2), ns.drop (ns.length / 2 + 1), ?_, by rw [List.length_take]; omega⟩
    rw [← hm, ← List.drop_eq_getElem_cons hlt, List.take_append_drop]
  clear hm
  have hn : ns.length = a.length + (b.length + 1) := by rw [split, List.length_append, List.length_cons]
  rw [split] at sr ⊢
  generalize ns.length = n at hn l1
  have p1 := List.pairwise_append.mp sr
  have p2 := List.pairwise_cons.mp p1.2.1
  have ha : ∀ x ∈ a, x ≤ m := fun x hx => p1.2.2 x hx m List.mem_cons_self
  rw [dsum_append, dsum_append, dsum_cons, dsum_cons, show (m - m).natAbs = 0 by omega]
  rcases Int.le_total m y with c | c
  · have e1 := dsum_above c ha
    have e2 := dsum_any m y b
    rw [e1]
    have : b.length * (y - m).natAbs ≤ a.length * (y - m).natAbs := Nat.mul_le_mul_right _ (by omega)
    omega
  · have e1 := dsum_below c (xs := b) (fun x hx => p2.1 x hx)
    have e2 := dsum_any m y a
    rw [e1]
    have e3 : (b.length + 1) * (y - m).natAbs = b.length * (y - m).natAbs + (y - m).natAbs := Nat.succ_mul _ _
    have : a.length * (y - m).natAbs ≤ (b.length + 1) * (y - m).natAbs := Nat.mul_le_mul_right _ (by omega)
    omega
/-! ### breaks of marks -/
def bl (n : Nat) (f : Nat → Bool) : List Nat := ((List.range n).filter f).map (· + 1)
theorem bl_succ (n : Nat) (f : Nat → Bool) : bl (n + 1) f = bl n f ++ if f n then [n + 1] else [] := by
  unfold bl
  rw [List.range_succ, List.filter_append, List.map_append]
  by_cases c : f n
  · rw [if_pos c, List.filter_cons_of_pos (by simpa using c)]; rfl
  · rw [if_neg c, List.filter_cons_of_neg (by simpa using c)]; rfl
theorem mem_bl {n : Nat} {f : Nat → Bool} {x : Nat} : x ∈ bl n f ↔ ∃ k, k < n ∧ f k = true ∧ x = k + 1 := by
  unfold bl
  rw [List.mem_map]
  constructor
  · rintro ⟨k, hk, rfl⟩
    have := List.mem_filter.mp hk
    exact ⟨k, List.mem_range.mp this.1, this.2, rfl⟩
  · rintro ⟨k, h1, h2, rfl⟩
    exact ⟨k, List.mem_filter.mpr ⟨List.mem_range.mpr h1, h2⟩, rfl⟩
theorem bl_brk (n : Nat) (f : Nat → Bool) : Brk n (bl n f) := by
  refine ⟨fun x hx => ?_, ?_⟩
  · obtain ⟨k, h1, _, rfl⟩ := mem_bl.mp hx
    omega
  · unfold bl
    rw [List.pairwise_map]
    exact (List.pairwise_lt_range.filter _).imp fun h => by omega
theorem cnt_append (a b : List Nat) (r : Nat) : cnt (a ++ b) r = cnt a r + cnt b r := by
  unfold cnt
  rw [List.filter_append, List.length_append]
theorem cnt_all {a : List Nat} {r : Nat} (h : ∀ x ∈ a, x ≤ r) : cnt a r = a.length := by
  unfold cnt
  rw [List.filter_eq_self.mpr fun x hx => by simpa using h x hx]
theorem cnt_bl {n r : Nat} (f : Nat → Bool) (h : r ≤ n) : cnt (bl n f) r = (bl r f).length := by
  induction n with
  | zero => rw [show r = 0 by omega]; rfl
  | succ n ih =>
    rcases Nat.lt_or_eq_of_le h with c | c
    · rw [bl_succ, cnt_append, ih (by omega)]
      split
      · unfold cnt
        rw [List.filter_cons_of_neg (by simp; omega)]
        rfl
      · rfl
    · subst c
      exact cnt_all fun x hx => ((bl_brk (n + 1) f).lo x hx).2
theorem cnt_bl_succ {n x : Nat} (f : Nat → Bool) (h : x < n) : (cnt (bl n f) (x + 1) : Int) = cnt (bl n f) x + b2 (f x) := by
  rw [cnt_bl f (by omega), cnt_bl f (by omega), bl_succ, List.length_append]
  unfold b2
  split <;> simp
def dif (n : Nat) (f g : Nat → Bool) (x : Nat) : Int := (cnt (bl n f) x : Int) - cnt (bl n g) x
theorem dif_succ {n x : Nat} {f g : Nat → Bool} (h : x < n) : dif n f g (x + 1) = dif n f g x + b2 (f x) - b2 (g x) := by
  have e1 := cnt_bl_succ f h
  have e2 := cnt_bl_succ g h
  unfold dif
  omega
theorem dif_zero (n : Nat) (f g : Nat → Bool) : dif n f g 0 = 0 := by
  unfold dif
  rw [cnt_bl f (Nat.zero_le n), cnt_bl g (Nat.zero_le n)]
  rfl
theorem dif_top {n : Nat} {f g : Nat → Bool} (h : (bl n f).length = (bl n g).length) : dif n f g n = 0 := by
  unfold dif
  rw [cnt_bl f (Nat.le_refl n), cnt_bl g (Nat.le_refl n), h]
  omega
theorem dif_E {n : Nat} {f g : Nat → Bool} (h : (bl n f).length = (bl n g).length) (t : Int) : E n f g fun k => dif n f g k + t := by
  intro k hk
  show _ = dif n f g (nx n k) + t - (dif n f g k + t)
  have e := dif_succ (f := f) (g := g) hk
  rw [nx_eq hk]
  split
  · rename_i c
    rw [c, dif_top h] at e
    rw [dif_zero]
    omega
  · omega
theorem E_is {n : Nat} {f g : Nat → Bool} {l : Nat → Int} (e : E n f g l) : ∀ k, k < n → l k = dif n f g k + l 0 := by
  intro k
  induction k with
  | zero => intro _; rw [dif_zero]; omega
  | succ k ih =>
    intro hk
    have e1 := e k (by omega)
    rw [nx_eq (by omega), if_neg (by omega)] at e1
    rw [dif_succ (by omega)]
    have := ih (by omega)
    omega
theorem far_congr {n : Nat} {l m : Nat → Int} (h : ∀ k, k < n → l k = m k) : far n l = far n m := sumN_congr fun k hk => by rw [h k hk]
theorem far_dsum (n : Nat) (l : Nat → Int) (y : Int) : far n (fun k => l k + y) = dsum ((List.range n).map l) (-y) := by
  unfold far sumN dsum
  rw [List.map_map]
  exact congrArg List.sum (List.map_congr_left fun k _ => by show (l k + y).natAbs = (l k - -y).natAbs; omega)
theorem dif_bound (n : Nat) (f g : Nat → Bool) (h : (bl n f).length = (bl n g).length) (x : Nat) : -((bl n f).length : Int) ≤ dif n f g x ∧ dif n f g x ≤ (bl n f).length := by
  have := cnt_le (bl n f) x
  have := cnt_le (bl n g) x
  unfold dif
  omega
/-- the middle one makes the least way -/
theorem med_isD {n : Nat} {f g : Nat → Bool} (h : (bl n f).length = (bl n g).length) (hn : 0 < n) {ns : List Int} (pm : ns.Perm ((List.range n).map (dif n f g))) (sr : ns.Pairwise (· ≤ ·)) {m : Int} (hm : ns[n / 2]? = some m) :
    IsD n f g (far n fun k => dif n f g k + -m) ∧ (-((bl n f).length : Int) ≤ m ∧ m ≤ (bl n f).length) := by
  have hl : ns.length = n := by rw [pm.length_eq, List.length_map, List.length_range]
  refine ⟨⟨⟨_, dif_E h (-m), rfl⟩, fun l e => ?_⟩, ?_⟩
  · rw [far_congr (E_is e), far_dsum, far_dsum]
    have z := med_least pm sr (m := m) (by rw [hl]; exact hm) (-(l 0))
    rwa [Int.neg_neg]
  · obtain ⟨k, hk, e⟩ := List.mem_map.mp (pm.mem_iff.mp (List.mem_of_getElem? hm))
    rw [← e]
    exact dif_bound n f g h k
/-! ### the law's way -/
/-- the law's far: the breaks led t places on -/
def lgoal (n : Nat) (b : List Nat) (d : Nat) (s : Int) : Int := ((b.getD (s.fmod d).toNat 0 : Nat) : Int) + n * s.fdiv d
def lfar (n : Nat) (a b : List Nat) (t : Int) : Nat := sumN a.length fun i => (((a.getD i 0 : Nat) : Int) - lgoal n b a.length ((i : Int) + t)).natAbs
theorem lfar_is {n : Nat} {f g : Nat → Bool} (h : (bl n f).length = (bl n g).length) (hd : 0 < (bl n f).length) {t : Int} (h1 : -((bl n f).length : Int) ≤ t) (h2 : t ≤ (bl n f).length) :
    lfar n (bl n f) (bl n g) t = far n fun k => dif n f g k + t := by
  have z := far_is (bl_brk n f) (bl_brk n g) h.symm hd (T := (t + 2 * (bl n f).length).toNat) (by omega) (by omega)
  unfold lfar lgoal
  have e1 : far n (fun k => dif n f g k + t) = sumN n fun r => dst (cnt (bl n f) r + (t + 2 * (bl n f).length).toNat) (cnt (bl n g) r + 2 * (bl n f).length) := sumN_congr fun k hk => by
    show (dif n f g k + t).natAbs = _
    unfold dif dst
    omega
  rw [e1, ← z]
  refine sumN_congr fun i hi => ?_
  generalize hD : (bl n f).length = d at *
  have s1 : (i + 2 * d) % d = i := by rw [Nat.add_mul_mod_self_right, Nat.mod_eq_of_lt hi]
  have s2 : (i + 2 * d) / d = 2 := by rw [Nat.add_mul_div_right _ _ hd, Nat.div_eq_of_lt hi]
  have s3 : (((i + (t + 2 * d).toNat) % d : Nat) : Int) = ((i : Int) + t).fmod d := by
    rw [Int.fmod_eq_emod_of_nonneg _ (by omega), Int.natCast_emod, show ((i + (t + 2 * d).toNat : Nat) : Int) = (i : Int) + t + d * 2 by omega, Int.add_mul_emod_self_left]
  have s4 : (((i + (t + 2 * d).toNat) / d : Nat) : Int) = ((i : Int) + t).fdiv d + 2 := by
    rw [Int.fdiv_eq_ediv_of_nonneg _ (by omega), Int.natCast_ediv, show ((i + (t + 2 * d).toNat : Nat) : Int) = (i : Int) + t + d * 2 by omega, Int.add_mul_ediv_left _ _ (by omega)]
  unfold ext dst
  rw [hD, ← h, s1, s2]
  generalize (i + (t + 2 * d).toNat) % d = u at s3
  generalize (i + (t + 2 * d).toNat) / d = v at s4
  rw [← s3, Int.toNat_natCast]
  have e : ((i : Int) + t).fdiv d = (v : Int) - 2 := by omega
  rw [e, Int.mul_sub]
  generalize (bl n f).getD i 0 = x
  generalize (bl n g).getD u 0 = y
  have : (n : Int) * (v : Int) = ((n * v : Nat) : Int) := (Int.natCast_mul n v).symm
  rw [this]
  generalize n * v = w
  omega
end M30

/-! One call turned on, as the law does it; the law's search, layer by layer. -/
namespace M30
theorem bl_nodup (n : Nat) (f : Nat → Bool) : (bl n f).Nodup := by
  rw [List.nodup_iff_pairwise_ne]
  exact (bl_brk n f).up.imp fun h => by omega
theorem bl_at {n k : Nat} {f : Nat → Bool} (h : k < n) : k + 1 ∈ bl n f ↔ f k = true := by
  rw [mem_bl]
  constructor
  · rintro ⟨j, _, h2, e⟩
    rw [show k = j by omega]
    exact h2
  · exact fun z => ⟨k, h, z, rfl⟩
theorem bl_congr {n : Nat} {f g : Nat → Bool} (h : ∀ k, k < n → f k = g k) : bl n f = bl n g := by
  unfold bl
  rw [List.filter_congr fun x hx => h x (List.mem_range.mp hx)]
theorem bl_inj {n : Nat} {f g : Nat → Bool} (h : bl n f = bl n g) : ∀ k, k < n → f k = g k := fun k hk => by
  have a := bl_at (f := f) hk
  have b := bl_at (f := g) hk
  rw [h] at a
  have := a.symm.trans b
  cases h1 : f k <;> cases h2 : g k <;> rw [h1, h2] at this <;> first | rfl | exact absurd this (by decide)
theorem sorted_unique {a b : List Nat} (p : a.Perm b) (ha : a.Pairwise (· ≤ ·)) (hb : b.Pairwise (· ≤ ·)) : a = b := p.eq_of_pairwise (fun x y _ _ h1 h2 => Nat.le_antisymm h1 h2) ha hb
/-- one call turned on, told by the breaks -/
theorem bl_sw {n i : Nat} {f : Nat → Bool} (hi : i < n) (h2 : 2 ≤ n) (ne : f i ≠ f (pr n i)) {gone come : Nat} (hg : (gone, come) = if f i = true then (i + 1, pr n i + 1) else (pr n i + 1, i + 1)) :
    ((bl n f).filter (fun x => decide (x ≠ gone)) ++ [come]).Perm (bl n (sw n i f)) := by
  have hp := pr_lt hi
  have pn := pr_ne hi h2
  refine (List.perm_ext_iff_of_nodup ?_ (bl_nodup _ _)).mpr fun x => ?_
  · rw [List.nodup_append]
    refine ⟨(bl_nodup n f).filter _, (by simp), fun x hx y hy => ?_⟩
    have hx := (List.mem_filter.mp hx).1
    rw [List.mem_singleton.mp hy]
    intro e
    subst e
    cases z : f i with
    | true =>
      rw [if_pos z] at hg
      rw [(Prod.mk.inj hg).2] at hx
      have := (bl_at hp).mp hx
      rw [z, this] at ne
      exact ne rfl
    | false =>
      rw [if_neg (by rw [z]; decide)] at hg
      rw [(Prod.mk.inj hg).2] at hx
      have := (bl_at hi).mp hx
      rw [z] at this
      cases this
  · rw [List.mem_append, List.mem_filter, List.mem_singleton, mem_bl, mem_bl]
    constructor
    · rintro (⟨⟨k, hk, h1, rfl⟩, h3⟩ | rfl)
      · have h3 := of_decide_eq_true h3
        refine ⟨k, hk, ?_, rfl⟩
        unfold sw
        by_cases z : f i = true
        · rw [if_pos z] at hg
          have := (Prod.mk.inj hg).1
          rw [if_neg (by omega)]
          split
          · exact z
          · exact h1
        · rw [if_neg z] at hg
          have := (Prod.mk.inj hg).1
          have : k ≠ i := fun e => z (e ▸ h1)
          rw [if_neg this, if_neg (by omega)]
          exact h1
      · by_cases z : f i = true
        · rw [if_pos z] at hg
          refine ⟨pr n i, hp, ?_, (Prod.mk.inj hg).2⟩
          unfold sw
          rw [if_neg pn, if_pos rfl]
          exact z
        · rw [if_neg z] at hg
          refine ⟨i, hi, ?_, (Prod.mk.inj hg).2⟩
          unfold sw
          rw [if_pos rfl]
          cases q : f (pr n i) with
          | true => rfl
          | false =>
            rw [q] at ne
            exact absurd (by simpa using z) ne
    · rintro ⟨k, hk, h1, rfl⟩
      unfold sw at h1
      by_cases z : f i = true
      · rw [if_pos z] at hg
        obtain ⟨g1, g2⟩ := Prod.mk.inj hg
        have q : f (pr n i) = false := by
          cases q : f (pr n i) with
          | false => rfl
          | true => rw [z, q] at ne; exact absurd rfl ne
        by_cases c : k = i
        · rw [if_pos c, q] at h1
          cases h1
        · rw [if_neg c] at h1
          by_cases d : k = pr n i
          · exact .inr (by rw [g2, d])
          · rw [if_neg d] at h1
            exact .inl ⟨⟨k, hk, h1, rfl⟩, decide_eq_true (by omega)⟩
      · rw [if_neg z] at hg
        obtain ⟨g1, g2⟩ := Prod.mk.inj hg
        by_cases c : k = i
        · exact .inr (by rw [g2, c])
        · rw [if_neg c] at h1
          by_cases d : k = pr n i
          · rw [if_pos d] at h1
            exact absurd h1 z
          · rw [if_neg d] at h1
            exact .inl ⟨⟨k, hk, h1, rfl⟩, decide_eq_true (by omega)⟩
theorem bl_sw_len {n i : Nat} {f : Nat → Bool} (hi : i < n) (h2 : 2 ≤ n) : (bl n (sw n i f)).length = (bl n f).length := by
  by_cases ne : f i = f (pr n i)
  · refine congrArg List.length (bl_congr fun k hk => ?_)
    unfold sw
    split
    · rename_i c; rw [c, ne]
    · split
      · rename_i c; rw [c, ne]
      · rfl
  · have p := (bl_sw (gone := if f i = true then i + 1 else pr n i + 1) (come := if f i = true then pr n i + 1 else i + 1) hi h2 ne (by split <;> rfl)).length_eq
    rw [← p, List.length_append]
    have hm : (if f i = true then i + 1 else pr n i + 1) ∈ bl n f := by
      by_cases z : f i = true
      · rw [if_pos z]; exact (bl_at hi).mpr z
      · rw [if_neg z]
        refine (bl_at (pr_lt hi)).mpr ?_
        cases q : f (pr n i) with
        | true => rfl
        | false => rw [q] at ne; exact absurd (by simpa using z) ne
    generalize (if f i = true then i + 1 else pr n i + 1) = g at hm
    have e : (bl n f).filter (fun x => decide (x ≠ g)) = (bl n f).erase g := by
      rw [(bl_nodup n f).erase_eq_filter]
      exact List.filter_congr fun x _ => by by_cases c : x = g <;> simp [c]
    rw [e, List.length_erase_of_mem hm]
    have := List.length_pos_of_mem hm
    simp
    omega
/-! ### all marks -/
def subs : Nat → List (List Nat)
  | 0 => [[]]
  | n + 1 => subs n ++ (subs n).map (· ++ [n + 1])
theorem bl_subs (f : Nat → Bool) : ∀ n, bl n f ∈ subs n
  | 0 => by simp [subs, bl]
  | n + 1 => by
    rw [bl_succ]
    unfold subs
    rw [List.mem_append]
    split
    · exact .inr (List.mem_map.mpr ⟨_, bl_subs f n, rfl⟩)
    · rw [List.append_nil]
      exact .inl (bl_subs f n)
theorem subs_len : ∀ n, (subs n).length = 2 ^ n
  | 0 => rfl
  | n + 1 => by
    unfold subs
    rw [List.length_append, List.length_map, subs_len n, Nat.pow_succ]
    omega
theorem nodup_few {α : Type} [DecidableEq α] : ∀ {a b : List α}, a.Nodup → (∀ x ∈ a, x ∈ b) → a.length ≤ b.length
  | [], _, _, _ => Nat.zero_le _
  | x :: a, b, nd, h => by
    have nd := List.nodup_cons.mp nd
    have hx := h x List.mem_cons_self
    have ih := nodup_few (b := b.erase x) nd.2 fun y hy => by
      have : y ≠ x := fun z => nd.1 (z ▸ hy)
      exact (List.mem_erase_of_ne this).mpr (h y (List.mem_cons_of_mem _ hy))
    rw [List.length_erase_of_mem hx] at ih
    have := List.length_pos_of_mem hx
    rw [List.length_cons]
    omega
/-! ### the search -/
def Dk (n : Nat) (f g : Nat → Bool) (v : Nat) : Prop := IsD n f g v ∧ (bl n g).length = (bl n f).length
theorem IsD.congr {n : Nat} {f g h : Nat → Bool} {v : Nat} (a : IsD n f g v) (e : ∀ k, k < n → g k = h k) : IsD n f h v := by
  obtain ⟨⟨l, e1, h1⟩, m⟩ := a
  refine ⟨⟨l, fun k hk => by rw [← e k hk]; exact e1 k hk, h1⟩, fun l2 e2 => m l2 fun k hk => by rw [e k hk]; exact e2 k hk⟩
theorem Dk.same {n : Nat} {f g h : Nat → Bool} {v w : Nat} (a : Dk n f g v) (b : Dk n f h w) (e : bl n g = bl n h) : v = w := (a.1.congr (bl_inj e)).one b.1
theorem Dk.sw {n i : Nat} {f g : Nat → Bool} {v : Nat} (a : Dk n f g v) (hi : i < n) (h2 : 2 ≤ n) : ∃ w, Dk n f (sw n i g) w ∧ w ≤ v + 1 := by
  have hl := a.2
  have hl2 := (bl_sw_len (f := g) hi h2).trans hl
  obtain ⟨w, hw⟩ := isD_of (dif_E hl2.symm 0)
  exact ⟨w, ⟨hw, hl2⟩, IsD.near a.1 hw hi h2⟩
theorem Dk.bound {n : Nat} {f g : Nat → Bool} {v : Nat} (a : Dk n f g v) : v ≤ n * n := by
  have h := a.1.2 _ (dif_E a.2.symm 0)
  refine Nat.le_trans h ?_
  have key : ∀ m, m ≤ n → sumN m (fun k => (dif n f g k + 0).natAbs) ≤ m * n := by
    intro m
    induction m with
    | zero => intro _; exact Nat.zero_le _
    | succ m ih =>
      intro hm
      rw [sumN_succ, Nat.succ_mul]
      have := ih (by omega)
      have b := dif_bound n f g a.2.symm m
      have c : (bl n f).length ≤ n := by
        unfold bl
        rw [List.length_map]
        exact Nat.le_trans (List.length_filter_le _ _) (by rw [List.length_range]; exact Nat.le_refl _)
      omega
  exact key n (Nat.le_refl n)
theorem some_false {n : Nat} {g : Nat → Bool} (h : (bl n g).length < n) : ∃ k, k < n ∧ g k = false := by
  refine Decidable.byContradiction fun z => ?_
  have : bl n g = bl n fun _ => true := bl_congr fun k hk => by
    cases q : g k with
    | true => rfl
    | false => exact absurd ⟨k, hk, q⟩ z
  rw [this] at h
  unfold bl at h
  rw [List.filter_eq_self.mpr fun _ _ => rfl, List.length_map, List.length_range] at h
  omega
theorem some_true {n : Nat} {g : Nat → Bool} (h : 0 < (bl n g).length) : ∃ k, k < n ∧ g k = true := by
  obtain ⟨x, hx⟩ := List.exists_mem_of_length_pos h
  obtain ⟨k, h1, h2, _⟩ := mem_bl.mp hx
  exact ⟨k, h1, h2⟩
theorem Dk.nearer {n : Nat} {f g : Nat → Bool} {v : Nat} (a : Dk n f g (v + 1)) (h2 : 2 ≤ n) (hd : 0 < (bl n f).length) (hd2 : (bl n f).length < n) : ∃ i, i < n ∧ g i ≠ g (pr n i) ∧ Dk n f (M30.sw n i g) v := by
  obtain ⟨i, hi, ne, h⟩ := a.1.nearer h2 (some_true (by rw [a.2]; exact hd)) (some_false (by rw [a.2]; exact hd2))
  exact ⟨i, hi, ne, h, (bl_sw_len hi h2).trans a.2⟩
structure Jw (n : Nat) (f : Nat → Bool) (k : Nat) (F : List Nat → Option Nat) (L : List (List Nat)) : Prop where
  a : ∀ x v, F x = some v → ∃ g, x = bl n g ∧ Dk n f g v ∧ v ≤ k
  b : ∀ g v, Dk n f g v → v ≤ k → F (bl n g) = some v
  c : ∀ x, x ∈ L ↔ ∃ g, x = bl n g ∧ Dk n f g k
structure Jp (n : Nat) (f : Nat → Bool) (k : Nat) (F : List Nat → Option Nat) (L W : List (List Nat)) (i u : Nat) : Prop where
  a : ∀ x v, F x = some v → ∃ g, x = bl n g ∧ Dk n f g v ∧ v ≤ k + 1
  b : ∀ g v, Dk n f g v → v ≤ k → F (bl n g) = some v
  c : ∀ x, x ∈ W ↔ F x = some (k + 1)
  d : ∀ g j q, L[q]? = some (bl n g) → j < n → (q < i ∨ q = i ∧ j < u) → g j ≠ g (pr n j) → ∃ v, F (bl n (sw n j g)) = some v
def putF (F : List Nat → Option Nat) (x : List Nat) (v : Nat) : List Nat → Option Nat := fun y => if y = x then some v else F y
theorem Jw.start (n : Nat) (f : Nat → Bool) : Jw n f 0 (putF (fun _ => none) (bl n f) 0) [bl n f] := by
  have d0 : Dk n f f 0 := ⟨IsD.self n f, rfl⟩
  refine ⟨fun x v h => ?_, fun g v h hv => ?_, fun x => ?_⟩
  · unfold putF at h
    by_cases c : x = bl n f
    · rw [if_pos c] at h
      cases h
      exact ⟨f, c, d0, Nat.le_refl 0⟩
    · rw [if_neg c] at h
      cases h
  · have v0 : v = 0 := by omega
    subst v0
    unfold putF
    rw [if_pos (bl_congr fun k hk => (h.1.zero k hk).symm)]
  · rw [List.mem_singleton]
    constructor
    · exact fun e => ⟨f, e, d0⟩
    · rintro ⟨g, rfl, h⟩
      exact bl_congr fun k hk => (h.1.zero k hk).symm
theorem Jw.go {n : Nat} {f : Nat → Bool} {k : Nat} {F : List Nat → Option Nat} {L : List (List Nat)} (J : Jw n f k F L) : Jp n f k F L [] 0 0 := by
  refine ⟨fun x v h => ?_, J.b, fun x => ?_, fun g j q _ _ h => by omega⟩
  · obtain ⟨g, h1, h2, h3⟩ := J.a x v h
    exact ⟨g, h1, h2, by omega⟩
  · constructor
    · intro z; cases z
    · intro z
      obtain ⟨g, _, _, h⟩ := J.a x _ z
      omega
theorem Jp.skip {n : Nat} {f : Nat → Bool} {k : Nat} {F : List Nat → Option Nat} {L W : List (List Nat)} {i c : Nat} (J : Jp n f k F L W i c) {g : Nat → Bool} (hL : L[i]? = some (bl n g)) (hc : c < n) (h : g c = g (pr n c)) : Jp n f k F L W i (c + 1) := by
  refine ⟨J.a, J.b, J.c, fun g2 j q h1 h2 h3 h4 => ?_⟩
  by_cases z : q = i ∧ j = c
  · obtain ⟨rfl, rfl⟩ := z
    rw [hL] at h1
    have e := bl_inj (Option.some.inj h1)
    rw [← e _ h2, ← e _ (pr_lt h2)] at h4
    exact absurd h h4
  · exact J.d g2 j q h1 h2 (by omega) h4
theorem Jp.known {n : Nat} {f : Nat → Bool} {k : Nat} {F : List Nat → Option Nat} {L W : List (List Nat)} {i c : Nat} (J : Jp n f k F L W i c) {g : Nat → Bool} (hL : L[i]? = some (bl n g)) (hc : c < n) {v : Nat} (h : F (bl n (sw n c g)) = some v) : Jp n f k F L W i (c + 1) := by
  refine ⟨J.a, J.b, J.c, fun g2 j q h1 h2 h3 h4 => ?_⟩
  by_cases z : q = i ∧ j = c
  · obtain ⟨rfl, rfl⟩ := z
    rw [hL] at h1
    have e := bl_inj (Option.some.inj h1)
    refine ⟨v, ?_⟩
    rw [← h]
    refine congrArg F (bl_congr fun m hm => ?_)
    unfold sw
    rw [e _ h2, e _ (pr_lt h2), e m hm]
  · exact J.d g2 j q h1 h2 (by omega) h4
theorem Jp.put {n : Nat} {f : Nat → Bool} {k : Nat} {F : List Nat → Option Nat} {L W : List (List Nat)} {i c : Nat} (J : Jp n f k F L W i c) {g : Nat → Bool} (hL : L[i]? = some (bl n g)) (hc : c < n) (h2 : 2 ≤ n) (hg : Dk n f g k) (h : F (bl n (sw n c g)) = none) :
    Jp n f k (putF F (bl n (sw n c g)) (k + 1)) L (W ++ [bl n (sw n c g)]) i (c + 1) := by
  obtain ⟨w, hw, hwk⟩ := hg.sw hc h2
  have ew : w = k + 1 := by
    refine Decidable.byContradiction fun z => ?_
    rw [J.b _ _ hw (by omega)] at h
    cases h
  subst ew
  refine ⟨fun x v hx => ?_, fun g2 v h3 h4 => ?_, fun x => ?_, fun g2 j q h1 h3 h5 h4 => ?_⟩
  · unfold putF at hx
    by_cases c0 : x = bl n (sw n c g)
    · rw [if_pos c0] at hx
      cases hx
      exact ⟨_, c0, hw, Nat.le_refl _⟩
    · rw [if_neg c0] at hx
      exact J.a x v hx
  · unfold putF
    rw [if_neg (fun z => by rw [← z, J.b _ _ h3 h4] at h; cases h)]
    exact J.b _ _ h3 h4
  · unfold putF
    rw [List.mem_append, List.mem_singleton, J.c]
    by_cases c0 : x = bl n (sw n c g)
    · rw [if_pos c0]
      exact ⟨fun _ => rfl, fun _ => .inr c0⟩
    · rw [if_neg c0]
      exact ⟨fun z => z.resolve_right c0, fun z => .inl z⟩
  · have up : ∀ x v, F x = some v → ∃ v, putF F (bl n (sw n c g)) (k + 1) x = some v := fun x v hx => by
      unfold putF
      by_cases c0 : x = bl n (sw n c g)
      · rw [if_pos c0]; exact ⟨_, rfl⟩
      · rw [if_neg c0]; exact ⟨v, hx⟩
    by_cases z : q = i ∧ j = c
    · obtain ⟨rfl, rfl⟩ := z
      rw [hL] at h1
      have e := bl_inj (Option.some.inj h1)
      refine ⟨k + 1, ?_⟩
      unfold putF
      rw [if_pos]
      refine bl_congr fun m hm => ?_
      unfold sw
      rw [e _ h3, e _ (pr_lt h3), e m hm]
    · obtain ⟨v, hv⟩ := J.d g2 j q h1 h3 (by omega) h4
      exact up _ _ hv
theorem Jp.row {n : Nat} {f : Nat → Bool} {k : Nat} {F : List Nat → Option Nat} {L W : List (List Nat)} {i : Nat} (J : Jp n f k F L W i n) : Jp n f k F L W (i + 1) 0 :=
  ⟨J.a, J.b, J.c, fun g j q h1 h2 h3 h4 => J.d g j q h1 h2 (by omega) h4⟩
theorem Jp.close {n : Nat} {f : Nat → Bool} {k : Nat} {F : List Nat → Option Nat} {L W : List (List Nat)} (J : Jp n f k F L W L.length 0) (hL : ∀ x, x ∈ L ↔ ∃ g, x = bl n g ∧ Dk n f g k) (h2 : 2 ≤ n) (hd : 0 < (bl n f).length) (hd2 : (bl n f).length < n) : Jw n f (k + 1) F W := by
  have b : ∀ g v, Dk n f g v → v ≤ k + 1 → F (bl n g) = some v := fun g v h hv => by
    by_cases c : v ≤ k
    · exact J.b g v h c
    · have e : v = k + 1 := by omega
      subst e
      obtain ⟨i, hi, ne, hn⟩ := h.nearer h2 hd hd2
      obtain ⟨q, hq, e⟩ := List.getElem_of_mem ((hL _).mpr ⟨_, rfl, hn⟩)
      have ne2 : sw n i g i ≠ sw n i g (pr n i) := by
        unfold sw
        rw [if_pos rfl, if_neg (pr_ne hi h2), if_pos rfl]
        exact fun z => ne z.symm
      obtain ⟨v, hv⟩ := J.d (sw n i g) i q (by rw [List.getElem?_eq_getElem hq, e]) hi (.inl hq) ne2
      rw [sw_sw hi h2] at hv
      obtain ⟨g2, e2, d2, _⟩ := J.a _ _ hv
      rw [hv, d2.same h e2.symm]
  refine ⟨J.a, b, fun x => ?_⟩
  rw [J.c]
  constructor
  · intro z
    obtain ⟨g, e, h, _⟩ := J.a x _ z
    exact ⟨g, e, h⟩
  · rintro ⟨g, rfl, h⟩
    exact b g _ h (Nat.le_refl _)
theorem Jw.done {n : Nat} {f : Nat → Bool} {k : Nat} {F : List Nat → Option Nat} (J : Jw n f k F []) (h2 : 2 ≤ n) (hd : 0 < (bl n f).length) (hd2 : (bl n f).length < n) {g : Nat → Bool} {v : Nat} (h : Dk n f g v) : F (bl n g) = some v := by
  have key : ∀ m g, Dk n f g (k + m) → False := by
    intro m
    induction m with
    | zero =>
      intro g h
      have := (J.c (bl n g)).mpr ⟨g, rfl, h⟩
      cases this
    | succ m ih =>
      intro g h
      obtain ⟨i, _, _, hn⟩ := Dk.nearer (v := k + m) h h2 hd hd2
      exact ih _ hn
  refine J.b g v h (Decidable.byContradiction fun z => ?_)
  refine key (v - k) g ?_
  rw [show k + (v - k) = v by omega]
  exact h
theorem Jw.few {n : Nat} {f : Nat → Bool} {k : Nat} {F : List Nat → Option Nat} {L : List (List Nat)} (J : Jw n f k F L) (h : L ≠ []) : k ≤ n * n := by
  cases L with
  | nil => exact absurd rfl h
  | cons x L =>
    obtain ⟨g, _, h⟩ := (J.c x).mp List.mem_cons_self
    exact h.bound
end M30

/-! Turning on does to a round what calling does: the call made before and after. -/
namespace M30
section
variable {ι S : Type} [DecidableEq ι] {act : ι → S → S} {R : ι → ι → Prop}
def go (act : ι → S → S) (o : List ι) (s : S) : S := o.foldl (fun s i => act i s) s
theorem go_append (a b : List ι) (s : S) : go act (a ++ b) s = go act b (go act a s) := List.foldl_append
theorem go_past (l : List ι) (a : ι) (h : ∀ x ∈ l, ∀ s, act a (act x s) = act x (act a s)) : ∀ s, act a (go act l s) = go act l (act a s) := by
  induction l with
  | nil => exact fun _ => rfl
  | cons x l ih =>
    intro s
    show act a (go act l (act x s)) = go act l (act x (act a s))
    rw [ih (fun y hy => h y (List.mem_cons_of_mem _ hy)), h x List.mem_cons_self]
/-- orders that agree on all pairs that do not commute lead to the same -/
theorem go_same (comm : ∀ a b, ¬ R a b → ∀ s, act a (act b s) = act b (act a s)) (sym : ∀ a b, R a b → R b a) : ∀ {o1 o2 : List ι}, o1.Perm o2 → o1.Nodup → (∀ a b, R a b → ([a, b].Sublist o1 ↔ [a, b].Sublist o2)) → ∀ s, go act o1 s = go act o2 s
  | [], o2, pm, _, _, s => by rw [List.nil_perm.mp pm]
  | a :: t, o2, pm, nd, h, s => by
    have nd1 := List.nodup_cons.mp nd
    obtain ⟨l, r, rfl⟩ := List.append_of_mem (pm.mem_iff.mp List.mem_cons_self)
    have nd2 : (l ++ a :: r).Nodup := pm.nodup_iff.mp nd
    have nd3 := List.nodup_append.mp nd2
    have al : a ∉ l := fun z => nd3.2.2 a z a List.mem_cons_self rfl
    have ar : a ∉ r := (List.nodup_cons.mp nd3.2.1).1
    have pm2 : t.Perm (l ++ r) := (pm.trans List.perm_middle).cons_inv
    have free : ∀ x ∈ l, ¬ R a x := by
      intro x hx hr
      have s1 : [x, a].Sublist (l ++ a :: r) := List.Sublist.append (l₁ := [x]) (List.singleton_sublist.mpr hx) (List.singleton_sublist.mpr List.mem_cons_self)
      have s2 := (h x a (sym a x hr)).mpr s1
      have xa : x ≠ a := fun e => al (e ▸ hx)
      cases s2 with
      | cons _ q => exact nd1.1 (q.subset (by simp))
      | cons_cons _ q => exact xa rfl
    have e1 : go act (l ++ a :: r) s = go act (l ++ r) (act a s) := by
      rw [go_append, go_append]
      show go act r (act a (go act l s)) = _
      rw [go_past l a fun x hx => comm a x (free x hx)]
    rw [e1]
    refine go_same comm sym pm2 nd1.2 (fun x y hr => ?_) (act a s)
    have back : ∀ {x y : ι}, x ≠ a → y ≠ a → ([x, y].Sublist (l ++ a :: r) ↔ [x, y].Sublist (l ++ r)) := by
      intro x y hx hy
      constructor
      · intro q
        have z := q.filter fun u => decide (u ≠ a)
        have f : ∀ m : List ι, a ∉ m → m.filter (fun u => decide (u ≠ a)) = m := fun m hm => List.filter_eq_self.mpr fun u hu => decide_eq_true fun e => hm (e ▸ hu)
        have fa : (a :: r).filter (fun u => decide (u ≠ a)) = r := by
          rw [List.filter_cons, if_neg (by simp)]
          exact f r ar
        rw [List.filter_append, fa, f l al, f [x, y] (by simp [hx.symm, hy.symm])] at z
        exact z
      · exact fun q => q.trans (List.Sublist.append (List.Sublist.refl l) (List.sublist_cons_self a r))
    constructor
    · intro q
      have hx : x ≠ a := fun e => nd1.1 (e ▸ q.subset (by simp))
      have hy : y ≠ a := fun e => nd1.1 (e ▸ q.subset (by simp))
      exact (back hx hy).mp ((h x y hr).mp (q.cons a))
    · intro q
      have m : ∀ u ∈ [x, y], u ≠ a := fun u hu e => (List.mem_append.mp (q.subset hu)).elim (fun z => al (e ▸ z)) fun z => ar (e ▸ z)
      have hx := m x (by simp)
      have hy := m y (by simp)
      have z := (h x y hr).mpr ((back hx hy).mpr q)
      cases z with
      | cons _ z => exact z
      | cons_cons _ z => exact absurd rfl hx
end

/-! ### who stands ahead -/
theorem sub_idx {o : List Int} : o.Nodup → ∀ {a b : Int}, a ∈ o → b ∈ o → ([a, b].Sublist o ↔ o.idxOf a < o.idxOf b) := by
  induction o with
  | nil => intro _ a b h; cases h
  | cons x o ih =>
    intro nd a b ha hb
    have nd := List.nodup_cons.mp nd
    rw [List.idxOf_cons, List.idxOf_cons]
    by_cases c : x = a
    · subst c
      by_cases d : x = b
      · subst d
        simp only [beq_self_eq_true, cond_true, Nat.lt_irrefl, iff_false]
        intro z
        cases z with
        | cons _ z => exact nd.1 (z.subset (by simp))
        | cons_cons _ z => exact nd.1 (z.subset (by simp))
      · rw [beq_self_eq_true, beq_eq_false_iff_ne.mpr d]
        refine ⟨fun _ => Nat.succ_pos _, fun _ => ?_⟩
        have hb : b ∈ o := (List.mem_cons.mp hb).resolve_left fun z => d z.symm
        exact (List.singleton_sublist.mpr hb).cons_cons x
    · have ha : a ∈ o := (List.mem_cons.mp ha).resolve_left fun z => c z.symm
      rw [beq_eq_false_iff_ne.mpr c]
      by_cases d : x = b
      · subst d
        rw [beq_self_eq_true]
        refine ⟨fun z => ?_, fun z => absurd z (Nat.not_lt_zero _)⟩
        cases z with
        | cons _ z => exact absurd (z.subset (by simp)) nd.1
        | cons_cons _ z => exact absurd rfl c
      · have hb : b ∈ o := (List.mem_cons.mp hb).resolve_left fun z => d z.symm
        rw [beq_eq_false_iff_ne.mpr d]
        show _ ↔ o.idxOf a + 1 < o.idxOf b + 1
        rw [Nat.add_lt_add_iff_right, ← ih nd.2 ha hb]
        constructor
        · intro z
          cases z with
          | cons _ z => exact z
          | cons_cons _ z => exact absurd rfl c
        · exact fun z => z.cons x
/-- the breaks of an order -/
def mk (n : Nat) (o : List Int) (k : Nat) : Bool := decide (o.idxOf ((nx n k + 1 : Nat) : Int) < o.idxOf ((k + 1 : Nat) : Int))
theorem stn_mem {n : Nat} {o : List Int} (O : MR.Stn n o) {k : Nat} (h : k < n) : ((k + 1 : Nat) : Int) ∈ o := by
  have z := O.row.all (i := ((k + 1 : Nat) : Int)) (by omega) (by omega)
  exact (List.mem_cons.mp z).resolve_left (by omega)
theorem mk_sub {n : Nat} {o : List Int} (O : MR.Stn n o) {k : Nat} (h : k < n) : mk n o k = true ↔ [((nx n k + 1 : Nat) : Int), ((k + 1 : Nat) : Int)].Sublist o := by
  unfold mk
  rw [decide_eq_true_iff, sub_idx O.nd (stn_mem O (nx_lt h)) (stn_mem O h)]
theorem idx_ne {o : List Int} (nd : o.Nodup) {a b : Int} (ha : a ∈ o) (hb : b ∈ o) (ne : a ≠ b) : o.idxOf a ≠ o.idxOf b := fun z => by
  have h1 := List.getElem_idxOf (List.idxOf_lt_length_of_mem ha)
  have h2 := List.getElem_idxOf (List.idxOf_lt_length_of_mem hb)
  simp only [z] at h1
  exact ne (h1.symm.trans h2)
theorem nx_ne {n k : Nat} (h : k < n) (h2 : 2 ≤ n) : nx n k ≠ k := by
  rw [nx_eq h]; split <;> omega
theorem mk_sub2 {n : Nat} {o : List Int} (O : MR.Stn n o) {k : Nat} (h : k < n) (h2 : 2 ≤ n) : mk n o k = false ↔ [((k + 1 : Nat) : Int), ((nx n k + 1 : Nat) : Int)].Sublist o := by
  unfold mk
  have := nx_ne h h2
  have := idx_ne O.nd (stn_mem O h) (stn_mem O (nx_lt h)) (by omega)
  rw [decide_eq_false_iff_not, sub_idx O.nd (stn_mem O h) (stn_mem O (nx_lt h))]
  omega
theorem nxt_nat {n k : Nat} (h : k < n) : MR.nxt n ((k + 1 : Nat) : Int) = ((nx n k + 1 : Nat) : Int) := by
  unfold MR.nxt nx
  rw [← Int.natCast_emod]
  rfl
def act (td : Int → Int → Bool) (n : Nat) (c : Int) (s : List Int) : List Int := MR.stepP td s (c, MR.nxt n c)
theorem run_go (td : Int → Int → Bool) (n : Nat) (o : List Int) (s : List Int) : MR.runP td s (MR.pairsF n o) = go (act td n) o s := by
  unfold MR.runP MR.pairsF go
  rw [List.foldl_map]
  rfl
theorem step_comm (td : Int → Int → Bool) (s : List Int) {a b c d : Int} (h1 : a.toNat ≠ c.toNat) (h2 : a.toNat ≠ d.toNat) (h3 : b.toNat ≠ c.toNat) (h4 : b.toNat ≠ d.toNat) :
    MR.stepP td (MR.stepP td s (c, d)) (a, b) = MR.stepP td (MR.stepP td s (a, b)) (c, d) := by
  have g : ∀ (x y p : Int) (u v : Int) (s : List Int), p.toNat ≠ x.toNat → p.toNat ≠ y.toNat → MR.g0 ((s.set x.toNat u).set y.toNat v) p = MR.g0 s p := fun x y p u v s e1 e2 => by
    unfold MR.g0
    rw [List.getD_eq_getElem?_getD, List.getD_eq_getElem?_getD, List.getElem?_set_ne e2.symm, List.getElem?_set_ne e1.symm]
  unfold MR.stepP
  dsimp only
  by_cases p : td (MR.g0 s c) (MR.g0 s d) = true
  · rw [if_pos p]
    by_cases q : td (MR.g0 s a) (MR.g0 s b) = true
    · rw [if_pos q, if_pos p]
    · rw [if_neg q, g _ _ _ _ _ _ h1.symm h3.symm, g _ _ _ _ _ _ h2.symm h4.symm, if_pos p]
  · rw [if_neg p, g _ _ _ _ _ _ h1 h2, g _ _ _ _ _ _ h3 h4]
    by_cases q : td (MR.g0 s a) (MR.g0 s b) = true
    · rw [if_pos q, if_pos q, if_neg p]
    · rw [if_neg q, if_neg q, g _ _ _ _ _ _ h1.symm h3.symm, g _ _ _ _ _ _ h2.symm h4.symm, if_neg p]
      rw [List.set_comm _ _ h2.symm, List.set_comm _ _ h1.symm, List.set_comm _ _ h4.symm, List.set_comm _ _ h3.symm]
theorem in_nat {n : Nat} {a : Int} (h1 : 1 ≤ a) (h2 : a ≤ n) : ∃ k, k < n ∧ a = ((k + 1 : Nat) : Int) := ⟨a.toNat - 1, by omega, by omega⟩
theorem nx_inj {n i j : Nat} (hi : i < n) (hj : j < n) (h : nx n i = nx n j) : i = j := by rw [← pr_nx hi, h, pr_nx hj]
/-- orders with the same breaks make the same round -/
theorem alike_same {td : Int → Int → Bool} {n : Nat} {o1 o2 : List Int} (O1 : MR.Stn n o1) (O2 : MR.Stn n o2) (h2 : 2 ≤ n) (h : ∀ k, k < n → mk n o1 k = mk n o2 k) (s : List Int) : MR.runP td s (MR.pairsF n o1) = MR.runP td s (MR.pairsF n o2) := by
  rw [run_go, run_go]
  refine go_same (R := fun a b => ¬ ((1 ≤ a ∧ a ≤ (n : Int)) ∧ (1 ≤ b ∧ b ≤ (n : Int)) ∧ a ≠ b ∧ MR.nxt n a ≠ b ∧ MR.nxt n b ≠ a)) (fun a b nr s => ?_) (fun a b r z => r ⟨z.2.1, z.1, fun e => z.2.2.1 e.symm, z.2.2.2.2, z.2.2.2.1⟩) ?_ O1.nd (fun a b r => ?_) s
  · obtain ⟨ha, hb, ne, e1, e2⟩ := Decidable.not_not.mp nr
    obtain ⟨i, hi, rfl⟩ := in_nat ha.1 ha.2
    obtain ⟨j, hj, rfl⟩ := in_nat hb.1 hb.2
    unfold act
    rw [nxt_nat hi] at e1 ⊢
    rw [nxt_nat hj] at e2 ⊢
    have : nx n i ≠ nx n j := fun z => ne (by rw [nx_inj hi hj z])
    exact step_comm td s (by omega) (by omega) (by omega) (by omega)
  · refine (List.perm_ext_iff_of_nodup O1.nd O2.nd).mpr fun x => ?_
    constructor
    · intro hx
      obtain ⟨k, hk, rfl⟩ := in_nat (O1.lo x hx).1 (O1.lo x hx).2
      exact stn_mem O2 hk
    · intro hx
      obtain ⟨k, hk, rfl⟩ := in_nat (O2.lo x hx).1 (O2.lo x hx).2
      exact stn_mem O1 hk
  · have out : ∀ {o : List Int}, MR.Stn n o → [a, b].Sublist o → (1 ≤ a ∧ a ≤ (n : Int)) ∧ (1 ≤ b ∧ b ≤ (n : Int)) ∧ a ≠ b := fun {o} O z => by
      refine ⟨O.lo a (z.subset (by simp)), O.lo b (z.subset (by simp)), fun e => ?_⟩
      have y := z.nodup O.nd
      rw [e] at y
      simp at y
    by_cases c : (1 ≤ a ∧ a ≤ (n : Int)) ∧ (1 ≤ b ∧ b ≤ (n : Int)) ∧ a ≠ b
    · obtain ⟨ha, hb, ne⟩ := c
      obtain ⟨i, hi, rfl⟩ := in_nat ha.1 ha.2
      obtain ⟨j, hj, rfl⟩ := in_nat hb.1 hb.2
      rw [nxt_nat hi, nxt_nat hj] at r
      by_cases e1 : nx n i = j
      · subst e1
        rw [← mk_sub2 O1 hi h2, ← mk_sub2 O2 hi h2, h i hi]
      · by_cases e2 : nx n j = i
        · subst e2
          rw [← mk_sub O1 hj, ← mk_sub O2 hj, h j hj]
        · exact absurd ⟨ha, hb, ne, by omega, by omega⟩ r
    · exact ⟨fun z => absurd (out O1 z) c, fun z => absurd (out O2 z) c⟩
/-! ### one call turned on -/
theorem sub_first {c : Int} {r : List Int} (hc : c ∉ r) {x : Int} : [c, x].Sublist (c :: r) ↔ x ∈ r := by
  constructor
  · intro z
    cases z with
    | cons _ z => exact absurd (z.subset (by simp)) hc
    | cons_cons _ z => exact List.singleton_sublist.mp z
  · exact fun z => (List.singleton_sublist.mpr z).cons_cons c
theorem sub_rest {c : Int} {r : List Int} {a b : Int} (h : a ≠ c) : [a, b].Sublist (c :: r) ↔ [a, b].Sublist r := by
  constructor
  · intro z
    cases z with
    | cons _ z => exact z
    | cons_cons _ z => exact absurd rfl h
  · exact fun z => z.cons c
theorem sub_del {c : Int} {l r : List Int} (hl : c ∉ l) (hr : c ∉ r) {x y : Int} (hx : x ≠ c) (hy : y ≠ c) : [x, y].Sublist (l ++ c :: r) ↔ [x, y].Sublist (l ++ r) := by
  constructor
  · intro q
    have z := q.filter fun u => decide (u ≠ c)
    have f : ∀ m : List Int, c ∉ m → m.filter (fun u => decide (u ≠ c)) = m := fun m hm => List.filter_eq_self.mpr fun u hu => decide_eq_true fun e => hm (e ▸ hu)
    have fa : (c :: r).filter (fun u => decide (u ≠ c)) = r := by
      rw [List.filter_cons, if_neg (by simp)]
      exact f r hr
    rw [List.filter_append, fa, f l hl, f [x, y] (by simp [hx.symm, hy.symm])] at z
    exact z
  · exact fun q => q.trans (List.Sublist.append (List.Sublist.refl l) (List.sublist_cons_self c r))
theorem turn_one {td : Int → Int → Bool} (sym : ∀ a b, td a b = td b a) {n i : Nat} {o : List Int} (O : MR.Stn n o) (h3 : 3 ≤ n) (hi : i < n) (ne : mk n o i ≠ mk n o (pr n i)) :
    ∃ o', MR.Stn n o' ∧ (∀ k, k < n → mk n o' k = sw n i (mk n o) k) ∧ ∀ s, MR.Plc n s → MR.runP td s (MR.pairsF n o) = MR.runP td s (MR.pairsF n (((i + 1 : Nat) : Int) :: (o' ++ [((i + 1 : Nat) : Int)]))) := by
  have h2 : 2 ≤ n := by omega
  have hp := pr_lt hi
  have pn := pr_ne hi h2
  have nn := nx_ne hi h2
  have hnx := nx_lt hi
  obtain ⟨c, hc⟩ : ∃ c : Int, c = ((i + 1 : Nat) : Int) := ⟨_, rfl⟩
  have hcm : c ∈ o := by rw [hc]; exact stn_mem O hi
  rw [← hc]
  obtain ⟨l, r, rfl⟩ := List.append_of_mem hcm
  have nd3 := List.nodup_append.mp O.nd
  have cl : c ∉ l := fun z => nd3.2.2 c z c List.mem_cons_self rfl
  have cr : c ∉ r := (List.nodup_cons.mp nd3.2.1).1
  have clr : c ∉ l ++ r := fun z => (List.mem_append.mp z).elim cl cr
  have pf : (c :: (l ++ r)).Perm (l ++ c :: r) := List.perm_middle.symm
  have pb : ((l ++ r) ++ [c]).Perm (l ++ c :: r) := (List.perm_append_singleton c (l ++ r)).trans pf
  have OF : MR.Stn n (c :: (l ++ r)) := ⟨by rw [pf.length_eq, O.len], fun x hx => O.lo x (pf.mem_iff.mp hx), pf.nodup_iff.mpr O.nd⟩
  have OB : MR.Stn n ((l ++ r) ++ [c]) := ⟨by rw [pb.length_eq, O.len], fun x hx => O.lo x (pb.mem_iff.mp hx), pb.nodup_iff.mpr O.nd⟩
  have mem : ∀ k, k < n → k ≠ i → ((k + 1 : Nat) : Int) ∈ l ++ r := fun k hk hki => by
    have z := stn_mem OF hk
    exact (List.mem_cons.mp z).resolve_left (by omega)
  -- c first
  have F0 : mk n (c :: (l ++ r)) i = false := by
    rw [mk_sub2 OF hi h2, ← hc, sub_first clr]
    exact mem _ hnx nn
  have F1 : mk n (c :: (l ++ r)) (pr n i) = true := by
    rw [mk_sub OF hp, nx_pr hi, ← hc, sub_first clr]
    exact mem _ hp pn
  have B1 : mk n ((l ++ r) ++ [c]) i = true := by
    rw [mk_sub OB hi, ← hc]
    exact List.Sublist.append (List.singleton_sublist.mpr (mem _ hnx nn)) (List.Sublist.refl [c])
  have B0 : mk n ((l ++ r) ++ [c]) (pr n i) = false := by
    rw [mk_sub2 OB hp h2, nx_pr hi, ← hc]
    exact List.Sublist.append (List.singleton_sublist.mpr (mem _ hp pn)) (List.Sublist.refl [c])
  have FX : ∀ k, k < n → k ≠ i → k ≠ pr n i → mk n (c :: (l ++ r)) k = mk n (l ++ c :: r) k := fun k hk h1 h2' => by
    have e1 : nx n k ≠ i := fun z => h2' (by rw [← z, pr_nx hk])
    have q : mk n (c :: (l ++ r)) k = true ↔ mk n (l ++ c :: r) k = true := by
      rw [mk_sub OF hk, mk_sub O hk, sub_rest (by omega), sub_del cl cr (by omega) (by omega)]
    cases x : mk n (c :: (l ++ r)) k <;> cases y : mk n (l ++ c :: r) k <;> rw [x, y] at q <;> first | rfl | exact absurd q (by decide)
  have BX : ∀ k, k < n → k ≠ i → k ≠ pr n i → mk n ((l ++ r) ++ [c]) k = mk n (l ++ c :: r) k := fun k hk h1 h2' => by
    have e1 : nx n k ≠ i := fun z => h2' (by rw [← z, pr_nx hk])
    have q : mk n ((l ++ r) ++ [c]) k = true ↔ mk n (l ++ c :: r) k = true := by
      rw [mk_sub OB hk, mk_sub O hk, sub_del cl cr (by omega) (by omega)]
      have z := sub_del (c := c) (l := l ++ r) (r := []) clr (by simp) (x := ((nx n k + 1 : Nat) : Int)) (y := ((k + 1 : Nat) : Int)) (by omega) (by omega)
      rw [z, List.append_nil]
    cases x : mk n ((l ++ r) ++ [c]) k <;> cases y : mk n (l ++ c :: r) k <;> rw [x, y] at q <;> first | rfl | exact absurd q (by decide)
  have hcok : MR.CallOk n (c, MR.nxt n c) := MR.pairs_ok (n := n) (by omega) (cs := [c]) (fun x hx => by rw [List.mem_singleton.mp hx]; omega) _ (by simp [MR.pairsF])
  have bound : ∀ x ∈ l ++ r, 1 ≤ x ∧ x ≤ (n : Int) := fun x hx => OF.lo x (List.mem_cons_of_mem _ hx)
  have inv : ∀ s, MR.Plc n s → act td n c (act td n c s) = s := fun s P => MR.step_step sym P.row.len hcok
  cases z : mk n (l ++ c :: r) i with
  | false =>
    have z2 : mk n (l ++ c :: r) (pr n i) = true := by
      cases q : mk n (l ++ c :: r) (pr n i) with
      | true => rfl
      | false => rw [z, q] at ne; exact absurd rfl ne
    refine ⟨(l ++ r) ++ [c], OB, fun k hk => ?_, fun s P => ?_⟩
    · unfold sw
      by_cases e : k = i
      · rw [if_pos e, e, B1, z2]
      · rw [if_neg e]
        by_cases e2 : k = pr n i
        · rw [if_pos e2, e2, B0, z]
        · rw [if_neg e2]
          exact BX k hk e e2
    · rw [alike_same O OF h2 (fun k hk => ?_) s]
      · rw [run_go, run_go]
        show go _ (l ++ r) (act td n c s) = go _ (((l ++ r) ++ [c]) ++ [c]) (act td n c s)
        rw [go_append (act := act td n) ((l ++ r) ++ [c]), go_append (act := act td n) (l ++ r)]
        refine (inv _ ?_).symm
        rw [← run_go]
        exact MR.run_plc (MR.step_plc P hcok) (MR.pairs_ok h2 bound)
      · by_cases e : k = i
        · rw [e, F0, z]
        · by_cases e2 : k = pr n i
          · rw [e2, F1, z2]
          · exact (FX k hk e e2).symm
  | true =>
    have z2 : mk n (l ++ c :: r) (pr n i) = false := by
      cases q : mk n (l ++ c :: r) (pr n i) with
      | false => rfl
      | true => rw [z, q] at ne; exact absurd rfl ne
    refine ⟨c :: (l ++ r), OF, fun k hk => ?_, fun s P => ?_⟩
    · unfold sw
      by_cases e : k = i
      · rw [if_pos e, e, F0, z2]
      · rw [if_neg e]
        by_cases e2 : k = pr n i
        · rw [if_pos e2, e2, F1, z]
        · rw [if_neg e2]
          exact FX k hk e e2
    · rw [alike_same O OB h2 (fun k hk => ?_) s]
      · rw [run_go, run_go]
        show go _ ((l ++ r) ++ [c]) s = go _ ((l ++ r) ++ [c]) (act td n c (act td n c s))
        rw [inv s P]
      · by_cases e : k = i
        · rw [e, B1, z]
        · by_cases e2 : k = pr n i
          · rw [e2, B0, z2]
          · exact (BX k hk e e2).symm
def calls (m : List Nat) : List Int := m.map fun i => ((i + 1 : Nat) : Int)
theorem turn_all {td : Int → Int → Bool} (sym : ∀ a b, td a b = td b a) {n : Nat} {o : List Int} (O : MR.Stn n o) (h3 : 3 ≤ n) {f h : Nat → Bool} {m : List Nat} (p : Pth n f m h) (hf : ∀ k, k < n → f k = mk n o k) :
    ∃ o', MR.Stn n o' ∧ (∀ k, k < n → mk n o' k = h k) ∧ ∀ s, MR.Plc n s → MR.runP td s (MR.pairsF n o) = MR.runP td s (MR.pairsF n (calls m ++ o' ++ (calls m).reverse)) := by
  induction p with
  | nil => exact ⟨o, O, fun k hk => (hf k hk).symm, fun s _ => by simp [calls]⟩
  | snoc p hi ne ih =>
    rename_i m h i
    obtain ⟨o1, O1, e1, g1⟩ := ih
    obtain ⟨o2, O2, e2, g2⟩ := turn_one sym O1 h3 hi (by rw [e1 i hi, e1 _ (pr_lt hi)]; exact ne)
    refine ⟨o2, O2, fun k hk => ?_, fun s P => ?_⟩
    · rw [e2 k hk]
      unfold sw
      rw [e1 _ (pr_lt hi), e1 i hi, e1 k hk]
    · have cm : calls (m ++ [i]) = calls m ++ [((i + 1 : Nat) : Int)] := by simp [calls]
      have bm : ∀ x ∈ calls m, 1 ≤ x ∧ x ≤ (n : Int) := fun x hx => by
        obtain ⟨j, hj, rfl⟩ := List.mem_map.mp hx
        have := p.bound j hj
        omega
      have P2 : MR.Plc n (go (act td n) (calls m) s) := by
        rw [← run_go]
        exact MR.run_plc P (MR.pairs_ok (by omega) bm)
      have z := g2 _ P2
      rw [g1 s P, cm, List.reverse_append, run_go, run_go, go_append, go_append, ← run_go td n o1, z, run_go]
      simp [go_append, go]
end M30
namespace M30
/-- every order has a break, and a call that is none -/
theorem mk_both {n : Nat} {o : List Int} (O : MR.Stn n o) (h2 : 2 ≤ n) : (∃ k, k < n ∧ mk n o k = true) ∧ (∃ k, k < n ∧ mk n o k = false) := by
  obtain ⟨c, r, rfl⟩ : ∃ c r, o = c :: r := by
    cases o with
    | nil => have := O.len; simp at this; omega
    | cons c r => exact ⟨c, r, rfl⟩
  have hc := O.lo c List.mem_cons_self
  obtain ⟨i, hi, rfl⟩ := in_nat hc.1 hc.2
  have z : (((i + 1 : Nat) : Int) :: r).idxOf ((i + 1 : Nat) : Int) = 0 := List.idxOf_cons_self
  refine ⟨⟨pr n i, pr_lt hi, ?_⟩, ⟨i, hi, ?_⟩⟩
  · have pn := pr_ne hi h2
    have := idx_ne O.nd (stn_mem O (pr_lt hi)) (stn_mem O hi) (by omega)
    rw [z] at this
    unfold mk
    rw [nx_pr hi, z]
    exact decide_eq_true (by omega)
  · unfold mk
    rw [z]
    exact decide_eq_false (by omega)
/-- the way leads from the one round to the other -/
theorem leads {td : Int → Int → Bool} (sym : ∀ a b, td a b = td b a) {n : Nat} {o o2 : List Int} (O : MR.Stn n o) (O2 : MR.Stn n o2) (h3 : 3 ≤ n) {f h : Nat → Bool} {m : List Nat} (p : Pth n f m h) (hf : ∀ k, k < n → f k = mk n o k) (hh : ∀ k, k < n → h k = mk n o2 k) {s : List Int} (P : MR.Plc n s) :
    MR.runP td s (MR.pairsF n o) = MR.runP td s (MR.pairsF n (calls m ++ o2 ++ (calls m).reverse)) := by
  obtain ⟨o', O', e, g⟩ := turn_all sym O h3 p hf
  have bm : ∀ x ∈ calls m, 1 ≤ x ∧ x ≤ (n : Int) := fun x hx => by
    obtain ⟨j, hj, rfl⟩ := List.mem_map.mp hx
    have := p.bound j hj
    omega
  rw [g s P, run_go, run_go, go_append, go_append, go_append, go_append, ← run_go td n o', alike_same O' O2 (by omega) (fun k hk => by rw [e k hk, hh k hk]), run_go]
end M30

namespace K24
open PySem PySem.Spec PyProof.Rows L2 Vf Evl
/-! ### the breaks of an order -/
def blI (n : Nat) (f : Nat → Bool) : List Int := (M30.bl n f).map fun (c : Nat) => (c : Int)
def flB (n : Nat) (f : Nat → Bool) : List Bool := (List.range n).map f
theorem blI_range (n : Nat) (f : Nat → Bool) : (blI n f).map V.int = given n f fun i => V.int (1 + (i : Int)) := by
  unfold blI M30.bl given
  rw [List.map_map, List.map_map]
  refine List.map_congr_left fun i _ => ?_
  show V.int ((i + 1 : Nat) : Int) = V.int (1 + (i : Int))
  rw [show ((i + 1 : Nat) : Int) = 1 + (i : Int) by omega]
theorem blI_len (n : Nat) (f : Nat → Bool) : (blI n f).length ≤ n := by
  unfold blI M30.bl
  rw [List.length_map, List.length_map]
  exact Nat.le_trans (List.length_filter_le _ _) (by rw [List.length_range]; exact Nat.le_refl _)
theorem blI_mem {n i : Nat} {f : Nat → Bool} (h : i < n) : (1 + (i : Int)) ∈ blI n f ↔ f i = true := by
  rw [← M30.bl_at h]
  unfold blI
  rw [List.mem_map]
  constructor
  · rintro ⟨c, hc, e⟩
    rwa [show i + 1 = c by omega]
  · exact fun z => ⟨i + 1, z, by omega⟩
theorem ev_dget {td ty : TE} {σ : L2.St} {H : Hp} {a : Addr} {y v : V} (h1 : Ev td σ H (.ref a)) (h2 : Ev ty σ H y) (h3 : ∀ H2, Ex H H2 → DGet H2 a y (some v)) : Ev (tDGet td ty) σ H v := fun H1 e1 Q q =>
  h1 H1 e1 _ fun H2 e2 => h2 H2 (e1.trans e2) _ fun H3 e3 => ⟨a, v, rfl, h3 H3 ((e1.trans e2).trans e3), q H3 (e2.trans e3)⟩
section
variable {P : Program} {w : World} {K : PySem.W.Frag} {mg : Str → Option Value} {base : Heap} {A : Ad}
def sp_breaks_of (K : PySem.W.Frag) : Sp := fun vs H Q _ => ∃ (a : Addr) (ord : List Int) (n : Nat), vs = [.ref a] ∧ SqL K H a (ord.map V.int) ∧ MR.Stn n ord ∧ (3 ≤ n ∧ n ≤ 40) ∧ RetL ((blI n (M30.mk n ord)).map V.int) H Q
theorem ok_breaks_of (T : Txt K mg A) : FnOk P w K mg base CX0 2 A.f_breaks_of A.d_breaks_of ["order"] (sp_breaks_of K) := by
  have G_next_call : FnOk P w K mg base CX0 1 A.f_next_call A.d_next_call ["call", "count"] sp_next_call := ok_next_call T
  refine T.F_breaks_of.ok sc_breaks_of (fun vs H Q E h => ?_) (fun cdv A' outer s H vs Q E hr h => ?_)
  · obtain ⟨a, ord, n, rfl, _⟩ := h
    rfl
  · obtain ⟨a, ord, n, rfl, hS, O, hn, q⟩ := h
    have ol := O.len
    refine ⟨_, (pss_cons (ps_set (i := 1) sc_breaks_of.nd rfl (by first | exact .inl rfl | exact .inr rfl) (pe_callB (call_lenK (K := K) rfl) (by rfl) T.z_len PySem.boot_len (pa_cons (pv 0) pa_nil)))
      (pss_cons (ps_set (i := 2) sc_breaks_of.nd rfl (by first | exact .inl rfl | exact .inr rfl) (pe_dc (own := [("at", 3), ("call", 4)]) rfl sc_breaks_of.nd (pi_enum (by rfl) T.z_enumerate (pa_cons (pv 0) pa_nil)) (blkOk_by (by kernel_rfl)) (fun _ _ _ _ _ => (pg_tupK (n := 2) (K := K) rfl rfl (pgs_cons (pg_name (i := 3) sc_breaks_of.nd rfl (by first | exact .inl rfl | exact .inr rfl)) (pgs_cons (pg_name (i := 4) sc_breaks_of.nd rfl (by first | exact .inl rfl | exact .inr rfl)) pgs_nil)))) (fun _ _ _ _ _ => pts_nil) (fun _ _ _ _ _ => (pv 4)) (fun _ _ _ _ _ => (pv 3))))
      (pss_one (ps_ret (pe_lc (own := [("call", 4)]) rfl sc_breaks_of.nd (pi_range2 (by rfl) T.z_range (pa_cons pe_int (pa_cons (pe_op op_add (pv 1) pe_int) pa_nil))) (blkOk_by (by kernel_rfl)) (fun _ _ _ _ _ => (pg_name (i := 4) sc_breaks_of.nd rfl (by first | exact .inl rfl | exact .inr rfl))) (fun _ _ _ _ _ => (pts_one (pt_cmpR op_gt (pe_dget (hu_of hr) (pv 2) (pv 4) (fun _ _ => rfl)) (pe_dget (hu_of hr) (pv 2) (pe_call G_next_call (hr.mono (by decide)) (by rfl) T.g_next_call T.F_next_call.kp T.b_next_call .nil pass0 (pa_cons (pv 4) (pa_cons (pv 1) pa_nil))) (fun _ _ => rfl)) (nomark _)))) (fun _ _ _ _ _ => (pv 4))))))), ?_⟩
    refine ⟨_, rfl, a, _, rfl, .inl hS, ?_⟩
    rw [List.length_map, ol]
    -- place = {call: at for at, call in enumerate(order)}
    refine ⟨.ref a, rfl, a, ord.map V.int, rfl, hS, fun D nD => ?_⟩
    refine ⟨fun i m H' => m = n - i ∧ i ≤ n ∧ Ex H H' ∧ ∃ kvs : List (Key × V), H' D = some (.dK kvs) ∧ kvs.length ≤ i ∧ ∀ (j : Nat) (c : Int), j < i → ord[j]? = some c → valV kvs (.inl c) = some (.int (j : Int)), ⟨_, rfl, Nat.zero_le _, Ex.new nD, [], upd_same, Nat.le_refl _, fun j c h => absurd h (Nat.not_lt_zero _)⟩, ?_⟩
    rintro i m H' ⟨rfl, hi, e1, kvs, hD, hk, hv⟩
    have hS1 := ex_l e1 hS
    by_cases ci : i = n
    · refine .inl ⟨⟨_, hS1, by rw [List.length_map, ol]; omega⟩, ?_⟩
      subst ci
      dsimp only [gName]
      have get : ∀ (k : Nat) (H2 : Hp), Ex H' H2 → k < i → DGet H2 D (.int ((k + 1 : Nat) : Int)) (some (.int ((ord.idxOf ((k + 1 : Nat) : Int) : Nat) : Int))) := fun k H2 e2 hk2 => by
        have hm := M30.stn_mem O hk2
        have hlt := List.idxOf_lt_length_of_mem hm
        have hx : ord[ord.idxOf ((k + 1 : Nat) : Int)]? = some ((k + 1 : Nat) : Int) := by rw [List.getElem?_eq_getElem hlt, List.getElem_idxOf]
        exact .inl ⟨kvs, .inl _, .inl (e2 _ _ hD), rfl, (hv _ _ (by omega) hx).symm⟩
      refine s_retL (xs := (blI i (M30.mk i ord)).map V.int) ?_ fun p H2 np e2 hp => q p H2 (fresh_back e1 np) (e1.trans e2) hp
      rw [blI_range]
      have go := el_lcR2 (H := H') (σ := [some (.ref a), some (.int (i : Int)), some (.ref D), none, none]) (j := 4) (vs := [4]) (lo := 1) (n := (i : Int) + 1) (ta := tCons (tC (.int 1)) (tCons (tOp (rI0 fun i j => V.int (i + j)) (tVar 1) (tC (V.int 1))) tNil))
        (t := tTest (tOp (rI0 fun i j => V.bl (decide (j < i))) (tDGet (tVar 2) (tVar 4)) (tDGet (tVar 2) (tCall sp_next_call [] E0 (tCons (tVar 4) (tCons (tVar 1) tNil)))))) (te := tVar 4)
        (M30.mk i ord) (fun k => V.int (1 + (k : Int))) (ea_cons ev_c (ea_cons (ev_op (ev_var rfl) ev_c rv_I0) ea_nil)) (by omega) (fun x => rfl) (fun k H4 e4 hk => ?_) (fun k H4 e4 _ _ => ev_var rfl)
      · rw [show ((i : Int) + 1 - 1).toNat = i by omega] at go
        exact go
      · have hki : k < i := by omega
        have e1k : (1 + (k : Int)) = ((k + 1 : Nat) : Int) := by omega
        have e2k : MR.nxt (i : Int) (1 + (k : Int)) = ((M30.nx i k + 1 : Nat) : Int) := by rw [e1k]; exact M30.nxt_nat hki
        have v1 := ev_dget (td := tVar 2) (ty := tVar 4) (σ := [some (.ref a), some (.int (i : Int)), some (.ref D), none, some (.int (1 + (k : Int)))]) (H := H4) (a := D) (y := .int (1 + (k : Int))) (v := .int ((ord.idxOf ((k + 1 : Nat) : Int) : Nat) : Int)) (ev_var rfl) (ev_var rfl) fun H5 e5 => by
          rw [e1k]
          exact get k H5 (e4.trans e5) hki
        have v2 := ev_dget (td := tVar 2) (ty := tCall sp_next_call [] E0 (tCons (tVar 4) (tCons (tVar 1) tNil))) (σ := [some (.ref a), some (.int (i : Int)), some (.ref D), none, some (.int (1 + (k : Int)))]) (H := H4) (a := D) (y := .int (MR.nxt (i : Int) (1 + (k : Int)))) (v := .int ((ord.idxOf ((M30.nx i k + 1 : Nat) : Int) : Nat) : Int)) (ev_var rfl) (ev_call (ea_cons (ev_var rfl) (ea_cons (ev_var rfl) ea_nil)) fun H2 e2 Q q E => ⟨_, _, rfl, by omega, q⟩) fun H5 e5 => by
          rw [e2k]
          exact get _ H5 (e4.trans e5) (M30.nx_lt hki)
        have v3 := et_test (ev_op v1 v2 (rv_I0 (g := fun i j => V.bl (decide (j < i)))))
        have em : M30.mk i ord k = decide (((ord.idxOf ((M30.nx i k + 1 : Nat) : Int) : Nat) : Int) < ((ord.idxOf ((k + 1 : Nat) : Int) : Nat) : Int)) := by
          unfold M30.mk
          exact decide_eq_decide.mpr (by omega)
        rw [em]
        exact v3
    · have hi2 : i < ord.length := by omega
      obtain ⟨c, hc⟩ : ∃ c, ord[i]? = some c := ⟨_, List.getElem?_eq_getElem hi2⟩
      have hcv : (ord.map V.int)[i]? = some (.int c) := by rw [List.getElem?_map, hc]; rfl
      refine .inr ⟨⟨_, _, hS1, hcv⟩, _, fun H2 z => z, ?_⟩
      rintro x H2 ⟨Tt, y, rfl, nT, rfl, hy⟩
      have ey : y = .int c := Option.some.inj ((hy _ hS1).symm.trans hcv)
      subst ey
      have e2 : Ex H' (upd H' Tt (.tup [.int (i : Nat), .int c])) := Ex.new nT
      have nDT : D ≠ Tt := ne_of_none hD nT
      refine ⟨Tt, _, rfl, .inl (.inl upd_same), rfl, _, _, rfl, _, _, rfl, rfl, rfl, yes_if ⟨_, rfl, _, rfl, kvs, .inl c, rfl, e2 _ _ hD, sz_lt (by omega), n - (i + 1), by omega, rfl, by omega, Ex.mut (e1.trans e2) nD, _, upd_same, ?_, fun j x hj hx => ?_⟩⟩
      · have := length_putK kvs (.inl c) (V.int (i : Int))
        omega
      · rw [valV_put]
        by_cases ej : j = i
        · subst ej
          have : x = c := Option.some.inj (hx.symm.trans hc)
          rw [this, if_pos rfl]
        · have nx : x ≠ c := fun z => by
            rw [z] at hx
            refine nodup_at O.nd hc (List.mem_of_getElem? (i := j) ?_)
            rw [List.getElem?_take, if_pos (by omega)]
            exact hx
          rw [if_neg (fun z => nx (by injection z)), hv j x (by omega) hx]
end
end K24

/-! Comprehensions over zip. -/
namespace Vf
open PySem PySem.Spec PyProof.Rows L2 Evl
section
variable {X : Cx} {K : PySem.W.Frag}
theorem pi_zipK {e e2 : Expr} {ta : TA} {p pos tpos : Pos} {elts : List Expr} {kk : Nat} (h : X.K = K) (hg : Gl X "zip") (hm : X.mg "zip" = none) (ha : PA X [e, e2] ta)
    (hs : starEach [e, e2] X.env = (false, eval e X.env) :: starEach [e2] X.env := by rfl) (hpl : (backTo pos (starEach [e2] X.env)).any (·.1) = false := by rfl) :
    PI X (.Tuple elts kk tpos) (.Call (.Name "zip" p) [e, e2] [] pos) (iZip K ta) := by subst h; exact pi_zip hg hm ha hs hpl
end
section
variable {K : PySem.W.Frag} {σ : L2.St} {H : Hp} {ta : TA} {te : TE} {t : TT}
/-- [e for x, y in zip(xs, ys) if t] -/
theorem el_lcZ {a b : Addr} {xs ys : List V} {j1 j2 : Nat} {vs : List Nat} (f : Nat → Bool) (v : Nat → V) (h : EvA ta σ H [.ref a, .ref b]) (hx : SqL K H a xs) (hy : SqL K H b ys) (hl : xs.length = ys.length) (hz : xs.length ≤ 40000)
    (hw : ∀ x y, wipe (((wipe σ vs).set j1 (some x)).set j2 (some y)) vs = wipe σ vs)
    (ht : ∀ (i : Nat) (x y : V) H1, Ex H H1 → xs[i]? = some x → ys[i]? = some y → EvT t (((wipe σ vs).set j1 (some x)).set j2 (some y)) H1 (f i))
    (he : ∀ (i : Nat) (x y : V) H1, Ex H H1 → xs[i]? = some x → ys[i]? = some y → f i = true → Ev te (((wipe σ vs).set j1 (some x)).set j2 (some y)) H1 (v i)) :
    EvL (tLc (iZip K ta) (gTup K 2 (gCons (gName j1) (gCons (gName j2) gNil))) t te vs) σ H (given xs.length f v) := fun H0 e Q q => h H0 e _ fun H1 e1 => by
  refine ⟨a, b, xs, ys, rfl, ex_l (e.trans e1) hx, ex_l (e.trans e1) hy, fun Dl hD => ?_⟩
  refine lc_it (walk_zip (K := K) (a := a) (b := b) (xs := xs) (ys := ys) (n := xs.length) (by omega)) (Cw H1 f v Dl) ⟨hD, Ex.new hD, upd_same⟩ (fun i H' _ p => ⟨ex_l ((e.trans e1).trans p.2.1) hx, ex_l ((e.trans e1).trans p.2.1) hy⟩) (fun i z H2 H' hi p Y => ?_) fun H' p => q Dl H' (fresh_back e1 p.1) (e1.trans p.2.1) p.2.2
  obtain ⟨T, x, y, rfl, nT, rfl, h1, h2⟩ := Y
  have eT : Ex H2 (upd H2 T (.tup [x, y])) := Ex.new nT
  have p2 : Cw H1 f v Dl i (upd H2 T (.tup [x, y])) := ⟨p.1, p.2.1.trans eT, eT _ _ p.2.2⟩
  refine ⟨T, _, rfl, .inl (.inl upd_same), rfl, _, _, rfl, _, _, rfl, rfl, hw x y, ?_⟩
  exact cw_turn p2 (by omega) (ht i x y H1 (e.trans e1) h1 h2) (fun hf => he i x y H1 (e.trans e1) h1 h2 hf)
end
end Vf

/-! Openers: a statement's parts one by one; for over zip. -/
namespace Vf
open PySem PySem.Spec PyProof.Rows L2 Evl
section
variable {K : PySem.W.Frag} {D : Ends} {tb tz : TS} {g : TG} {te : TE} {ta : TA} {σ : L2.St} {H : Hp}
theorem q_run (h : te σ H (fun v H1 => g v σ H1 fun σ2 H2 => tz D σ2 H2)) : tSeq (tAsg te g) tz D σ H := h
theorem call_1L {sp : Sp} {dvs xs : List V} {E : XK} {Q : VK} (h : EvL te σ H xs) (k : ∀ p H1, H p = none → Ex H H1 → H1 p = some (.lst xs) → sp ([.ref p] ++ dvs) H1 Q E) : tCall sp dvs E (tCons te tNil) σ H Q :=
  h H (Ex.refl H) _ fun p H1 np e hp => k p H1 np e hp
theorem call_ev {sp : Sp} {dvs vs : List V} {E : XK} {Q : VK} (h : EvA ta σ H vs) (k : ∀ H1, Ex H H1 → sp (vs ++ dvs) H1 Q E) : tCall sp dvs E ta σ H Q := h H (Ex.refl H) _ fun H1 e => k H1 e
theorem s_forZ {a b : Addr} {xs ys : List V} (h : EvA ta σ H [.ref a, .ref b]) (hx : SqL K H a xs) (hy : SqL K H b ys) (hl : xs.length = ys.length) (Pv : Nat → L2.St → Hp → Prop) (h0 : ∀ H1, Ex H H1 → Pv 0 σ H1)
    (hG : ∀ i σ' H', Pv i σ' H' → SqL K H' a xs ∧ SqL K H' b ys)
    (hs : ∀ i x y T σ' H', xs[i]? = some x → ys[i]? = some y → Pv i σ' H' → H' T = none → g (.ref T) σ' (upd H' T (.tup [x, y])) fun σ2 H2 => tb { D with nx := Pv (i + 1), ct := Pv (i + 1), bk := D.nx } σ2 H2)
    (hd : ∀ σ' H', Pv xs.length σ' H' → D.nx σ' H') : tFor (iZip K ta) g tb D σ H :=
  h H (Ex.refl H) _ fun H1 e1 => ⟨a, b, xs, ys, rfl, ex_l e1 hx, ex_l e1 hy, for_it (walk_zip (K := K) (a := a) (b := b) (xs := xs) (ys := ys) (n := xs.length) (by omega)) Pv (h0 H1 e1) (fun i σ' H' _ p => hG i σ' H' p)
    (fun i z σ' H2 H' hi p Y => by
      obtain ⟨T, x, y, rfl, nT, rfl, h1, h2⟩ := Y
      exact hs i x y T σ' H2 h1 h2 p nT) hd⟩
theorem q_forZ {a b : Addr} {xs ys : List V} (h : EvA ta σ H [.ref a, .ref b]) (hx : SqL K H a xs) (hy : SqL K H b ys) (hl : xs.length = ys.length) (Pv : Nat → L2.St → Hp → Prop) (h0 : ∀ H1, Ex H H1 → Pv 0 σ H1)
    (hG : ∀ i σ' H', Pv i σ' H' → SqL K H' a xs ∧ SqL K H' b ys)
    (hs : ∀ i x y T σ' H', xs[i]? = some x → ys[i]? = some y → Pv i σ' H' → H' T = none → g (.ref T) σ' (upd H' T (.tup [x, y])) fun σ2 H2 => tb { D with nx := Pv (i + 1), ct := Pv (i + 1), bk := tz D } σ2 H2)
    (hd : ∀ σ' H', Pv xs.length σ' H' → tz D σ' H') : tSeq (tFor (iZip K ta) g tb) tz D σ H := s_forZ (D := { D with nx := tz D }) h hx hy hl Pv h0 hG hs hd
end
end Vf

/-! lcm, factorial, comb; a new list of new tuples as an answer; a promise that is never asked for. -/
namespace Vf
open PySem PySem.Spec PyProof.Rows L2 Evl
section
variable {X : Cx}
def rLcm : List V → Hp → VK → Prop := fun vs H Q => ∃ a b : Int, vs = [.int a, .int b] ∧ a.natAbs < 2 ^ 64 ∧ b.natAbs < 2 ^ 64 ∧ Q (.int ((a.natAbs.lcm b.natAbs : Nat) : Int)) H
theorem cr_lcm : CallR X (.builtin "math.lcm") rLcm := by
  intro pins s σ H vs us Q I r h
  obtain ⟨a, b, rfl, ha, hb, q⟩ := h
  obtain ⟨t, u, rfl⟩ := Vals.int2 r
  exact PySem.W.mc_lcm ha hb fun _ => ⟨.int _, H, I.tok _, ⟨_, rfl⟩, q⟩
/-- 1 * 2 * .. * n -/
def fac : Nat → Nat
  | 0 => 1
  | n + 1 => (n + 1) * fac n
theorem fac_is (n : Nat) : Builtin.Math.factorialNat n = fac n := by
  induction n with
  | zero => rfl
  | succ n ih =>
    unfold Builtin.Math.factorialNat at ih ⊢
    rw [List.range_succ, List.foldl_append, ih]
    show fac n * (n + 1) = (n + 1) * fac n
    exact Nat.mul_comm _ _
def rFac : List V → Hp → VK → Prop := fun vs H Q => ∃ n : Nat, vs = [.int (n : Int)] ∧ n ≤ 1000 ∧ Q (.int ((fac n : Nat) : Int)) H
theorem cr_fac : CallR X (.builtin "math.factorial") rFac := by
  intro pins s σ H vs us Q I r h
  obtain ⟨n, rfl, hn, q⟩ := h
  obtain ⟨u, rfl, t, rfl⟩ : ∃ u, us = [u] ∧ ∃ t, u = Value.int (n : Int) t := by
    obtain ⟨u, e, ru⟩ := vals1 r
    exact ⟨u, e, ru⟩
  refine PySem.W.mc_factorial (by omega) (by omega) fun z => ⟨.int _, H, I.tok _, ⟨_, rfl⟩, ?_⟩
  rw [fac_is, Int.toNat_natCast]
  exact q
def rComb : List V → Hp → VK → Prop := fun vs H Q => ∃ a b : Nat, vs = [.int (a : Int), .int (b : Int)] ∧ a ≤ 1000 ∧ b ≤ 1000 ∧ Q (.int (PySem.W.mcComb (a : Int) (b : Int))) H
theorem cr_comb : CallR X (.builtin "math.comb") rComb := by
  intro pins s σ H vs us Q I r h
  obtain ⟨a, b, rfl, ha, hb, q⟩ := h
  obtain ⟨t, u, rfl⟩ := Vals.int2 r
  exact PySem.W.mc_comb (by omega) (by omega) (by omega) (by omega) fun _ => ⟨.int _, H, I.tok _, ⟨_, rfl⟩, q⟩
end
theorem comb_two (n : Nat) : 2 * PySem.W.mcComb (n : Int) ((2 : Nat) : Int) = (n : Int) * ((n : Int) - 1) := (PySem.W.mc_comb_known (a := (n : Int)) (b := 2) (by omega) (by decide)).2.2.2.2.2.2.2 rfl
theorem fn_never {P : Program} {w : World} {K : PySem.W.Frag} {mg : Str → Option Value} {base : Heap} {CX : CXT} {k : Nat} {f : Addr} {fd : FuncData} {ps : List Str} : FnOk P w K mg base CX k f fd ps (fun _ _ _ _ => False) :=
  ⟨fun _ _ _ _ h => h.elim, fun _ _ _ _ _ _ _ _ _ _ _ _ _ h => h.elim⟩
def RetLT (us : List (List V)) (H : Hp) (Q : VK) : Prop := ∀ D H2, H D = none → Ex H H2 → TLAt H2 D us → Q (.ref D) H2
theorem RetLT.go {H H' : Hp} {us : List (List V)} {Q : VK} (k : RetLT us H Q) (e : Ex H H') {D : Addr} {H2 : Hp} (hD : H' D = none) (e2 : Ex H' H2) (h : TLAt H2 D us) : Q (.ref D) H2 := k D H2 (fresh_back e hD) (e.trans e2) h
end Vf
namespace Vf
open PySem PySem.Spec PyProof.Rows L2 Evl
section
variable {K : PySem.W.Frag} {σ : L2.St} {H : Hp} {te : TE} {ta : TA}
theorem elt_one {us : List V} (h : EvU te σ H us) : EvLT (tLst (tCons te tNil)) σ H [us] := fun H1 e Q q =>
  h H1 e _ fun p H2 np e2 hp => ⟨(by show 1 ≤ sizeLine; decide), fun D nD => q D _ (fresh_back e2 nD) (e2.trans (Ex.new nD)) ⟨[p], upd_same, rfl, fun i p' u x y => by
    match i, x, y with
    | 0, x, y =>
      cases x
      cases y
      exact (Ex.new nD) _ _ hp⟩⟩
theorem ev_lcm {a b : Int} (h : EvA ta σ H [.int a, .int b]) (ha : a.natAbs < 2 ^ 64) (hb : b.natAbs < 2 ^ 64) : Ev (tCB rLcm ta) σ H (.int ((a.natAbs.lcm b.natAbs : Nat) : Int)) := ev_cb h fun H1 _ Q q => ⟨a, b, rfl, ha, hb, q H1 (Ex.refl H1)⟩
theorem ev_fac {n : Nat} (h : EvA ta σ H [.int (n : Int)]) (hn : n ≤ 1000) : Ev (tCB rFac ta) σ H (.int ((fac n : Nat) : Int)) := ev_cb h fun H1 _ Q q => ⟨n, rfl, hn, q H1 (Ex.refl H1)⟩
theorem ev_comb {a b : Nat} (h : EvA ta σ H [.int (a : Int), .int (b : Int)]) (ha : a ≤ 1000) (hb : b ≤ 1000) : Ev (tCB rComb ta) σ H (.int (PySem.W.mcComb (a : Int) (b : Int))) := ev_cb h fun H1 _ Q q => ⟨a, b, rfl, ha, hb, q H1 (Ex.refl H1)⟩
theorem RetLT.ret {D : Ends} {us : List (List V)} (h : EvLT te σ H us) (k : ∀ A H1, H A = none → Ex H H1 → TLAt H1 A us → D.rt (.ref A) H1) : tRet te D σ H := s_retLT h k
theorem ev_lenS {p : Addr} {xs : List V} (h : Ev te σ H (.ref p)) (hs : SqL K H p xs) : Ev (tCB (rLenS K) (tCons te tNil)) σ H (.int (xs.length : Int)) := fun H1 e Q q =>
  h H1 e _ fun H2 e2 => ⟨p, xs, rfl, .inl (ex_l (e.trans e2) hs), q H2 e2⟩
/-- [e for x, y in ts if t], ts a new list of new pairs -/
theorem el_lcT2 {tl : TE} {t : TT} {us : List (V × V)} {j1 j2 : Nat} {vs : List Nat} (f : Nat → Bool) (v : Nat → V) (h : EvLT tl σ H (us.map fun u => [u.1, u.2])) (hz : us.length ≤ 40000)
    (hw : ∀ x y, wipe (((wipe σ vs).set j1 (some x)).set j2 (some y)) vs = wipe σ vs)
    (ht : ∀ (i : Nat) (u : V × V) H1, Ex H H1 → us[i]? = some u → EvT t (((wipe σ vs).set j1 (some u.1)).set j2 (some u.2)) H1 (f i))
    (he : ∀ (i : Nat) (u : V × V) H1, Ex H H1 → us[i]? = some u → f i = true → Ev te (((wipe σ vs).set j1 (some u.1)).set j2 (some u.2)) H1 (v i)) :
    EvL (tLc (iList K tl) (gTup K 2 (gCons (gName j1) (gCons (gName j2) gNil))) t te vs) σ H (given us.length f v) := fun H0 e Q q => h H0 e _ fun a H1 na e1 hA => by
  obtain ⟨ps, hA1, hA2, hA3⟩ := hA
  rw [List.length_map] at hA2
  have hlen : (ps.map V.ref).length = us.length := by rw [List.length_map, hA2]
  refine ⟨a, rfl, ⟨_, .inl (.inl hA1)⟩, fun Dl hD => ?_⟩
  refine lc_it (walk_list (K := K) (a := a) (xs := ps.map V.ref)) (Cw H1 f v Dl) ⟨hD, Ex.new hD, upd_same⟩ (fun i H' _ p => .inl (.inl (p.2.1 _ _ hA1))) (fun i z H2 H' hi p Y => ?_) fun H' p => q Dl H' (fresh_back e1 p.1) (e1.trans p.2.1) (by rw [← hlen]; exact p.2.2)
  obtain ⟨rfl, hz2⟩ := Y
  obtain ⟨b, hb, rfl⟩ := map_at hz2
  obtain ⟨u, hu⟩ : ∃ u, us[i]? = some u := ⟨_, List.getElem?_eq_getElem (by rw [← hlen]; exact hi)⟩
  have hb2 := hA3 i b [u.1, u.2] hb (by rw [List.getElem?_map, hu]; rfl)
  refine ⟨b, _, rfl, .inl (.inl (p.2.1 _ _ hb2)), rfl, _, _, rfl, _, _, rfl, rfl, hw u.1 u.2, ?_⟩
  exact cw_turn p (by omega) (ht i u H1 (e.trans e1) hu) (fun hf => he i u H1 (e.trans e1) hu hf)
end
end Vf

/-! Rounds on a net without ties: the people go round in two rings. -/
namespace M24
open M30
def sw (n c x : Nat) : Nat := if x = c then nx n c else if x = nx n c then c else x
def V (n : Nat) (r : List Nat) (x : Nat) : Nat := r.foldr (fun c x => sw n c x) x
theorem V_cons (n a : Nat) (r : List Nat) (x : Nat) : V n (a :: r) x = sw n a (V n r x) := rfl
theorem sw_lt {n c x : Nat} (hc : c < n) (hx : x < n) : sw n c x < n := by
  unfold sw
  have := nx_lt hc
  split
  · exact this
  · split <;> omega
theorem V_lt {n : Nat} : ∀ {r : List Nat} {x : Nat}, (∀ c ∈ r, c < n) → x < n → V n r x < n
  | [], _, _, hx => hx
  | a :: r, x, h, hx => by
    rw [V_cons]
    exact sw_lt (h a List.mem_cons_self) (V_lt (fun c hc => h c (List.mem_cons_of_mem _ hc)) hx)
/-- how many below k -/
def cnt (f : Nat → Bool) (k : Nat) : Nat := ((List.range k).filter f).length
theorem cnt_succ (f : Nat → Bool) (k : Nat) : cnt f (k + 1) = cnt f k + if f k = true then 1 else 0 := by
  unfold cnt
  rw [List.range_succ, List.filter_append, List.length_append]
  cases h : f k <;> simp [h]
theorem cnt_mono (f : Nat → Bool) {a b : Nat} (h : a ≤ b) : cnt f a ≤ cnt f b := by
  induction h with
  | refl => exact Nat.le_refl _
  | step _ ih =>
    rw [cnt_succ]
    omega
theorem cnt_lt {f : Nat → Bool} {c n : Nat} (h : c < n) (hf : f c = true) : cnt f c < cnt f n := by
  have h1 := cnt_mono f (show c + 1 ≤ n from h)
  rw [cnt_succ, if_pos hf] at h1
  omega
theorem cnt_inj {f : Nat → Bool} {a b : Nat} (ha : f a = true) (hb : f b = true) (e : cnt f a = cnt f b) : a = b := by
  rcases Nat.lt_trichotomy a b with h | h | h
  · have := cnt_lt h ha
    omega
  · exact h
  · have := cnt_lt h hb
    omega
/-- one step back round the clock -/
theorem cnt_pr {n k : Nat} (f : Nat → Bool) (h : k < n) : (cnt f (pr n k) + if f (pr n k) = true then 1 else 0) % cnt f n = cnt f k % cnt f n := by
  have z := nx_pr h
  have pl : pr n k < n := by
    have := pr_lt h
    exact this
  rw [nx_eq pl] at z
  rw [← cnt_succ]
  split at z
  · rename_i e
    rw [e, ← z]
    show cnt f n % cnt f n = cnt f 0 % cnt f n
    rw [Nat.mod_self]
    exact (Nat.zero_mod _).symm
  · rw [z]
theorem cnt_nx {n k : Nat} (f : Nat → Bool) (h : k < n) : cnt f (nx n k) % cnt f n = (cnt f k + if f k = true then 1 else 0) % cnt f n := by
  have z := cnt_pr f (nx_lt h)
  rw [pr_nx h] at z
  exact z.symm
structure Mk (n : Nat) (os : List Nat) (f : Nat → Bool) : Prop where
  n2 : 2 ≤ n
  lt : ∀ c ∈ os, c < n
  nd : os.Nodup
  all : ∀ c, c < n → c ∈ os
  yes : ∀ c, c < n → (f c = true ↔ [nx n c, c].Sublist os)
  no : ∀ c, c < n → (f c = false ↔ [c, nx n c].Sublist os)
section
variable {n : Nat} {os : List Nat} {f : Nat → Bool}
theorem behind {l r : List Nat} {a e : Nat} (h : os = l ++ a :: r) (he : e ∈ r) : [a, e].Sublist os := by
  rw [h]
  exact (List.Sublist.cons_cons a (List.singleton_sublist.mpr he)).trans (List.sublist_append_right _ _)
theorem ahead {l r : List Nat} {a e : Nat} (h : os = l ++ a :: r) (he : e ∈ os) (hn : e ∉ a :: r) : [e, a].Sublist os := by
  rw [h] at he ⊢
  have hl := (List.mem_append.mp he).resolve_right hn
  have := (List.singleton_sublist.mpr hl).append (List.singleton_sublist.mpr (List.mem_cons_self (a := a) (l := r)))
  exact this
/-- the person behind a break goes back to the one behind the break before -/
theorem V_yes (M : Mk n os f) {c : Nat} (hc : c < n) (fc : f c = true) : ∀ {l r : List Nat}, os = l ++ r →
    ∃ e, e < n ∧ V n r (nx n c) = nx n e ∧ ((e ∉ r ∧ (e = c ∨ nx n e ∈ r) ∧ cnt f e % cnt f n = cnt f c % cnt f n) ∨ (f e = true ∧ e ∈ r ∧ nx n e ∈ r ∧ (cnt f e + 1) % cnt f n = cnt f c % cnt f n))
  | l, [], h => ⟨c, hc, rfl, .inl ⟨by simp, .inl rfl, rfl⟩⟩
  | l, a :: r, h => by
    have h2 : os = (l ++ [a]) ++ r := by rw [h]; simp
    obtain ⟨e, he, hv, ih⟩ := V_yes M hc fc h2
    have nd := M.nd
    rw [h] at nd
    have ar : a ∉ r := (List.nodup_cons.mp (List.nodup_append.mp nd).2.1).1
    have al : a < n := M.lt a (by rw [h]; simp)
    rw [V_cons, hv]
    rcases ih with ⟨h1, h3, h4⟩ | ⟨h1, h3, h4, h5⟩
    · by_cases d : a = e
      · subst d
        have e1 : sw n a (nx n a) = a := by
          unfold sw
          rw [if_neg (nx_ne al M.n2), if_pos rfl]
        have pl := pr_lt al
        have np := nx_pr al
        have pne : pr n a ≠ a := fun z => by
          have := nx_ne pl M.n2
          rw [np] at this
          exact this z.symm
        have cp := cnt_pr f al
        refine ⟨pr n a, pl, by rw [e1, np], ?_⟩
        by_cases g : pr n a ∈ r
        · have s := behind h g
          have ft : f (pr n a) = true := (M.yes _ pl).mpr (by rw [np]; exact s)
          rw [if_pos ft] at cp
          exact .inr ⟨ft, List.mem_cons_of_mem _ g, by rw [np]; exact List.mem_cons_self, cp.trans h4⟩
        · have nm : pr n a ∉ a :: r := fun z => (List.mem_cons.mp z).elim pne g
          have s := ahead h (M.all _ pl) nm
          have ff : f (pr n a) = false := (M.no _ pl).mpr (by rw [np]; exact s)
          rw [ff, if_neg (by decide)] at cp
          exact .inl ⟨nm, .inr (by rw [np]; exact List.mem_cons_self), cp.trans h4⟩
      · have t1 : nx n e ≠ nx n a := fun z => d (nx_inj al he z.symm)
        have t2 : nx n e ≠ a := fun z => by
          rcases h3 with h3 | h3
          · subst h3
            have s := (M.yes _ he).mp fc
            rw [z] at s
            have s2 := ahead h (M.all _ he) (fun w => (List.mem_cons.mp w).elim (fun w => d w.symm) h1)
            have y1 := (M.yes _ he).mpr (by rw [z]; exact s)
            have y2 := (M.no _ he).mpr (by rw [z]; exact s2)
            rw [y1] at y2
            cases y2
          · exact ar (z ▸ h3)
        refine ⟨e, he, ?_, .inl ⟨fun w => (List.mem_cons.mp w).elim (fun w => d w.symm) h1, h3.imp id fun w => List.mem_cons_of_mem _ w, h4⟩⟩
        unfold sw
        rw [if_neg t2, if_neg t1]
    · have t1 : nx n e ≠ nx n a := fun z => ar (nx_inj al he z.symm ▸ h3)
      have t2 : nx n e ≠ a := fun z => ar (z ▸ h4)
      refine ⟨e, he, ?_, .inr ⟨h1, List.mem_cons_of_mem _ h3, List.mem_cons_of_mem _ h4, h5⟩⟩
      unfold sw
      rw [if_neg t2, if_neg t1]
/-- the person behind a call that is no break goes on to the one behind the next such call -/
theorem V_no (M : Mk n os f) {c : Nat} (hc : c < n) (fc : f c = false) : ∀ {l r : List Nat}, os = l ++ r →
    ∃ e, e < n ∧ V n r (nx n c) = nx n e ∧ ((nx n e ∉ r ∧ (e = c ∨ e ∈ r) ∧ cnt (fun k => !f k) (nx n e) % cnt (fun k => !f k) n = (cnt (fun k => !f k) c + 1) % cnt (fun k => !f k) n) ∨
      (f e = false ∧ e ∈ r ∧ nx n e ∈ r ∧ cnt (fun k => !f k) e % cnt (fun k => !f k) n = (cnt (fun k => !f k) c + 1) % cnt (fun k => !f k) n))
  | l, [], h => ⟨c, hc, rfl, .inl ⟨by simp, .inl rfl, by
    have z := cnt_nx (fun k => !f k) hc
    rw [if_pos (by rw [fc]; rfl)] at z
    exact z⟩⟩
  | l, a :: r, h => by
    have h2 : os = (l ++ [a]) ++ r := by rw [h]; simp
    obtain ⟨e, he, hv, ih⟩ := V_no M hc fc h2
    have nd := M.nd
    rw [h] at nd
    have ar : a ∉ r := (List.nodup_cons.mp (List.nodup_append.mp nd).2.1).1
    have al : a < n := M.lt a (by rw [h]; simp)
    have nl := nx_lt he
    rw [V_cons, hv]
    rcases ih with ⟨h1, h3, h4⟩ | ⟨h1, h3, h4, h5⟩
    · by_cases d : a = nx n e
      · have e1 : sw n a (nx n e) = nx n a := by
          unfold sw
          rw [if_pos d.symm]
        have nal := nx_lt al
        refine ⟨a, al, e1, ?_⟩
        have cn := cnt_nx (fun k => !f k) al
        rw [← d] at h4
        by_cases g : nx n a ∈ r
        · have s := behind h g
          have ff : f a = false := (M.no _ al).mpr s
          exact .inr ⟨ff, List.mem_cons_self, List.mem_cons_of_mem _ g, h4⟩
        · have nm : nx n a ∉ a :: r := fun z => (List.mem_cons.mp z).elim (nx_ne al M.n2) g
          have s := ahead h (M.all _ nal) nm
          have ft : f a = true := (M.yes _ al).mpr s
          rw [if_neg (by rw [ft]; decide)] at cn
          exact .inl ⟨nm, .inr List.mem_cons_self, cn.trans h4⟩
      · have t2 : nx n e ≠ a := fun z => d z.symm
        have t1 : nx n e ≠ nx n a := fun z => by
          have q := nx_inj he al z
          rcases h3 with h3 | h3
          · subst h3
            subst q
            have s2 := ahead h (M.all _ nl) (fun w => (List.mem_cons.mp w).elim (nx_ne he M.n2) h1)
            have y2 := (M.yes _ he).mpr s2
            rw [y2] at fc
            cases fc
          · exact ar (q ▸ h3)
        refine ⟨e, he, ?_, .inl ⟨fun w => (List.mem_cons.mp w).elim (fun w => t2 w) h1, h3.imp id fun w => List.mem_cons_of_mem _ w, h4⟩⟩
        unfold sw
        rw [if_neg t2, if_neg t1]
    · have t1 : nx n e ≠ nx n a := fun z => ar (nx_inj al he z.symm ▸ h3)
      have t2 : nx n e ≠ a := fun z => ar (z ▸ h4)
      refine ⟨e, he, ?_, .inr ⟨h1, List.mem_cons_of_mem _ h3, List.mem_cons_of_mem _ h4, h5⟩⟩
      unfold sw
      rw [if_neg t2, if_neg t1]
theorem step_yes (M : Mk n os f) {c : Nat} (hc : c < n) (fc : f c = true) : ∃ e, e < n ∧ V n os (nx n c) = nx n e ∧ f e = true ∧ (cnt f e + 1) % cnt f n = cnt f c % cnt f n := by
  obtain ⟨e, he, hv, h⟩ := V_yes M hc fc (l := []) (r := os) rfl
  rcases h with ⟨h, _⟩ | ⟨h1, _, _, h4⟩
  · exact absurd (M.all e he) h
  · exact ⟨e, he, hv, h1, h4⟩
theorem step_no (M : Mk n os f) {c : Nat} (hc : c < n) (fc : f c = false) : ∃ e, e < n ∧ V n os (nx n c) = nx n e ∧ f e = false ∧ cnt (fun k => !f k) e % cnt (fun k => !f k) n = (cnt (fun k => !f k) c + 1) % cnt (fun k => !f k) n := by
  obtain ⟨e, he, hv, h⟩ := V_no M hc fc (l := []) (r := os) rfl
  rcases h with ⟨h, _⟩ | ⟨h1, _, _, h4⟩
  · exact absurd (M.all _ (nx_lt he)) h
  · exact ⟨e, he, hv, h1, h4⟩
def itV (n : Nat) (os : List Nat) : Nat → Nat → Nat
  | 0, x => x
  | k + 1, x => itV n os k (V n os x)
theorem itV_yes (M : Mk n os f) : ∀ (k : Nat) {c : Nat}, c < n → f c = true → ∃ e, e < n ∧ itV n os k (nx n c) = nx n e ∧ f e = true ∧ (cnt f e + k) % cnt f n = cnt f c % cnt f n
  | 0, c, hc, fc => ⟨c, hc, rfl, fc, rfl⟩
  | k + 1, c, hc, fc => by
    obtain ⟨e, he, hv, fe, h1⟩ := step_yes M hc fc
    obtain ⟨g, hg, hw, fg, h2⟩ := itV_yes M k he fe
    refine ⟨g, hg, by show itV n os k (V n os (nx n c)) = _; rw [hv, hw], fg, ?_⟩
    rw [← h1, ← Nat.add_assoc, Nat.add_mod, h2, ← Nat.add_mod]
theorem itV_no (M : Mk n os f) : ∀ (k : Nat) {c : Nat}, c < n → f c = false → ∃ e, e < n ∧ itV n os k (nx n c) = nx n e ∧ f e = false ∧ cnt (fun k => !f k) e % cnt (fun k => !f k) n = (cnt (fun k => !f k) c + k) % cnt (fun k => !f k) n
  | 0, c, hc, fc => ⟨c, hc, rfl, fc, rfl⟩
  | k + 1, c, hc, fc => by
    obtain ⟨e, he, hv, fe, h1⟩ := step_no M hc fc
    obtain ⟨g, hg, hw, fg, h2⟩ := itV_no M k he fe
    refine ⟨g, hg, by show itV n os k (V n os (nx n c)) = _; rw [hv, hw], fg, ?_⟩
    rw [h2, Nat.add_mod, h1, ← Nat.add_mod]
    congr 1
    omega
/-- how large the ring of the person behind call c is -/
def ringOf (n : Nat) (f : Nat → Bool) (c : Nat) : Nat := if f c = true then cnt f n else cnt (fun k => !f k) n
theorem mod_gap {a b k d : Nat} (ha : a < d) (h : (a + k) % d = a % d) : d ∣ k := by
  have z := Nat.sub_mod_eq_zero_of_mod_eq h
  rw [Nat.add_sub_cancel_left] at z
  exact Nat.dvd_of_mod_eq_zero z
theorem itV_back (M : Mk n os f) (k : Nat) {c : Nat} (hc : c < n) : itV n os k (nx n c) = nx n c ↔ ringOf n f c ∣ k := by
  unfold ringOf
  cases fc : f c with
  | true =>
    rw [if_pos rfl]
    obtain ⟨e, he, hv, fe, h⟩ := itV_yes M k hc fc
    have cl := cnt_lt hc fc
    have el := cnt_lt he fe
    rw [hv]
    constructor
    · intro z
      have := nx_inj he hc z
      subst this
      exact mod_gap (b := 0) cl h
    · rintro ⟨q, rfl⟩
      rw [Nat.add_mul_mod_self_left, Nat.mod_eq_of_lt el, Nat.mod_eq_of_lt cl] at h
      rw [cnt_inj fe fc h]
  | false =>
    rw [if_neg (by decide)]
    obtain ⟨e, he, hv, fe, h⟩ := itV_no M k hc fc
    have cl := cnt_lt (f := fun k => !f k) hc (by rw [fc]; rfl)
    have el := cnt_lt (f := fun k => !f k) he (by rw [fe]; rfl)
    rw [hv]
    constructor
    · intro z
      have := nx_inj he hc z
      subst this
      exact mod_gap (b := 0) cl h.symm
    · rintro ⟨q, rfl⟩
      rw [Nat.add_mul_mod_self_left, Nat.mod_eq_of_lt el, Nat.mod_eq_of_lt cl] at h
      rw [cnt_inj (f := fun k => !f k) (by rw [fe]; rfl) (by rw [fc]; rfl) h]
end
end M24
namespace M24
open M30
def os (o : List Int) : List Nat := o.map fun c => c.toNat - 1
theorem os_sub {n : Nat} {o : List Int} (O : MR.Stn n o) {a b : Nat} : [a, b].Sublist (os o) ↔ [((a + 1 : Nat) : Int), ((b + 1 : Nat) : Int)].Sublist o := by
  have back : (os o).map (fun k : Nat => ((k + 1 : Nat) : Int)) = o := by
    unfold os
    rw [List.map_map]
    refine (List.map_congr_left fun c hc => ?_).trans (List.map_id o)
    have := O.lo c hc
    show (((c.toNat - 1) + 1 : Nat) : Int) = c
    omega
  constructor
  · intro h
    have := h.map fun k : Nat => ((k + 1 : Nat) : Int)
    rw [back] at this
    exact this
  · intro h
    have := h.map fun c : Int => c.toNat - 1
    exact this
theorem mk_of {n : Nat} {o : List Int} (O : MR.Stn n o) (h2 : 2 ≤ n) : Mk n (os o) (mk n o) := by
  refine ⟨h2, fun c hc => ?_, ?_, fun c hc => ?_, fun c hc => ?_, fun c hc => ?_⟩
  · obtain ⟨x, hx, rfl⟩ := List.mem_map.mp hc
    have := O.lo x hx
    omega
  · unfold os
    have z : ∀ (l : List Int), l.Nodup → (∀ x ∈ l, 1 ≤ x) → (l.map fun c => c.toNat - 1).Nodup := by
      intro l
      induction l with
      | nil => intro _ _; exact List.nodup_nil
      | cons x l ih =>
        intro h hl
        rw [List.nodup_cons] at h
        rw [List.map_cons, List.nodup_cons]
        refine ⟨fun w => ?_, ih h.2 fun y hy => hl y (List.mem_cons_of_mem _ hy)⟩
        obtain ⟨y, hy, e⟩ := List.mem_map.mp w
        have h1 := hl x List.mem_cons_self
        have h3 := hl y (List.mem_cons_of_mem _ hy)
        have : y = x := by omega
        exact h.1 (this ▸ hy)
    exact z o O.nd fun x hx => (O.lo x hx).1
  · exact List.mem_map.mpr ⟨_, stn_mem O hc, by omega⟩
  · rw [os_sub O]
    exact mk_sub O hc
  · rw [os_sub O]
    exact mk_sub2 O hc h2
abbrev td0 : Int → Int → Bool := fun _ _ => false
theorem g0_step {n : Nat} {p : List Int} (hp : p.length = n + 1) {c : Int} (h0 : 1 ≤ c) (h1 : c ≤ n) (h2 : 2 ≤ n) {j : Nat} (hj : j < n) :
    MR.g0 (MR.stepP td0 p (c, MR.nxt n c)) ((j + 1 : Nat) : Int) = MR.g0 p ((sw n (c.toNat - 1) j + 1 : Nat) : Int) := by
  obtain ⟨k, hk, rfl⟩ : ∃ k : Nat, k < n ∧ c = ((k + 1 : Nat) : Int) := ⟨c.toNat - 1, by omega, by omega⟩
  have hl := nx_lt hk
  have ne := nx_ne hk h2
  unfold MR.stepP
  rw [if_neg Bool.false_ne_true, nxt_nat hk]
  show ((p.set _ _).set _ _).getD _ 0 = _
  rw [MR.swap_at hp ⟨by show 1 ≤ ((k + 1 : Nat) : Int) ∧ _; constructor <;> omega, by show 1 ≤ ((nx n k + 1 : Nat) : Int) ∧ _; constructor <;> omega, by show ((k + 1 : Nat) : Int) ≠ ((nx n k + 1 : Nat) : Int); omega⟩]
  show (if j + 1 = nx n k + 1 then MR.g0 p ((k + 1 : Nat) : Int) else if j + 1 = k + 1 then MR.g0 p ((nx n k + 1 : Nat) : Int) else p.getD (j + 1) 0) = _
  have ek : ((k + 1 : Nat) : Int).toNat - 1 = k := by omega
  rw [ek]
  unfold sw
  by_cases a : j = k
  · subst a
    rw [if_neg (by omega), if_pos rfl, if_pos rfl]
  · rw [if_neg a]
    by_cases b : j = nx n k
    · subst b
      rw [if_pos rfl, if_pos rfl]
    · rw [if_neg (by omega), if_neg (by omega), if_neg b]
      rfl
theorem g0_run {n : Nat} (h2 : 2 ≤ n) : ∀ {cs : List Int} {p : List Int}, p.length = n + 1 → (∀ c ∈ cs, 1 ≤ c ∧ c ≤ n) → ∀ {j : Nat}, j < n →
    MR.g0 (MR.runP td0 p (MR.pairsF n cs)) ((j + 1 : Nat) : Int) = MR.g0 p ((V n (os cs) j + 1 : Nat) : Int)
  | [], p, _, _, j, _ => rfl
  | c :: cs, p, hp, hc, j, hj => by
    have h1 := hc c List.mem_cons_self
    have hcs : ∀ x ∈ cs, 1 ≤ x ∧ x ≤ (n : Int) := fun x hx => hc x (List.mem_cons_of_mem _ hx)
    show MR.g0 (MR.runP td0 (MR.stepP td0 p (c, MR.nxt n c)) (MR.pairsF n cs)) _ = _
    rw [g0_run h2 (by rw [MR.step_len]; exact hp) hcs hj]
    have vl : V n (os cs) j < n := V_lt (fun x hx => by
      obtain ⟨y, hy, rfl⟩ := List.mem_map.mp hx
      have := hcs y hy
      omega) hj
    rw [g0_step hp h1.1 h1.2 h2 vl]
    rfl
theorem run_len (td : Int → Int → Bool) : ∀ (cs : List (Int × Int)) (p : List Int), (MR.runP td p cs).length = p.length
  | [], _ => rfl
  | c :: cs, p => (run_len td cs (MR.stepP td p c)).trans (MR.step_len td p c)
theorem it_len (td : Int → Int → Bool) (cs : List (Int × Int)) : ∀ (k : Nat) (p : List Int), (MR.it (MR.roundP td cs) k p).length = p.length
  | 0, _ => rfl
  | k + 1, p => (it_len td cs k _).trans (run_len td cs p)
theorem g0_it {n : Nat} (h2 : 2 ≤ n) {o : List Int} (ho : ∀ c ∈ o, 1 ≤ c ∧ c ≤ (n : Int)) : ∀ (k : Nat) {p : List Int}, p.length = n + 1 → ∀ {j : Nat}, j < n →
    MR.g0 (MR.it (MR.roundP td0 (MR.pairsF n o)) k p) ((j + 1 : Nat) : Int) = MR.g0 p ((itV n (os o) k j + 1 : Nat) : Int)
  | 0, p, _, j, _ => rfl
  | k + 1, p, hp, j, hj => by
    have vl : V n (os o) j < n := V_lt (fun x hx => by
      obtain ⟨y, hy, rfl⟩ := List.mem_map.mp hx
      have := ho y hy
      omega) hj
    rw [MR.it_succ]
    show MR.g0 (MR.runP td0 _ (MR.pairsF n o)) _ = _
    rw [g0_run h2 (by rw [it_len]; exact hp) ho hj, g0_it h2 ho k hp vl]
    rfl
theorem itV_lt {n : Nat} {o : List Nat} (ho : ∀ c ∈ o, c < n) : ∀ (k : Nat) {j : Nat}, j < n → itV n o k j < n
  | 0, _, h => h
  | k + 1, _, h => itV_lt ho k (V_lt ho h)
/-- all are back just after the common multiples of the two rings -/
theorem loose_back {n : Nat} (h2 : 2 ≤ n) {o : List Int} (O : MR.Stn n o) (k : Nat) {p : List Int} (P : MR.Plc n p) :
    MR.it (MR.roundP td0 (MR.pairsF n o)) k p = p ↔ ∀ c, c < n → ringOf n (mk n o) c ∣ k := by
  have M := mk_of O h2
  have pl : p.length = n + 1 := P.row.len
  constructor
  · intro h c hc
    rw [← itV_back M k hc]
    have z := g0_it h2 O.lo k pl (nx_lt hc)
    rw [h] at z
    have hl := itV_lt M.lt k (nx_lt hc)
    have := P.inj (i := ((nx n c + 1 : Nat) : Int)) (j := ((itV n (os o) k (nx n c) + 1 : Nat) : Int)) (by omega) (by have := nx_lt hc; omega) (by omega) (by omega) z
    omega
  · intro h
    refine MR.plc_ext (n := n) (by rw [it_len, pl]) pl fun i hi => ?_
    cases i with
    | zero =>
      have Q := MR.it_plc (td := td0) (MR.pairs_ok h2 O.lo) k P
      rw [List.getD_eq_getElem?_getD, List.getD_eq_getElem?_getD, Q.zero, P.zero]
    | succ j =>
      have hj : j < n := by omega
      have z := g0_it h2 O.lo k pl hj
      have e := (itV_back M k (pr_lt hj)).mpr (h _ (pr_lt hj))
      rw [nx_pr hj] at e
      rw [e] at z
      exact z
theorem cnt_not (f : Nat → Bool) : ∀ n, cnt f n + cnt (fun k => !f k) n = n
  | 0 => rfl
  | n + 1 => by
    have := cnt_not f n
    rw [cnt_succ, cnt_succ]
    cases h : f n <;> simp [h] <;> omega
theorem cnt_bl (n : Nat) (f : Nat → Bool) : cnt f n = (bl n f).length := by
  unfold cnt bl
  rw [List.length_map]
theorem loose_per {n : Nat} (h2 : 2 ≤ n) {o : List Int} (O : MR.Stn n o) {d : Nat} (hd : d = (bl n (mk n o)).length) {p : List Int} (P : MR.Plc n p) :
    0 < d ∧ d < n ∧ MR.Per td0 (MR.pairsF n o) p (d.lcm (n - d)) := by
  obtain ⟨⟨a, ha, fa⟩, ⟨b, hb, fb⟩⟩ := mk_both O h2
  have e1 : cnt (mk n o) n = d := by rw [cnt_bl, hd]
  have e2 := cnt_not (mk n o) n
  have l1 := cnt_lt ha fa
  have l2 := cnt_lt (f := fun k => !mk n o k) hb (by rw [fb]; rfl)
  have e3 : cnt (fun k => !mk n o k) n = n - d := by omega
  have iff : ∀ k, MR.it (MR.roundP td0 (MR.pairsF n o)) k p = p ↔ d.lcm (n - d) ∣ k := fun k => by
    rw [loose_back h2 O k P]
    constructor
    · intro h
      have y1 := h a ha
      have y2 := h b hb
      unfold ringOf at y1 y2
      rw [fa, if_pos rfl, e1] at y1
      rw [fb, if_neg (by decide), e3] at y2
      exact Nat.lcm_dvd y1 y2
    · intro h c _
      unfold ringOf
      rw [e1, e3]
      split
      · exact Nat.dvd_trans (Nat.dvd_lcm_left _ _) h
      · exact Nat.dvd_trans (Nat.dvd_lcm_right _ _) h
  exact ⟨by omega, by omega, Nat.lcm_pos (by omega) (by omega), (iff _).mpr (Nat.dvd_refl _), fun k k0 k1 e => absurd (Nat.le_of_dvd k0 ((iff k).mp e)) (by omega)⟩
end M24

/-! Who sits where a person sat: how soon one comes to the person again. -/
namespace M24
open M30
section
variable {n : Nat} {os : List Nat} {f : Nat → Bool}
theorem itV_add (n : Nat) (os : List Nat) : ∀ (a b x : Nat), itV n os (a + b) x = itV n os b (itV n os a x)
  | 0, b, x => by rw [Nat.zero_add]; rfl
  | a + 1, b, x => by
    rw [show a + 1 + b = (a + b) + 1 by omega]
    exact itV_add n os a b (V n os x)
theorem ring_pos (M : Mk n os f) {c : Nat} (hc : c < n) : 0 < ringOf n f c := by
  unfold ringOf
  cases fc : f c with
  | true =>
    rw [if_pos rfl]
    have := cnt_lt hc fc
    omega
  | false =>
    rw [if_neg (by decide)]
    have := cnt_lt (f := fun k => !f k) hc (by rw [fc]; rfl)
    omega
def itF (φ : Int → Int) : Nat → Int → Int
  | 0, x => x
  | k + 1, x => φ (itF φ k x)
theorem itF_V (φ : Int → Int) (M : Mk n os f) (h : ∀ j, j < n → φ ((V n os j + 1 : Nat) : Int) = ((j + 1 : Nat) : Int)) : ∀ (k : Nat) {j : Nat}, j < n → itF φ k ((itV n os k j + 1 : Nat) : Int) = ((j + 1 : Nat) : Int)
  | 0, _, _ => rfl
  | k + 1, j, hj => by
    show φ (itF φ k ((itV n os k (V n os j) + 1 : Nat) : Int)) = _
    rw [itF_V φ M h k (V_lt M.lt hj), h j hj]
/-- just after the multiples of the ring one comes to the person again -/
theorem itF_back (φ : Int → Int) (M : Mk n os f) (h : ∀ j, j < n → φ ((V n os j + 1 : Nat) : Int) = ((j + 1 : Nat) : Int)) (k : Nat) {j : Nat} (hj : j < n) :
    itF φ k ((j + 1 : Nat) : Int) = ((j + 1 : Nat) : Int) ↔ ringOf n f (pr n j) ∣ k := by
  have pl := pr_lt hj
  have rp := ring_pos M pl
  have iff := itV_back M k pl
  rw [nx_pr hj] at iff
  rw [← iff]
  constructor
  · intro e
    -- j is what some i comes to
    have hL : ringOf n f (pr n j) ∣ (ringOf n f (pr n j) * k - k) + k := by
      have : k ≤ ringOf n f (pr n j) * k := Nat.le_mul_of_pos_left k rp
      rw [Nat.sub_add_cancel this]
      exact ⟨k, rfl⟩
    have z := (itV_back M _ pl).mpr hL
    rw [nx_pr hj, itV_add] at z
    have il := itV_lt M.lt (ringOf n f (pr n j) * k - k) hj
    have y := itF_V φ M h k il
    rw [z, e] at y
    have : j = itV n os (ringOf n f (pr n j) * k - k) j := by omega
    rw [← this] at z
    exact z
  · intro e
    have y := itF_V φ M h k hj
    rw [e] at y
    exact y
theorem ones {α : Type} (D N : α) (f : Nat → Bool) : ∀ n, ((List.range n).map fun c => if f c = true then D else N).Perm (List.replicate (cnt f n) D ++ List.replicate (cnt (fun k => !f k) n) N)
  | 0 => .nil
  | n + 1 => by
    have ih := ones D N f n
    rw [List.range_succ, List.map_append, cnt_succ, cnt_succ]
    cases h : f n with
    | true =>
      rw [if_pos rfl, if_neg (by simp), Nat.add_zero]
      show (_ ++ [if f n = true then D else N]).Perm _
      rw [if_pos h]
      refine (List.perm_append_comm).trans ?_
      rw [List.replicate_succ]
      exact ih.cons D
    | false =>
      rw [if_neg (by decide), if_pos (by simp), Nat.add_zero]
      show (_ ++ [if f n = true then D else N]).Perm _
      rw [if_neg (by rw [h]; decide)]
      rw [show List.replicate (cnt (fun k => !f k) n + 1) N = List.replicate (cnt (fun k => !f k) n) N ++ [N] from List.replicate_succ', ← List.append_assoc]
      exact ih.append_right [N]
theorem sorted_eq : ∀ {a b : List Int}, a.Pairwise (· ≤ ·) → b.Pairwise (· ≤ ·) → a.Perm b → a = b
  | [], b, _, _, p => (List.nil_perm.mp p).symm
  | x :: a, b, ha, hb, p => by
    match b, p with
    | [], p => exact absurd p.length_eq (by simp)
    | y :: b, p =>
      rw [List.pairwise_cons] at ha hb
      have e : x = y := by
        have h1 := p.mem_iff.mp (List.mem_cons_self (a := x) (l := a))
        have h2 := p.mem_iff.mpr (List.mem_cons_self (a := y) (l := b))
        rcases List.mem_cons.mp h1 with h1 | h1
        · exact h1
        · rcases List.mem_cons.mp h2 with h2 | h2
          · exact h2.symm
          · have := hb.1 x h1
            have := ha.1 y h2
            omega
      subst e
      rw [sorted_eq ha.2 hb.2 (List.Perm.cons_inv p)]
end
theorem all_perm {n : Nat} (h : 0 < n) {st : List Int} (S : MR.Stn n st) : st.Perm ((List.range n).map fun c => ((nx n c + 1 : Nat) : Int)) := by
  refine (List.perm_ext_iff_of_nodup S.nd ?_).mpr fun x => ?_
  · have : ∀ (l : List Nat), l.Nodup → (∀ c ∈ l, c < n) → (l.map fun c => ((nx n c + 1 : Nat) : Int)).Nodup := by
      intro l
      induction l with
      | nil => intro _ _; exact List.nodup_nil
      | cons c l ih =>
        intro nd hl
        rw [List.nodup_cons] at nd
        rw [List.map_cons, List.nodup_cons]
        refine ⟨fun w => ?_, ih nd.2 fun y hy => hl y (List.mem_cons_of_mem _ hy)⟩
        obtain ⟨y, hy, e⟩ := List.mem_map.mp w
        have : y = c := nx_inj (hl y (List.mem_cons_of_mem _ hy)) (hl c List.mem_cons_self) (by omega)
        exact nd.1 (this ▸ hy)
    exact this _ List.nodup_range fun c hc => List.mem_range.mp hc
  · constructor
    · intro hx
      have := S.lo x hx
      have hl : x.toNat - 1 < n := by omega
      refine List.mem_map.mpr ⟨pr n (x.toNat - 1), List.mem_range.mpr (pr_lt hl), ?_⟩
      rw [nx_pr hl]
      omega
    · intro hx
      obtain ⟨c, hc, rfl⟩ := List.mem_map.mp hx
      exact stn_mem S (nx_lt (List.mem_range.mp hc))
/-- the rings' sizes, person by person -/
theorem sizes_perm {n : Nat} (h2 : 2 ≤ n) {o st : List Int} (O : MR.Stn n o) (S : MR.Stn n st) {d : Nat} (hd : d = (bl n (mk n o)).length) :
    (st.map fun x => ((ringOf n (mk n o) (pr n (x.toNat - 1)) : Nat) : Int)).Perm (List.replicate d (d : Int) ++ List.replicate (n - d) ((n - d : Nat) : Int)) := by
  have e1 : cnt (mk n o) n = d := by rw [cnt_bl, hd]
  have e2 := cnt_not (mk n o) n
  have e3 : cnt (fun k => !mk n o k) n = n - d := by omega
  refine ((all_perm (by omega) S).map _).trans ?_
  rw [List.map_map]
  have z := ones (d : Int) ((n - d : Nat) : Int) (mk n o) n
  rw [e1, e3] at z
  refine List.Perm.trans (List.Perm.of_eq ?_) z
  refine List.map_congr_left fun c hc => ?_
  have hc := List.mem_range.mp hc
  show ((ringOf n (mk n o) (pr n ((((nx n c + 1 : Nat) : Int)).toNat - 1)) : Nat) : Int) = _
  rw [show (((nx n c + 1 : Nat) : Int)).toNat - 1 = nx n c by omega, pr_nx hc]
  unfold ringOf
  rw [e1, e3]
  split <;> rfl
/-- who sits there then -/
theorem then_at {n : Nat} (h2 : 2 ≤ n) {o st : List Int} (O : MR.Stn n o) (S : MR.Stn n st) {j : Nat} (hj : j < n) :
    (MR.stOf (MR.runP td0 (MR.plOf st) (MR.pairsF n o)))[st.idxOf ((V n (os o) j + 1 : Nat) : Int)]? = some ((j + 1 : Nat) : Int) := by
  have P := S.plc
  have Q := MR.run_plc (td := td0) P (MR.pairs_ok h2 O.lo)
  have vl : V n (os o) j < n := V_lt (mk_of O h2).lt hj
  have z := g0_run h2 P.row.len O.lo hj
  -- the seat of that person
  have hm := stn_mem S vl
  have hi := List.idxOf_lt_length_of_mem hm
  have seat : MR.g0 (MR.plOf st) ((V n (os o) j + 1 : Nat) : Int) = ((st.idxOf ((V n (os o) j + 1 : Nat) : Int) + 1 : Nat) : Int) := by
    have y := MR.turn_at S.row (i := st.idxOf ((V n (os o) j + 1 : Nat) : Int) + 1) (x := ((V n (os o) j + 1 : Nat) : Int)) (by
      show st[st.idxOf ((V n (os o) j + 1 : Nat) : Int)]? = _
      rw [List.getElem?_eq_getElem hi, List.getElem_idxOf hi])
    show (MR.turnF (0 :: st)).getD _ 0 = _
    rw [List.getD_eq_getElem?_getD, y]
    rfl
  rw [seat] at z
  have at_ := (Q.of (i := ((j + 1 : Nat) : Int)) (by omega) (by omega)).2.2
  rw [z] at at_
  have y := MR.turn_at Q.row (i := j + 1) (x := ((st.idxOf ((V n (os o) j + 1 : Nat) : Int) + 1 : Nat) : Int)) at_
  rw [Q.turn] at y
  exact y
end M24

namespace K24
open PySem PySem.Spec PyProof.Rows L2 Vf Evl
section
variable {P : Program} {w : World} {K : PySem.W.Frag} {mg : Str → Option Value} {base : Heap} {A : Ad}
def sp_back_after (K : PySem.W.Frag) : Sp := fun vs H Q _ => ∃ (a s o : Addr) (ts : List (Int × Int)) (st ord : List Int) (n L : Nat), vs = [.int (n : Int), .ref a, .ref s, .ref o] ∧ TiesAt K H a ts ∧ NetOk (n : Int) ts ∧
  SqL K H s (st.map V.int) ∧ MR.Stn n st ∧ SqL K H o (ord.map V.int) ∧ MR.Stn n ord ∧ MR.Per (MR.tdF ts) (MR.pairsF n ord) (MR.plOf st) L ∧ RetV (.int (L : Int)) H Q
theorem ok_back_after (T : Txt K mg A) : FnOk P w K mg base CX0 6 A.f_back_after A.d_back_after ["seats", "ties", "standing", "order"] (sp_back_after K) := by
  have G_check_net : FnOk P w K mg base CX0 5 A.f_check_net A.d_check_net ["seats", "ties"] (sp_check_net K) := ok_check_net T
  have G_check_standing : FnOk P w K mg base CX0 3 A.f_check_standing A.d_check_standing ["standing", "seats"] (sp_check_standing K) := ok_check_standing T
  have G_check_order_of : FnOk P w K mg base CX0 3 A.f_check_order_of A.d_check_order_of ["order", "count"] (sp_check_order_of K) := ok_check_order_of T
  have G_places_of : FnOk P w K mg base CX0 2 A.f_places_of A.d_places_of ["standing"] (sp_places_of K) := ok_places_of T
  have G_people_called : FnOk P w K mg base CX0 2 A.f_people_called A.d_people_called ["calls", "count"] (sp_people_called K) := ok_people_called T
  have G_tied_seats : FnOk P w K mg base CX0 1 A.f_tied_seats A.d_tied_seats ["seats", "ties"] (sp_tied_seats K) := ok_tied_seats T
  have G_places_after : FnOk P w K mg base CX0 1 A.f_places_after A.d_places_after ["places", "pairs", "tied"] (sp_places_after K) := ok_places_after T
  refine T.F_back_after.ok sc_back_after (fun vs H Q E h => ?_) (fun cdv A' outer s0 H vs Q E hr h => ?_)
  · obtain ⟨a, s, o, ts, st, ord, n, L, rfl, _⟩ := h
    rfl
  · obtain ⟨a, s, o, ts, st, ord, n, L, rfl, hT, N, hS, S, hO, O, PL, q⟩ := h
    have n1 := N.lo
    have n2 := N.hi
    have ol := O.len
    refine ⟨_, (pss_cons (ps_expr (pe_call G_check_net (hr.mono (by decide)) (by rfl) T.g_check_net T.F_check_net.kp T.b_check_net .nil pass0 (pa_cons (pv 0) (pa_cons (pv 1) pa_nil))))
      (pss_cons (ps_expr (pe_call G_check_standing (hr.mono (by decide)) (by rfl) T.g_check_standing T.F_check_standing.kp T.b_check_standing .nil pass0 (pa_cons (pv 2) (pa_cons (pv 0) pa_nil))))
      (pss_cons (ps_expr (pe_call G_check_order_of (hr.mono (by decide)) (by rfl) T.g_check_order_of T.F_check_order_of.kp T.b_check_order_of .nil pass0 (pa_cons (pv 3) (pa_cons (pv 0) pa_nil))))
      (pss_cons (ps_set (i := 4) sc_back_after.nd rfl (by first | exact .inl rfl | exact .inr rfl) (pe_call G_people_called (hr.mono (by decide)) (by rfl) T.g_people_called T.F_people_called.kp T.b_people_called .nil pass0 (pa_cons (pv 3) (pa_cons (pv 0) pa_nil))))
      (pss_cons (ps_set (i := 5) sc_back_after.nd rfl (by first | exact .inl rfl | exact .inr rfl) (pe_call G_tied_seats (hr.mono (by decide)) (by rfl) T.g_tied_seats T.F_tied_seats.kp T.b_tied_seats .nil pass0 (pa_cons (pv 0) (pa_cons (pv 1) pa_nil))))
      (pss_cons (ps_set (i := 6) sc_back_after.nd rfl (by first | exact .inl rfl | exact .inr rfl) (pe_call G_places_of (hr.mono (by decide)) (by rfl) T.g_places_of T.F_places_of.kp T.b_places_of .nil pass0 (pa_cons (pv 2) pa_nil)))
      (pss_cons (ps_set (i := 7) sc_back_after.nd rfl (by first | exact .inl rfl | exact .inr rfl) (pe_call G_places_after (hr.mono (by decide)) (by rfl) T.g_places_after T.F_places_after.kp T.b_places_after .nil pass0 (pa_cons (pv 6) (pa_cons (pv 4) (pa_cons (pv 5) pa_nil)))))
      (pss_cons (ps_set (i := 8) sc_back_after.nd rfl (by first | exact .inl rfl | exact .inr rfl) pe_int)
      (pss_cons (ps_while PassesOwn.never (pt_cmpR (op_neD hr.units) (pv 7) (pv 6) (nomark _)) (pss_cons (ps_set (i := 7) sc_back_after.nd rfl (by first | exact .inl rfl | exact .inr rfl) (pe_call G_places_after (hr.mono (by decide)) (by rfl) T.g_places_after T.F_places_after.kp T.b_places_after .nil pass0 (pa_cons (pv 7) (pa_cons (pv 4) (pa_cons (pv 5) pa_nil)))))
      (pss_one (ps_aug (i := 8) sc_back_after.nd rfl (by first | exact .inl rfl | exact .inr rfl) pe_int ip_add))))
      (pss_one (ps_ret (pv 8)))))))))))), ?_⟩
    refine ⟨_, rfl, _, rfl, a, ts, n, rfl, hT, N, fun H1 e1 => ?_⟩
    refine ⟨_, rfl, _, rfl, s, st, n, rfl, ex_l e1 hS, S, by omega, fun H2 e2 => ?_⟩
    refine ⟨_, rfl, _, rfl, o, ord, n, rfl, ex_l (e1.trans e2) hO, O, by omega, fun H3 e3 => ?_⟩
    have e13 := (e1.trans e2).trans e3
    have ok := MR.pairs_ok (n := n) (by omega) O.lo
    refine ⟨_, rfl, _, rfl, o, ord, n, rfl, ex_l e13 hO, by omega, by omega, fun b H4 nb e4 hb => ?_⟩
    refine ⟨_, rfl, _, rfl, a, ts, n, rfl, hT.mono (e13.trans e4), N, fun t H5 nt e5 ht => ?_⟩
    refine ⟨_, rfl, s, st, n, rfl, ex_l ((e13.trans e4).trans e5) hS, S, by omega, fun p H6 np e6 hp => ?_⟩
    have e15 := (e13.trans e4).trans e5
    have pairs6 := (hb.on e5).on e6
    have td6 := ht.on e6
    refine ⟨_, rfl, _, rfl, _, rfl, p, b, t, MR.plOf st, MR.pairsF n ord, n, MR.tdF ts, rfl, .inl (.inl hp), pairs6, td6, S.plc, ok, fun r H7 nr e7 hr7 => ?_⟩
    generalize hf : MR.roundP (MR.tdF ts) (MR.pairsF n ord) = f
    refine ⟨fun k σ' H' => ∃ (p2 : Addr) (made : Nat), σ' = [some (.int (n : Int)), some (.ref a), some (.ref s), some (.ref o), some (.ref b), some (.ref t), some (.ref p), some (.ref p2), some (.int (made : Int))] ∧ Ex H6 H' ∧ H' p2 = some (.lst ((MR.it f made (MR.plOf st)).map V.int)) ∧ k + made = L ∧ 1 ≤ made,
      ⟨L - 1, r, 1, rfl, e7, by rw [← hf]; exact hr7, by have := PL.pos; omega, Nat.le_refl _⟩, ?_⟩
    rintro k σ' H' ⟨p2, made, rfl, e8, hp2, hk, h1⟩
    refine ⟨_, rfl, _, rfl, ne_ints (.inl (.inl hp2)) (.inl (.inl (e8 _ _ hp))) ⟨_, rfl, ?_⟩⟩
    by_cases d : MR.it f made (MR.plOf st) = MR.plOf st
    · rw [decide_eq_true d]
      have : made = L := by
        refine Decidable.byContradiction fun z => ?_
        rw [← hf] at d
        exact PL.least made (by omega) (by omega) d
      subst this
      refine iteF ⟨_, rfl, q H' ((e15.trans e6).trans e8)⟩
    · rw [decide_eq_false d]
      have lt : made < L := by
        refine Decidable.byContradiction fun z => ?_
        have : made = L := by omega
        rw [this, ← hf] at d
        exact d PL.back
      have Pm : MR.Plc n (MR.it f made (MR.plOf st)) := by rw [← hf]; exact MR.it_plc ok made S.plc
      refine iteT ⟨fun σ2 H2 => ∃ k', k' < k ∧ ∃ (p2 : Addr) (made : Nat), σ2 = [some (.int (n : Int)), some (.ref a), some (.ref s), some (.ref o), some (.ref b), some (.ref t), some (.ref p), some (.ref p2), some (.int (made : Int))] ∧ Ex H6 H2 ∧ H2 p2 = some (.lst ((MR.it f made (MR.plOf st)).map V.int)) ∧ k' + made = L ∧ 1 ≤ made, fun σ2 H2 z => z, ?_⟩
      refine ⟨_, rfl, _, rfl, _, rfl, p2, b, t, _, MR.pairsF n ord, n, MR.tdF ts, rfl, .inl (.inl hp2), pairs6.on e8, td6.on e8, Pm, ok, fun r2 H9 nr2 e9 hr9 => ?_⟩
      have er : MR.runP (MR.tdF ts) (MR.it f made (MR.plOf st)) (MR.pairsF n ord) = MR.it f (made + 1) (MR.plOf st) := by rw [MR.it_succ, ← hf]; rfl
      rw [er] at hr9
      exact ⟨_, rfl, _, _, rfl, rfl, k - 1, by omega, r2, made + 1, rfl, e8.trans e9, hr9, by omega, by omega⟩
/-- the counted backs where no seats are tied, or all are -/
def backsF (n : Nat) (ts : List (Int × Int)) (ord : List Int) : List (List V) :=
  if ts = [] then [[.int (((M30.bl n (M30.mk n ord)).length.lcm (n - (M30.bl n (M30.mk n ord)).length) : Nat) : Int), .int ((fac n : Nat) : Int)]] else [[.int 1, .int ((fac n : Nat) : Int)]]
def sp_first_backs (K : PySem.W.Frag) : Sp := fun vs H Q _ => ∃ (a o : Addr) (ts : List (Int × Int)) (ord : List Int) (n : Nat), vs = [.int (n : Int), .ref a, .ref o] ∧ TiesAt K H a ts ∧ NetOk (n : Int) ts ∧ SqL K H o (ord.map V.int) ∧ MR.Stn n ord ∧
  (ts ≠ [] → 2 * ts.length = n * (n - 1)) ∧ RetLT (backsF n ts ord) H Q
theorem ok_first_backs (T : Txt K mg A) : FnOk P w K mg base CX0 3 A.f_first_backs A.d_first_backs ["seats", "ties", "order"] (sp_first_backs K) := by
  have G_breaks_of : FnOk P w K mg base CX0 2 A.f_breaks_of A.d_breaks_of ["order"] (sp_breaks_of K) := ok_breaks_of T
  have G_is_row_of : FnOk P w K mg base CX0 2 A.f_is_row_of A.d_is_row_of ["seats", "ties"] (fun _ _ _ _ => False) := fn_never
  have G_is_wood_of : FnOk P w K mg base CX0 2 A.f_is_wood_of A.d_is_wood_of ["seats", "ties"] (fun _ _ _ _ => False) := fn_never
  have G_first_backs_in_row : FnOk P w K mg base CX0 2 A.f_first_backs_in_row A.d_first_backs_in_row ["seats", "broken"] (fun _ _ _ _ => False) := fn_never
  have G_first_backs_in_wood : FnOk P w K mg base CX0 2 A.f_first_backs_in_wood A.d_first_backs_in_wood ["seats", "ties"] (fun _ _ _ _ => False) := fn_never
  have G_first_backs_by_walk : FnOk P w K mg base CX0 2 A.f_first_backs_by_walk A.d_first_backs_by_walk ["seats", "ties", "order"] (fun _ _ _ _ => False) := fn_never
  refine T.F_first_backs.ok sc_first_backs (fun vs H Q E h => ?_) (fun cdv A' outer s0 H vs Q E hr h => ?_)
  · obtain ⟨a, o, ts, ord, n, rfl, _⟩ := h
    rfl
  · obtain ⟨a, o, ts, ord, n, rfl, hT, N, hO, O, hc, q⟩ := h
    have n1 := N.lo
    have n2 := N.hi
    refine ⟨_, (pss_cons (ps_set (i := 3) sc_first_backs.nd rfl (by first | exact .inl rfl | exact .inr rfl) (pe_callB (call_lenK (K := K) rfl) (by rfl) T.z_len PySem.boot_len (pa_cons (pe_call G_breaks_of (hr.mono (by decide)) (by rfl) T.g_breaks_of T.F_breaks_of.kp T.b_breaks_of .nil pass0 (pa_cons (pv 2) pa_nil)) pa_nil)))
      (pss_cons (ps_set (i := 4) sc_first_backs.nd rfl (by first | exact .inl rfl | exact .inr rfl) (pe_op op_sub (pv 0) (pv 3)))
      (pss_cons (ps_if (pt_cmpR op_eq (pe_callB (call_lenK (K := K) rfl) (by rfl) T.z_len PySem.boot_len (pa_cons (pv 1) pa_nil)) pe_int (nomark _)) (pss_one (ps_ret (pe_lst (pa_cons (pe_tup (pa_cons (pe_callBfun cr_lcm (by rfl) T.m_lcm (pa_cons (pv 3) (pa_cons (pv 4) pa_nil))) (pa_cons (pe_callBfun cr_fac (by rfl) T.m_factorial (pa_cons (pv 0) pa_nil)) pa_nil))) pa_nil)))) pss_nil)
      (pss_cons (ps_if (pt_cmpR op_eq (pe_callB (call_lenK (K := K) rfl) (by rfl) T.z_len PySem.boot_len (pa_cons (pv 1) pa_nil)) (pe_callBfun cr_comb (by rfl) T.m_comb (pa_cons (pv 0) (pa_cons pe_int pa_nil))) (nomark _)) (pss_one (ps_ret (pe_lst (pa_cons (pe_tup (pa_cons pe_int (pa_cons (pe_callBfun cr_fac (by rfl) T.m_factorial (pa_cons (pv 0) pa_nil)) pa_nil))) pa_nil)))) pss_nil)
      (pss_cons (ps_if (pt_val (pe_call G_is_row_of (hr.mono (by decide)) (by rfl) T.g_is_row_of T.F_is_row_of.kp T.b_is_row_of .nil pass0 (pa_cons (pv 0) (pa_cons (pv 1) pa_nil)))) (pss_one (ps_ret (pe_call G_first_backs_in_row (hr.mono (by decide)) (by rfl) T.g_first_backs_in_row T.F_first_backs_in_row.kp T.b_first_backs_in_row .nil pass0 (pa_cons (pv 0) (pa_cons (pv 3) pa_nil))))) pss_nil)
      (pss_cons (ps_if (PW.pt (pw_and (pt_cmpR (op_inK (K := K) rfl) pe_int (pe_tup (pa_cons (pv 3) (pa_cons (pv 4) pa_nil))) (by rfl)) (pw_and1 (pt_val (pe_call G_is_wood_of (hr.mono (by decide)) (by rfl) T.g_is_wood_of T.F_is_wood_of.kp T.b_is_wood_of .nil pass0 (pa_cons (pv 0) (pa_cons (pv 1) pa_nil))))))) (pss_one (ps_ret (pe_call G_first_backs_in_wood (hr.mono (by decide)) (by rfl) T.g_first_backs_in_wood T.F_first_backs_in_wood.kp T.b_first_backs_in_wood .nil pass0 (pa_cons (pv 0) (pa_cons (pv 1) pa_nil))))) pss_nil)
      (pss_one (ps_ret (pe_call G_first_backs_by_walk (hr.mono (by decide)) (by rfl) T.g_first_backs_by_walk T.F_first_backs_by_walk.kp T.b_first_backs_by_walk .nil pass0 (pa_cons (pv 0) (pa_cons (pv 1) (pa_cons (pv 2) pa_nil)))))))))))), ?_⟩
    obtain ⟨as, hS, hlen, hat⟩ := id hT
    obtain ⟨d, hd⟩ : ∃ d, d = (M30.bl n (M30.mk n ord)).length := ⟨_, rfl⟩
    obtain ⟨⟨kt, hkt, ft⟩, ⟨kf, hkf, ff⟩⟩ := M30.mk_both O (show 2 ≤ n by omega)
    have dn := M24.cnt_lt (f := M30.mk n ord) hkt ft
    have hdn : d ≤ n := by
      have := M24.cnt_not (M30.mk n ord) n
      rw [M24.cnt_bl, ← hd] at this
      omega
    -- broken = len(breaks_of(order))
    refine ⟨_, rfl, o, ord, n, rfl, hO, O, ⟨by omega, by omega⟩, fun pb H1 nb e1 hb => ⟨pb, _, rfl, .inl (.inl (.inl hb)), ?_⟩⟩
    have hl : (((blI n (M30.mk n ord)).map V.int).length : Int) = (d : Int) := by
      rw [List.length_map]
      unfold blI
      rw [List.length_map, hd]
    rw [hl]
    -- others = seats - broken
    refine ⟨_, rfl, _, rfl, _, _, rfl, rfl, ?_⟩
    show tSeq _ _ _ [some (.int (n : Int)), some (.ref a), some (.ref o), some (.int (d : Int)), some (.int ((n : Int) - (d : Int)))] H1
    rw [show (n : Int) - (d : Int) = ((n - d : Nat) : Int) by omega]
    have hS1 := ex_l e1 hS
    have tlen : ((as.map V.ref).length : Int) = (ts.length : Int) := by rw [List.length_map, hlen]
    refine q_when (et_test (ev_op (ev_lenS (ev_var rfl) hS1) ev_c (rv_eq rfl))) (fun z H2 e2 => ?_) (fun z H2 e2 => ?_)
    · have z := of_decide_eq_true z
      rw [tlen] at z
      have z0 : ts = [] := by
        injection z with z
        exact List.length_eq_zero_iff.mp (by omega)
      refine RetLT.ret (us := backsF n ts ord) ?_ fun A' H3 nA e3 hA => q A' H3 (fresh_back (e1.trans e2) nA) ((e1.trans e2).trans e3) hA
      unfold backsF
      rw [if_pos z0, ← hd]
      have z1 := ev_lcm (σ := [some (.int (n : Int)), some (.ref a), some (.ref o), some (.int (d : Int)), some (.int ((n - d : Nat) : Int))]) (H := H2) (ta := tCons (tVar 3) (tCons (tVar 4) tNil)) (a := (d : Int)) (b := ((n - d : Nat) : Int)) (ea_cons (ev_var rfl) (ea_cons (ev_var rfl) ea_nil)) (by omega) (by omega)
      exact elt_one (eu_tup (ea_cons z1 (ea_cons (ev_fac (ea_cons (ev_var rfl) ea_nil) (by omega)) ea_nil)) (by show 2 ≤ 100000; decide))
    · have z := of_decide_eq_false z
      rw [tlen] at z
      have z0 : ts ≠ [] := fun w => z (by rw [w]; rfl)
      have hc := hc z0
      have c2 := comb_two n
      have eq : PySem.W.mcComb (n : Int) ((2 : Nat) : Int) = (ts.length : Int) := by
        have h3 : ((2 * ts.length : Nat) : Int) = ((n * (n - 1) : Nat) : Int) := by rw [hc]
        rw [Int.natCast_mul, Int.natCast_mul, Int.natCast_sub (by omega)] at h3
        have h4 : (((2 : Nat) : Int)) * (ts.length : Int) = 2 * PySem.W.mcComb (n : Int) ((2 : Nat) : Int) := by rw [c2, h3]; rfl
        omega
      refine q_when (b := true) (et_is (et_test (ev_op (ev_lenS (ev_var rfl) (ex_l e2 hS1)) (ev_comb (b := 2) (ea_cons (ev_var rfl) (ea_cons ev_c ea_nil)) (by omega) (by decide)) (rv_eq rfl))) ?_) (fun _ H3 e3 => ?_) (fun z => nomatch z)
      · rw [tlen, eq]
        exact decide_eq_true rfl
      · refine RetLT.ret (us := backsF n ts ord) ?_ fun A' H4 nA e4 hA => q A' H4 (fresh_back ((e1.trans e2).trans e3) nA) (((e1.trans e2).trans e3).trans e4) hA
        unfold backsF
        rw [if_neg z0]
        exact elt_one (eu_tup (ea_cons ev_c (ea_cons (ev_fac (ea_cons (ev_var rfl) ea_nil) (by omega)) ea_nil)) (by show 2 ≤ 100000; decide))
end
end K24

namespace K24
open PySem PySem.Spec PyProof.Rows L2 Vf Evl
/-- after how many rounds all are back -/
def wholeN (n : Nat) (ts : List (Int × Int)) (ord : List Int) : Nat := if ts = [] then (M30.bl n (M30.mk n ord)).length.lcm (n - (M30.bl n (M30.mk n ord)).length) else 1
theorem backs_is (n : Nat) (ts : List (Int × Int)) (ord : List Int) : backsF n ts ord = [[.int ((wholeN n ts ord : Nat) : Int), .int ((fac n : Nat) : Int)]] := by
  unfold backsF wholeN
  split <;> rfl
theorem whole_le {n : Nat} {ts : List (Int × Int)} {ord : List Int} (O : MR.Stn n ord) (h2 : 2 ≤ n) (h40 : n ≤ 40) : 0 < wholeN n ts ord ∧ wholeN n ts ord ≤ 1600 := by
  unfold wholeN
  obtain ⟨⟨kt, hkt, ft⟩, ⟨kf, hkf, ff⟩⟩ := M30.mk_both O h2
  have dn := M24.cnt_lt (f := M30.mk n ord) hkt ft
  have df := M24.cnt_lt (f := fun k => !M30.mk n ord k) hkf (by rw [ff]; rfl)
  have e := M24.cnt_not (M30.mk n ord) n
  rw [M24.cnt_bl n (M30.mk n ord)] at dn e
  generalize (M30.bl n (M30.mk n ord)).length = d at dn e
  split
  · refine ⟨Nat.lcm_pos (by omega) (by omega), ?_⟩
    have h1 : d.lcm (n - d) ≤ d * (n - d) := Nat.le_of_dvd (Nat.mul_pos (by omega) (by omega)) (Nat.lcm_dvd_mul _ _)
    have h3 : d * (n - d) ≤ 40 * 40 := Nat.mul_le_mul (by omega) (by omega)
    omega
  · exact ⟨by decide, by decide⟩
section
variable {P : Program} {w : World} {K : PySem.W.Frag} {mg : Str → Option Value} {base : Heap} {A : Ad}
def sp_backs_counted (K : PySem.W.Frag) : Sp := fun vs H Q _ => ∃ (a o : Addr) (ts : List (Int × Int)) (ord : List Int) (n : Nat), vs = [.int (n : Int), .ref a, .ref o] ∧ TiesAt K H a ts ∧ NetOk (n : Int) ts ∧ SqL K H o (ord.map V.int) ∧ MR.Stn n ord ∧
  (ts ≠ [] → 2 * ts.length = n * (n - 1)) ∧ RetLT [[.int ((wholeN n ts ord : Nat) : Int), .int ((fac n : Nat) : Int)]] H Q
theorem ok_backs_counted (T : Txt K mg A) : FnOk P w K mg base CX0 6 A.f_backs_counted A.d_backs_counted ["seats", "ties", "order"] (sp_backs_counted K) := by
  have G_check_net : FnOk P w K mg base CX0 5 A.f_check_net A.d_check_net ["seats", "ties"] (sp_check_net K) := ok_check_net T
  have G_check_order_of : FnOk P w K mg base CX0 3 A.f_check_order_of A.d_check_order_of ["order", "count"] (sp_check_order_of K) := ok_check_order_of T
  have G_first_backs : FnOk P w K mg base CX0 3 A.f_first_backs A.d_first_backs ["seats", "ties", "order"] (sp_first_backs K) := ok_first_backs T
  refine T.F_backs_counted.ok sc_backs_counted (fun vs H Q E h => ?_) (fun cdv A' outer s0 H vs Q E hr h => ?_)
  · obtain ⟨a, o, ts, ord, n, rfl, _⟩ := h
    rfl
  · obtain ⟨a, o, ts, ord, n, rfl, hT, N, hO, O, hc, q⟩ := h
    have n1 := N.lo
    have n2 := N.hi
    rw [← backs_is] at q
    refine ⟨_, (pss_cons (ps_expr (pe_call G_check_net (hr.mono (by decide)) (by rfl) T.g_check_net T.F_check_net.kp T.b_check_net .nil pass0 (pa_cons (pv 0) (pa_cons (pv 1) pa_nil))))
      (pss_cons (ps_expr (pe_call G_check_order_of (hr.mono (by decide)) (by rfl) T.g_check_order_of T.F_check_order_of.kp T.b_check_order_of .nil pass0 (pa_cons (pv 2) (pa_cons (pv 0) pa_nil))))
      (pss_one (ps_ret (pe_call G_first_backs (hr.mono (by decide)) (by rfl) T.g_first_backs T.F_first_backs.kp T.b_first_backs .nil pass0 (pa_cons (pv 0) (pa_cons (pv 1) (pa_cons (pv 2) pa_nil)))))))), ?_⟩
    refine ⟨_, rfl, _, rfl, a, ts, n, rfl, hT, N, fun H1 e1 => ?_⟩
    refine ⟨_, rfl, _, rfl, o, ord, n, rfl, ex_l e1 hO, O, by omega, fun H2 e2 => ?_⟩
    exact ⟨_, rfl, _, rfl, _, rfl, a, o, ts, ord, n, rfl, hT.mono (e1.trans e2), N, ex_l (e1.trans e2) hO, O, hc, fun D H3 nD e3 hD => q D H3 (fresh_back (e1.trans e2) nD) ((e1.trans e2).trans e3) hD⟩
theorem elt_first {te : TA} {σ : L2.St} {H : Hp} {a o : Addr} {ts : List (Int × Int)} {ord : List Int} {n : Nat} {E : XK} (h : EvA te σ H [.int (n : Int), .ref a, .ref o]) (hT : TiesAt K H a ts) (N : NetOk (n : Int) ts) (hO : SqL K H o (ord.map V.int)) (O : MR.Stn n ord) (hc : ts ≠ [] → 2 * ts.length = n * (n - 1)) :
    EvLT (tCall (sp_first_backs K) [] E te) σ H ([((.int ((wholeN n ts ord : Nat) : Int), .int ((fac n : Nat) : Int)) : V × V)].map fun u => [u.1, u.2]) := fun H1 e Q q => h H1 e _ fun H2 e2 =>
  ⟨a, o, ts, ord, n, rfl, hT.mono (e.trans e2), N, ex_l (e.trans e2) hO, O, hc, fun D H3 nD e3 hD => q D H3 (fresh_back e2 nD) (e2.trans e3) (by rw [backs_is] at hD; exact hD)⟩
def sp_all_back (K : PySem.W.Frag) : Sp := fun vs H Q _ => ∃ (a o : Addr) (ts : List (Int × Int)) (ord : List Int) (n : Nat), vs = [.int (n : Int), .ref a, .ref o] ∧ TiesAt K H a ts ∧ NetOk (n : Int) ts ∧ SqL K H o (ord.map V.int) ∧ MR.Stn n ord ∧
  (ts ≠ [] → 2 * ts.length = n * (n - 1)) ∧ RetV (.int ((wholeN n ts ord : Nat) : Int)) H Q
theorem ok_all_back (T : Txt K mg A) : FnOk P w K mg base CX0 6 A.f_all_back A.d_all_back ["seats", "ties", "order"] (sp_all_back K) := by
  have G_check_net : FnOk P w K mg base CX0 5 A.f_check_net A.d_check_net ["seats", "ties"] (sp_check_net K) := ok_check_net T
  have G_check_order_of : FnOk P w K mg base CX0 3 A.f_check_order_of A.d_check_order_of ["order", "count"] (sp_check_order_of K) := ok_check_order_of T
  have G_first_backs : FnOk P w K mg base CX0 3 A.f_first_backs A.d_first_backs ["seats", "ties", "order"] (sp_first_backs K) := ok_first_backs T
  refine T.F_all_back.ok sc_all_back (fun vs H Q E h => ?_) (fun cdv A' outer s0 H vs Q E hr h => ?_)
  · obtain ⟨a, o, ts, ord, n, rfl, _⟩ := h
    rfl
  · obtain ⟨a, o, ts, ord, n, rfl, hT, N, hO, O, hc, q⟩ := h
    have n1 := N.lo
    have n2 := N.hi
    have wl := whole_le (ts := ts) O (by omega) (by omega)
    refine ⟨_, (pss_cons (ps_expr (pe_call G_check_net (hr.mono (by decide)) (by rfl) T.g_check_net T.F_check_net.kp T.b_check_net .nil pass0 (pa_cons (pv 0) (pa_cons (pv 1) pa_nil))))
      (pss_cons (ps_expr (pe_call G_check_order_of (hr.mono (by decide)) (by rfl) T.g_check_order_of T.F_check_order_of.kp T.b_check_order_of .nil pass0 (pa_cons (pv 2) (pa_cons (pv 0) pa_nil))))
      (pss_cons (ps_set (i := 3) sc_all_back.nd rfl (by first | exact .inl rfl | exact .inr rfl) pe_int)
      (pss_cons (ps_for PassesOwn.never rfl (pi_listK (K := K) rfl (pe_call G_first_backs (hr.mono (by decide)) (by rfl) T.g_first_backs T.F_first_backs.kp T.b_first_backs .nil pass0 (pa_cons (pv 0) (pa_cons (pv 1) (pa_cons (pv 2) pa_nil))))) (pg_tupK (n := 2) (K := K) rfl rfl (pgs_cons (pg_name (i := 4) sc_all_back.nd rfl (by first | exact .inl rfl | exact .inr rfl)) (pgs_cons (pg_name (i := 5) sc_all_back.nd rfl (by first | exact .inl rfl | exact .inr rfl)) pgs_nil))) (pss_one (ps_set (i := 3) sc_all_back.nd rfl (by first | exact .inl rfl | exact .inr rfl) (pe_callBfun cr_lcm (by rfl) T.m_lcm (pa_cons (pv 3) (pa_cons (pv 4) pa_nil))))))
      (pss_one (ps_ret (pv 3))))))), ?_⟩
    refine ⟨_, rfl, _, rfl, a, ts, n, rfl, hT, N, fun H1 e1 => ?_⟩
    refine ⟨_, rfl, _, rfl, o, ord, n, rfl, ex_l e1 hO, O, by omega, fun H2 e2 => ?_⟩
    have e12 := e1.trans e2
    show tSeq (tAsg (tC (.int 1)) (gName 3)) _ _ [some (.int (n : Int)), some (.ref a), some (.ref o), none, none, none] H2
    refine q_asg ev_c fun H2' e2' => ?_
    have e12 := e12.trans e2'
    refine elt_first (σ := [some (.int (n : Int)), some (.ref a), some (.ref o), some (.int 1), none, none]) (ea_cons (ev_var rfl) (ea_cons (ev_var rfl) (ea_cons (ev_var rfl) ea_nil))) (hT.mono e12) N (ex_l e12 hO) O hc H2' (Ex.refl H2') _ fun D H3 nD e3 hD => ?_
    obtain ⟨ps, hD1, hD2, hD3⟩ := hD
    have pl : ps.length = 1 := hD2
    refine ⟨D, rfl, ⟨_, .inl (.inl hD1)⟩, for_list (xs := ps.map V.ref) (fun i σ' H' => (∃ y4 y5, σ' = [some (.int (n : Int)), some (.ref a), some (.ref o), some (.int (if i = 0 then 1 else ((wholeN n ts ord : Nat) : Int))), y4, y5]) ∧ Ex H3 H') ⟨⟨_, _, rfl⟩, Ex.refl _⟩ (fun i σ' H' _ z => .inl (.inl (z.2 _ _ hD1))) ?_ ?_⟩
    · rintro i x σ' H4 hx ⟨⟨y4, y5, rfl⟩, e4⟩
      obtain ⟨b, hb, rfl⟩ := map_at hx
      have i0 : i = 0 := by
        have := (List.getElem?_eq_some_iff.mp hb).1
        omega
      subst i0
      have hb2 := hD3 0 b _ hb rfl
      refine ⟨b, _, rfl, .inl (.inl (e4 _ _ hb2)), rfl, _, _, rfl, _, _, rfl, rfl, ?_⟩
      refine ⟨_, rfl, _, rfl, 1, ((wholeN n ts ord : Nat) : Int), rfl, by decide, by omega, ?_⟩
      have e1 : (((1 : Int).natAbs.lcm ((wholeN n ts ord : Nat) : Int).natAbs : Nat) : Int) = ((wholeN n ts ord : Nat) : Int) := by
        show ((Nat.lcm 1 (wholeN n ts ord) : Nat) : Int) = _
        rw [Nat.lcm_one_left]
      refine ⟨⟨some (.int ((wholeN n ts ord : Nat) : Int)), some (.int ((fac n : Nat) : Int)), ?_⟩, e4⟩
      show [_, _, _, some (V.int (((1 : Int).natAbs.lcm ((wholeN n ts ord : Nat) : Int).natAbs : Nat) : Int)), _, _] = _
      rw [e1]
      rfl
    · rintro σ' H4 ⟨⟨y4, y5, rfl⟩, e4⟩
      rw [List.length_map, pl]
      exact ⟨_, rfl, q H4 (e12.trans (e3.trans e4))⟩
def sp_fixed_after (K : PySem.W.Frag) : Sp := fun vs H Q _ => ∃ (a o : Addr) (ts : List (Int × Int)) (ord : List Int) (n : Nat) (m : Int), vs = [.int (n : Int), .ref a, .ref o, .int m] ∧ TiesAt K H a ts ∧ NetOk (n : Int) ts ∧ SqL K H o (ord.map V.int) ∧ MR.Stn n ord ∧
  (ts ≠ [] → 2 * ts.length = n * (n - 1)) ∧ RetV (.int (if m % ((wholeN n ts ord : Nat) : Int) = 0 then ((fac n : Nat) : Int) else 0)) H Q
theorem ok_fixed_after (T : Txt K mg A) : FnOk P w K mg base CX0 6 A.f_fixed_after A.d_fixed_after ["seats", "ties", "order", "many"] (sp_fixed_after K) := by
  have G_check_net : FnOk P w K mg base CX0 5 A.f_check_net A.d_check_net ["seats", "ties"] (sp_check_net K) := ok_check_net T
  have G_check_order_of : FnOk P w K mg base CX0 3 A.f_check_order_of A.d_check_order_of ["order", "count"] (sp_check_order_of K) := ok_check_order_of T
  have G_check_many : FnOk P w K mg base CX0 2 A.f_check_many A.d_check_many ["many"] sp_check_many := ok_check_many T
  have G_first_backs : FnOk P w K mg base CX0 3 A.f_first_backs A.d_first_backs ["seats", "ties", "order"] (sp_first_backs K) := ok_first_backs T
  refine T.F_fixed_after.ok sc_fixed_after (fun vs H Q E h => ?_) (fun cdv A' outer s0 H vs Q E hr h => ?_)
  · obtain ⟨a, o, ts, ord, n, m, rfl, _⟩ := h
    rfl
  · obtain ⟨a, o, ts, ord, n, m, rfl, hT, N, hO, O, hc, q⟩ := h
    have n1 := N.lo
    have n2 := N.hi
    have wl := whole_le (ts := ts) O (by omega) (by omega)
    refine ⟨_, (pss_cons (ps_expr (pe_call G_check_net (hr.mono (by decide)) (by rfl) T.g_check_net T.F_check_net.kp T.b_check_net .nil pass0 (pa_cons (pv 0) (pa_cons (pv 1) pa_nil))))
      (pss_cons (ps_expr (pe_call G_check_order_of (hr.mono (by decide)) (by rfl) T.g_check_order_of T.F_check_order_of.kp T.b_check_order_of .nil pass0 (pa_cons (pv 2) (pa_cons (pv 0) pa_nil))))
      (pss_cons (ps_expr (pe_call G_check_many (hr.mono (by decide)) (by rfl) T.g_check_many T.F_check_many.kp T.b_check_many .nil pass0 (pa_cons (pv 3) pa_nil)))
      (pss_one (ps_ret (pe_callB (cr_sum rfl) (by rfl) T.z_sum (by decide +kernel) (pa_cons (pe_lc (own := [("rounds", 4), ("standings", 5)]) rfl sc_fixed_after.nd (pi_listK (K := K) rfl (pe_call G_first_backs (hr.mono (by decide)) (by rfl) T.g_first_backs T.F_first_backs.kp T.b_first_backs .nil pass0 (pa_cons (pv 0) (pa_cons (pv 1) (pa_cons (pv 2) pa_nil))))) (blkOk_by (by kernel_rfl)) (fun _ _ _ _ _ => (pg_tupK (n := 2) (K := K) rfl rfl (pgs_cons (pg_name (i := 4) sc_fixed_after.nd rfl (by first | exact .inl rfl | exact .inr rfl)) (pgs_cons (pg_name (i := 5) sc_fixed_after.nd rfl (by first | exact .inl rfl | exact .inr rfl)) pgs_nil)))) (fun _ _ _ _ _ => (pts_one (pt_cmpR op_eq (pe_op op_modN (pv 3) (pv 4)) pe_int (nomark _)))) (fun _ _ _ _ _ => (pv 5))) pa_nil))))))), ?_⟩
    refine ⟨_, rfl, _, rfl, a, ts, n, rfl, hT, N, fun H1 e1 => ?_⟩
    refine ⟨_, rfl, _, rfl, o, ord, n, rfl, ex_l e1 hO, O, by omega, fun H2 e2 => ?_⟩
    refine ⟨_, rfl, m, rfl, fun H3 e3 => ?_⟩
    have e13 := (e1.trans e2).trans e3
    dsimp only [tNext]
    show tRet (tCB _ _) _ [some (.int (n : Int)), some (.ref a), some (.ref o), some (.int m), none, none] H3
    have comp := el_lcT2 (K := K) (σ := [some (.int (n : Int)), some (.ref a), some (.ref o), some (.int m), none, none]) (H := H3) (us := [((.int ((wholeN n ts ord : Nat) : Int), .int ((fac n : Nat) : Int)) : V × V)]) (j1 := 4) (j2 := 5) (vs := [4, 5])
      (t := tTest (tOp rEq (tOp (rI (fun _ j => j ≠ 0) fun i j => V.int (i.fmod j)) (tVar 3) (tVar 4)) (tC (V.int 0)))) (te := tVar 5) (fun _ => decide (V.int (m.fmod ((wholeN n ts ord : Nat) : Int)) = V.int 0)) (fun _ => .int ((fac n : Nat) : Int))
      (elt_first (te := tCons (tVar 0) (tCons (tVar 1) (tCons (tVar 2) tNil))) (E := E0) (ea_cons (ev_var rfl) (ea_cons (ev_var rfl) (ea_cons (ev_var rfl) ea_nil))) (hT.mono e13) N (ex_l e13 hO) O hc) (by show 1 ≤ 40000; decide) (fun x y => rfl)
      (fun i u H4 e4 hu => by
        have hi := (List.getElem?_eq_some_iff.mp hu).1
        match i, hu with
        | 0, hu =>
          cases hu
          exact et_test (ev_op (ev_op (ev_var rfl) (ev_var rfl) (rv_I (by show ((wholeN n ts ord : Nat) : Int) ≠ 0; omega))) ev_c (rv_eq rfl)))
      (fun i u H4 e4 hu _ => by
        match i, hu with
        | 0, hu =>
          cases hu
          exact ev_var rfl)
    refine s_ret (v := .int (if m % ((wholeN n ts ord : Nat) : Int) = 0 then ((fac n : Nat) : Int) else 0)) (ev_cbL comp fun p H4 e4 hp => fun H5 e5 Q5 q5 => ?_) fun H4 e4 => q H4 (e13.trans e4)
    have em : m.fmod ((wholeN n ts ord : Nat) : Int) = m % ((wholeN n ts ord : Nat) : Int) := Int.fmod_eq_emod_of_nonneg _ (by omega)
    by_cases d : m % ((wholeN n ts ord : Nat) : Int) = 0
    · rw [if_pos d] at q5
      refine ⟨p, [((fac n : Nat) : Int)], rfl, .inl (.inl (e5 _ _ (by rw [hp, em, d]; rfl))), ?_⟩
      rw [show [((fac n : Nat) : Int)].sum = ((fac n : Nat) : Int) by simp]
      exact q5 H5 (Ex.refl H5)
    · rw [if_neg d] at q5
      refine ⟨p, [], rfl, .inl (.inl (e5 _ _ ?_)), q5 H5 (Ex.refl H5)⟩
      rw [hp]
      have : decide (V.int (m.fmod ((wholeN n ts ord : Nat) : Int)) = V.int 0) = false := decide_eq_false fun z => by
        injection z with z
        rw [em] at z
        exact d z
      rw [this]
      rfl
end
end K24

/-! Lists of whole numbers: in, index, cut, put together. -/
namespace Vf
open PySem PySem.Spec PyProof.Rows L2 Evl
theorem inV_ints (x : Int) : ∀ l : List Int, inV (.int x) (l.map V.int) = decide (x ∈ l)
  | [] => rfl
  | y :: l => by
    have ih := inV_ints x l
    unfold inV at ih ⊢
    rw [List.map_cons, List.any_cons, ih]
    have e : eqV (.int y) (.int x) = decide (y = x) := rfl
    by_cases c : y = x
    · subst c
      simp [e]
    · have c2 : ¬ x = y := fun z => c z.symm
      simp [e, c, c2]
theorem flat_ints (l : List Int) : (l.map V.int).all flatV = true := by
  rw [List.all_eq_true]
  intro x hx
  obtain ⟨y, _, rfl⟩ := List.mem_map.mp hx
  rfl
theorem rv_in {K : PySem.W.Frag} {H : Hp} {p : Addr} {x : Int} {l : List Int} (h : SqL K H p (l.map V.int)) : RV (rIn K false) (.int x) (.ref p) H (.bl (decide (x ∈ l))) := fun H1 e Q q =>
  ⟨p, _, rfl, .inl (ex_l e h), rfl, flat_ints l, by rw [if_neg (by decide), inV_ints]; exact q H1 (Ex.refl H1)⟩
theorem at_idx {o : List Int} {c : Int} (h : c ∈ o) : (o.map V.int)[o.idxOf c]? = some (.int c) := by
  have hlt := List.idxOf_lt_length_of_mem h
  rw [List.getElem?_map, List.getElem?_eq_getElem hlt, List.getElem_idxOf]
  rfl
theorem idx_no {c : Int} : ∀ (o : List Int) (m : Nat), m < o.idxOf c → o[m]? ≠ some c
  | [], m, h => absurd h (Nat.not_lt_zero _)
  | x :: o, m, h => by
    rw [List.idxOf_cons] at h
    by_cases e : x = c
    · subst e
      rw [beq_self_eq_true] at h
      exact absurd h (Nat.not_lt_zero _)
    · rw [beq_eq_false_iff_ne.mpr e] at h
      cases m with
      | zero => exact fun z => e (Option.some.inj z)
      | succ m => exact idx_no o m (Nat.lt_of_succ_lt_succ h)
theorem idx_first {o : List Int} {c : Int} : ∀ (m : Nat) (z : V), m < o.idxOf c → (o.map V.int)[m]? = some z → eqV z (.int c) = false := by
  intro m z hm hz
  rw [List.getElem?_map] at hz
  cases hx : o[m]? with
  | none => rw [hx] at hz; cases hz
  | some x =>
    rw [hx] at hz
    have hz : V.int x = z := Option.some.inj hz
    subst hz
    have e : eqV (.int x) (.int c) = decide (x = c) := rfl
    rw [e]
    exact decide_eq_false fun ex => idx_no o m hm (by rw [hx, ex])
theorem rv_notin {K : PySem.W.Frag} {H : Hp} {p : Addr} {x : Int} {l : List Int} (h : SqL K H p (l.map V.int)) : RV (rIn K true) (.int x) (.ref p) H (.bl (!decide (x ∈ l))) := fun H1 e Q q => by
  have z := rv_niL (x := .int x) h rfl (flat_ints l)
  rw [inV_ints] at z
  exact z H1 e Q q
theorem cut_to (xs : List V) (k : Nat) : cutV xs none (some (k : Int)) = xs.take k := by
  unfold cutV
  rw [HT.sIx_none, HT.sIx_nat]
  by_cases h : k ≤ xs.length
  · rw [Nat.min_eq_left h]
    rfl
  · rw [Nat.min_eq_right (by omega), List.take_of_length_le (by show (xs.drop 0).length ≤ _; simp), List.take_of_length_le (by omega)]
    rfl
theorem cut_from (xs : List V) (k : Nat) (h : k ≤ xs.length) : cutV xs (some (k : Int)) none = xs.drop k := by
  unfold cutV
  rw [HT.sIx_none, HT.sIx_nat, Nat.min_eq_left h, List.take_of_length_le (by rw [List.length_drop]; exact Nat.le_refl _)]
theorem sz_of11 {n : Nat} (h : n ≤ 100000) : n ≤ sizeLine := by unfold sizeLine; omega
theorem el_cat {σ : L2.St} {H : Hp} {ta tb : TE} {a b : List V} (h : EvL ta σ H a) (k : EvL tb σ H b) (hl : a.length + b.length ≤ 100000) : EvL (tOp rCat ta tb) σ H (a ++ b) := fun H1 e Q q =>
  h H1 e _ fun p H2 np e2 hp => k H2 (e.trans e2) _ fun p2 H3 np2 e3 hp2 => ⟨p, p2, _, _, rfl, rfl, e3 _ _ hp, hp2, sz_of11 hl, fun p3 np3 => q p3 _ (fresh_back (e2.trans e3) np3) ((e2.trans e3).trans (Ex.new np3)) upd_same⟩
theorem el_cat2 {σ : L2.St} {H : Hp} {ta tb : TE} {a b : List V} {p2 : Addr} (h : EvL ta σ H a) (k : Ev tb σ H (.ref p2)) (hb : H p2 = some (.lst b)) (hl : a.length + b.length ≤ 100000) : EvL (tOp rCat ta tb) σ H (a ++ b) := fun H1 e Q q =>
  h H1 e _ fun p H2 np e2 hp => k H2 (e.trans e2) _ fun H3 e3 => ⟨p, p2, _, _, rfl, rfl, e3 _ _ hp, ((e.trans e2).trans e3) _ _ hb, sz_of11 hl, fun p3 np3 => q p3 _ (fresh_back (e2.trans e3) np3) ((e2.trans e3).trans (Ex.new np3)) upd_same⟩
theorem el_cat1 {σ : L2.St} {H : Hp} {ta tb : TE} {a b : List V} {p : Addr} (h : Ev ta σ H (.ref p)) (ha : H p = some (.lst a)) (k : EvL tb σ H b) (hl : a.length + b.length ≤ 100000) : EvL (tOp rCat ta tb) σ H (a ++ b) := fun H1 e Q q =>
  h H1 e _ fun H2 e2 => k H2 (e.trans e2) _ fun p2 H3 np2 e3 hp2 => ⟨p, p2, _, _, rfl, rfl, ((e.trans e2).trans e3) _ _ ha, hp2, sz_of11 hl, fun p3 np3 => q p3 _ (fresh_back (e2.trans e3) np3) ((e2.trans e3).trans (Ex.new np3)) upd_same⟩
theorem cut_fr (xs : List V) (k : Nat) : cutV xs (some (k : Int)) none = xs.drop k := by
  unfold cutV
  rw [HT.sIx_none, HT.sIx_nat]
  by_cases h : k ≤ xs.length
  · rw [Nat.min_eq_left h, List.take_of_length_le (by rw [List.length_drop]; omega)]
  · rw [Nat.min_eq_right (by omega), List.drop_eq_nil_of_le (by omega), List.drop_eq_nil_of_le (by omega)]
    simp
theorem cut_turn (xs : List V) (k : Nat) : (cutV xs (some (k : Int)) none ++ cutV xs none (some (k : Int))).Perm xs := by
  rw [cut_fr, cut_to]
  refine (List.perm_append_comm).trans ?_
  rw [List.take_append_drop]
theorem ev_index {K : PySem.W.Frag} {σ : L2.St} {H : Hp} {to : TE} {ta : TA} {p : Addr} {st : List Int} {c : Int} (h : Ev to σ H (.ref p)) (hs : SqL K H p (st.map V.int)) (ha : EvA ta σ H [.int c]) (hc : c ∈ st) : Ev (tBM K "list" (rIndex K) to ta) σ H (.int (st.idxOf c : Nat)) := fun H1 e Q q =>
  h H1 e _ fun H2 e2 => ⟨.inl ⟨rfl, _, ex_l (e.trans e2) hs⟩, ha H2 (e.trans e2) _ fun H3 e3 => ⟨p, st.map V.int, .int c, st.idxOf c, .int c, rfl, rfl, ex_l ((e.trans e2).trans e3) hs, rfl, flat_ints st, at_idx hc, by show decide (c = c) = true; simp, idx_first, q H3 (e2.trans e3)⟩⟩
theorem getD_of {l : List Int} {j : Nat} {v : Int} (h : l[j]? = some v) : l.getD j 0 = v := by rw [List.getD_eq_getElem?_getD, h]; rfl
end Vf

namespace K24
open PySem PySem.Spec PyProof.Rows L2 Vf Evl
section
variable {P : Program} {w : World} {K : PySem.W.Frag} {mg : Str → Option Value} {base : Heap} {A : Ad}
theorem ok_l_breaks (T : Txt K mg A) : FnOk P w K mg base CX0 1 A.f_l_breaks A.d_l_breaks ["_law_row"] (sp_breaks_of K) := by
  refine T.F_l_breaks.ok sc_l_breaks (fun vs H Q E h => ?_) (fun cdv A' outer s H vs Q E hr h => ?_)
  · obtain ⟨a, ord, n, rfl, _⟩ := h
    rfl
  · obtain ⟨a, ord, n, rfl, hS, O, hn, q⟩ := h
    have ol := O.len
    refine ⟨_, (pss_cons (ps_set (i := 1) sc_l_breaks.nd rfl (by first | exact .inl rfl | exact .inr rfl) pe_dnewK)
      (pss_cons (ps_for PassesOwn.never rfl (pi_enum (by rfl) T.z_enumerate (pa_cons (pv 0) pa_nil)) (pg_tupK (n := 2) (K := K) rfl rfl (pgs_cons (pg_name (i := 2) sc_l_breaks.nd rfl (by first | exact .inl rfl | exact .inr rfl)) (pgs_cons (pg_name (i := 3) sc_l_breaks.nd rfl (by first | exact .inl rfl | exact .inr rfl)) pgs_nil))) (pss_one (ps_asg (pv 2) (pg_sub (pv 1) (pv 3) (set_dict (hu_of hr))))))
      (pss_one (ps_ret (pe_lc (own := [("_law_one", 3)]) rfl sc_l_breaks.nd (pi_range2 (by rfl) T.z_range (pa_cons pe_int (pa_cons (pe_op op_add (pe_callB (call_lenK (K := K) rfl) (by rfl) T.z_len PySem.boot_len (pa_cons (pv 0) pa_nil)) pe_int) pa_nil))) (blkOk_by (by kernel_rfl)) (fun _ _ _ _ _ => (pg_name (i := 3) sc_l_breaks.nd rfl (by first | exact .inl rfl | exact .inr rfl))) (fun _ _ _ _ _ => (pts_one (pt_cmpR op_gt (pe_dget (hu_of hr) (pv 1) (pv 3) (fun _ _ => rfl)) (pe_dget (hu_of hr) (pv 1) (pe_op op_add (pe_op op_modN (pv 3) (pe_callB (call_lenK (K := K) rfl) (by rfl) T.z_len PySem.boot_len (pa_cons (pv 0) pa_nil))) pe_int) (fun _ _ => rfl)) (nomark _)))) (fun _ _ _ _ _ => (pv 3))))))), ?_⟩
    refine fun D nD => ?_
    have e0 : Ex H (upd H D (.dK [])) := Ex.new nD
    refine ⟨.ref a, rfl, a, ord.map V.int, rfl, ex_l e0 hS, ?_⟩
    refine for_enumL (xs := ord.map V.int) (fun i σ' H' => (∃ y2 y3, σ' = [some (.ref a), some (.ref D), y2, y3]) ∧ Ex H H' ∧
        ∃ kvs : List (Key × V), H' D = some (.dK kvs) ∧ kvs.length ≤ i ∧ ∀ (j : Nat) (x : Int), j < i → ord[j]? = some x → valV kvs (.inl x) = some (.int (j : Int)))
      ⟨⟨none, none, rfl⟩, e0, [], upd_same, Nat.le_refl _, fun j x hj => absurd hj (Nat.not_lt_zero _)⟩ (fun i σ' H' z => ex_l z.2.1 hS) ?_ ?_
    · rintro i x Tt σ' H' hx ⟨⟨y2, y3, rfl⟩, e1, kvs, hD, hk, hv⟩ nT
      obtain ⟨c, hc, rfl⟩ := map_at hx
      have hi := (List.getElem?_eq_some_iff.mp hc).1
      have e2 : Ex H' (upd H' Tt (.tup [.int (i : Nat), .int c])) := Ex.new nT
      refine ⟨Tt, _, rfl, .inl (.inl upd_same), rfl, _, _, rfl, _, _, rfl, rfl, ?_⟩
      refine ⟨_, rfl, _, rfl, _, rfl, D, _, rfl, DPut.k (k := .inl c) (e2 _ _ hD) (sz_lt (by omega)), ?_⟩
      have l1 := length_putK kvs (.inl c) (V.int (i : Int))
      refine ⟨⟨_, _, rfl⟩, Ex.mut (e1.trans e2) nD, _, upd_same, by omega, fun j x hj hxj => ?_⟩
      rw [valV_put]
      by_cases ej : j = i
      · rw [ej] at hxj
        have : x = c := Option.some.inj (hxj.symm.trans hc)
        rw [this, if_pos rfl, ej]
      · have nx : x ≠ c := fun z => by
          rw [z] at hxj
          refine nodup_at O.nd hc (List.mem_of_getElem? (i := j) ?_)
          rw [List.getElem?_take, if_pos (by omega)]
          exact hxj
        rw [if_neg (fun z => nx (by injection z)), hv j x (by omega) hxj]
    · rintro σ' H' ⟨⟨y2, y3, rfl⟩, e1, kvs, hD, hk, hv⟩
      rw [List.length_map, ol] at hv
      have get : ∀ (k : Nat) (H2 : Hp), Ex H' H2 → k < n → DGet H2 D (.int ((k + 1 : Nat) : Int)) (some (.int ((ord.idxOf ((k + 1 : Nat) : Int) : Nat) : Int))) := fun k H2 e2 hk2 => by
        have hm := M30.stn_mem O hk2
        have hlt := List.idxOf_lt_length_of_mem hm
        have hx : ord[ord.idxOf ((k + 1 : Nat) : Int)]? = some ((k + 1 : Nat) : Int) := by rw [List.getElem?_eq_getElem hlt, List.getElem_idxOf]
        exact .inl ⟨kvs, .inl _, .inl (e2 _ _ hD), rfl, (hv _ _ (by omega) hx).symm⟩
      dsimp only
      refine s_retL (xs := (blI n (M30.mk n ord)).map V.int) ?_ fun p H2 np e2 hp => q p H2 (fresh_back e1 np) (e1.trans e2) hp
      rw [blI_range]
      have len0 : ∀ (σ : L2.St) (H2 : Hp), σ[0]? = some (some (.ref a)) → Ex H' H2 → Ev (tCB (rLenS K) (tCons (tVar 0) tNil)) σ H2 (.int (n : Int)) := fun σ H2 h0 e2 => ev_is (ev_len (ev_var h0) (ex_l (e1.trans e2) hS)) (by rw [List.length_map, ol])
      have go := el_lcR2 (H := H') (σ := [some (.ref a), some (.ref D), y2, y3]) (j := 3) (vs := [3]) (lo := 1) (n := (n : Int) + 1) (ta := tCons (tC (.int 1)) (tCons (tOp (rI0 fun i j => V.int (i + j)) (tCB (rLenS K) (tCons (tVar 0) tNil)) (tC (V.int 1))) tNil))
        (t := tTest (tOp (rI0 fun i j => V.bl (decide (j < i))) (tDGet (tVar 1) (tVar 3)) (tDGet (tVar 1) (tOp (rI0 fun i j => V.int (i + j)) (tOp (rI (fun _ j => j ≠ 0) fun i j => .int (i.fmod j)) (tVar 3) (tCB (rLenS K) (tCons (tVar 0) tNil))) (tC (.int 1)))))) (te := tVar 3)
        (M30.mk n ord) (fun k => V.int (1 + (k : Int))) (ea_cons ev_c (ea_cons (ev_op (len0 _ _ rfl (Ex.refl _)) ev_c rv_I0) ea_nil)) (by omega) (fun x => rfl) (fun k H4 e4 hk => ?_) (fun k H4 e4 _ _ => ev_var rfl)
      · rw [show ((n : Int) + 1 - 1).toNat = n by omega] at go
        exact go
      · have hki : k < n := by omega
        have e1k : (1 + (k : Int)) = ((k + 1 : Nat) : Int) := by omega
        have e2k : (1 + (k : Int)).fmod (n : Int) + 1 = ((M30.nx n k + 1 : Nat) : Int) := by
          rw [Int.fmod_eq_emod_of_nonneg _ (by omega), e1k]
          exact M30.nxt_nat hki
        have v1 := ev_dget (td := tVar 1) (ty := tVar 3) (σ := [some (.ref a), some (.ref D), y2, some (.int (1 + (k : Int)))]) (H := H4) (a := D) (y := .int (1 + (k : Int))) (v := .int ((ord.idxOf ((k + 1 : Nat) : Int) : Nat) : Int)) (ev_var rfl) (ev_var rfl) fun H5 e5 => by
          rw [e1k]
          exact get k H5 (e4.trans e5) hki
        have v2 := ev_dget (td := tVar 1) (ty := tOp (rI0 fun i j => V.int (i + j)) (tOp (rI (fun _ j => j ≠ 0) fun i j => .int (i.fmod j)) (tVar 3) (tCB (rLenS K) (tCons (tVar 0) tNil))) (tC (.int 1))) (σ := [some (.ref a), some (.ref D), y2, some (.int (1 + (k : Int)))]) (H := H4) (a := D) (y := .int ((1 + (k : Int)).fmod (n : Int) + 1)) (v := .int ((ord.idxOf ((M30.nx n k + 1 : Nat) : Int) : Nat) : Int)) (ev_var rfl) (ev_op (ev_op (ev_var rfl) (len0 _ _ rfl e4) (rv_I (by show (n : Int) ≠ 0; omega))) ev_c rv_I0) fun H5 e5 => by
          rw [e2k]
          exact get _ H5 (e4.trans e5) (M30.nx_lt hki)
        have v3 := et_test (ev_op v1 v2 (rv_I0 (g := fun i j => V.bl (decide (j < i)))))
        have em : M30.mk n ord k = decide (((ord.idxOf ((M30.nx n k + 1 : Nat) : Int) : Nat) : Int) < ((ord.idxOf ((k + 1 : Nat) : Int) : Nat) : Int)) := by
          unfold M30.mk
          exact decide_eq_decide.mpr (by omega)
        rw [em]
        exact v3
def sp_l_product : Sp := fun vs H Q _ => ∃ n : Nat, vs = [.int (n : Int)] ∧ 1 ≤ n ∧ n ≤ 1000 ∧ RetV (.int ((fac n : Nat) : Int)) H Q
theorem ok_l_product (T : Txt K mg A) : FnOk P w K mg base CX0 1 A.f_l_product A.d_l_product ["_law_most"] sp_l_product := by
  refine T.F_l_product.ok sc_l_product (fun vs H Q E h => ?_) (fun cdv A' outer s0 H vs Q E hr h => ?_)
  · obtain ⟨n, rfl, _⟩ := h
    rfl
  · obtain ⟨n, rfl, h1, h2, q⟩ := h
    refine ⟨_, (pss_cons (ps_set (i := 1) sc_l_product.nd rfl (by first | exact .inl rfl | exact .inr rfl) pe_int)
      (pss_cons (ps_for PassesOwn.never rfl (pi_range2 (by rfl) T.z_range (pa_cons pe_int (pa_cons (pe_op op_add (pv 0) pe_int) pa_nil))) (pg_name (i := 2) sc_l_product.nd rfl (by first | exact .inl rfl | exact .inr rfl)) (pss_one (ps_set (i := 1) sc_l_product.nd rfl (by first | exact .inl rfl | exact .inr rfl) (pe_op op_mul (pv 1) (pv 2)))))
      (pss_one (ps_ret (pv 1))))), ?_⟩
    show tSeq (tAsg (tC (.int 1)) (gName 1)) _ _ [some (.int (n : Int)), none, none] H
    refine q_asg ev_c fun H1 e1 => ?_
    show tSeq _ _ _ [some (.int (n : Int)), some (.int 1), none] H1
    refine q_forR2 (j := 2) (lo := 2) (n := (n : Int) + 1) (ea_cons ev_c (ea_cons (ev_op (ev_var rfl) ev_c rv_I0) ea_nil)) ⟨by decide, by decide, by omega, by omega⟩ (fun i σ' H' => (∃ y2, σ' = [some (.int (n : Int)), some (.int ((fac (i + 1) : Nat) : Int)), y2]) ∧ Ex H H') (fun H2 e2 => ⟨⟨_, rfl⟩, e1.trans e2⟩) ?_ ?_
    · rintro i σ' H' hi ⟨⟨y2, rfl⟩, e2⟩
      refine s_asg (ev_op (ev_var rfl) (ev_var rfl) (rv_I (.inr ⟨by omega, by omega⟩))) fun H3 e3 => ⟨⟨some (.int (2 + (i : Int))), ?_⟩, e2.trans e3⟩
      have ef : ((fac (i + 1) : Nat) : Int) * (2 + (i : Int)) = ((fac (i + 1 + 1) : Nat) : Int) := by
        show _ = (((i + 1 + 1) * fac (i + 1) : Nat) : Int)
        rw [Int.natCast_mul, Int.mul_comm]
        congr 1
        omega
      show [_, some (V.int (((fac (i + 1) : Nat) : Int) * (2 + (i : Int)))), _] = _
      rw [ef]
    · rintro σ' H' ⟨⟨y2, rfl⟩, e2⟩
      refine ⟨_, rfl, ?_⟩
      rw [show ((n : Int) + 1 - 2).toNat + 1 = n by omega]
      exact q H' e2
def sp_l_multiple : Sp := fun vs H Q _ => ∃ a b : Nat, vs = [.int (a : Int), .int (b : Int)] ∧ 0 < a ∧ 0 < b ∧ RetV (.int ((a.lcm b : Nat) : Int)) H Q
theorem ok_l_multiple (T : Txt K mg A) : FnOk P w K mg base CX0 1 A.f_l_multiple A.d_l_multiple ["_law_one", "_law_two"] sp_l_multiple := by
  refine T.F_l_multiple.ok sc_l_multiple (fun vs H Q E h => ?_) (fun cdv A' outer s0 H vs Q E hr h => ?_)
  · obtain ⟨a, b, rfl, _⟩ := h
    rfl
  · obtain ⟨a, b, rfl, ha, hb, q⟩ := h
    refine ⟨_, (pss_cons (ps_set (i := 2) sc_l_multiple.nd rfl (by first | exact .inl rfl | exact .inr rfl) (pv 0))
      (pss_cons (ps_while PassesOwn.never (pt_cmpR op_gt (pe_op op_modN (pv 2) (pv 1)) pe_int (nomark _)) (pss_one (ps_set (i := 2) sc_l_multiple.nd rfl (by first | exact .inl rfl | exact .inr rfl) (pe_op op_add (pv 2) (pv 0)))))
      (pss_one (ps_ret (pv 2))))), ?_⟩
    show tSeq (tAsg (tVar 0) (gName 2)) _ _ [some (.int (a : Int)), some (.int (b : Int)), none] H
    refine q_asg (ev_var rfl) fun H1 e1 => ?_
    show tSeq _ _ _ [some (.int (a : Int)), some (.int (b : Int)), some (.int (a : Int))] H1
    have lp := Nat.lcm_pos ha hb
    refine ⟨fun k σ' H' => ∃ m : Nat, σ' = [some (.int (a : Int)), some (.int (b : Int)), some (.int ((a * m : Nat) : Int))] ∧ Ex H H' ∧ 1 ≤ m ∧ a * m ≤ a.lcm b ∧ k = a.lcm b - a * m, ⟨_, 1, by rw [Nat.mul_one], e1, Nat.le_refl _, by rw [Nat.mul_one]; exact Nat.le_of_dvd lp (Nat.dvd_lcm_left _ _), rfl⟩, ?_⟩
    rintro k σ' H' ⟨m, rfl, e2, h1, h2, rfl⟩
    refine ⟨_, rfl, _, rfl, _, _, rfl, rfl, (by show (b : Int) ≠ 0; omega), _, _, rfl, rfl, _, rfl, ?_⟩
    have em : ((a * m : Nat) : Int).fmod (b : Int) = ((a * m % b : Nat) : Int) := by
      rw [Int.fmod_eq_emod_of_nonneg _ (by omega), Int.natCast_emod]
    rw [em]
    by_cases d : a * m % b = 0
    · rw [d, decide_eq_false (show ¬ (0 : Int) < ((0 : Nat) : Int) by decide)]
      have : a.lcm b ∣ a * m := Nat.lcm_dvd (Nat.dvd_mul_right _ _) (Nat.dvd_of_mod_eq_zero d)
      have le := Nat.le_of_dvd (Nat.mul_pos ha h1) this
      have eq : a * m = a.lcm b := by omega
      rw [eq]
      exact iteF ⟨_, rfl, q H' e2⟩
    · rw [decide_eq_true (show (0 : Int) < ((a * m % b : Nat) : Int) by omega)]
      have lt : a * m < a.lcm b := by
        refine Decidable.byContradiction fun z => d ?_
        have eq : a * m = a.lcm b := by omega
        rw [eq]
        exact Nat.mod_eq_zero_of_dvd (Nat.dvd_lcm_right _ _)
      have le : a * (m + 1) ≤ a.lcm b := by
        obtain ⟨c, hc⟩ := Nat.dvd_lcm_left a b
        rw [hc] at lt ⊢
        exact Nat.mul_le_mul_left a (Nat.lt_of_mul_lt_mul_left lt)
      have e4 : a * (m + 1) = a * m + a := Nat.mul_succ a m
      refine iteT ⟨fun σ2 H2 => ∃ k', k' < a.lcm b - a * m ∧ ∃ m : Nat, σ2 = [some (.int (a : Int)), some (.int (b : Int)), some (.int ((a * m : Nat) : Int))] ∧ Ex H H2 ∧ 1 ≤ m ∧ a * m ≤ a.lcm b ∧ k' = a.lcm b - a * m, fun σ2 H2 z => z, ?_⟩
      refine s_asg (ev_op (ev_var rfl) (ev_var rfl) rv_I0) fun H3 e3 => ⟨_, ?_, m + 1, ?_, e2.trans e3, by omega, le, rfl⟩
      · omega
      · show [_, _, some (V.int (((a * m : Nat) : Int) + (a : Int)))] = _
        rw [e4, Int.natCast_add]
def sp_l_rings (K : PySem.W.Frag) : Sp := fun vs H Q _ => ∃ (s t : Addr) (st ord : List Int) (n : Nat), vs = [.ref s, .ref t] ∧ SqL K H s (st.map V.int) ∧ SqL K H t ((MR.stOf (MR.runP M24.td0 (MR.plOf st) (MR.pairsF n ord))).map V.int) ∧ MR.Stn n st ∧ MR.Stn n ord ∧ (3 ≤ n ∧ n ≤ 40) ∧
  ∀ rs : List Int, rs.Pairwise (· ≤ ·) → rs.Perm (List.replicate (M30.bl n (M30.mk n ord)).length ((M30.bl n (M30.mk n ord)).length : Int) ++ List.replicate (n - (M30.bl n (M30.mk n ord)).length) ((n - (M30.bl n (M30.mk n ord)).length : Nat) : Int)) → RetL (rs.map V.int) H Q
theorem ok_l_rings (T : Txt K mg A) : FnOk P w K mg base CX0 1 A.f_l_rings A.d_l_rings ["_law_now", "_law_then"] (sp_l_rings K) := by
  refine T.F_l_rings.ok sc_l_rings (fun vs H Q E h => ?_) (fun cdv A' outer s0 H vs Q E hr h => ?_)
  · obtain ⟨s, t, st, ord, n, rfl, _⟩ := h
    rfl
  · obtain ⟨s, t, st, ord, n, rfl, hS, hT, S, O, hn, q⟩ := h
    refine ⟨_, (pss_cons (ps_set (i := 2) sc_l_rings.nd rfl (by first | exact .inl rfl | exact .inr rfl) (pe_lst pa_nil))
      (pss_cons (ps_for PassesOwn.never rfl (pi_listK (K := K) rfl (pv 0)) (pg_name (i := 3) sc_l_rings.nd rfl (by first | exact .inl rfl | exact .inr rfl)) (pss_cons (ps_set (i := 4) sc_l_rings.nd rfl (by first | exact .inl rfl | exact .inr rfl) (pe_ix (ix_listK (K := K) rfl) (pv 1) (pe_bmK (K := K) rfl PySem.F.plainAttrs_list PySem.F.slot_list_index PySem.F.type_list_index (mt_indexK (K := K) rfl) (pv 0) (pa_cons (pv 3) pa_nil)) (fun _ _ => rfl)))
      (pss_cons (ps_set (i := 5) sc_l_rings.nd rfl (by first | exact .inl rfl | exact .inr rfl) pe_int)
      (pss_cons (ps_while PassesOwn.never (pt_cmpR op_ne (pv 4) (pv 3) (nomark _)) (pss_cons (ps_set (i := 4) sc_l_rings.nd rfl (by first | exact .inl rfl | exact .inr rfl) (pe_ix (ix_listK (K := K) rfl) (pv 1) (pe_bmK (K := K) rfl PySem.F.plainAttrs_list PySem.F.slot_list_index PySem.F.type_list_index (mt_indexK (K := K) rfl) (pv 0) (pa_cons (pv 4) pa_nil)) (fun _ _ => rfl)))
      (pss_one (ps_set (i := 5) sc_l_rings.nd rfl (by first | exact .inl rfl | exact .inr rfl) (pe_op op_add (pv 5) pe_int)))))
      (pss_one (ps_expr (pe_bmK (K := K) rfl PySem.F.plainAttrs_list PySem.F.slot_list_append PySem.F.type_list_append mt_append (pv 2) (pa_cons (pv 5) pa_nil))))))))
      (pss_one (ps_ret (pe_callB (cr_sortedK (K := K) rfl) (by rfl) T.z_sorted (by decide +kernel) (pa_cons (pv 2) pa_nil)))))), ?_⟩
    have M := M24.mk_of O (show 2 ≤ n by omega)
    obtain ⟨th, hth⟩ : ∃ th, th = MR.stOf (MR.runP M24.td0 (MR.plOf st) (MR.pairsF n ord)) := ⟨_, rfl⟩
    rw [← hth] at hT
    have Th : MR.Stn n th := by
      rw [hth]
      exact (MR.run_plc S.plc (MR.pairs_ok (by omega) O.lo)).stn
    obtain ⟨φ, hφ⟩ : ∃ φ : Int → Int, φ = fun x => th.getD (st.idxOf x) 0 := ⟨_, rfl⟩
    have hV : ∀ j, j < n → φ ((M24.V n (M24.os ord) j + 1 : Nat) : Int) = ((j + 1 : Nat) : Int) := fun j hj => by
      have z := M24.then_at (show 2 ≤ n by omega) O S hj
      rw [← hth] at z
      rw [hφ]
      exact getD_of z
    have inS : ∀ x : Int, 1 ≤ x → x ≤ (n : Int) → x ∈ st := fun x h0 h1 => by
      obtain ⟨k, hk, rfl⟩ := M30.in_nat h0 h1
      exact M30.stn_mem S hk
    have step : ∀ x : Int, 1 ≤ x → x ≤ (n : Int) → 1 ≤ φ x ∧ φ x ≤ (n : Int) ∧ (th.map V.int)[st.idxOf x]? = some (.int (φ x)) := fun x h0 h1 => by
      have hi := List.idxOf_lt_length_of_mem (inS x h0 h1)
      rw [S.len, ← Th.len] at hi
      have e : φ x = th[st.idxOf x] := by
        rw [hφ]
        exact getD_of (List.getElem?_eq_getElem hi)
      have := Th.lo _ (List.getElem_mem hi)
      rw [e, List.getElem?_map, List.getElem?_eq_getElem hi]
      exact ⟨this.1, this.2, rfl⟩
    have iter : ∀ (k : Nat) (x : Int), 1 ≤ x → x ≤ (n : Int) → 1 ≤ M24.itF φ k x ∧ M24.itF φ k x ≤ (n : Int) := fun k => by
      induction k with
      | zero => exact fun x h0 h1 => ⟨h0, h1⟩
      | succ k ih => exact fun x h0 h1 => ⟨(step _ (ih x h0 h1).1 (ih x h0 h1).2).1, (step _ (ih x h0 h1).1 (ih x h0 h1).2).2.1⟩
    have ev_φ : ∀ (σ' : L2.St) (H' : Hp) (x : Int) (i : Nat), 1 ≤ x → x ≤ (n : Int) → Ex H H' → σ'[0]? = some (some (.ref s)) → σ'[1]? = some (some (.ref t)) → σ'[i]? = some (some (.int x)) →
        Ev (tOp (rIxL K) (tVar 1) (tBM K "list" (rIndex K) (tVar 0) (tCons (tVar i) tNil))) σ' H' (.int (φ x)) := fun σ' H' x i h0 h1 e g0 g1 gi => by
      refine ev_op (ev_var g1) (ev_index (ev_var g0) (ex_l e hS) (ea_cons (ev_var gi) ea_nil) (inS x h0 h1)) (rv_ixL (ex_l e hT) ?_)
      exact atI_nat (step x h0 h1).2.2
    obtain ⟨siz, hsiz⟩ : ∃ siz : Int → Int, siz = fun x => ((M24.ringOf n (M30.mk n ord) (M30.pr n (x.toNat - 1)) : Nat) : Int) := ⟨_, rfl⟩
    have sl := S.len
    refine q_asgL (xs := []) (el_lst ea_nil (Nat.zero_le _)) fun z H1 nz e1 hz => ?_
    show tSeq _ _ _ [some (.ref s), some (.ref t), some (.ref z), none, none, none] H1
    refine q_forLn (K := K) (tl := tVar 0) (j := 3) (xs := st.map V.int) (ev_var rfl) (ex_l e1 hS) (fun i σ' H' => (∃ y3 y4 y5, σ' = [some (.ref s), some (.ref t), some (.ref z), y3, y4, y5]) ∧ Ex H H' ∧ H' z = some (.lst (((st.take i).map siz).map V.int)))
      (fun H2 e2 => ⟨⟨_, _, _, rfl⟩, e1.trans e2, e2 _ _ hz⟩) (fun i σ' H' _ w => ex_l w.2.1 hS) ?_ ?_
    · rintro i x σ' H2 hx ⟨⟨y3, y4, y5, rfl⟩, e2, hz2⟩
      obtain ⟨x, hx', rfl⟩ := map_at hx
      clear hx
      have hx := hx'
      have il := (List.getElem?_eq_some_iff.mp hx).1
      obtain ⟨x0, x1⟩ := S.lo x (List.mem_of_getElem? hx)
      show tSeq _ _ _ [some (.ref s), some (.ref t), some (.ref z), some (.int x), y4, y5] H2
      refine q_asg (ev_φ _ H2 x 3 x0 x1 e2 rfl rfl rfl) fun H3 e3 => ?_
      show tSeq (tAsg (tC (.int 1)) (gName 5)) _ _ [some (.ref s), some (.ref t), some (.ref z), some (.int x), some (.int (φ x)), y5] H3
      refine q_asg ev_c fun H4 e4 => ?_
      show tSeq _ _ _ [some (.ref s), some (.ref t), some (.ref z), some (.int x), some (.int (φ x)), some (.int 1)] H4
      obtain ⟨k, hk, rfl⟩ := M30.in_nat x0 x1
      have back := fun m => M24.itF_back φ M hV m hk
      have sx : siz ((k + 1 : Nat) : Int) = ((M24.ringOf n (M30.mk n ord) (M30.pr n k) : Nat) : Int) := by
        rw [hsiz]
        show ((M24.ringOf n (M30.mk n ord) (M30.pr n (((k + 1 : Nat) : Int).toNat - 1)) : Nat) : Int) = _
        rw [show ((k + 1 : Nat) : Int).toNat - 1 = k by omega]
      have rp := M24.ring_pos M (M30.pr_lt hk)
      generalize M24.ringOf n (M30.mk n ord) (M30.pr n k) = R at back sx rp
      have e24 := (e2.trans e3).trans e4
      have hz4 := e4 _ _ (e3 _ _ hz2)
      refine ⟨fun m σ' H' => ∃ u : Nat, σ' = [some (.ref s), some (.ref t), some (.ref z), some (.int ((k + 1 : Nat) : Int)), some (.int (M24.itF φ u ((k + 1 : Nat) : Int))), some (.int (u : Int))] ∧ Ex H4 H' ∧ 1 ≤ u ∧ u ≤ R ∧ m = R - u, ⟨_, 1, rfl, Ex.refl _, Nat.le_refl _, rp, rfl⟩, ?_⟩
      rintro m σ' H5 ⟨u, rfl, e5, u1, uR, rfl⟩
      refine ⟨_, rfl, _, rfl, rfl, _, rfl, ?_⟩
      rw [dec_vi]
      by_cases d : M24.itF φ u ((k + 1 : Nat) : Int) = ((k + 1 : Nat) : Int)
      · rw [decide_eq_true d]
        have eq : u = R := by
          have := Nat.le_of_dvd u1 ((back u).mp d)
          omega
        refine iteF ?_
        refine s_app (e5 _ _ hz4) (ev_var rfl) (ev_var rfl) (by rw [List.length_map, List.length_map, List.length_take]; omega) fun H6 e6 => ⟨⟨_, _, _, rfl⟩, Ex.mut ((e24.trans e5).trans e6) (fresh_back (Ex.refl H) nz), ?_⟩
        rw [upd_same, take_snoc hx, List.map_append, List.map_append]
        show _ = some (HO.lst (_ ++ [V.int (siz ((k + 1 : Nat) : Int))]))
        rw [sx, eq]
      · rw [decide_eq_false d]
        have lt : u < R := by
          refine Decidable.byContradiction fun w => d ((back u).mpr ?_)
          have : u = R := by omega
          rw [this]
          exact Nat.dvd_refl _
        have it1 := iter u ((k + 1 : Nat) : Int) x0 x1
        refine iteT ⟨fun σ2 H2 => ∃ k', k' < R - u ∧ ∃ u : Nat, σ2 = [some (.ref s), some (.ref t), some (.ref z), some (.int ((k + 1 : Nat) : Int)), some (.int (M24.itF φ u ((k + 1 : Nat) : Int))), some (.int (u : Int))] ∧ Ex H4 H2 ∧ 1 ≤ u ∧ u ≤ R ∧ k' = R - u, fun σ2 H2 w => w, ?_⟩
        refine q_asg (ev_φ _ H5 _ 4 it1.1 it1.2 (e24.trans e5) rfl rfl rfl) fun H6 e6 => ?_
        refine s_asg (ev_op (ev_var rfl) ev_c rv_I0) fun H7 e7 => ⟨R - (u + 1), by omega, u + 1, rfl, (e5.trans e6).trans e7, by omega, by omega, rfl⟩
    · rintro σ' H2 ⟨⟨y3, y4, y5, rfl⟩, e2, hz2⟩
      rw [List.length_map, List.take_length] at hz2
      refine ⟨_, rfl, z, st.map siz, rfl, .inl (.inl hz2), by rw [List.length_map]; omega, fun rs p pm sr np => ?_⟩
      have pm2 := M24.sizes_perm (show 2 ≤ n by omega) O S rfl
      rw [hsiz] at pm
      exact q rs sr (pm.trans pm2) p _ (fresh_back e2 np) (e2.trans (Ex.new np)) upd_same
end
end K24

/-! What is shown: great numbers, tuples; repr of what is evaluated. -/
namespace Vf
open PySem PySem.Spec PyProof.Rows L2 Evl
theorem Dn.intB {i : Int} (h0 : 0 ≤ i) (h1 : i < 10 ^ 100) : Dn (.int i) 100 0 := by
  refine ⟨toString_length_le h0 (by decide) h1, ?_, rfl, rfl, Nat.le_refl _⟩
  refine decide_eq_true ?_
  have h2 : i.natAbs < 2 ^ 400 := by
    have : (10 : Int) ^ 100 < 2 ^ 400 := by decide +kernel
    have : i < 2 ^ 400 := by omega
    omega
  by_cases c : i.natAbs = 0
  · rw [c]; decide
  · exact Nat.lt_of_lt_of_le ((Nat.log2_lt c).2 h2) (by decide)
theorem piled_is (ts : List Str) : (ts.map (·.length)).sum + 2 * ts.length = piled ts := by
  induction ts with
  | nil => rfl
  | cons t ts ih =>
    rw [piled_cons, ← ih]
    simp only [List.map_cons, List.sum_cons, List.length_cons]
    omega
theorem Dn.tuple {ds : List PyData} {len dep : Nat} (h : ∀ d ∈ ds, Dn d len dep) : Dn (.tuple ds) ((len + 2) * ds.length + 3) (dep + 1) := by
  obtain ⟨b1, b2, b3, b4, b5⟩ := dn_all h
  refine ⟨?_, b2, b3, b4, Nat.succ_le_succ b5⟩
  show (tupleText (PyData.shownAll ds)).length ≤ _
  have z := tupleText_len_le (PyData.shownAll ds)
  rw [piled_is] at z
  omega
section
variable {K : PySem.W.Frag} {σ : L2.St} {H : Hp} {te : TE} {ta : TA}
/-- an object with such data -/
def EvDr (K : PySem.W.Frag) (te : TE) (σ : L2.St) (H : Hp) (d : PyData) : Prop := ∀ H1, Ex H H1 → ∀ Q : VK, (∀ a H2, Ex H1 H2 → Dp K H2 (.ref a) d → Q (.ref a) H2) → te σ H1 Q
theorem EvDr.ints {xs : List Int} (h : EvL te σ H (xs.map V.int)) : EvDr K te σ H (dInts xs) := fun H1 e Q q => h H1 e _ fun p H2 _ e2 hp => q p H2 e2 (dp_ints (.inl (.inl hp)))
theorem EvDr.var {i : Nat} {a : Addr} {d : PyData} (h : σ[i]? = some (some (.ref a))) (hd : Dp K H (.ref a) d) : EvDr K (tVar i) σ H d := fun H1 e Q q => ⟨_, h, q a H1 (Ex.refl H1) (Dp.on e _ _ hd)⟩
abbrev dPair (u : Int × Int) : PyData := .tuple [.int u.1, .int u.2]
abbrev dPairs (us : List (Int × Int)) : PyData := .list (us.map dPair)
theorem dp_pairs {a : Addr} {us : List (Int × Int)} (h : TLAt H a (us.map fun u => [.int u.1, .int u.2])) : Dp K H (.ref a) (dPairs us) := by
  obtain ⟨ps, h1, h2, h3⟩ := h
  rw [List.length_map] at h2
  refine .lst (.inl (.inl h1)) ?_
  clear h1
  induction ps generalizing us with
  | nil =>
    cases us with
    | nil => exact .nil
    | cons u us => cases h2
  | cons p ps ih =>
    cases us with
    | nil => cases h2
    | cons u us =>
      exact .cons (.tup (.inl (.inl (h3 0 p _ rfl rfl))) (.cons (.int _) (.cons (.int _) .nil))) (ih (by simpa using h2) fun i p' u' x y => h3 (i + 1) p' u' x y)
theorem EvDr.pairs {us : List (Int × Int)} (h : EvLT te σ H (us.map fun u => [.int u.1, .int u.2])) : EvDr K te σ H (dPairs us) := fun H1 e Q q => h H1 e _ fun D H2 _ e2 hD => q D H2 e2 (dp_pairs hD)
theorem dn_pairs {us : List (Int × Int)} (h : ∀ u ∈ us, (0 ≤ u.1 ∧ u.1 < 10 ^ 100) ∧ (0 ≤ u.2 ∧ u.2 < 10 ^ 100)) : Dn (dPairs us) (209 * us.length + 2) 2 := by
  have z := Dn.list (ds := us.map dPair) (len := 207) (dep := 1) fun d hd => by
    obtain ⟨u, hu, rfl⟩ := List.mem_map.mp hd
    obtain ⟨h1, h2⟩ := h u hu
    have y := Dn.tuple (ds := [.int u.1, .int u.2]) (len := 100) (dep := 0) fun d hd => by
      simp only [List.mem_cons, List.not_mem_nil, or_false] at hd
      rcases hd with rfl | rfl
      · exact Dn.intB h1.1 h1.2
      · exact Dn.intB h2.1 h2.2
    exact y.mono (by show (100 + 2) * 2 + 3 ≤ 207; decide) (Nat.le_refl _)
  rw [List.length_map] at z
  exact z
theorem ev_repr {d : PyData} {len dep : Nat} (h : EvDr K te σ H d) (D : Dn d len dep) (hl : len ≤ 100000) (hd : dep ≤ 60) : Ev (tCB (rRepr K) (tCons te tNil)) σ H (.str d.shown) := fun H1 e Q q =>
  h H1 e _ fun a H2 e2 hp => ⟨a, d, rfl, hp, D.show_, D.dict_, Nat.le_trans D.dep_ hd, Nat.le_trans D.len_ (Nat.le_trans hl (by decide)), q H2 e2⟩
/-- compared lists of whole numbers, one of them new, the other one held -/
theorem ev_neLV {a b : List Int} {p : Addr} {ta' tb : TE} (h : EvL ta' σ H (a.map V.int)) (k : Ev tb σ H (.ref p)) (hp : SqL K H p (b.map V.int)) : Ev (tOp (rNeD K) ta' tb) σ H (.bl (!decide (a = b))) := fun H1 e Q q =>
  h H1 e _ fun x H2 nx e2 hx => k H2 (e.trans e2) _ fun H3 e3 => ne_ints (.inl (.inl (e3 _ _ hx))) (ex_l ((e.trans e2).trans e3) hp) (q H3 (e2.trans e3))
theorem ev_eqLV {a b : List Int} {p : Addr} {ta' tb : TE} (h : EvL ta' σ H (a.map V.int)) (k : Ev tb σ H (.ref p)) (hp : SqL K H p (b.map V.int)) : Ev (tOp (rEqD K) ta' tb) σ H (.bl (decide (a = b))) := fun H1 e Q q =>
  h H1 e _ fun x H2 nx e2 hx => k H2 (e.trans e2) _ fun H3 e3 => eq_ints (.inl (.inl (e3 _ _ hx))) (ex_l ((e.trans e2).trans e3) hp) (q H3 (e2.trans e3))
theorem ev_neLL {a b : List Int} {ta' tb : TE} (h : EvL ta' σ H (a.map V.int)) (k : EvL tb σ H (b.map V.int)) : Ev (tOp (rNeD K) ta' tb) σ H (.bl (!decide (a = b))) := fun H1 e Q q =>
  h H1 e _ fun x H2 nx e2 hx => k H2 (e.trans e2) _ fun y H3 ny e3 hy => ne_ints (.inl (.inl (e3 _ _ hx))) (.inl (.inl hy)) (q H3 (e2.trans e3))
theorem ev_eqVV {a b : List Int} {p r : Addr} {ta' tb : TE} (h : Ev ta' σ H (.ref p)) (hp : SqL K H p (a.map V.int)) (k : Ev tb σ H (.ref r)) (hr : SqL K H r (b.map V.int)) : Ev (tOp (rEqD K) ta' tb) σ H (.bl (decide (a = b))) := fun H1 e Q q =>
  h H1 e _ fun H2 e2 => k H2 (e.trans e2) _ fun H3 e3 => eq_ints (ex_l ((e.trans e2).trans e3) hp) (ex_l ((e.trans e2).trans e3) hr) (q H3 (e2.trans e3))
theorem ev_lenL {xs : List V} (h : EvL te σ H xs) : Ev (tCB (rLenS K) (tCons te tNil)) σ H (.int (xs.length : Int)) := fun H1 e Q q =>
  h H1 e _ fun p H2 np e2 hp => ⟨p, xs, rfl, .inl (.inl (.inl hp)), q H2 e2⟩
end
theorem sort_is (xs : List Int) : (xs.mergeSort (fun a b => decide (a ≤ b))).Perm xs ∧ (xs.mergeSort (fun a b => decide (a ≤ b))).Pairwise (· ≤ ·) := by
  refine ⟨List.mergeSort_perm xs _, ?_⟩
  have z := List.pairwise_mergeSort (le := fun a b : Int => decide (a ≤ b)) (fun a b c h1 h2 => by simp at *; omega) (fun a b => by simp; omega) xs
  exact z.imp fun h => by simpa using h
theorem el_sorted {K : PySem.W.Frag} {σ : L2.St} {H : Hp} {te : TE} {ns ms : List Int} (h : EvL te σ H (ns.map V.int)) (hl : ns.length < 64) (u : ∀ ns' : List Int, ns'.Perm ns → ns'.Pairwise (· ≤ ·) → ns' = ms) : EvL (tCB (rSorted K) (tCons te tNil)) σ H (ms.map V.int) :=
  fun H1 e Q q => h H1 e _ fun p H2 np e2 hp => ⟨p, ns, rfl, .inl (.inl hp), hl, fun ns' p2 pm sr np2 => by
    obtain rfl := u ns' pm sr
    exact q p2 _ (fresh_back e2 np2) (e2.trans (Ex.new np2)) upd_same⟩
theorem rep_flat {α : Type} (k : Nat) (x : α) : (List.replicate k [x]).flatten = List.replicate k x := by
  induction k with
  | zero => rfl
  | succ k ih =>
    rw [List.replicate_succ, List.flatten_cons, ih, List.replicate_succ]
    rfl
theorem q_par {σ : L2.St} {H : Hp} {ta : TA} {tz : TS} {D : Ends} {i j : Nat} {v w : V} (h : EvA ta σ H [v, w]) (k : ∀ H1, Ex H H1 → tz D ((σ.set i (some v)).set j (some w)) H1) : tSeq (tPar i j ta) tz D σ H := h H (Ex.refl H) _ fun H1 e => ⟨v, w, rfl, k H1 e⟩
theorem s_par {σ : L2.St} {H : Hp} {ta : TA} {D : Ends} {i j : Nat} {v w : V} (h : EvA ta σ H [v, w]) (k : ∀ H1, Ex H H1 → D.nx ((σ.set i (some v)).set j (some w)) H1) : tPar i j ta D σ H := h H (Ex.refl H) _ fun H1 e => ⟨v, w, rfl, k H1 e⟩
end Vf

namespace K24
open PySem PySem.Spec PyProof.Rows L2 Vf Evl
/-! ### what the program's functions give, asked within an expression -/
section
variable {K : PySem.W.Frag} {σ : L2.St} {H : Hp} {tn tt ts to tm : TE} {tsl : List (Int × Int)} {st ord : List Int} {n : Nat} {s o : Addr}
theorem ets_nil : EvTs K (tLst tNil) σ H [] := fun H1 _ Q q => ⟨Nat.zero_le _, fun p np => q p _ (Ex.new np) ⟨[], .inl (.inl upd_same), rfl, fun i b t x => by cases x⟩⟩
theorem ets_var {i : Nat} {a : Addr} (h : σ[i]? = some (some (.ref a))) (hT : TiesAt K H a tsl) : EvTs K (tVar i) σ H tsl := fun H1 e Q q => ⟨_, h, q a H1 (Ex.refl H1) (hT.mono e)⟩
theorem el_after {m : Int} (hn : Ev tn σ H (.int (n : Int))) (ht : EvTs K tt σ H tsl) (hs : Ev ts σ H (.ref s)) (ho : Ev to σ H (.ref o)) (hm : Ev tm σ H (.int m)) (N : NetOk (n : Int) tsl) (hS : SqL K H s (st.map V.int)) (S : MR.Stn n st) (hO : SqL K H o (ord.map V.int)) (O : MR.Stn n ord) :
    EvL (tCall (sp_after_rounds K) [] E0 (tCons tn (tCons tt (tCons ts (tCons to (tCons tm tNil)))))) σ H ((MR.stOf (roundsZ (MR.tdF tsl) n ord m (MR.plOf st))).map V.int) := fun H1 e Q q =>
  hn H1 e _ fun H2 e2 => ht H2 (e.trans e2) _ fun a H3 e3 hT => hs H3 ((e.trans e2).trans e3) _ fun H4 e4 => ho H4 (((e.trans e2).trans e3).trans e4) _ fun H5 e5 => hm H5 ((((e.trans e2).trans e3).trans e4).trans e5) _ fun H6 e6 =>
    ⟨a, s, o, tsl, st, ord, n, m, rfl, hT.mono ((e4.trans e5).trans e6), N, ex_l (((((e.trans e2).trans e3).trans e4).trans e5).trans e6) hS, S, ex_l (((((e.trans e2).trans e3).trans e4).trans e5).trans e6) hO, O, fun p H7 np e7 hp => q p H7 (fresh_back ((((e2.trans e3).trans e4).trans e5).trans e6) np) (((((e2.trans e3).trans e4).trans e5).trans e6).trans e7) hp⟩
theorem el_after1 (hn : Ev tn σ H (.int (n : Int))) (ht : EvTs K tt σ H tsl) (hs : Ev ts σ H (.ref s)) (ho : Ev to σ H (.ref o)) (N : NetOk (n : Int) tsl) (hS : SqL K H s (st.map V.int)) (S : MR.Stn n st) (hO : SqL K H o (ord.map V.int)) (O : MR.Stn n ord) :
    EvL (tCall (sp_after_rounds K) [.int 1] E0 (tCons tn (tCons tt (tCons ts (tCons to tNil))))) σ H ((MR.stOf (roundsZ (MR.tdF tsl) n ord 1 (MR.plOf st))).map V.int) := fun H1 e Q q =>
  hn H1 e _ fun H2 e2 => ht H2 (e.trans e2) _ fun a H3 e3 hT => hs H3 ((e.trans e2).trans e3) _ fun H4 e4 => ho H4 (((e.trans e2).trans e3).trans e4) _ fun H5 e5 =>
    ⟨a, s, o, tsl, st, ord, n, 1, rfl, hT.mono (e4.trans e5), N, ex_l ((((e.trans e2).trans e3).trans e4).trans e5) hS, S, ex_l ((((e.trans e2).trans e3).trans e4).trans e5) hO, O, fun p H7 np e7 hp => q p H7 (fresh_back (((e2.trans e3).trans e4).trans e5) np) ((((e2.trans e3).trans e4).trans e5).trans e7) hp⟩
theorem ev_back {L : Nat} (hn : Ev tn σ H (.int (n : Int))) (ht : EvTs K tt σ H tsl) (hs : Ev ts σ H (.ref s)) (ho : Ev to σ H (.ref o)) (N : NetOk (n : Int) tsl) (hS : SqL K H s (st.map V.int)) (S : MR.Stn n st) (hO : SqL K H o (ord.map V.int)) (O : MR.Stn n ord) (PL : MR.Per (MR.tdF tsl) (MR.pairsF n ord) (MR.plOf st) L) :
    Ev (tCall (sp_back_after K) [] E0 (tCons tn (tCons tt (tCons ts (tCons to tNil))))) σ H (.int (L : Int)) := fun H1 e Q q =>
  hn H1 e _ fun H2 e2 => ht H2 (e.trans e2) _ fun a H3 e3 hT => hs H3 ((e.trans e2).trans e3) _ fun H4 e4 => ho H4 (((e.trans e2).trans e3).trans e4) _ fun H5 e5 =>
    ⟨a, s, o, tsl, st, ord, n, L, rfl, hT.mono (e4.trans e5), N, ex_l ((((e.trans e2).trans e3).trans e4).trans e5) hS, S, ex_l ((((e.trans e2).trans e3).trans e4).trans e5) hO, O, PL, fun H7 e7 => q H7 ((((e2.trans e3).trans e4).trans e5).trans e7)⟩
theorem ev_all (hn : Ev tn σ H (.int (n : Int))) (ht : EvTs K tt σ H tsl) (ho : Ev to σ H (.ref o)) (N : NetOk (n : Int) tsl) (hO : SqL K H o (ord.map V.int)) (O : MR.Stn n ord) (hc : tsl ≠ [] → 2 * tsl.length = n * (n - 1)) :
    Ev (tCall (sp_all_back K) [] E0 (tCons tn (tCons tt (tCons to tNil)))) σ H (.int ((wholeN n tsl ord : Nat) : Int)) := fun H1 e Q q =>
  hn H1 e _ fun H2 e2 => ht H2 (e.trans e2) _ fun a H3 e3 hT => ho H3 ((e.trans e2).trans e3) _ fun H5 e5 =>
    ⟨a, o, tsl, ord, n, rfl, hT.mono e5, N, ex_l (((e.trans e2).trans e3).trans e5) hO, O, hc, fun H7 e7 => q H7 (((e2.trans e3).trans e5).trans e7)⟩
theorem elt_counted (hn : Ev tn σ H (.int (n : Int))) (ht : EvTs K tt σ H tsl) (ho : Ev to σ H (.ref o)) (N : NetOk (n : Int) tsl) (hO : SqL K H o (ord.map V.int)) (O : MR.Stn n ord) (hc : tsl ≠ [] → 2 * tsl.length = n * (n - 1)) :
    EvLT (tCall (sp_backs_counted K) [] E0 (tCons tn (tCons tt (tCons to tNil)))) σ H ([(((wholeN n tsl ord : Nat) : Int), ((fac n : Nat) : Int))].map fun u => [.int u.1, .int u.2]) := fun H1 e Q q =>
  hn H1 e _ fun H2 e2 => ht H2 (e.trans e2) _ fun a H3 e3 hT => ho H3 ((e.trans e2).trans e3) _ fun H5 e5 =>
    ⟨a, o, tsl, ord, n, rfl, hT.mono e5, N, ex_l (((e.trans e2).trans e3).trans e5) hO, O, hc, fun D H7 nD e7 hD => q D H7 (fresh_back ((e2.trans e3).trans e5) nD) (((e2.trans e3).trans e5).trans e7) hD⟩
theorem ev_fixed {m : Int} (hn : Ev tn σ H (.int (n : Int))) (ht : EvTs K tt σ H tsl) (ho : Ev to σ H (.ref o)) (hm : Ev tm σ H (.int m)) (N : NetOk (n : Int) tsl) (hO : SqL K H o (ord.map V.int)) (O : MR.Stn n ord) (hc : tsl ≠ [] → 2 * tsl.length = n * (n - 1)) :
    Ev (tCall (sp_fixed_after K) [] E0 (tCons tn (tCons tt (tCons to (tCons tm tNil))))) σ H (.int (if m % ((wholeN n tsl ord : Nat) : Int) = 0 then ((fac n : Nat) : Int) else 0)) := fun H1 e Q q =>
  hn H1 e _ fun H2 e2 => ht H2 (e.trans e2) _ fun a H3 e3 hT => ho H3 ((e.trans e2).trans e3) _ fun H4 e4 => hm H4 (((e.trans e2).trans e3).trans e4) _ fun H5 e5 =>
    ⟨a, o, tsl, ord, n, m, rfl, hT.mono (e4.trans e5), N, ex_l ((((e.trans e2).trans e3).trans e4).trans e5) hO, O, hc, fun H7 e7 => q H7 ((((e2.trans e3).trans e4).trans e5).trans e7)⟩
theorem el_called {cs : List Int} {tc : TE} (hn : Ev tn σ H (.int (n : Int))) (ht : EvTs K tt σ H tsl) (hs : Ev ts σ H (.ref s)) (hc : EvL tc σ H (cs.map V.int)) (N : NetOk (n : Int) tsl) (hS : SqL K H s (st.map V.int)) (S : MR.Stn n st) (hb : ∀ x ∈ cs, 1 ≤ x ∧ x ≤ (n : Int)) (hl : cs.length ≤ 10000) :
    EvL (tCall (sp_called K) [] E0 (tCons tn (tCons tt (tCons ts (tCons tc tNil))))) σ H ((MR.stOf (MR.runP (MR.tdF tsl) (MR.plOf st) (MR.pairsF n cs))).map V.int) := fun H1 e Q q =>
  hn H1 e _ fun H2 e2 => ht H2 (e.trans e2) _ fun a H3 e3 hT => hs H3 ((e.trans e2).trans e3) _ fun H4 e4 => hc H4 (((e.trans e2).trans e3).trans e4) _ fun c H5 nc e5 hcs =>
    ⟨a, s, c, tsl, st, cs, n, rfl, hT.mono (e4.trans e5), N, ex_l ((((e.trans e2).trans e3).trans e4).trans e5) hS, S, .inl (.inl hcs), hb, hl, fun p H7 np e7 hp => q p H7 (fresh_back (((e2.trans e3).trans e4).trans e5) np) ((((e2.trans e3).trans e4).trans e5).trans e7) hp⟩
theorem ev_prod {te : TE} (h : Ev te σ H (.int (n : Int))) (h1 : 1 ≤ n) (h2 : n ≤ 1000) : Ev (tCall sp_l_product [] E0 (tCons te tNil)) σ H (.int ((fac n : Nat) : Int)) := fun H1 e Q q =>
  h H1 e _ fun H2 e2 => ⟨n, rfl, h1, h2, fun H3 e3 => q H3 (e2.trans e3)⟩
theorem el_brk {te : TE} (h : Ev te σ H (.ref o)) (hO : SqL K H o (ord.map V.int)) (O : MR.Stn n ord) (hn : 3 ≤ n ∧ n ≤ 40) : EvL (tCall (sp_breaks_of K) [] E0 (tCons te tNil)) σ H ((blI n (M30.mk n ord)).map V.int) := fun H1 e Q q =>
  h H1 e _ fun H2 e2 => ⟨o, ord, n, rfl, ex_l (e.trans e2) hO, O, hn, fun p H3 np e3 hp => q p H3 (fresh_back e2 np) (e2.trans e3) hp⟩
theorem ev_mult {a b : Nat} {ta : TA} (h : EvA ta σ H [.int (a : Int), .int (b : Int)]) (ha : 0 < a) (hb : 0 < b) : Ev (tCall sp_l_multiple [] E0 ta) σ H (.int ((a.lcm b : Nat) : Int)) := fun H1 e Q q =>
  h H1 e _ fun H2 e2 => ⟨a, b, rfl, ha, hb, fun H3 e3 => q H3 (e2.trans e3)⟩
end
theorem netok_nil {n : Nat} (h3 : 3 ≤ n) (h40 : n ≤ 40) : NetOk (n : Int) [] := ⟨by omega, by omega, (fun t h => by cases h), List.nodup_nil, Nat.zero_le _⟩
theorem fac_big : ∀ n, n ≤ 40 → ((fac n : Nat) : Int) < 10 ^ 100 := by decide +kernel
end K24

/-! Standings and places, call by call. -/
namespace MR
theorem stOf_is {n : Nat} {pl st : List Int} (P : Plc n pl) (hl : st.length = n) (h : ∀ p : Int, 1 ≤ p → p ≤ n → st[(g0 pl p - 1).toNat]? = some p) : stOf pl = st := by
  have hl2 := P.stn.len
  refine List.ext_getElem? fun j => ?_
  by_cases hj : j < n
  · obtain ⟨i, hi, e⟩ := List.mem_iff_getElem.mp (P.row.all (i := ((j + 1 : Nat) : Int)) (by omega) (by omega))
    have hx : pl[i]? = some ((j + 1 : Nat) : Int) := by rw [List.getElem?_eq_getElem hi, e]
    have i0 : i ≠ 0 := fun z => by
      rw [z, P.zero] at hx
      have := Option.some.inj hx
      omega
    have il : i ≤ n := by have := P.row.len; omega
    have hg : g0 pl (i : Int) = ((j + 1 : Nat) : Int) := by
      unfold g0
      rw [List.getD_eq_getElem?_getD, Int.toNat_natCast, hx]
      rfl
    have t := turn_at P.row hx
    rw [P.turn, Int.toNat_natCast, List.getElem?_cons_succ] at t
    have z := h (i : Int) (by omega) (by omega)
    rw [hg, show (((j + 1 : Nat) : Int) - 1).toNat = j by omega] at z
    rw [t, z]
  · rw [List.getElem?_eq_none (by omega), List.getElem?_eq_none (by omega)]
theorem stOf_at {n : Nat} {pl : List Int} (P : Plc n pl) {p : Int} (h0 : 1 ≤ p) (h1 : p ≤ n) : (stOf pl)[(g0 pl p - 1).toNat]? = some p := by
  obtain ⟨a, b, c⟩ := P.of h0 h1
  have t := turn_at P.row c
  rw [P.turn] at t
  rw [show (g0 pl p).toNat = (g0 pl p - 1).toNat + 1 by omega, List.getElem?_cons_succ] at t
  rw [t]
  exact congrArg some (by omega)
theorem stOf_step {n : Nat} {td : Int → Int → Bool} {pl : List Int} (P : Plc n pl) {c : Int × Int} (hc : CallOk n c) (ht : ¬ td (g0 pl c.1) (g0 pl c.2) = true) :
    stOf (stepP td pl c) = ((stOf pl).set (g0 pl c.2 - 1).toNat c.1).set (g0 pl c.1 - 1).toNat c.2 ∧ (∀ p : Int, 1 ≤ p → p ≤ n → g0 (stepP td pl c) p = if p = c.2 then g0 pl c.1 else if p = c.1 then g0 pl c.2 else g0 pl p) := by
  have hstep : stepP td pl c = (pl.set c.1.toNat (g0 pl c.2)).set c.2.toNat (g0 pl c.1) := by unfold stepP; rw [if_neg ht]
  have P2 := step_plc (td := td) P hc
  have g2 : ∀ p : Int, 1 ≤ p → p ≤ n → g0 (stepP td pl c) p = if p = c.2 then g0 pl c.1 else if p = c.1 then g0 pl c.2 else g0 pl p := by
    intro p h0 h1
    have z := swap_at P.row.len hc p.toNat
    rw [← hstep] at z
    obtain ⟨k1, k2, k3⟩ := hc
    show (stepP td pl c).getD p.toNat 0 = _
    rw [z]
    by_cases e1 : p = c.2
    · rw [if_pos (by rw [e1]), if_pos e1]
    · rw [if_neg (by omega), if_neg e1]
      by_cases e2 : p = c.1
      · rw [if_pos (by rw [e2]), if_pos e2]
      · rw [if_neg (by omega), if_neg e2]
  refine ⟨stOf_is P2 ?_ fun p h0 h1 => ?_, g2⟩
  · rw [List.length_set, List.length_set, P.stn.len]
  · obtain ⟨k1, k2, k3⟩ := hc
    have A1 := P.of k1.1 k1.2
    have A2 := P.of k2.1 k2.2
    have B := P.of h0 h1
    have sl := P.stn.len
    rw [g2 p h0 h1]
    by_cases e1 : p = c.2
    · rw [if_pos e1, List.getElem?_set_self (by rw [List.length_set]; omega), e1]
    · rw [if_neg e1]
      by_cases e2 : p = c.1
      · have ne : g0 pl c.1 ≠ g0 pl c.2 := fun z => k3 (P.inj k1.1 k1.2 k2.1 k2.2 z)
        rw [if_pos e2, List.getElem?_set_ne (by omega), List.getElem?_set_self (by omega), e2]
      · have n1 : g0 pl p ≠ g0 pl c.1 := fun z => e2 (P.inj h0 h1 k1.1 k1.2 z)
        have n2 : g0 pl p ≠ g0 pl c.2 := fun z => e1 (P.inj h0 h1 k2.1 k2.2 z)
        rw [if_neg e2, List.getElem?_set_ne (by omega), List.getElem?_set_ne (by omega)]
        exact stOf_at P h0 h1
theorem idx_at {o : List Int} (nd : o.Nodup) {j : Nat} {a : Int} (h : o[j]? = some a) : o.idxOf a = j := by
  obtain ⟨hj, e⟩ := List.getElem?_eq_some_iff.mp h
  rw [← e]
  exact nd.idxOf_getElem j hj
theorem idx_place {n : Nat} {st : List Int} (S : Stn n st) {p : Int} (h0 : 1 ≤ p) (h1 : p ≤ n) : ((st.idxOf p : Nat) : Int) + 1 = g0 (plOf st) p := by
  have P := S.plc
  have z := stOf_at P h0 h1
  rw [S.back] at z
  have A := P.of h0 h1
  rw [idx_at S.nd z]
  omega
end MR

namespace K24
open PySem PySem.Spec PyProof.Rows L2 Vf Evl
theorem ne_draws {H : Hp} {s d : Addr} {st : List Int} {k : Int} (h : H s = some (.lst (st.map V.int))) (hd : Dr H d k) : s ≠ d := by
  rintro rfl
  obtain ⟨x, b, hx⟩ := hd
  rw [h] at hx
  injection hx with hx
  injection hx with hx
  match st, hx with
  | [a, b, c], hx => cases hx
section
variable {P : Program} {w : World} {K : PySem.W.Frag} {mg : Str → Option Value} {base : Heap} {A : Ad}
def sp_l_loose_right : Sp := fun vs H Q _ => ∃ (d o : Addr) (k : Int) (ord : List Int) (n : Nat), vs = [.ref d, .ref o] ∧ Dr H d k ∧ (0 ≤ k ∧ k < 2 ^ 38) ∧ H o = some (.lst (ord.map V.int)) ∧ MR.Stn n ord ∧ (3 ≤ n ∧ n ≤ 40) ∧
  ∀ (k' : Int) (H2 : Hp), ExA d H H2 → Dr H2 d k' → (0 ≤ k' ∧ k' ≤ k + 1000) → Q (.bl true) H2
theorem ok_l_loose_right (T : Txt K mg A) : FnG P w K mg base CX0 7 A.f_l_loose_right A.d_l_loose_right ["_law_draws_here", "_law_row"] sp_l_loose_right := by
  have G_l_next : FnOk P w K mg base CX0 1 A.f_l_next A.d_l_next ["_law_draws_here"] sp_l_next := ok_l_next T
  have G_l_breaks : FnOk P w K mg base CX0 1 A.f_l_breaks A.d_l_breaks ["_law_row"] (sp_breaks_of K) := ok_l_breaks T
  have G_l_multiple : FnOk P w K mg base CX0 1 A.f_l_multiple A.d_l_multiple ["_law_one", "_law_two"] sp_l_multiple := ok_l_multiple T
  have G_l_product : FnOk P w K mg base CX0 1 A.f_l_product A.d_l_product ["_law_most"] sp_l_product := ok_l_product T
  have G_l_shuffled : FnOk P w K mg base CX0 2 A.f_l_shuffled A.d_l_shuffled ["_law_draws_here", "_law_things"] (sp_l_shuffled K) := ok_l_shuffled T
  have G_l_rings : FnOk P w K mg base CX0 1 A.f_l_rings A.d_l_rings ["_law_now", "_law_then"] (sp_l_rings K) := ok_l_rings T
  have G_after_rounds : FnOk P w K mg base CX0 6 A.f_after_rounds A.d_after_rounds ["seats", "ties", "standing", "order", "many"] (sp_after_rounds K) := ok_after_rounds T
  have G_called : FnOk P w K mg base CX0 6 A.f_called A.d_called ["seats", "ties", "standing", "calls"] (sp_called K) := ok_called T
  have G_back_after : FnOk P w K mg base CX0 6 A.f_back_after A.d_back_after ["seats", "ties", "standing", "order"] (sp_back_after K) := ok_back_after T
  have G_all_back : FnOk P w K mg base CX0 6 A.f_all_back A.d_all_back ["seats", "ties", "order"] (sp_all_back K) := ok_all_back T
  have G_backs_counted : FnOk P w K mg base CX0 6 A.f_backs_counted A.d_backs_counted ["seats", "ties", "order"] (sp_backs_counted K) := ok_backs_counted T
  have G_fixed_after : FnOk P w K mg base CX0 6 A.f_fixed_after A.d_fixed_after ["seats", "ties", "order", "many"] (sp_fixed_after K) := ok_fixed_after T
  obtain ⟨ds_ar, rd_after_rounds, hb_after_rounds⟩ := T.bd_after_rounds
  refine okG T.F_l_loose_right sc_l_loose_right (fun vs H Q E h => ?_) (fun cdv A' outer s0 H vs Q E hgd hr h => ?_)
  · obtain ⟨d, o, k, ord, n, rfl, _⟩ := h
    rfl
  · obtain ⟨d, o, k, ord, n, rfl, hd, hk, hO, O, hn, q⟩ := h
    refine ⟨_, (pss_cons (ps_set (i := 2) sc_l_loose_right.nd rfl (by first | exact .inl rfl | exact .inr rfl) (pe_callB (call_lenK (K := K) rfl) (by rfl) T.z_len PySem.boot_len (pa_cons (pv 1) pa_nil)))
      (pss_cons (ps_set (i := 3) sc_l_loose_right.nd rfl (by first | exact .inl rfl | exact .inr rfl) (pe_callB (call_lenK (K := K) rfl) (by rfl) T.z_len PySem.boot_len (pa_cons (pe_call G_l_breaks (hr.mono (by decide)) (by rfl) T.g_l_breaks T.F_l_breaks.kp T.b_l_breaks .nil pass0 (pa_cons (pv 1) pa_nil)) pa_nil)))
      (pss_cons (ps_set (i := 4) sc_l_loose_right.nd rfl (by first | exact .inl rfl | exact .inr rfl) (pe_call G_l_multiple (hr.mono (by decide)) (by rfl) T.g_l_multiple T.F_l_multiple.kp T.b_l_multiple .nil pass0 (pa_cons (pv 3) (pa_cons (pe_op op_sub (pv 2) (pv 3)) pa_nil))))
      (pss_cons (ps_set (i := 5) sc_l_loose_right.nd rfl (by first | exact .inl rfl | exact .inr rfl) (pe_call G_l_shuffled (hr.mono (by decide)) (by rfl) T.g_l_shuffled T.F_l_shuffled.kp T.b_l_shuffled .nil pass0 (pa_cons (pv 0) (pa_cons (pv 1) pa_nil))))
      (pss_cons (ps_set (i := 6) sc_l_loose_right.nd rfl (by first | exact .inl rfl | exact .inr rfl) (pe_call G_after_rounds (hr.mono (by decide)) (by rfl) T.g_after_rounds T.F_after_rounds.kp hb_after_rounds rd_after_rounds pass0 (pa_cons (pv 2) (pa_cons (pe_lst pa_nil) (pa_cons (pv 5) (pa_cons (pv 1) pa_nil))))))
      (pss_cons (ps_if (pt_cmpR (op_neD hr.units) (pe_call G_l_rings (hr.mono (by decide)) (by rfl) T.g_l_rings T.F_l_rings.kp T.b_l_rings .nil pass0 (pa_cons (pv 5) (pa_cons (pv 6) pa_nil))) (pe_callB (cr_sortedK (K := K) rfl) (by rfl) T.z_sorted (by decide +kernel) (pa_cons (pe_op op_cat (pe_op op_rep (pe_lst (pa_cons (pv 3) pa_nil)) (pv 3)) (pe_op op_rep (pe_lst (pa_cons (pe_op op_sub (pv 2) (pv 3)) pa_nil)) (pe_op op_sub (pv 2) (pv 3)))) pa_nil)) (nomark _)) (pss_one (ps_ret pe_bl)) pss_nil)
      (pss_cons (ps_if (pt_cmpR op_ne (pe_callB (call_repr_D hgd hr) (by rfl) T.z_repr (by decide +kernel) (pa_cons (pe_lst (pa_cons (pe_call G_back_after (hr.mono (by decide)) (by rfl) T.g_back_after T.F_back_after.kp T.b_back_after .nil pass0 (pa_cons (pv 2) (pa_cons (pe_lst pa_nil) (pa_cons (pv 5) (pa_cons (pv 1) pa_nil))))) (pa_cons (pe_call G_all_back (hr.mono (by decide)) (by rfl) T.g_all_back T.F_all_back.kp T.b_all_back .nil pass0 (pa_cons (pv 2) (pa_cons (pe_lst pa_nil) (pa_cons (pv 1) pa_nil)))) pa_nil))) pa_nil)) (pe_callB (call_repr_D hgd hr) (by rfl) T.z_repr (by decide +kernel) (pa_cons (pe_lst (pa_cons (pv 4) (pa_cons (pv 4) pa_nil))) pa_nil)) (nomark _)) (pss_one (ps_ret pe_bl)) pss_nil)
      (pss_cons (ps_if (pt_cmpR op_ne (pe_callB (call_repr_D hgd hr) (by rfl) T.z_repr (by decide +kernel) (pa_cons (pe_call G_backs_counted (hr.mono (by decide)) (by rfl) T.g_backs_counted T.F_backs_counted.kp T.b_backs_counted .nil pass0 (pa_cons (pv 2) (pa_cons (pe_lst pa_nil) (pa_cons (pv 1) pa_nil)))) pa_nil)) (pe_callB (call_repr_D hgd hr) (by rfl) T.z_repr (by decide +kernel) (pa_cons (pe_lst (pa_cons (pe_tup (pa_cons (pv 4) (pa_cons (pe_call G_l_product (hr.mono (by decide)) (by rfl) T.g_l_product T.F_l_product.kp T.b_l_product .nil pass0 (pa_cons (pv 2) pa_nil)) pa_nil))) pa_nil)) pa_nil)) (nomark _)) (pss_one (ps_ret pe_bl)) pss_nil)
      (pss_cons (ps_set (i := 7) sc_l_loose_right.nd rfl (by first | exact .inl rfl | exact .inr rfl) (pe_op op_add (pe_op op_modN (pe_callTy call_int1 (by rfl) T.z_int (by decide +kernel) (pa_cons (pe_call G_l_next (hr.mono (by decide)) (by rfl) T.g_l_next T.F_l_next.kp T.b_l_next .nil pass0 (pa_cons (pv 0) pa_nil)) pa_nil)) (pe_op op_powW pe_int pe_int)) pe_int))
      (pss_cons (ps_if (pt_cmpR op_ne (pe_call G_fixed_after (hr.mono (by decide)) (by rfl) T.g_fixed_after T.F_fixed_after.kp T.b_fixed_after .nil pass0 (pa_cons (pv 2) (pa_cons (pe_lst pa_nil) (pa_cons (pv 1) (pa_cons (pe_op op_mul (pv 4) (pv 7)) pa_nil))))) (pe_call G_l_product (hr.mono (by decide)) (by rfl) T.g_l_product T.F_l_product.kp T.b_l_product .nil pass0 (pa_cons (pv 2) pa_nil)) (nomark _)) (pss_one (ps_ret pe_bl)) pss_nil)
      (pss_cons (ps_if (pt_cmpR (op_neD hr.units) (pe_call G_after_rounds (hr.mono (by decide)) (by rfl) T.g_after_rounds T.F_after_rounds.kp T.b_after_rounds .nil pass0 (pa_cons (pv 2) (pa_cons (pe_lst pa_nil) (pa_cons (pv 5) (pa_cons (pv 1) (pa_cons (pv 4) pa_nil)))))) (pv 5) (nomark _)) (pss_one (ps_ret pe_bl)) pss_nil)
      (pss_cons (ps_if (PW.pt (pw_and (pt_cmpR op_gt (pv 4) pe_int (nomark _)) (pw_and1 (pt_cmpR op_ne (pe_call G_fixed_after (hr.mono (by decide)) (by rfl) T.g_fixed_after T.F_fixed_after.kp T.b_fixed_after .nil pass0 (pa_cons (pv 2) (pa_cons (pe_lst pa_nil) (pa_cons (pv 1) (pa_cons (pe_op op_add (pe_op op_mul (pv 4) (pv 7)) pe_int) pa_nil))))) pe_int (nomark _))))) (pss_one (ps_ret pe_bl)) pss_nil)
      (pss_cons (ps_if (pt_cmpR (op_neD hr.units) (pe_call G_after_rounds (hr.mono (by decide)) (by rfl) T.g_after_rounds T.F_after_rounds.kp T.b_after_rounds .nil pass0 (pa_cons (pv 2) (pa_cons (pe_lst pa_nil) (pa_cons (pv 5) (pa_cons (pv 1) (pa_cons (pe_op op_add (pe_op op_mul (pe_op op_mul (pv 4) (pe_op op_powW pe_int pe_int)) (pv 7)) pe_int) pa_nil)))))) (pv 6) (nomark _)) (pss_one (ps_ret pe_bl)) pss_nil)
      (pss_cons (ps_set (i := 8) sc_l_loose_right.nd rfl (by first | exact .inl rfl | exact .inr rfl) (pe_lst (pa_cons (pv 5) pa_nil)))
      (pss_cons (ps_for PassesOwn.never rfl (pi_listK (K := K) rfl (pv 1)) (pg_name (i := 9) sc_l_loose_right.nd rfl (by first | exact .inl rfl | exact .inr rfl)) (pss_cons (ps_set (i := 10) sc_l_loose_right.nd rfl (by first | exact .inl rfl | exact .inr rfl) (pe_callTy (call_listK (K := K) rfl) (by rfl) T.z_list (by decide +kernel) (pa_cons (pe_ix (ix_listK (K := K) rfl) (pv 8) (pe_un un_neg pe_int) (fun _ _ => rfl)) pa_nil)))
      (pss_cons (ps_par (i := 11) (j := 12) rfl sc_l_loose_right.nd rfl rfl (by decide) rfl rfl (pa_cons (pe_bmK (K := K) rfl PySem.F.plainAttrs_list PySem.F.slot_list_index PySem.F.type_list_index (mt_indexK (K := K) rfl) (pv 10) (pa_cons (pv 9) pa_nil)) (pa_cons (pe_bmK (K := K) rfl PySem.F.plainAttrs_list PySem.F.slot_list_index PySem.F.type_list_index (mt_indexK (K := K) rfl) (pv 10) (pa_cons (pe_op op_add (pe_op op_modN (pv 9) (pv 2)) pe_int) pa_nil)) pa_nil)) (by rfl))
      (pss_cons (ps_asg (pe_tup (pa_cons (pe_ix (ix_listK (K := K) rfl) (pv 10) (pv 12) (fun _ _ => rfl)) (pa_cons (pe_ix (ix_listK (K := K) rfl) (pv 10) (pv 11) (fun _ _ => rfl)) pa_nil))) (pg_tupK (n := 2) (K := K) rfl rfl (pgs_cons (pg_sub (pv 10) (pv 11) set_list) (pgs_cons (pg_sub (pv 10) (pv 12) set_list) pgs_nil))))
      (pss_one (ps_expr (pe_bmK (K := K) rfl PySem.F.plainAttrs_list PySem.F.slot_list_append PySem.F.type_list_append mt_append (pv 8) (pa_cons (pv 10) pa_nil))))))))
      (pss_one (ps_ret (pe_and (pe_cmpR (op_eqD hr.units) (pe_ix (ix_listK (K := K) rfl) (pv 8) (pe_un un_neg pe_int) (fun _ _ => rfl)) (pv 6) (nomark _)) (pe_one (pe_cmpR (op_eqD hr.units) (pe_call G_called (hr.mono (by decide)) (by rfl) T.g_called T.F_called.kp T.b_called .nil pass0 (pa_cons (pv 2) (pa_cons (pe_lst pa_nil) (pa_cons (pv 5) (pa_cons (pe_slice (sl_listK (K := K) rfl) (pv 1) po_none (po_some (pv 3))) pa_nil))))) (pe_ix (ix_listK (K := K) rfl) (pv 8) (pv 3) (fun _ _ => rfl)) (nomark _))))))))))))))))))))), ?_⟩
    have ol := O.len
    have h2 : 2 ≤ n := by omega
    have N := netok_nil hn.1 hn.2
    have td0 : MR.tdF [] = M24.td0 := by
      funext a b
      unfold MR.tdF
      exact decide_eq_false (by simp)
    obtain ⟨D, hD⟩ : ∃ D, D = (M30.bl n (M30.mk n ord)).length := ⟨_, rfl⟩
    have hcn : ([] : List (Int × Int)) ≠ [] → 2 * ([] : List (Int × Int)).length = n * (n - 1) := fun z => absurd rfl z
    have wl := whole_le (ts := []) O h2 hn.2
    have eW : wholeN n [] ord = D.lcm (n - D) := by
      unfold wholeN
      rw [if_pos rfl, hD]
    have fb := fac_big n hn.2
    -- figure = len(row)
    show tSeq _ _ _ [some (.ref d), some (.ref o), none, none, none, none, none, none, none, none, none, none, none] H
    refine q_asg (v := .int (n : Int)) (ev_is (ev_lenS (ev_var rfl) (.inl (.inl hO))) (by rw [List.length_map, ol])) fun H1 e1 => ?_
    have hO1 := e1 _ _ hO
    -- few = len(breaks(row))
    show tSeq (tAsg _ (gName 3)) _ _ [some (.ref d), some (.ref o), some (.int (n : Int)), none, none, none, none, none, none, none, none, none, none] H1
    refine q_asg (v := .int (D : Int)) (ev_is (ev_lenL (el_brk (ev_var rfl) (.inl (.inl hO1)) O hn)) (by rw [List.length_map]; unfold blI; rw [List.length_map, ← hD])) fun H2 e2 => ?_
    have hO2 := e2 _ _ hO1
    -- whole = multiple(few, figure - few)
    obtain ⟨d0, dn, _⟩ := M24.loose_per h2 O hD O.plc
    show tSeq (tAsg _ (gName 4)) _ _ [some (.ref d), some (.ref o), some (.int (n : Int)), some (.int (D : Int)), none, none, none, none, none, none, none, none, none] H2
    have esub : (n : Int) - (D : Int) = ((n - D : Nat) : Int) := by omega
    refine q_asg (v := .int ((wholeN n [] ord : Nat) : Int)) (ev_is (ev_mult (a := D) (b := n - D) (ea_cons (ev_var rfl) (ea_cons (ev_is (ev_op (ev_var rfl) (ev_var rfl) rv_I0) (congrArg V.int esub)) ea_nil)) d0 (by omega)) (by rw [eW])) fun H3 e3 => ?_
    have hO3 := e3 _ _ hO2
    have e13 := (e1.trans e2).trans e3
    -- now = shuffled(draws, row)
    show tSeq (tAsg (tCall (sp_l_shuffled K) _ _ _) _) _ _ [some (.ref d), some (.ref o), some (.int (n : Int)), some (.int (D : Int)), some (.int ((wholeN n [] ord : Nat) : Int)), none, none, none, none, none, none, none, none] H3
    refine ⟨_, rfl, _, rfl, d, o, k, ord.map V.int, rfl, hd.on e13, ⟨hk.1, by rw [List.length_map, ol]; omega⟩, .inl (.inl hO3), by rw [List.length_map, ol]; omega, fun H' _ x hx => ?_, fun ys pn H4 pm npn e4 hd4 hpn => ?_⟩
    · obtain ⟨v, _, rfl⟩ := List.mem_map.mp hx
      exact Sh.int _
    obtain ⟨st, rfl, pm2⟩ := map_perm pm
    have S := stn_perm O pm2
    have sl := S.len
    rw [List.length_map, ol] at hd4
    have hO4 := e4 _ _ (ne_draws hO3 (hd.on e13)) hO3
    have eA4 : ExA d H H4 := (ExA.of e13).trans e4
    obtain ⟨_, _, PL⟩ := M24.loose_per h2 O hD S.plc
    rw [← td0, ← eW] at PL
    have hnS : SqL K H4 pn (st.map V.int) := .inl (.inl hpn)
    have hoS : SqL K H4 o (ord.map V.int) := .inl (.inl hO4)
    obtain ⟨th, hth⟩ : ∃ th, th = MR.stOf (MR.runP M24.td0 (MR.plOf st) (MR.pairsF n ord)) := ⟨_, rfl⟩
    -- then = after_rounds(figure, [], now, row)
    dsimp only [gName]
    show tSeq (tAsg _ _) _ _ [some (.ref d), some (.ref o), some (.int (n : Int)), some (.int (D : Int)), some (.int ((wholeN n [] ord : Nat) : Int)), some (.ref pn), none, none, none, none, none, none, none] H4
    refine q_asgL (xs := th.map V.int) ?_ fun pt H5 npt e5 hpt => ?_
    · have z := el_after1 (σ := [some (.ref d), some (.ref o), some (.int (n : Int)), some (.int (D : Int)), some (.int ((wholeN n [] ord : Nat) : Int)), some (.ref pn), none, none, none, none, none, none, none]) (tn := tVar 2) (ts := tVar 5) (to := tVar 1) (ev_var rfl) (ets_nil (K := K)) (ev_var rfl) (ev_var rfl) N hnS S hoS O
      rw [td0] at z
      rw [hth]
      exact z
    have hn5 : SqL K H5 pn (st.map V.int) := ex_l e5 hnS
    have ho5 : SqL K H5 o (ord.map V.int) := ex_l e5 hoS
    have ht5 : SqL K H5 pt (th.map V.int) := .inl (.inl hpt)
    have hd5 := hd4.on e5
    show tSeq _ _ _ [some (.ref d), some (.ref o), some (.int (n : Int)), some (.int (D : Int)), some (.int ((wholeN n [] ord : Nat) : Int)), some (.ref pn), some (.ref pt), none, none, none, none, none, none] H5
    -- if rings(now, then) != sorted(..)
    obtain ⟨L0, hL0⟩ : ∃ L0 : List Int, L0 = List.replicate D (D : Int) ++ List.replicate (n - D) ((n - D : Nat) : Int) := ⟨_, rfl⟩
    obtain ⟨rs0, prs, srs⟩ : ∃ rs0 : List Int, rs0.Perm L0 ∧ rs0.Pairwise (· ≤ ·) := ⟨_, (sort_is L0).1, (sort_is L0).2⟩
    have uniq : ∀ ns' : List Int, ns'.Perm L0 → ns'.Pairwise (· ≤ ·) → ns' = rs0 := fun ns' p1 p2 => M24.sorted_eq p2 srs (p1.trans prs.symm)
    have l0 : L0.length = n := by
      rw [hL0, List.length_append, List.length_replicate, List.length_replicate]
      omega
    have rings : EvL (tCall (sp_l_rings K) [] E0 (tCons (tVar 5) (tCons (tVar 6) tNil))) [some (.ref d), some (.ref o), some (.int (n : Int)), some (.int (D : Int)), some (.int ((wholeN n [] ord : Nat) : Int)), some (.ref pn), some (.ref pt), none, none, none, none, none, none] H5 (rs0.map V.int) := fun H1 e Q q =>
      ⟨_, rfl, _, rfl, pn, pt, st, ord, n, rfl, ex_l e hn5, by rw [← hth]; exact ex_l e ht5, S, O, hn, fun rs s1 s2 p H2 np e2 hp => by
        rw [← hD, ← hL0] at s2
        rw [uniq rs s2 s1] at hp
        exact q p H2 np e2 hp⟩
    refine q_when (b := false) (et_is (et_test (ev_neLL (a := rs0) (b := rs0) rings (el_sorted (ns := L0) ?_ (by omega) uniq))) (by simp)) (fun z => nomatch z) fun _ H6 e6 => ?_
    · have z := el_cat (σ := [some (.ref d), some (.ref o), some (.int (n : Int)), some (.int (D : Int)), some (.int ((wholeN n [] ord : Nat) : Int)), some (.ref pn), some (.ref pt), none, none, none, none, none, none]) (H := H5) (el_rep (ta' := tLst (tCons (tVar 3) tNil)) (tb := tVar 3) (xs := [.int (D : Int)]) (k := (D : Int)) (el_lst (ea_cons (ev_var rfl) ea_nil) (by show 1 ≤ 100000; decide)) (ev_var rfl) (by omega) (by show 1 * _ ≤ _; omega))
        (el_rep (ta' := tLst (tCons (tOp (rI0 fun i j => V.int (i - j)) (tVar 2) (tVar 3)) tNil)) (tb := tOp (rI0 fun i j => V.int (i - j)) (tVar 2) (tVar 3)) (xs := [.int ((n - D : Nat) : Int)]) (k := ((n - D : Nat) : Int)) (el_lst (ea_cons (ev_is (ev_op (ev_var rfl) (ev_var rfl) rv_I0) (congrArg V.int esub)) ea_nil) (by show 1 ≤ 100000; decide)) (ev_is (ev_op (ev_var rfl) (ev_var rfl) rv_I0) (congrArg V.int esub)) (by omega) (by show 1 * _ ≤ _; omega))
        (by rw [rep_flat, rep_flat, List.length_replicate, List.length_replicate]; omega)
      rw [rep_flat, rep_flat, Int.toNat_natCast, Int.toNat_natCast] at z
      rw [hL0, List.map_append, List.map_replicate, List.map_replicate]
      exact z
    have hn6 := ex_l e6 hn5
    have ho6 := ex_l e6 ho5
    have ht6 := ex_l e6 ht5
    have hd6 := hd5.on e6
    -- if repr([back_after(..), all_back(..)]) != repr([whole, whole])
    have dnW : Dn (dInts [((wholeN n [] ord : Nat) : Int), ((wholeN n [] ord : Nat) : Int)]) (12 * 2 + 2) 1 := dn_ints fun x hx => by
      simp only [List.mem_cons, List.not_mem_nil, or_false, or_self] at hx
      subst hx
      exact ⟨by omega, by omega⟩
    refine q_when (b := false) (et_is (et_test (ev_op (ev_repr (EvDr.ints (xs := [((wholeN n [] ord : Nat) : Int), ((wholeN n [] ord : Nat) : Int)]) (el_lst (ea_cons (ev_back (ev_var rfl) (ets_nil (K := K)) (ev_var rfl) (ev_var rfl) N hn6 S ho6 O PL) (ea_cons (ev_all (ev_var rfl) (ets_nil (K := K)) (ev_var rfl) N ho6 O hcn) ea_nil)) (by show 2 ≤ 100000; decide))) dnW (by decide) (by decide))
      (ev_repr (EvDr.ints (xs := [((wholeN n [] ord : Nat) : Int), ((wholeN n [] ord : Nat) : Int)]) (el_lst (ea_cons (ev_var rfl) (ea_cons (ev_var rfl) ea_nil)) (by show 2 ≤ 100000; decide))) dnW (by decide) (by decide)) (rv_ne rfl))) (by simp)) (fun z => nomatch z) fun _ H7 e7 => ?_
    have hn7 := ex_l e7 hn6
    have ho7 := ex_l e7 ho6
    have ht7 := ex_l e7 ht6
    have hd7 := hd6.on e7
    -- if repr(backs_counted(..)) != repr([(whole, product(figure))])
    have dnP : Dn (dPairs [(((wholeN n [] ord : Nat) : Int), ((fac n : Nat) : Int))]) (209 * 1 + 2) 2 := dn_pairs fun u hu => by
      simp only [List.mem_cons, List.not_mem_nil, or_false] at hu
      subst hu
      exact ⟨⟨by omega, by show ((wholeN n [] ord : Nat) : Int) < _; omega⟩, ⟨by omega, fb⟩⟩
    have pairW : EvLT (tLst (tCons (tTup (tCons (tVar 4) (tCons (tCall sp_l_product [] E0 (tCons (tVar 2) tNil)) tNil))) tNil)) [some (.ref d), some (.ref o), some (.int (n : Int)), some (.int (D : Int)), some (.int ((wholeN n [] ord : Nat) : Int)), some (.ref pn), some (.ref pt), none, none, none, none, none, none] H7 ([(((wholeN n [] ord : Nat) : Int), ((fac n : Nat) : Int))].map fun u => [.int u.1, .int u.2]) :=
      elt_one (eu_tup (ea_cons (ev_var rfl) (ea_cons (ev_prod (ev_var rfl) (by omega) (by omega)) ea_nil)) (by show 2 ≤ 100000; decide))
    refine q_when (b := false) (et_is (et_test (ev_op (ev_repr (EvDr.pairs (elt_counted (ev_var rfl) (ets_nil (K := K)) (ev_var rfl) N ho7 O hcn)) dnP (by decide) (by decide)) (ev_repr (EvDr.pairs pairW) dnP (by decide) (by decide)) (rv_ne rfl))) (by simp)) (fun z => nomatch z) fun _ H8 e8 => ?_
    have e58 := (e6.trans e7).trans e8
    have hd8 := hd7.on e8
    -- drawn = int(next(draws)) % 10 ** 6 + 1
    show tSeq (tAsg _ (gName 7)) _ _ [some (.ref d), some (.ref o), some (.int (n : Int)), some (.int (D : Int)), some (.int ((wholeN n [] ord : Nat) : Int)), some (.ref pn), some (.ref pt), none, none, none, none, none, none] H8
    refine ⟨_, rfl, d, _, rfl, hd8, ⟨by omega, by omega⟩, fun r H9 r0 e9 hd9 => .inl ⟨r, rfl, ?_⟩⟩
    have fm6 := fmod_at (i := r) (j := 1000000) (by decide)
    refine ⟨_, _, rfl, rfl, ⟨by decide, by decide +kernel⟩, _, _, rfl, rfl, (by show (_ : Int) ≠ 0; decide +kernel), _, _, rfl, rfl, ?_⟩
    dsimp only [gName]
    show tSeq _ _ _ [some (.ref d), some (.ref o), some (.int (n : Int)), some (.int (D : Int)), some (.int ((wholeN n [] ord : Nat) : Int)), some (.ref pn), some (.ref pt), some (.int (r.fmod (1000000) + 1)), none, none, none, none, none] H9
    obtain ⟨g, hg⟩ : ∃ g : Nat, r.fmod 1000000 + 1 = (g : Int) := ⟨(r.fmod 1000000 + 1).toNat, by omega⟩
    rw [hg]
    have g1 : 1 ≤ g := by omega
    have g2 : g ≤ 1000000 := by omega
    obtain ⟨W, hW⟩ : ∃ W, W = wholeN n [] ord := ⟨_, rfl⟩
    rw [← hW] at wl PL
    have e48 := e5.trans e58
    have hpn9 := e9 _ _ (ne_draws (e48 _ _ hpn) hd8) (e48 _ _ hpn)
    have hO9 := e9 _ _ (ne_draws (e48 _ _ hO4) hd8) (e48 _ _ hO4)
    have hpt9 := e9 _ _ (ne_draws (e58 _ _ hpt) hd8) (e58 _ _ hpt)
    have eA9 : ExA d H H9 := (eA4.trans (ExA.of e48)).trans e9
    have hn9 : SqL K H9 pn (st.map V.int) := .inl (.inl hpn9)
    have ho9 : SqL K H9 o (ord.map V.int) := .inl (.inl hO9)
    have ht9 : SqL K H9 pt (th.map V.int) := .inl (.inl hpt9)
    rw [← hW]
    clear rings pairW dnP dnW hn5 ho5 ht5 hn6 ho6 ht6 hn7 ho7 ht7 hd5 hd6 hd7
    -- if fixed_after(figure, [], row, whole * drawn) != product(figure)
    have w0 : ((W : Int)) ≠ 0 := by omega
    have mulW : ∀ (H' : Hp) (y8 y9 y10 y11 y12 : Option V), Ev (tOp (rI CMul fun i j => V.int (i * j)) (tVar 4) (tVar 7)) [some (.ref d), some (.ref o), some (.int (n : Int)), some (.int (D : Int)), some (.int (W : Int)), some (.ref pn), some (.ref pt), some (.int (g : Int)), y8, y9, y10, y11, y12] H' (.int ((W : Int) * (g : Int))) := fun H' y8 y9 y10 y11 y12 =>
      ev_op (ev_var rfl) (ev_var rfl) (rv_I (.inl ⟨by omega, by omega⟩))
    have m0 : ((W : Int) * (g : Int)) % (W : Int) = 0 := Int.mul_emod_right _ _
    have fx1 := fun (H' : Hp) (e : Ex H9 H') => ev_fixed (K := K) (σ := [some (.ref d), some (.ref o), some (.int (n : Int)), some (.int (D : Int)), some (.int (W : Int)), some (.ref pn), some (.ref pt), some (.int (g : Int)), none, none, none, none, none]) (H := H') (tn := tVar 2) (to := tVar 1) (ev_var rfl) (ets_nil (K := K)) (ev_var rfl) (mulW H' none none none none none) N (ex_l e ho9) O hcn
    have fxv : (if ((W : Int) * (g : Int)) % ((wholeN n [] ord : Nat) : Int) = 0 then ((fac n : Nat) : Int) else 0) = ((fac n : Nat) : Int) := by rw [← hW, if_pos m0]
    refine q_when (b := false) (et_is (et_test (ev_op (ev_is (fx1 H9 (Ex.refl _)) (congrArg V.int fxv)) (ev_prod (ev_var rfl) (by omega) (by omega)) (rv_ne rfl))) (by simp)) (fun z => nomatch z) fun _ H10 e10 => ?_
    -- if after_rounds(figure, [], now, row, whole) != now
    have back : roundsZ (MR.tdF []) n ord (W : Int) (MR.plOf st) = MR.plOf st := by
      unfold roundsZ
      rw [if_pos (by omega), Int.toNat_natCast]
      exact PL.back
    have ar1 := fun (H' : Hp) (e : Ex H9 H') => el_after (K := K) (σ := [some (.ref d), some (.ref o), some (.int (n : Int)), some (.int (D : Int)), some (.int (W : Int)), some (.ref pn), some (.ref pt), some (.int (g : Int)), none, none, none, none, none]) (H := H') (tn := tVar 2) (ts := tVar 5) (to := tVar 1) (tm := tVar 4) (m := (W : Int)) (ev_var rfl) (ets_nil (K := K)) (ev_var rfl) (ev_var rfl) (ev_var rfl) N (ex_l e hn9) S (ex_l e ho9) O
    rw [back, S.back] at ar1
    refine q_when (b := false) (et_is (et_test (ev_neLV (ar1 H10 e10) (ev_var rfl) (ex_l e10 hn9))) (by simp)) (fun z => nomatch z) fun _ H11 e11 => ?_
    have e911 := e10.trans e11
    -- if whole > 1 and fixed_after(figure, [], row, whole * drawn + 1) != 0
    refine q_when (b := false) (et_is (et_and (et_test (ev_op (ev_var rfl) ev_c rv_I0)) fun z => et_test (ev_op (ev_fixed (K := K) (tn := tVar 2) (to := tVar 1) (ev_var rfl) (ets_nil (K := K)) (ev_var rfl) (ev_op (mulW H11 none none none none none) ev_c rv_I0) N (ex_l e911 ho9) O hcn) ev_c (rv_ne rfl))) ?_) (fun z => nomatch z) fun _ H12 e12 => ?_
    · by_cases c : W = 1
      · rw [decide_eq_false (show ¬ (1 : Int) < (W : Int) by omega)]
        rfl
      · have : ¬ ((W : Int) * (g : Int) + 1) % ((wholeN n [] ord : Nat) : Int) = 0 := by
          rw [← hW, Int.add_comm, Int.add_mul_emod_self_left, Int.emod_eq_of_lt (by omega) (by omega)]
          decide
        rw [if_neg this]
        simp
    have e912 := e911.trans e12
    -- if after_rounds(figure, [], now, row, whole * 10 ** 40 * drawn + 1) != then
    have great : roundsZ (MR.tdF []) n ord ((W : Int) * 10 ^ 40 * (g : Int) + 1) (MR.plOf st) = MR.runP M24.td0 (MR.plOf st) (MR.pairsF n ord) := by
      unfold roundsZ
      have pos : (0 : Int) ≤ (W : Int) * 10 ^ 40 * (g : Int) := Int.mul_nonneg (Int.mul_nonneg (by omega) (by decide)) (by omega)
      rw [if_pos (by omega)]
      have en : ((W : Int) * 10 ^ 40 * (g : Int) + 1).toNat = W * (10 ^ 40 * g) + 1 := by
        have : (W : Int) * 10 ^ 40 * (g : Int) + 1 = ((W * (10 ^ 40 * g) + 1 : Nat) : Int) := by
          rw [Int.natCast_add, Int.natCast_mul, Int.natCast_mul, ← Int.mul_assoc]
          rfl
        rw [this, Int.toNat_natCast]
      rw [en, MR.it_add, MR.it_mul _ PL.back, td0]
      rfl
    have g40 : Ev (tOp (rI CMul fun i j => V.int (i * j)) (tVar 4) (tOp (rI CPowW fun i j => V.int (i ^ j.toNat)) (tC (.int 10)) (tC (.int 40)))) [some (.ref d), some (.ref o), some (.int (n : Int)), some (.int (D : Int)), some (.int (W : Int)), some (.ref pn), some (.ref pt), some (.int (g : Int)), none, none, none, none, none] H12 (.int ((W : Int) * 10 ^ 40)) :=
      ev_op (ev_var rfl) (ev_op ev_c ev_c (rv_I ⟨by decide, by decide +kernel⟩)) (rv_I (.inl ⟨by omega, by omega⟩))
    have gm : Ev (tOp (rI0 fun i j => V.int (i + j)) (tOp (rI CMul fun i j => V.int (i * j)) (tOp (rI CMul fun i j => V.int (i * j)) (tVar 4) (tOp (rI CPowW fun i j => V.int (i ^ j.toNat)) (tC (.int 10)) (tC (.int 40)))) (tVar 7)) (tC (.int 1))) [some (.ref d), some (.ref o), some (.int (n : Int)), some (.int (D : Int)), some (.int (W : Int)), some (.ref pn), some (.ref pt), some (.int (g : Int)), none, none, none, none, none] H12 (.int ((W : Int) * 10 ^ 40 * (g : Int) + 1)) :=
      ev_op (ev_op g40 (ev_var rfl) (rv_I (.inr ⟨by omega, by omega⟩))) ev_c rv_I0
    have ar2 := el_after (K := K) (σ := [some (.ref d), some (.ref o), some (.int (n : Int)), some (.int (D : Int)), some (.int (W : Int)), some (.ref pn), some (.ref pt), some (.int (g : Int)), none, none, none, none, none]) (H := H12) (tn := tVar 2) (ts := tVar 5) (to := tVar 1) (m := (W : Int) * 10 ^ 40 * (g : Int) + 1) (ev_var rfl) (ets_nil (K := K)) (ev_var rfl) (ev_var rfl)
      gm N (ex_l e912 hn9) S (ex_l e912 ho9) O
    rw [great, ← hth] at ar2
    refine q_when (b := false) (et_is (et_test (ev_neLV ar2 (ev_var rfl) (ex_l e912 ht9))) (by simp)) (fun z => nomatch z) fun _ H13 e13' => ?_
    have e913 := e912.trans e13'
    -- states = [now]
    refine q_asgL (xs := [.ref pn]) (el_lst (ea_cons (ev_var rfl) ea_nil) (by show 1 ≤ 100000; decide)) fun ps H14 nps e14 hps => ?_
    have e914 := e913.trans e14
    have nps9 : H9 ps = none := fresh_back e913 nps
    show tSeq _ _ _ [some (.ref d), some (.ref o), some (.int (n : Int)), some (.int (D : Int)), some (.int (W : Int)), some (.ref pn), some (.ref pt), some (.int (g : Int)), some (.ref ps), none, none, none, none] H14
    have okc := MR.pairs_ok (n := n) h2 O.lo
    refine q_forLn (K := K) (tl := tVar 1) (j := 9) (xs := ord.map V.int) (ev_var rfl) (ex_l e914 ho9) (fun i σ' H' => (∃ y9 y10 y11 y12, σ' = [some (.ref d), some (.ref o), some (.int (n : Int)), some (.int (D : Int)), some (.int (W : Int)), some (.ref pn), some (.ref pt), some (.int (g : Int)), some (.ref ps), y9, y10, y11, y12]) ∧ Ex H9 H' ∧
        ∃ qs : List Addr, H' ps = some (.lst (qs.map V.ref)) ∧ qs.length = i + 1 ∧ ps ∉ qs ∧ ∀ (j : Nat) (b : Addr), qs[j]? = some b → H' b = some (.lst ((MR.stOf (MR.runP M24.td0 (MR.plOf st) (MR.pairsF n (ord.take j)))).map V.int)))
      (fun H15 e15 => ⟨⟨_, _, _, _, rfl⟩, e914.trans e15, [pn], e15 _ _ hps, rfl, fun z => ?_, fun j b hb => ?_⟩) (fun i σ' H' _ z => ex_l z.2.1 ho9) ?_ ?_
    · rw [List.mem_singleton.mp z, hpn9] at nps9
      cases nps9
    · match j, hb with
      | 0, hb =>
        cases hb
        show H15 pn = some (.lst ((MR.stOf (MR.plOf st)).map V.int))
        rw [S.back]
        exact e15 _ _ (e914 _ _ hpn9)
    · rintro i x σ' H15 hx ⟨⟨y9, y10, y11, y12, rfl⟩, e15, qs, hq1, hq2, hq3, hq4⟩
      obtain ⟨c, hc, rfl⟩ := map_at hx
      obtain ⟨c0, c1⟩ := O.lo c (List.mem_of_getElem? hc)
      have il := (List.getElem?_eq_some_iff.mp hc).1
      obtain ⟨pl', hpl'⟩ : ∃ pl', pl' = MR.runP M24.td0 (MR.plOf st) (MR.pairsF n (ord.take i)) := ⟨_, rfl⟩
      have P' : MR.Plc n pl' := by
        rw [hpl']
        exact MR.run_plc S.plc (MR.pairs_ok h2 fun z hz => O.lo z (List.mem_of_mem_take hz))
      have S' := P'.stn
      have sl' := S'.len
      have hco : MR.CallOk n (c, MR.nxt n c) := okc _ (List.mem_map.mpr ⟨c, List.mem_of_getElem? hc, rfl⟩)
      obtain ⟨_, hc2, hc3⟩ := hco
      have hc2 : 1 ≤ MR.nxt n c ∧ MR.nxt n c ≤ (n : Int) := hc2
      have hc3 : c ≠ MR.nxt n c := hc3
      obtain ⟨b, hb⟩ : ∃ b, qs[i]? = some b := ⟨_, List.getElem?_eq_getElem (by omega)⟩
      have hbl := hq4 i b hb
      rw [← hpl'] at hbl
      obtain ⟨sti, hsti⟩ : ∃ sti, sti = MR.stOf pl' := ⟨_, rfl⟩
      rw [← hsti] at hbl S' sl'
      have last : atI (qs.map V.ref) (-1) = some (.ref b) := by
        have : qs = qs.take i ++ [b] := by
          have z := take_snoc hb
          rw [← z, List.take_of_length_le (by omega)]
        rw [this, List.map_append]
        exact L2.atI_last _ _
      show tSeq _ _ _ [some (.ref d), some (.ref o), some (.int (n : Int)), some (.int (D : Int)), some (.int (W : Int)), some (.ref pn), some (.ref pt), some (.int (g : Int)), some (.ref ps), some (.int c), y10, y11, y12] H15
      -- here = list(states[-1])
      refine ⟨_, rfl, _, rfl, ps, _, _, _, rfl, rfl, .inl (.inl hq1), last, b, _, rfl, .inl (.inl (.inl hbl)), fun h nh => ?_⟩
      have eh : Ex H15 (upd H15 h (.lst (sti.map V.int))) := Ex.new nh
      have hh : (upd H15 h (.lst (sti.map V.int))) h = some (.lst (sti.map V.int)) := upd_same
      generalize upd H15 h (.lst (sti.map V.int)) = H16 at eh hh
      dsimp only [gName]
      show tSeq (tPar _ _ _) _ _ [some (.ref d), some (.ref o), some (.int (n : Int)), some (.int (D : Int)), some (.int (W : Int)), some (.ref pn), some (.ref pt), some (.int (g : Int)), some (.ref ps), some (.int c), some (.ref h), y11, y12] H16
      -- spot, other = (here.index(one), here.index(one % figure + 1))
      have inS : ∀ x : Int, 1 ≤ x → x ≤ (n : Int) → x ∈ sti := fun x h0 h1 => by
        obtain ⟨k, hk, rfl⟩ := M30.in_nat h0 h1
        exact M30.stn_mem S' hk
      have i1 := List.idxOf_lt_length_of_mem (inS c c0 c1)
      have i2 := List.idxOf_lt_length_of_mem (inS _ hc2.1 hc2.2)
      have nxe : c.fmod (n : Int) + 1 = MR.nxt n c := by
        rw [Int.fmod_eq_emod_of_nonneg _ (by omega)]
        rfl
      have args : EvA (tCons (tBM K "list" (rIndex K) (tVar 10) (tCons (tVar 9) tNil)) (tCons (tBM K "list" (rIndex K) (tVar 10) (tCons (tOp (rI0 fun i j => V.int (i + j)) (tOp (rI (fun _ j => j ≠ 0) fun i j => V.int (i.fmod j)) (tVar 9) (tVar 2)) (tC (V.int 1))) tNil)) tNil))
          [some (.ref d), some (.ref o), some (.int (n : Int)), some (.int (D : Int)), some (.int (W : Int)), some (.ref pn), some (.ref pt), some (.int (g : Int)), some (.ref ps), some (.int c), some (.ref h), y11, y12] H16 [.int ((sti.idxOf c : Nat) : Int), .int ((sti.idxOf (MR.nxt n c) : Nat) : Int)] := by
        have e1 : Ev (tOp (rI0 fun i j => V.int (i + j)) (tOp (rI (fun _ j => j ≠ 0) fun i j => V.int (i.fmod j)) (tVar 9) (tVar 2)) (tC (V.int 1))) [some (.ref d), some (.ref o), some (.int (n : Int)), some (.int (D : Int)), some (.int (W : Int)), some (.ref pn), some (.ref pt), some (.int (g : Int)), some (.ref ps), some (.int c), some (.ref h), y11, y12] H16 (.int (c.fmod (n : Int) + 1)) :=
          ev_op (ev_op (ev_var rfl) (ev_var rfl) (rv_I (by show (n : Int) ≠ 0; omega))) ev_c rv_I0
        rw [nxe] at e1
        exact ea_cons (ev_index (ev_var rfl) (.inl (.inl hh)) (ea_cons (ev_var rfl) ea_nil) (inS c c0 c1)) (ea_cons (ev_index (ev_var rfl) (.inl (.inl hh)) (ea_cons e1 ea_nil) (inS _ hc2.1 hc2.2)) ea_nil)
      refine q_par args fun H17 e17 => ?_
      have hh17 := e17 _ _ hh
      have p1 : (sti.map V.int)[sti.idxOf c]? = some (.int c) := at_idx (inS c c0 c1)
      have p2 : (sti.map V.int)[sti.idxOf (MR.nxt n c)]? = some (.int (MR.nxt n c)) := at_idx (inS _ hc2.1 hc2.2)
      -- here[spot], here[other] = (here[other], here[spot])
      show tSeq _ _ _ [some (.ref d), some (.ref o), some (.int (n : Int)), some (.int (D : Int)), some (.int (W : Int)), some (.ref pn), some (.ref pt), some (.int (g : Int)), some (.ref ps), some (.int c), some (.ref h), some (.int ((sti.idxOf c : Nat) : Int)), some (.int ((sti.idxOf (MR.nxt n c) : Nat) : Int))] H17
      refine ⟨_, rfl, _, rfl, h, _, _, _, rfl, rfl, .inl (.inl hh17), atI_nat p2, _, rfl, _, rfl, h, _, _, _, rfl, rfl, .inl (.inl hh17), atI_nat p1, (by show 2 ≤ sizeLine; decide), fun tt ntt => ?_⟩
      have e18 : Ex H17 (upd H17 tt (.tup [.int (MR.nxt n c), .int c])) := Ex.new ntt
      refine ⟨tt, _, rfl, .inl (.inl upd_same), rfl, _, _, rfl, ?_⟩
      have hh18 := e18 _ _ hh17
      generalize upd H17 tt (.tup [.int (MR.nxt n c), .int c]) = H18 at e18 hh18
      refine ⟨_, rfl, _, rfl, h, _, _, sti.idxOf c, rfl, rfl, hh18, ?_, ?_⟩
      · rw [List.length_map]
        exact ixN_nat (by omega)
      refine ⟨_, _, rfl, _, rfl, _, rfl, h, _, _, sti.idxOf (MR.nxt n c), rfl, rfl, upd_same, ?_, rfl, ?_⟩
      · rw [List.length_set, List.length_map]
        exact ixN_nat (by omega)
      -- states.append(here)
      have fr9 : H9 h = none := fresh_back e15 nh
      have neh : h ≠ ps := fun z => by
        rw [z, hq1] at nh
        cases nh
      have eT : Ex H15 H18 := (eh.trans e17).trans e18
      have hnew : ((sti.map V.int).set (sti.idxOf c) (.int (MR.nxt n c))).set (sti.idxOf (MR.nxt n c)) (.int c) = (MR.stOf (MR.runP M24.td0 (MR.plOf st) (MR.pairsF n (ord.take (i + 1))))).map V.int := by
        have er : MR.runP M24.td0 (MR.plOf st) (MR.pairsF n (ord.take (i + 1))) = MR.stepP M24.td0 pl' (c, MR.nxt n c) := by
          rw [take_snoc hc]
          unfold MR.pairsF
          rw [List.map_append]
          show MR.runP M24.td0 (MR.plOf st) (MR.pairsF n (ord.take i) ++ [(c, MR.nxt n c)]) = _
          rw [MR.run_append, ← hpl']
          rfl
        have z := (MR.stOf_step (td := M24.td0) P' (c := (c, MR.nxt n c)) ⟨⟨c0, c1⟩, hc2, hc3⟩ (by intro w; cases w)).1
        rw [er, z, ← hsti]
        have q1 := MR.idx_place S' c0 c1
        have q2 := MR.idx_place S' hc2.1 hc2.2
        rw [hsti, P'.back, ← hsti] at q1 q2
        show _ = (((sti.set (MR.g0 pl' (MR.nxt n c) - 1).toNat c).set (MR.g0 pl' c - 1).toNat (MR.nxt n c)).map V.int)
        rw [← q1, ← q2, show (((sti.idxOf (MR.nxt n c) : Nat) : Int) + 1 - 1).toNat = sti.idxOf (MR.nxt n c) by omega, show (((sti.idxOf c : Nat) : Int) + 1 - 1).toNat = sti.idxOf c by omega, List.map_set, List.map_set]
        refine List.set_comm _ _ fun z => hc3 ?_
        have y1 := List.getElem_idxOf i1
        have y2 := List.getElem_idxOf i2
        simp only [z] at y1
        exact y1.symm.trans y2
      rw [hnew]
      have eU : Ex H15 (upd (upd H18 h (.lst ((sti.map V.int).set (sti.idxOf c) (.int (MR.nxt n c))))) h (.lst ((MR.stOf (MR.runP M24.td0 (MR.plOf st) (MR.pairsF n (ord.take (i + 1))))).map V.int))) := Ex.mut (Ex.mut eT nh) nh
      have hU : (upd (upd H18 h (.lst ((sti.map V.int).set (sti.idxOf c) (.int (MR.nxt n c))))) h (.lst ((MR.stOf (MR.runP M24.td0 (MR.plOf st) (MR.pairsF n (ord.take (i + 1))))).map V.int))) h = some (.lst ((MR.stOf (MR.runP M24.td0 (MR.plOf st) (MR.pairsF n (ord.take (i + 1))))).map V.int)) := upd_same
      generalize upd (upd H18 h (.lst ((sti.map V.int).set (sti.idxOf c) (.int (MR.nxt n c))))) h (.lst ((MR.stOf (MR.runP M24.td0 (MR.plOf st) (MR.pairsF n (ord.take (i + 1))))).map V.int)) = H19 at eU hU
      refine s_app (eU _ _ hq1) (ev_var rfl) (ev_var rfl) (by rw [List.length_map]; omega) fun H20 e20 => ⟨⟨_, _, _, _, rfl⟩, Ex.mut ((e15.trans eU).trans e20) nps9, qs ++ [h], ?_, by rw [List.length_append, hq2]; rfl, fun z => ?_, fun j b' hb' => ?_⟩
      · rw [upd_same, List.map_append]
        rfl
      · rcases List.mem_append.mp z with z | z
        · exact hq3 z
        · exact neh (List.mem_singleton.mp z).symm
      · by_cases jl : j < qs.length
        · rw [List.getElem?_append_left jl] at hb'
          have w := hq4 j b' hb'
          rw [upd_ne (show b' ≠ ps from fun z => hq3 (z ▸ List.mem_of_getElem? hb'))]
          exact e20 _ _ (eU _ _ w)
        · have : j = qs.length := by
            have z := (List.getElem?_eq_some_iff.mp hb').1
            rw [List.length_append, List.length_singleton] at z
            omega
          subst this
          rw [List.getElem?_append_right (Nat.le_refl _), Nat.sub_self] at hb'
          cases hb'
          rw [hq2, upd_ne neh]
          exact e20 _ _ hU
    · rintro σ' H15 ⟨⟨y9, y10, y11, y12, rfl⟩, e15, qs, hq1, hq2, hq3, hq4⟩
      rw [List.length_map, ol] at hq2
      obtain ⟨b, hb⟩ : ∃ b, qs[n]? = some b := ⟨_, List.getElem?_eq_getElem (by omega)⟩
      have hbl := hq4 n b hb
      rw [List.take_of_length_le (by omega), ← hth] at hbl
      have last : atI (qs.map V.ref) (-1) = some (.ref b) := by
        have : qs = qs.take n ++ [b] := by
          have z := take_snoc hb
          rw [← z, List.take_of_length_le (by omega)]
        rw [this, List.map_append]
        exact L2.atI_last _ _
      obtain ⟨b2, hb2⟩ : ∃ b2, qs[D]? = some b2 := ⟨_, List.getElem?_eq_getElem (by omega)⟩
      have hbl2 := hq4 D b2 hb2
      -- return states[-1] == then and called(figure, [], now, row[:few]) == states[few]
      refine s_ret (v := .bl (true && true)) (ev_andV (ev_is (ev_eqVV (a := th) (b := th) (ev_op (ev_var rfl) (ev_un ev_c ru_neg) (rv_ixL (.inl (.inl hq1)) last)) (.inl (.inl hbl)) (ev_var rfl) (ex_l e15 ht9)) (by simp)) fun _ => ?_) fun H16 e16 => q _ H16 (eA9.trans (ExA.of (e15.trans e16))) (hd9.on (e15.trans e16)) (by omega)
      have tk := el_called (K := K) (σ := [some (.ref d), some (.ref o), some (.int (n : Int)), some (.int (D : Int)), some (.int (W : Int)), some (.ref pn), some (.ref pt), some (.int (g : Int)), some (.ref ps), y9, y10, y11, y12]) (H := H15) (tn := tVar 2) (ts := tVar 5) (cs := ord.take D) (tc := tSl (rSlL K) (tVar 1) tNoPart (tPart (tVar 3))) (ev_var rfl) (ets_nil (K := K)) (ev_var rfl)
        (by
          have z := el_sl (K := K) (σ := [some (.ref d), some (.ref o), some (.int (n : Int)), some (.int (D : Int)), some (.int (W : Int)), some (.ref pn), some (.ref pt), some (.int (g : Int)), some (.ref ps), y9, y10, y11, y12]) (te := tVar 1) (lo := none) (hi := some (D : Int)) (ev_var rfl) eo_none (eo_some (te := tVar 3) (ev_var rfl)) (ex_l e15 ho9)
          rw [cut_to, ← List.map_take] at z
          exact z) N (ex_l e15 hn9) S (fun x hx => O.lo x (List.mem_of_mem_take hx)) (by rw [List.length_take]; omega)
      rw [td0] at tk
      exact ev_is (ev_eqLV tk (ev_op (ev_var rfl) (ev_var rfl) (rv_ixL (.inl (.inl hq1)) (atI_nat (by rw [List.getElem?_map, hb2]; rfl)))) (.inl (.inl hbl2))) (by simp)
end
end K24

namespace K24
open PySem PySem.Spec PyProof.Rows L2 Vf Evl
def rowU (n : Nat) (L : List Int) (i : Nat) : List (Int × Int) := ((List.range (n - (i + 1))).filter fun j : Nat => !decide (1 + (i : Int) ∈ L) || !decide (1 + (i : Int) + 1 + (j : Int) ∈ L)).map fun j : Nat => (1 + (i : Int), 1 + (i : Int) + 1 + (j : Int))
def prsU (n : Nat) (L : List Int) : Nat → List (Int × Int)
  | 0 => []
  | k + 1 => prsU n L k ++ rowU n L k
theorem mem_rowU {n i : Nat} {L : List Int} {t : Int × Int} : t ∈ rowU n L i ↔ t.1 = 1 + (i : Int) ∧ t.1 < t.2 ∧ t.2 ≤ (n : Int) ∧ ¬ (t.1 ∈ L ∧ t.2 ∈ L) := by
  unfold rowU
  rw [List.mem_map]
  constructor
  · rintro ⟨j, hj, rfl⟩
    rw [List.mem_filter, List.mem_range] at hj
    obtain ⟨h1, h2⟩ := hj
    refine ⟨rfl, by show 1 + (i : Int) < 1 + (i : Int) + 1 + (j : Int); omega, by show 1 + (i : Int) + 1 + (j : Int) ≤ n; omega, fun ⟨a, b⟩ => ?_⟩
    rw [decide_eq_true a, decide_eq_true b] at h2
    cases h2
  · rintro ⟨h1, h2, h3, h4⟩
    refine ⟨(t.2 - (1 + (i : Int) + 1)).toNat, ?_, Prod.ext h1.symm (by show 1 + (i : Int) + 1 + (((t.2 - (1 + (i : Int) + 1)).toNat : Nat) : Int) = t.2; omega)⟩
    rw [List.mem_filter, List.mem_range]
    refine ⟨by omega, ?_⟩
    rw [show 1 + (i : Int) + 1 + (((t.2 - (1 + (i : Int) + 1)).toNat : Nat) : Int) = t.2 by omega, ← h1]
    by_cases a : t.1 ∈ L
    · rw [decide_eq_false fun b => h4 ⟨a, b⟩]
      simp
    · rw [decide_eq_false a]
      rfl
theorem mem_prsU {n : Nat} {L : List Int} {t : Int × Int} : ∀ {k : Nat}, t ∈ prsU n L k ↔ 1 ≤ t.1 ∧ t.1 ≤ (k : Int) ∧ t.1 < t.2 ∧ t.2 ≤ (n : Int) ∧ ¬ (t.1 ∈ L ∧ t.2 ∈ L)
  | 0 => by
    constructor
    · intro z; cases z
    · rintro ⟨h1, h2, _⟩; omega
  | k + 1 => by
    unfold prsU
    rw [List.mem_append, mem_prsU (k := k), mem_rowU (i := k)]
    constructor
    · rintro (⟨h1, h2, h3⟩ | ⟨h1, h2, h3, h4⟩)
      · exact ⟨h1, by omega, h3⟩
      · exact ⟨by omega, by omega, h2, h3, h4⟩
    · rintro ⟨h1, h2, h3, h4, h5⟩
      by_cases e : t.1 = 1 + (k : Int)
      · exact .inr ⟨e, h3, h4, h5⟩
      · exact .inl ⟨h1, by omega, h3, h4, h5⟩
theorem prsU_len {n : Nat} (L : List Int) : ∀ k, k ≤ n → 2 * (prsU n L k).length + k * k + k ≤ 2 * (k * n)
  | 0, _ => by simp [prsU]
  | k + 1, h => by
    have ih := prsU_len (n := n) L k (by omega)
    have r : (rowU n L k).length ≤ n - (k + 1) := by
      unfold rowU
      rw [List.length_map]
      exact Nat.le_trans (List.length_filter_le _ _) (by rw [List.length_range]; exact Nat.le_refl _)
    unfold prsU
    rw [List.length_append, Nat.succ_mul k n, show (k + 1) * (k + 1) = k * k + 2 * k + 1 by rw [Nat.add_mul, Nat.mul_add]; omega]
    omega
theorem prsU_nd {n : Nat} (L : List Int) : ∀ k, (prsU n L k).Nodup
  | 0 => List.nodup_nil
  | k + 1 => by
    unfold prsU
    refine List.nodup_append.mpr ⟨prsU_nd L k, ?_, fun a ha b hb e => ?_⟩
    · unfold rowU
      rw [List.nodup_iff_pairwise_ne, List.pairwise_map]
      refine ((List.nodup_iff_pairwise_ne.mp List.nodup_range).filter _).imp fun h e => h ?_
      have := congrArg Prod.snd e
      simp only at this
      omega
    · have h1 := mem_prsU.mp ha
      have h2 := mem_rowU.mp hb
      rw [e] at h1
      omega
theorem prsU_net {n : Nat} (L : List Int) (h3 : 3 ≤ n) (h40 : n ≤ 40) : NetOk (n : Int) (prsU n L n) := by
  refine ⟨by omega, by omega, fun t ht => ?_, ?_, ?_⟩
  · have := mem_prsU.mp ht
    exact ⟨⟨by omega, by omega⟩, ⟨by omega, by omega⟩, by omega⟩
  · have e : (prsU n L n).map nrm = prsU n L n := by
      refine (List.map_congr_left fun t ht => ?_).trans (List.map_id _)
      have := mem_prsU.mp ht
      unfold nrm
      rw [if_pos (by omega)]
      rfl
    rw [e]
    exact prsU_nd L n
  · have := prsU_len L n (Nat.le_refl n)
    have b : n * n ≤ 40 * 40 := Nat.mul_le_mul h40 h40
    omega
theorem prsU_td {n : Nat} {L : List Int} {a b : Int} (ha : 1 ≤ a ∧ a ≤ (n : Int)) (hb : 1 ≤ b ∧ b ≤ (n : Int)) (ne : a ≠ b) : MR.tdF (prsU n L n) a b = false ↔ a ∈ L ∧ b ∈ L := by
  unfold MR.tdF
  rw [decide_eq_false_iff_not, mem_prsU, mem_prsU]
  constructor
  · intro h
    by_cases la : a ∈ L
    · by_cases lb : b ∈ L
      · exact ⟨la, lb⟩
      · refine absurd ?_ h
        rcases Int.lt_or_gt_of_ne ne with c | c
        · exact .inl ⟨ha.1, ha.2, c, hb.2, fun z => lb z.2⟩
        · exact .inr ⟨hb.1, hb.2, c, ha.2, fun z => lb z.1⟩
    · refine absurd ?_ h
      rcases Int.lt_or_gt_of_ne ne with c | c
      · exact .inl ⟨ha.1, ha.2, c, hb.2, fun z => la z.1⟩
      · exact .inr ⟨hb.1, hb.2, c, ha.2, fun z => la z.2⟩
  · rintro ⟨la, lb⟩ (⟨_, _, _, _, h⟩ | ⟨_, _, _, _, h⟩)
    · exact h ⟨la, lb⟩
    · exact h ⟨lb, la⟩

/-- ties so far, and a row of new ones -/
theorem TM.cat {H H3 : Hp} {p D : Addr} {ts : List (Int × Int)} {L : Nat → List V} {js : List Nat} {u : Nat → Int × Int} (hT : TM H p ts) (e3 : Ex H H3) (hLL : LLAt H H3 D (js.map L)) (hu : ∀ j, L j = [.int (u j).1, .int (u j).2]) :
    ∃ (as ps : List Addr), H3 p = some (.lst (as.map V.ref)) ∧ H3 D = some (.lst (ps.map V.ref)) ∧ as.length = ts.length ∧ ps.length = js.length ∧ ∀ q, H3 q = none → TM (upd H3 q (.lst (as.map V.ref ++ ps.map V.ref))) q (ts ++ js.map u) := by
  obtain ⟨as, a1, a2, a3, a4⟩ := hT
  obtain ⟨ps, b1, b2, b3, b4⟩ := hLL
  rw [List.length_map] at b2
  have at_old : ∀ (i : Nat) (b : Addr), as[i]? = some b → ∃ t, ts[i]? = some t ∧ H3 b = some (.lst [.int t.1, .int t.2]) := fun i b hb => by
    have hi : i < ts.length := by rw [← a2]; exact (List.getElem?_eq_some_iff.mp hb).1
    have ht := List.getElem?_eq_getElem hi
    exact ⟨_, ht, e3 _ _ (a4 i b _ hb ht)⟩
  have at_new : ∀ (i : Nat) (b : Addr), ps[i]? = some b → ∃ t, (js.map u)[i]? = some t ∧ H3 b = some (.lst [.int t.1, .int t.2]) := fun i b hb => by
    have hi : i < js.length := by rw [← b2]; exact (List.getElem?_eq_some_iff.mp hb).1
    have hj := List.getElem?_eq_getElem hi
    refine ⟨u js[i], by rw [List.getElem?_map, hj]; rfl, ?_⟩
    have z := (b4 i b (L js[i]) hb (by rw [List.getElem?_map, hj]; rfl)).2
    rw [hu] at z
    exact z
  refine ⟨as, ps, e3 _ _ a1, b1, a2, b2, fun q nq => ⟨as ++ ps, by rw [upd_same, List.map_append], by rw [List.length_append, List.length_append, List.length_map, a2, b2], fun z => ?_, fun i b t hb ht => ?_⟩⟩
  · rcases List.mem_append.mp z with z | z
    · obtain ⟨i, hi⟩ := List.getElem?_of_mem z
      obtain ⟨t, _, h⟩ := at_old i q hi
      rw [nq] at h
      cases h
    · obtain ⟨i, hi⟩ := List.getElem?_of_mem z
      obtain ⟨t, _, h⟩ := at_new i q hi
      rw [nq] at h
      cases h
  · by_cases c : i < as.length
    · rw [List.getElem?_append_left c] at hb
      rw [List.getElem?_append_left (by rw [← a2]; exact c)] at ht
      obtain ⟨t', ht', h⟩ := at_old i b hb
      rw [ht] at ht'
      cases ht'
      rw [upd_ne (ne_of_none h nq)]
      exact h
    · rw [List.getElem?_append_right (by omega)] at hb
      rw [List.getElem?_append_right (by omega), ← a2] at ht
      obtain ⟨t', ht', h⟩ := at_new _ b hb
      rw [ht] at ht'
      cases ht'
      rw [upd_ne (ne_of_none h nq)]
      exact h
/-! ### all seats tied -/
def sw2 (t : Int × Int) : Int × Int := (t.2, t.1)
def prsT (n k : Nat) : List (Int × Int) := (prsU n [] k).map sw2
theorem prsT_succ (n i : Nat) : prsT n (i + 1) = prsT n i ++ ((List.range (n - (i + 1))).filter fun _ => true).map fun j : Nat => (1 + (i : Int) + 1 + (j : Int), 1 + (i : Int)) := by
  unfold prsT
  show ((prsU n [] i ++ rowU n [] i).map sw2) = _
  rw [List.map_append]
  congr 1
  unfold rowU
  rw [List.map_map]
  have e : (fun j : Nat => !decide (1 + (i : Int) ∈ ([] : List Int)) || !decide (1 + (i : Int) + 1 + (j : Int) ∈ ([] : List Int))) = fun _ => true := by
    funext j
    simp
  rw [e]
  rfl
theorem prsU_exact {n : Nat} : ∀ k, k ≤ n → 2 * (prsU n [] k).length + k * k + k = 2 * (k * n)
  | 0, _ => by
    show 2 * 0 + 0 * 0 + 0 = 2 * (0 * n)
    omega
  | k + 1, h => by
    have ih := prsU_exact (n := n) k (by omega)
    have hl : (rowU n [] k).length = n - (k + 1) := by
      unfold rowU
      rw [List.length_map, List.filter_eq_self.mpr (fun _ _ => by simp), List.length_range]
    show 2 * (prsU n [] k ++ rowU n [] k).length + (k + 1) * (k + 1) + (k + 1) = 2 * ((k + 1) * n)
    rw [List.length_append, hl, Nat.succ_mul k n, show (k + 1) * (k + 1) = k * k + 2 * k + 1 by rw [Nat.add_mul, Nat.mul_add]; omega]
    omega
theorem prsT_len (n : Nat) : 2 * (prsT n n).length = n * (n - 1) := by
  have z := prsU_exact (n := n) n (Nat.le_refl _)
  unfold prsT
  rw [List.length_map]
  cases n with
  | zero => simp at z ⊢; omega
  | succ m =>
    rw [Nat.add_sub_cancel, Nat.mul_comm]
    have : 2 * ((m + 1) * (m + 1)) = (m + 1) * (m + 1) + ((m + 1) * m + (m + 1)) := by rw [Nat.two_mul]; rfl
    rw [this] at z
    rw [Nat.mul_comm]
    omega
theorem nrm_sw (t : Int × Int) : nrm (sw2 t) = nrm t := nrm_swap t.2 t.1
theorem prsT_net {n : Nat} (h3 : 3 ≤ n) (h40 : n ≤ 40) : NetOk (n : Int) (prsT n n) := by
  refine net_turned (prsU_net [] h3 h40) (List.Perm.of_eq ?_)
  unfold prsT
  rw [List.map_map]
  exact List.map_congr_left fun t _ => nrm_sw t
theorem tdF_perm {ts us : List (Int × Int)} (h : ts.Perm us) (a b : Int) : MR.tdF ts a b = MR.tdF us a b := by
  unfold MR.tdF
  exact decide_eq_decide.mpr (by rw [h.mem_iff, h.mem_iff])
theorem prsT_td {n : Nat} {a b : Int} (ha : 1 ≤ a ∧ a ≤ (n : Int)) (hb : 1 ≤ b ∧ b ≤ (n : Int)) (ne : a ≠ b) : MR.tdF (prsT n n) a b = true := by
  have z2 : MR.tdF (prsU n [] n) a b = true := by
    cases h : MR.tdF (prsU n [] n) a b with
    | true => rfl
    | false => exact absurd ((prsU_td (L := []) ha hb ne).mp h).1 (by simp)
  unfold MR.tdF at z2 ⊢
  rw [decide_eq_true_iff] at z2 ⊢
  have sw : ∀ x y : Int, (x, y) ∈ prsU n [] n → (y, x) ∈ prsT n n := fun x y h => List.mem_map.mpr ⟨(x, y), h, rfl⟩
  exact z2.elim (fun h => .inr (sw _ _ h)) fun h => .inl (sw _ _ h)
/-- nobody moves -/
theorem tight_run {n : Nat} {td : Int → Int → Bool} (h : ∀ a b : Int, 1 ≤ a → a ≤ n → 1 ≤ b → b ≤ n → a ≠ b → td a b = true) : ∀ {cs : List (Int × Int)} {p : List Int}, MR.Plc n p → (∀ c ∈ cs, MR.CallOk n c) → MR.runP td p cs = p
  | [], _, _, _ => rfl
  | c :: cs, p, P, hc => by
    obtain ⟨c1, c2, ne⟩ := hc c List.mem_cons_self
    have a := P.of c1.1 c1.2
    have b := P.of c2.1 c2.2
    have d : MR.g0 p c.1 ≠ MR.g0 p c.2 := fun z => ne (P.inj c1.1 c1.2 c2.1 c2.2 z)
    have e : MR.stepP td p c = p := by
      unfold MR.stepP
      rw [if_pos (h _ _ a.1 a.2.1 b.1 b.2.1 d)]
    show MR.runP td (MR.stepP td p c) cs = p
    rw [e]
    exact tight_run h P fun x hx => hc x (List.mem_cons_of_mem _ hx)
theorem tight_it {f : List Int → List Int} {p : List Int} (h : f p = p) : ∀ k, MR.it f k p = p
  | 0 => rfl
  | k + 1 => by
    show MR.it f k (f p) = p
    rw [h]
    exact tight_it h k
end K24

namespace K24
open PySem PySem.Spec PyProof.Rows L2 Vf Evl
section
variable {P : Program} {w : World} {K : PySem.W.Frag} {mg : Str → Option Value} {base : Heap} {A : Ad}
def sp_l_tight_right : Sp := fun vs H Q _ => ∃ (d o : Addr) (k : Int) (ord : List Int) (n : Nat), vs = [.ref d, .ref o] ∧ Dr H d k ∧ (0 ≤ k ∧ k < 2 ^ 38) ∧ H o = some (.lst (ord.map V.int)) ∧ MR.Stn n ord ∧ (3 ≤ n ∧ n ≤ 40) ∧
  ∀ (k' : Int) (H2 : Hp), ExA d H H2 → Dr H2 d k' → (0 ≤ k' ∧ k' ≤ k + 1000) → Q (.bl true) H2
theorem ok_l_tight_right (T : Txt K mg A) : FnG P w K mg base CX0 7 A.f_l_tight_right A.d_l_tight_right ["_law_draws_here", "_law_row"] sp_l_tight_right := by
  have G_l_product : FnOk P w K mg base CX0 1 A.f_l_product A.d_l_product ["_law_most"] sp_l_product := ok_l_product T
  have G_l_shuffled : FnOk P w K mg base CX0 2 A.f_l_shuffled A.d_l_shuffled ["_law_draws_here", "_law_things"] (sp_l_shuffled K) := ok_l_shuffled T
  have G_after_rounds : FnOk P w K mg base CX0 6 A.f_after_rounds A.d_after_rounds ["seats", "ties", "standing", "order", "many"] (sp_after_rounds K) := ok_after_rounds T
  have G_called : FnOk P w K mg base CX0 6 A.f_called A.d_called ["seats", "ties", "standing", "calls"] (sp_called K) := ok_called T
  have G_back_after : FnOk P w K mg base CX0 6 A.f_back_after A.d_back_after ["seats", "ties", "standing", "order"] (sp_back_after K) := ok_back_after T
  have G_all_back : FnOk P w K mg base CX0 6 A.f_all_back A.d_all_back ["seats", "ties", "order"] (sp_all_back K) := ok_all_back T
  have G_backs_counted : FnOk P w K mg base CX0 6 A.f_backs_counted A.d_backs_counted ["seats", "ties", "order"] (sp_backs_counted K) := ok_backs_counted T
  have G_fixed_after : FnOk P w K mg base CX0 6 A.f_fixed_after A.d_fixed_after ["seats", "ties", "order", "many"] (sp_fixed_after K) := ok_fixed_after T
  obtain ⟨ds_ar, rd_after_rounds, hb_after_rounds⟩ := T.bd_after_rounds
  refine okG T.F_l_tight_right sc_l_tight_right (fun vs H Q E h => ?_) (fun cdv A' outer s0 H vs Q E hgd hr h => ?_)
  · obtain ⟨d, o, k, ord, n, rfl, _⟩ := h
    rfl
  · obtain ⟨d, o, k, ord, n, rfl, hd, hk, hO, O, hn, q⟩ := h
    refine ⟨_, (pss_cons (ps_set (i := 2) sc_l_tight_right.nd rfl (by first | exact .inl rfl | exact .inr rfl) (pe_callB (call_lenK (K := K) rfl) (by rfl) T.z_len PySem.boot_len (pa_cons (pv 1) pa_nil)))
      (pss_cons (ps_set (i := 3) sc_l_tight_right.nd rfl (by first | exact .inl rfl | exact .inr rfl) (pe_lst pa_nil))
      (pss_cons (ps_for PassesOwn.never rfl (pi_range2 (by rfl) T.z_range (pa_cons pe_int (pa_cons (pe_op op_add (pv 2) pe_int) pa_nil))) (pg_name (i := 4) sc_l_tight_right.nd rfl (by first | exact .inl rfl | exact .inr rfl)) (pss_one (ps_set (i := 3) sc_l_tight_right.nd rfl (by first | exact .inl rfl | exact .inr rfl) (pe_op op_cat (pv 3) (pe_lc (own := [("_law_more", 6)]) rfl sc_l_tight_right.nd (pi_range2 (by rfl) T.z_range (pa_cons (pe_op op_add (pv 4) pe_int) (pa_cons (pe_op op_add (pv 2) pe_int) pa_nil))) (blkOk_by (by kernel_rfl)) (fun _ _ _ _ _ => (pg_name (i := 6) sc_l_tight_right.nd rfl (by first | exact .inl rfl | exact .inr rfl))) (fun _ _ _ _ _ => pts_nil) (fun _ _ _ _ _ => (pe_lst (pa_cons (pv 6) (pa_cons (pv 4) pa_nil)))))))))
      (pss_cons (ps_set (i := 3) sc_l_tight_right.nd rfl (by first | exact .inl rfl | exact .inr rfl) (pe_call G_l_shuffled (hr.mono (by decide)) (by rfl) T.g_l_shuffled T.F_l_shuffled.kp T.b_l_shuffled .nil pass0 (pa_cons (pv 0) (pa_cons (pv 3) pa_nil))))
      (pss_cons (ps_set (i := 5) sc_l_tight_right.nd rfl (by first | exact .inl rfl | exact .inr rfl) (pe_call G_l_shuffled (hr.mono (by decide)) (by rfl) T.g_l_shuffled T.F_l_shuffled.kp T.b_l_shuffled .nil pass0 (pa_cons (pv 0) (pa_cons (pv 1) pa_nil))))
      (pss_cons (ps_if (PW.pt (pw_or (pt_cmpR (op_neD hr.units) (pe_call G_called (hr.mono (by decide)) (by rfl) T.g_called T.F_called.kp T.b_called .nil pass0 (pa_cons (pv 2) (pa_cons (pv 3) (pa_cons (pv 5) (pa_cons (pe_op op_rep (pv 1) pe_int) pa_nil))))) (pv 5) (nomark _)) (pw_or1 (pt_cmpR (op_neD hr.units) (pe_call G_after_rounds (hr.mono (by decide)) (by rfl) T.g_after_rounds T.F_after_rounds.kp T.b_after_rounds .nil pass0 (pa_cons (pv 2) (pa_cons (pv 3) (pa_cons (pv 5) (pa_cons (pv 1) (pa_cons (pe_op op_powW pe_int pe_int) pa_nil)))))) (pv 5) (nomark _))))) (pss_one (ps_ret pe_bl)) pss_nil)
      (pss_cons (ps_if (pt_cmpR (op_neD hr.units) (pe_lst (pa_cons (pe_call G_back_after (hr.mono (by decide)) (by rfl) T.g_back_after T.F_back_after.kp T.b_back_after .nil pass0 (pa_cons (pv 2) (pa_cons (pv 3) (pa_cons (pv 5) (pa_cons (pv 1) pa_nil))))) (pa_cons (pe_call G_all_back (hr.mono (by decide)) (by rfl) T.g_all_back T.F_all_back.kp T.b_all_back .nil pass0 (pa_cons (pv 2) (pa_cons (pv 3) (pa_cons (pv 1) pa_nil)))) pa_nil))) (pe_lst (pa_cons pe_int (pa_cons pe_int pa_nil))) (nomark _)) (pss_one (ps_ret pe_bl)) pss_nil)
      (pss_cons (ps_if (pt_cmpR op_ne (pe_call G_fixed_after (hr.mono (by decide)) (by rfl) T.g_fixed_after T.F_fixed_after.kp T.b_fixed_after .nil pass0 (pa_cons (pv 2) (pa_cons (pv 3) (pa_cons (pv 1) (pa_cons (pe_un un_neg pe_int) pa_nil))))) (pe_call G_l_product (hr.mono (by decide)) (by rfl) T.g_l_product T.F_l_product.kp T.b_l_product .nil pass0 (pa_cons (pv 2) pa_nil)) (nomark _)) (pss_one (ps_ret pe_bl)) pss_nil)
      (pss_one (ps_ret (pe_cmpR op_eq (pe_callB (call_repr_D hgd hr) (by rfl) T.z_repr (by decide +kernel) (pa_cons (pe_call G_backs_counted (hr.mono (by decide)) (by rfl) T.g_backs_counted T.F_backs_counted.kp T.b_backs_counted .nil pass0 (pa_cons (pv 2) (pa_cons (pv 3) (pa_cons (pv 1) pa_nil)))) pa_nil)) (pe_callB (call_repr_D hgd hr) (by rfl) T.z_repr (by decide +kernel) (pa_cons (pe_lst (pa_cons (pe_tup (pa_cons pe_int (pa_cons (pe_call G_l_product (hr.mono (by decide)) (by rfl) T.g_l_product T.F_l_product.kp T.b_l_product .nil pass0 (pa_cons (pv 2) pa_nil)) pa_nil))) pa_nil)) pa_nil)) (nomark _)))))))))))), ?_⟩
    have ol := O.len
    have h2 : 2 ≤ n := by omega
    have fb := fac_big n hn.2
    -- figure = len(row)
    show tSeq _ _ _ [some (.ref d), some (.ref o), none, none, none, none, none] H
    refine q_asg (v := .int (n : Int)) (ev_is (ev_lenS (ev_var rfl) (.inl (.inl hO))) (by rw [List.length_map, ol])) fun H1 e1 => ?_
    have hO1 := e1 _ _ hO
    -- pairs = []
    show tSeq (tAsg _ (gName 3)) _ _ [some (.ref d), some (.ref o), some (.int (n : Int)), none, none, none, none] H1
    refine q_asgL (xs := []) (el_lst ea_nil (Nat.zero_le _)) fun pr0 H2 npr0 e2 hpr0 => ?_
    have T0 : TM H2 pr0 (prsT n 0) := ⟨[], hpr0, rfl, by simp, fun i b t x => by cases x⟩
    have e12 := e1.trans e2
    -- for seat in range(1, figure + 1)
    show tSeq _ _ _ [some (.ref d), some (.ref o), some (.int (n : Int)), some (.ref pr0), none, none, none] H2
    refine q_forR2 (lo := 1) (n := (n : Int) + 1) (ea_cons ev_c (ea_cons (ev_op (ev_var rfl) ev_c rv_I0) ea_nil)) (by omega) (fun i σ' H' => ∃ pr, (∃ y4, σ' = [some (.ref d), some (.ref o), some (.int (n : Int)), some (.ref pr), y4, none, none]) ∧ Ex H2 H' ∧ TM H' pr (prsT n i))
      (fun H3 e3 => ⟨pr0, ⟨none, rfl⟩, e3, T0.on e3⟩) ?_ ?_
    · rintro i σ' H3 hi ⟨pr, ⟨y4, rfl⟩, e3, hT3⟩
      have few : (prsT n i).length ≤ 1600 := by
        have := prsU_len (n := n) [] i (by omega)
        have : i * n ≤ 40 * 40 := Nat.mul_le_mul (by omega) (by omega)
        unfold prsT
        rw [List.length_map]
        omega
      refine ⟨_, rfl, ?_⟩
      have go := ell_lcR2 (H := H3) (σ := [some (.ref d), some (.ref o), some (.int (n : Int)), some (.ref pr), some (.int (1 + (i : Int))), none, none]) (j := 6) (vs := [6]) (lo := 1 + (i : Int) + 1) (n := (n : Int) + 1)
        (ta := tCons (tOp (rI0 fun i j => V.int (i + j)) (tVar 4) (tC (V.int 1))) (tCons (tOp (rI0 fun i j => V.int (i + j)) (tVar 2) (tC (V.int 1))) tNil)) (t := tYes) (te := tLst (tCons (tVar 6) (tCons (tVar 4) tNil)))
        (fun _ => true) (fun j => [.int (1 + (i : Int) + 1 + (j : Int)), .int (1 + (i : Int))])
        (ea_cons (ev_op (ev_var rfl) ev_c rv_I0) (ea_cons (ev_op (ev_var rfl) ev_c rv_I0) ea_nil)) (by omega) (fun x => rfl) (fun j H13 e13 hj => et_yes)
        (fun j H13 e13 hj _ => el_lst (ea_cons (ev_var rfl) (ea_cons (ev_var rfl) ea_nil)) (by show 2 ≤ 100000; decide))
      rw [show ((n : Int) + 1 - (1 + (i : Int) + 1)).toNat = n - (i + 1) by omega] at go
      refine go H3 (Ex.refl H3) _ fun D H4 nD e4 hLL => ?_
      obtain ⟨as, ps2, c1, c2, c3, c4, c5⟩ := TM.cat (u := fun j : Nat => (1 + (i : Int) + 1 + (j : Int), 1 + (i : Int))) hT3 e4 hLL fun j => rfl
      have l2 := List.length_filter_le (fun _ : Nat => true) (List.range (n - (i + 1)))
      rw [List.length_range] at l2
      refine ⟨pr, D, _, _, rfl, rfl, c1, c2, sz_of (by rw [List.length_map, List.length_map, c3, c4]; omega), fun qq nqq => ?_⟩
      refine ⟨qq, ⟨_, rfl⟩, (e3.trans e4).trans (Ex.new nqq), ?_⟩
      rw [prsT_succ]
      exact c5 qq nqq
    · rintro σ' H3 ⟨pr, ⟨y4, rfl⟩, e3, hT3⟩
      rw [show ((n : Int) + 1 - 1).toNat = n by omega] at hT3
      have N0 := prsT_net (n := n) hn.1 hn.2
      have td1 : ∀ a b : Int, 1 ≤ a → a ≤ (n : Int) → 1 ≤ b → b ≤ (n : Int) → a ≠ b → MR.tdF (prsT n n) a b = true := fun a b h1 h2 h3 h4 ne => prsT_td ⟨h1, h2⟩ ⟨h3, h4⟩ ne
      have plen := prsT_len n
      generalize prsT n n = ts at hT3 N0 td1 plen
      have few := N0.few
      have e13 := e12.trans e3
      have hd3 := hd.on e13
      obtain ⟨as, hP, nas⟩ := hT3.ps
      have asl : as.length = ts.length := hP.2.len
      have tl : ts.length ≤ 800 := by
        have : n * (n - 1) ≤ 40 * 39 := Nat.mul_le_mul hn.2 (by omega)
        omega
      have nd0 : ∀ {H' : Hp} {k' : Int} {b : Addr} {t : Int × Int}, Dr H' d k' → At2 H' b t → b ≠ d := fun {H' k' b t} hd' h z => by
        obtain ⟨xx, bb, hh⟩ := hd'
        unfold At2 at h
        rw [z, hh] at h
        cases h
      have has : ∀ b ∈ as, ∃ t, At2 H3 b t := fun b hb => by
        obtain ⟨i, hi, e⟩ := List.getElem_of_mem hb
        exact ⟨_, hP.2.at_ (by rw [List.getElem?_eq_getElem hi, e]) (List.getElem?_eq_getElem (by omega : i < ts.length))⟩
      -- pairs = shuffled(draws, pairs)
      show tSeq _ _ _ [some (.ref d), some (.ref o), some (.int (n : Int)), some (.ref pr), y4, none, none] H3
      refine ⟨_, rfl, _, rfl, d, pr, k, as.map V.ref, rfl, hd3, ⟨hk.1, by rw [List.length_map]; omega⟩, .inl (.inl hP.1), by rw [List.length_map]; omega, fun H'' e x hx => ?_, fun ys p2 H5 pm np2 e5 hd5 hp2 => ?_⟩
      · obtain ⟨b, hb, rfl⟩ := List.mem_map.mp hx
        obtain ⟨t, ht⟩ := has b hb
        exact Sh.pair (.inl (.inl (e _ _ (nd0 hd3 ht) ht)))
      obtain ⟨as', rfl, pa⟩ := perm_refs pm
      obtain ⟨ts', pt', hF⟩ := F2.perm pa.symm hP.2
      have hF5 : F2 (At2 H5) as' ts' := hF.mono fun b t h => e5 _ _ (nd0 hd3 h) h
      have np2d : p2 ≠ d := fun z => by
        obtain ⟨xx, bb, hh⟩ := hd3
        rw [← z, np2] at hh
        cases hh
      rw [List.length_map] at hd5
      have N : NetOk (n : Int) ts' := net_turned N0 (pt'.symm.map nrm)
      have tl' : ts'.length = ts.length := pt'.length_eq.symm
      have tdt : ∀ a b : Int, 1 ≤ a → a ≤ (n : Int) → 1 ≤ b → b ≤ (n : Int) → a ≠ b → MR.tdF ts' a b = true := fun a b h1 h2 h3 h4 ne => by rw [← tdF_perm pt']; exact td1 a b h1 h2 h3 h4 ne
      have hT5 : TiesAt K H5 p2 ts' := (show Ps H5 p2 as' ts' from ⟨hp2, hF5⟩).ties
      have hO3 := e13 _ _ hO
      have hO5 := e5 _ _ (ne_draws hO3 hd3) hO3
      have hcn : ts' ≠ [] → 2 * ts'.length = n * (n - 1) := fun _ => by rw [tl', plen]
      have tne : ts' ≠ [] := fun z => by
        rw [z] at tl'
        rw [← tl'] at plen
        have : 0 < n * (n - 1) := Nat.mul_pos (by omega) (by omega)
        simp at plen
        omega
      have eW : wholeN n ts' ord = 1 := by
        unfold wholeN
        rw [if_neg tne]
      -- now = shuffled(draws, row)
      dsimp only [gName]
      show tSeq (tAsg (tCall (sp_l_shuffled K) _ _ _) _) _ _ [some (.ref d), some (.ref o), some (.int (n : Int)), some (.ref p2), y4, none, none] H5
      refine ⟨_, rfl, _, rfl, d, o, _, ord.map V.int, rfl, hd5, ⟨by omega, by rw [List.length_map, ol]; omega⟩, .inl (.inl hO5), by rw [List.length_map, ol]; omega, fun H' _ x hx => ?_, fun ys pn H6 pm npn e6 hd6 hpn => ?_⟩
      · obtain ⟨v, _, rfl⟩ := List.mem_map.mp hx
        exact Sh.int _
      obtain ⟨st, rfl, pm2⟩ := map_perm pm
      have S := stn_perm O pm2
      rw [List.length_map, ol] at hd6
      have hO6 := e6 _ _ (ne_draws hO5 hd5) hO5
      have hp26 : H6 p2 = some (.lst (as'.map V.ref)) := e6 _ _ np2d hp2
      have hF6 : F2 (At2 H6) as' ts' := hF5.mono fun b t h => e6 _ _ (nd0 hd5 h) h
      have hT6 : TiesAt K H6 p2 ts' := (show Ps H6 p2 as' ts' from ⟨hp26, hF6⟩).ties
      have eA6 : ExA d H H6 := ((ExA.of e13).trans e5).trans e6
      have hn6 : SqL K H6 pn (st.map V.int) := .inl (.inl hpn)
      have ho6 : SqL K H6 o (ord.map V.int) := .inl (.inl hO6)
      have okc := MR.pairs_ok (n := n) h2 O.lo
      have one : MR.roundP (MR.tdF ts') (MR.pairsF n ord) (MR.plOf st) = MR.plOf st := tight_run tdt S.plc okc
      have PL : MR.Per (MR.tdF ts') (MR.pairsF n ord) (MR.plOf st) 1 := ⟨by decide, one, fun k k0 k1 => by omega⟩
      dsimp only [gName]
      show tSeq (tIfS _ _ _) _ _ [some (.ref d), some (.ref o), some (.int (n : Int)), some (.ref p2), y4, some (.ref pn), none] H6
      -- if called(figure, pairs, now, row * 3) != now or after_rounds(figure, pairs, now, row, 10 ** 50) != now
      have rep3 : EvL (tOp rRep (tVar 1) (tC (V.int 3))) [some (.ref d), some (.ref o), some (.int (n : Int)), some (.ref p2), y4, some (.ref pn), none] H6 ((List.replicate 3 ord).flatten.map V.int) := fun H7 e7 Q7 q7 =>
        ⟨_, rfl, o, 3, ord.map V.int, rfl, rfl, e7 _ _ hO6, by decide, by decide, sz_of (by rw [List.length_map, ol]; show n * 3 ≤ 100000; omega), fun p np => q7 p _ np (Ex.new np) (by
          rw [upd_same]
          show some (HO.lst (List.replicate 3 (ord.map V.int)).flatten) = some (HO.lst ((List.replicate 3 ord).flatten.map V.int))
          rw [List.map_flatten, List.map_replicate])⟩
      have mem3 : ∀ x ∈ (List.replicate 3 ord).flatten, 1 ≤ x ∧ x ≤ (n : Int) := fun x hx => by
        obtain ⟨l, hl, hx⟩ := List.mem_flatten.mp hx
        rw [(List.mem_replicate.mp hl).2] at hx
        exact O.lo x hx
      have cd := el_called (K := K) (σ := [some (.ref d), some (.ref o), some (.int (n : Int)), some (.ref p2), y4, some (.ref pn), none]) (H := H6) (tn := tVar 2) (tt := tVar 3) (ts := tVar 5) (ev_var rfl) (ets_var rfl hT6) (ev_var rfl) rep3 N hn6 S mem3 (by
        show (ord ++ (ord ++ (ord ++ []))).length ≤ 10000
        simp only [List.length_append, List.length_nil]
        omega)
      rw [tight_run tdt S.plc (MR.pairs_ok h2 mem3), S.back] at cd
      have g50 : roundsZ (MR.tdF ts') n ord ((10 : Int) ^ 50) (MR.plOf st) = MR.plOf st := by
        unfold roundsZ
        rw [if_pos (by decide +kernel)]
        exact tight_it one _
      have ev50 : Ev (tOp (rI CPowW fun i j => V.int (i ^ j.toNat)) (tC (V.int 10)) (tC (V.int 50))) [some (.ref d), some (.ref o), some (.int (n : Int)), some (.ref p2), y4, some (.ref pn), none] H6 (.int ((10 : Int) ^ 50)) := ev_op ev_c ev_c (rv_I ⟨by decide, by decide +kernel⟩)
      have ar := el_after (K := K) (tn := tVar 2) (tt := tVar 3) (ts := tVar 5) (to := tVar 1) (ev_var rfl) (ets_var rfl hT6) (ev_var rfl) (ev_var rfl) ev50 N hn6 S ho6 O
      rw [g50, S.back] at ar
      refine q_when (b := false) (et_is (et_or (et_test (ev_neLV cd (ev_var rfl) hn6)) fun _ => et_test (ev_neLV ar (ev_var rfl) hn6)) (by simp)) (fun z => nomatch z) fun _ H7 e7 => ?_
      have hT7 := hT6.mono e7
      have hn7 := ex_l e7 hn6
      have ho7 := ex_l e7 ho6
      -- if [back_after(..), all_back(..)] != [1, 1]
      have ab := ev_all (K := K) (σ := [some (.ref d), some (.ref o), some (.int (n : Int)), some (.ref p2), y4, some (.ref pn), none]) (H := H7) (tn := tVar 2) (tt := tVar 3) (to := tVar 1) (ev_var rfl) (ets_var rfl hT7) (ev_var rfl) N ho7 O hcn
      rw [eW] at ab
      refine q_when (b := false) (et_is (et_test (ev_neLL (a := [1, 1]) (b := [1, 1]) (el_lst (ea_cons (ev_back (L := 1) (ev_var rfl) (ets_var rfl hT7) (ev_var rfl) (ev_var rfl) N hn7 S ho7 O PL) (ea_cons ab ea_nil)) (by show 2 ≤ 100000; decide)) (el_lst (ea_cons ev_c (ea_cons ev_c ea_nil)) (by show 2 ≤ 100000; decide)))) (by simp)) (fun z => nomatch z) fun _ H8 e8 => ?_
      have hT8 := hT7.mono e8
      have ho8 := ex_l e8 ho7
      -- if fixed_after(figure, pairs, row, -7) != product(figure)
      have fx := ev_fixed (K := K) (σ := [some (.ref d), some (.ref o), some (.int (n : Int)), some (.ref p2), y4, some (.ref pn), none]) (H := H8) (tn := tVar 2) (tt := tVar 3) (to := tVar 1) (tm := tUn (rU fun i => V.int (-i)) (tC (V.int 7))) (m := -7) (ev_var rfl) (ets_var rfl hT8) (ev_var rfl) (ev_un ev_c ru_neg) N ho8 O hcn
      rw [eW, if_pos (show (-7 : Int) % ((1 : Nat) : Int) = 0 by decide)] at fx
      refine q_when (b := false) (et_is (et_test (ev_op fx (ev_prod (ev_var rfl) (by omega) (by omega)) (rv_ne rfl))) (by simp)) (fun z => nomatch z) fun _ H9 e9 => ?_
      -- return repr(backs_counted(..)) == repr([(1, product(figure))])
      have e69 := (e7.trans e8).trans e9
      have dnP : Dn (dPairs [((1 : Int), ((fac n : Nat) : Int))]) (209 * 1 + 2) 2 := dn_pairs fun u hu => by
        simp only [List.mem_cons, List.not_mem_nil, or_false] at hu
        subst hu
        exact ⟨⟨by show (0 : Int) ≤ 1; decide, by show (1 : Int) < _; decide +kernel⟩, ⟨by omega, fb⟩⟩
      have ct := elt_counted (K := K) (σ := [some (.ref d), some (.ref o), some (.int (n : Int)), some (.ref p2), y4, some (.ref pn), none]) (H := H9) (tn := tVar 2) (tt := tVar 3) (to := tVar 1) (ev_var rfl) (ets_var rfl (hT8.mono e9)) (ev_var rfl) N (ex_l e9 ho8) O hcn
      rw [eW] at ct
      have pr1 : EvLT (tLst (tCons (tTup (tCons (tC (V.int 1)) (tCons (tCall sp_l_product [] E0 (tCons (tVar 2) tNil)) tNil))) tNil)) [some (.ref d), some (.ref o), some (.int (n : Int)), some (.ref p2), y4, some (.ref pn), none] H9 ([((1 : Int), ((fac n : Nat) : Int))].map fun u => [.int u.1, .int u.2]) :=
        elt_one (eu_tup (ea_cons ev_c (ea_cons (ev_prod (ev_var rfl) (by omega) (by omega)) ea_nil)) (by show 2 ≤ 100000; decide))
      refine s_ret (v := .bl true) (ev_is (ev_op (ev_repr (EvDr.pairs ct) dnP (by decide) (by decide)) (ev_repr (EvDr.pairs pr1) dnP (by decide) (by decide)) (rv_eq rfl)) (by simp)) fun H10 e10 => q _ H10 (eA6.trans (ExA.of (e69.trans e10))) (hd6.on (e69.trans e10)) (by omega)
end
end K24

namespace K24
open PySem PySem.Spec PyProof.Rows L2 Vf Evl
/-! ### orders written down, and lists of them -/
def stnB (n : Nat) (s : List Int) : Bool := decide (s.length = n) && s.all (fun x => decide (1 ≤ x) && decide (x ≤ (n : Int))) && decide s.Nodup
theorem stnB_ok {n : Nat} {s : List Int} (h : stnB n s = true) : MR.Stn n s := by
  unfold stnB at h
  simp only [Bool.and_eq_true, decide_eq_true_eq, List.all_eq_true] at h
  obtain ⟨⟨h1, h2⟩, h3⟩ := h
  exact ⟨h1, fun x hx => by have := h2 x hx; exact ⟨this.1, by omega⟩, h3⟩
def OrdAt (H : Hp) (a : Addr) : Prop := ∃ (ord : List Int) (n : Nat), H a = some (.lst (ord.map V.int)) ∧ MR.Stn n ord ∧ 3 ≤ n ∧ n ≤ 40
theorem OrdAt.on {H H' : Hp} {a : Addr} (h : OrdAt H a) (e : Ex H H') : OrdAt H' a := by
  obtain ⟨o, n, h1, h2⟩ := h
  exact ⟨o, n, e _ _ h1, h2⟩
theorem OrdAt.exA {H H' : Hp} {a d : Addr} {k : Int} (h : OrdAt H a) (hd : Dr H d k) (e : ExA d H H') : OrdAt H' a := by
  obtain ⟨o, n, h1, h2⟩ := h
  exact ⟨o, n, e _ _ (ne_draws h1 hd) h1, h2⟩
section
variable {K : PySem.W.Frag} {σ : L2.St} {H : Hp} {te tr : TE}
def EvS (te : TE) (σ : L2.St) (H : Hp) : Prop := ∀ H1, Ex H H1 → ∀ Q : VK, (∀ a H2, Ex H1 H2 → OrdAt H2 a → Q (.ref a) H2) → te σ H1 Q
def EaS (m : Nat) (ta : TA) (σ : L2.St) (H : Hp) : Prop := ∀ H1, Ex H H1 → ∀ Q : List V → Hp → Prop, (∀ (as : List Addr) H2, Ex H1 H2 → (∀ a ∈ as, OrdAt H2 a) → as.length = m → Q (as.map V.ref) H2) → ta σ H1 Q
theorem es_var {i : Nat} {a : Addr} (h : σ[i]? = some (some (.ref a))) (ho : OrdAt H a) : EvS (tVar i) σ H := fun H1 e Q q => ⟨_, h, q a H1 (Ex.refl H1) (ho.on e)⟩
theorem es_el {l : List Int} {n : Nat} (h : EvL te σ H (l.map V.int)) (S : MR.Stn n l) (h3 : 3 ≤ n) (h40 : n ≤ 40) : EvS te σ H := fun H1 e Q q => h H1 e _ fun p H2 _ e2 hp => q p H2 e2 ⟨l, n, hp, S, h3, h40⟩
theorem eas_nil : EaS 0 tNil σ H := fun H1 _ Q q => q [] H1 (Ex.refl H1) (fun a h => by cases h) rfl
theorem eas_cons {ta : TA} {m : Nat} (h : EvS te σ H) (k : EaS m ta σ H) : EaS (m + 1) (tCons te ta) σ H := fun H1 e Q q => h H1 e _ fun a H2 e2 ha => k H2 (e.trans e2) _ fun as H3 e3 has hl => by
  refine q (a :: as) H3 (e2.trans e3) (fun b hb => ?_) (by rw [List.length_cons, hl])
  rcases List.mem_cons.mp hb with rfl | hb
  · exact ha.on e3
  · exact has b hb
def lI (l : List Int) : TA := l.foldr (fun i t => tCons (tC (.int i)) t) tNil
theorem ea_lI {l : List Int} : EvA (lI l) σ H (l.map V.int) := by
  induction l with
  | nil => exact ea_nil
  | cons x l ih => exact ea_cons ev_c ih
theorem el_lI {l : List Int} (h : l.length ≤ 100000) : EvL (tLst (lI l)) σ H (l.map V.int) := el_lst ea_lI (by rw [List.length_map]; exact h)
/-- some arrangement of a held order -/
theorem es_perm {l : List Int} {xs : List V} {n : Nat} (h : EvL te σ H xs) (p : xs.Perm (l.map V.int)) (S : MR.Stn n l) (h3 : 3 ≤ n) (h40 : n ≤ 40) : EvS te σ H := by
  obtain ⟨ms, rfl, pm⟩ := map_perm p
  exact es_el h (stn_perm S pm) h3 h40
theorem el_rev {xs : List V} (h : EvL te σ H xs) : EvL (tRevL K te) σ H xs.reverse := fun H1 e Q q => h H1 e _ fun p H2 np e2 hp => ⟨p, xs, rfl, .inl (.inl hp), fun r nr => q r _ (fresh_back e2 nr) (e2.trans (Ex.new nr)) upd_same⟩
theorem ev_eqDD {d e : PyData} {ta tb : TE} (h : EvDr K ta σ H d) (k : EvDr K tb σ H e) (sd : SeqAt.shaped d = true) (se : SeqAt.shaped e = true) : Ev (tOp (rEqD K) ta tb) σ H (.bl (PyData.eqv d e)) := fun H1 x Q q =>
  h H1 x _ fun a H2 e2 ha => k H2 (x.trans e2) _ fun b H3 e3 hb => ⟨d, e, Dp.on e3 _ _ ha, hb, sd, se, q H3 (e2.trans e3)⟩
theorem elt_countedL {tn tt to : TE} {n : Nat} {tsl : List (Int × Int)} {ord : List Int} (hn : Ev tn σ H (.int (n : Int))) (ht : EvTs K tt σ H tsl) (ho : EvL to σ H (ord.map V.int)) (N : NetOk (n : Int) tsl) (O : MR.Stn n ord) (hc : tsl ≠ [] → 2 * tsl.length = n * (n - 1)) :
    EvLT (tCall (sp_backs_counted K) [] E0 (tCons tn (tCons tt (tCons to tNil)))) σ H ([(((wholeN n tsl ord : Nat) : Int), ((fac n : Nat) : Int))].map fun u => [.int u.1, .int u.2]) := fun H1 e Q q =>
  hn H1 e _ fun H2 e2 => ht H2 (e.trans e2) _ fun a H3 e3 hT => ho H3 ((e.trans e2).trans e3) _ fun o H5 no e5 hO =>
    ⟨a, o, tsl, ord, n, rfl, hT.mono e5, N, .inl (.inl hO), O, hc, fun D H7 nD e7 hD => q D H7 (fresh_back ((e2.trans e3).trans e5) nD) (((e2.trans e3).trans e5).trans e7) hD⟩
end
theorem q_forS {K : PySem.W.Frag} {σ : L2.St} {H : Hp} {ta : TA} {g : TG} {tb tz : TS} {D : Ends} {m : Nat} (h : EaS m ta σ H) (hm : m ≤ 1000) (Pv : Addr → List Addr → Nat → L2.St → Hp → Prop)
    (h0 : ∀ z as H1, H z = none → Ex H H1 → H1 z = some (.lst (as.map V.ref)) → (∀ b ∈ as, OrdAt H1 b) → as.length = m → Pv z as 0 σ H1) (hl : ∀ z as i σ' H', Pv z as i σ' H' → SqL K H' z (as.map V.ref))
    (hs : ∀ z (as : List Addr) i b σ' H', as.length = m → as[i]? = some b → Pv z as i σ' H' → g (.ref b) σ' H' fun σ2 H2 => tb { D with nx := Pv z as (i + 1), ct := Pv z as (i + 1), bk := tz D } σ2 H2)
    (hd : ∀ z (as : List Addr) i σ' H', Pv z as i σ' H' → tz D σ' H') : tSeq (tFor (iList K (tLst ta)) g tb) tz D σ H :=
  h H (Ex.refl H) _ fun as H1 e has al => ⟨(by rw [List.length_map, al]; exact sz_of (by omega)), fun z nz => ⟨z, rfl, ⟨_, .inl (.inl upd_same)⟩, for_list (xs := as.map V.ref) (D := { D with nx := tz D }) (Pv z as)
    (h0 z as _ (fresh_back e nz) (e.trans (Ex.new nz)) upd_same (fun b hb => (has b hb).on (Ex.new nz)) al) (fun i σ' H' _ p => hl z as i σ' H' p)
    (fun i x σ' H' hx p => by
      obtain ⟨q, hq, rfl⟩ := map_at hx
      exact hs z as i q σ' H' al hq p) fun σ' H' p => hd z as _ σ' H' p⟩⟩
theorem whole_5 : wholeN 5 [] [5, 4, 2, 1, 3] = 6 := by decide +kernel
section
variable {P : Program} {w : World} {K : PySem.W.Frag} {mg : Str → Option Value} {base : Heap} {A : Ad}
def sp_law (K : PySem.W.Frag) : Sp := fun vs H Q _ => ∃ (a : Addr) (ns : List Int), vs = [.ref a] ∧ SqL K H a (ns.map V.int) ∧ ns.length ≤ 63 ∧ ∀ H2, Q (.bl true) H2
theorem ok_law (T : Txt K mg A) : FnG P w K mg base CX0 8 A.f_law A.d_law ["_law_script"] (sp_law K) := by
  have G_l_draws : FnOk P w K mg base CX0 1 A.f_l_draws A.d_l_draws ["_law_cell"] sp_l_draws := ok_l_draws T
  have G_l_next : FnOk P w K mg base CX0 1 A.f_l_next A.d_l_next ["_law_draws_here"] sp_l_next := ok_l_next T
  have G_l_order : FnOk P w K mg base CX0 3 A.f_l_order A.d_l_order ["_law_draws_here", "_law_most"] sp_l_order := ok_l_order T
  have G_l_loose_right : FnG P w K mg base CX0 7 A.f_l_loose_right A.d_l_loose_right ["_law_draws_here", "_law_row"] sp_l_loose_right := ok_l_loose_right T
  have G_l_tight_right : FnG P w K mg base CX0 7 A.f_l_tight_right A.d_l_tight_right ["_law_draws_here", "_law_row"] sp_l_tight_right := ok_l_tight_right T
  have G_backs_counted : FnOk P w K mg base CX0 6 A.f_backs_counted A.d_backs_counted ["seats", "ties", "order"] (sp_backs_counted K) := ok_backs_counted T
  refine okG T.F_law sc_law (fun vs H Q E h => ?_) (fun cdv A' outer s H vs Q E hgd hr h => ?_)
  · obtain ⟨a, ns, rfl, _⟩ := h
    rfl
  · obtain ⟨a, ns, rfl, hS, hl, q⟩ := h
    refine ⟨_, (pss_cons (ps_for PassesOwn.never rfl (pi_listK (K := K) rfl (pe_lc (own := [("_law_cell", 5)]) rfl sc_law.nd (pi_listK (K := K) rfl (pe_op op_cat (pe_slice (sl_listK (K := K) rfl) (pv 0) po_none (po_some pe_int)) (pe_lst (pa_cons pe_int pa_nil)))) (blkOk_by (by kernel_rfl)) (fun _ _ _ _ _ => (pg_name (i := 5) sc_law.nd rfl (by first | exact .inl rfl | exact .inr rfl))) (fun _ _ _ _ _ => pts_nil) (fun _ _ _ _ _ => (pe_call G_l_draws (hr.mono (by decide)) (by rfl) T.g_l_draws T.F_l_draws.kp T.b_l_draws .nil pass0 (pa_cons (pv 5) pa_nil))))) (pg_name (i := 1) sc_law.nd rfl (by first | exact .inl rfl | exact .inr rfl)) (pss_cons (ps_for PassesOwn.never rfl (pi_listK (K := K) rfl (pe_lst (pa_cons pe_int (pa_cons pe_int (pa_cons pe_int pa_nil))))) (pg_name (i := 2) sc_law.nd rfl (by first | exact .inl rfl | exact .inr rfl)) (pss_one (ps_if (pt_not (pt_val (pe_callG G_l_loose_right hgd (hr.mono (by decide)) (by rfl) T.g_l_loose_right T.F_l_loose_right.kp T.b_l_loose_right (pa_cons (pv 1) (pa_cons (pe_call G_l_order (hr.mono (by decide)) (by rfl) T.g_l_order T.F_l_order.kp T.b_l_order .nil pass0 (pa_cons (pv 1) (pa_cons (pv 2) pa_nil))) pa_nil))))) (pss_one (ps_ret pe_bl)) pss_nil)))
      (pss_one (ps_if (pt_not (pt_val (pe_callG G_l_tight_right hgd (hr.mono (by decide)) (by rfl) T.g_l_tight_right T.F_l_tight_right.kp T.b_l_tight_right (pa_cons (pv 1) (pa_cons (pe_call G_l_order (hr.mono (by decide)) (by rfl) T.g_l_order T.F_l_order.kp T.b_l_order .nil pass0 (pa_cons (pv 1) (pa_cons (pe_ix (ix_listK (K := K) rfl) (pe_lst (pa_cons pe_int (pa_cons pe_int pa_nil))) (pe_op op_modN (pe_callTy call_int1 (by rfl) T.z_int (by decide +kernel) (pa_cons (pe_call G_l_next (hr.mono (by decide)) (by rfl) T.g_l_next T.F_l_next.kp T.b_l_next .nil pass0 (pa_cons (pv 1) pa_nil)) pa_nil)) pe_int) (fun _ _ => rfl)) pa_nil))) pa_nil))))) (pss_one (ps_ret pe_bl)) pss_nil))))
      (pss_cons (ps_set (i := 1) sc_law.nd rfl (by first | exact .inl rfl | exact .inr rfl) (pe_call G_l_draws (hr.mono (by decide)) (by rfl) T.g_l_draws T.F_l_draws.kp T.b_l_draws .nil pass0 (pa_cons pe_int pa_nil)))
      (pss_cons (ps_set (i := 3) sc_law.nd rfl (by first | exact .inl rfl | exact .inr rfl) (pe_listRg rfl (by rfl) T.z_list (prg_2 (by rfl) T.z_range pe_int pe_int)))
      (pss_cons (ps_for PassesOwn.never rfl (pi_listK (K := K) rfl (pe_lst (pa_cons (pv 3) (pa_cons (pe_op op_cat (pe_slice3 (K := K) rfl (pv 3) po_none po_none (po_some pe_int)) (pe_slice3 (K := K) rfl (pv 3) (po_some pe_int) po_none (po_some pe_int))) (pa_cons (pe_op op_cat (pe_slice (sl_listK (K := K) rfl) (pv 3) (po_some pe_int) po_none) (pe_revK (K := K) rfl (pe_slice (sl_listK (K := K) rfl) (pv 3) po_none (po_some pe_int)))) (pa_cons (pe_lst (pa_cons pe_int (pa_cons pe_int (pa_cons pe_int pa_nil)))) (pa_cons (pe_lst (pa_cons pe_int (pa_cons pe_int (pa_cons pe_int pa_nil)))) (pa_cons (pe_lst (pa_cons pe_int (pa_cons pe_int (pa_cons pe_int (pa_cons pe_int (pa_cons pe_int pa_nil)))))) pa_nil)))))))) (pg_name (i := 4) sc_law.nd rfl (by first | exact .inl rfl | exact .inr rfl)) (pss_one (ps_if (PW.pt (pw_or (pt_not (pt_val (pe_callG G_l_loose_right hgd (hr.mono (by decide)) (by rfl) T.g_l_loose_right T.F_l_loose_right.kp T.b_l_loose_right (pa_cons (pv 1) (pa_cons (pv 4) pa_nil))))) (pw_or1 (pt_not (pt_val (pe_callG G_l_tight_right hgd (hr.mono (by decide)) (by rfl) T.g_l_tight_right T.F_l_tight_right.kp T.b_l_tight_right (pa_cons (pv 1) (pa_cons (pv 4) pa_nil)))))))) (pss_one (ps_ret pe_bl)) pss_nil)))
      (pss_one (ps_ret (pe_cmpR (op_eqD hr.units) (pe_call G_backs_counted (hr.mono (by decide)) (by rfl) T.g_backs_counted T.F_backs_counted.kp T.b_backs_counted .nil pass0 (pa_cons pe_int (pa_cons (pe_lst pa_nil) (pa_cons (pe_lst (pa_cons pe_int (pa_cons pe_int (pa_cons pe_int (pa_cons pe_int (pa_cons pe_int pa_nil)))))) pa_nil)))) (pe_lst (pa_cons (pe_tup (pa_cons pe_int (pa_cons pe_int pa_nil))) pa_nil)) (nomark _)))))))), ?_⟩
    -- for draws in [_law_draws(cell) for cell in script[:5] + [0]]
    have lead : EvL (tOp rCat (tSl (rSlL K) (tVar 0) tNoPart (tPart (tC (.int 5)))) (tLst (tCons (tC (.int 0)) tNil))) [some (.ref a), none, none, none, none, none] H ((ns.take 5 ++ [0]).map V.int) := by
      intro H1 e1 Q q
      refine el_sl (ev_var rfl) eo_none (eo_some ev_c) hS H1 e1 _ fun p H2 np e2 hp => ?_
      rw [show (5 : Int) = ((5 : Nat) : Int) from rfl, cut_to, ← List.map_take] at hp
      refine el_lst (ea_cons (x := .int 0) ev_c ea_nil) (by show 1 ≤ 100000; decide) H2 (Ex.refl H2) _ fun p2 H3 np2 e3 hp2 => ?_
      refine ⟨p, p2, _, _, rfl, rfl, e3 _ _ hp, hp2, ?_, fun p3 np3 => ?_⟩
      · rw [List.length_map, List.length_take]
        exact sz_of (by show min 5 ns.length + 1 ≤ 100000; omega)
      · exact q p3 _ (fresh_back (e2.trans e3) np3) ((e2.trans e3).trans (Ex.new np3)) (by rw [upd_same, List.map_append]; rfl)
    refine q_forD (K := K) (ed_lc (K := K) (vs := [5]) (j := 5) lead (by rw [List.length_append, List.length_take]; show min 5 ns.length + 1 ≤ 100; omega) (fun x => rfl) (fun x => rfl)) (fun R ds i σ' H' => (∃ y1 y2, σ' = [some (.ref a), y1, y2, none, none, none]) ∧ H' R = some (.lst (ds.map V.ref)) ∧ R ∉ ds ∧ ds.length ≤ 100 ∧ Drs H' ds (100000 * i))
      (fun R ds H1 e1 hR nR hds dl => ⟨⟨none, none, rfl⟩, hR, nR, dl, fun d hd => ⟨0, hds d hd, by omega, by omega⟩⟩) (fun R ds i σ' H' z => z.2.1) ?_ ?_
    · rintro R ds i d σ' H2 hd ⟨⟨y1, y2, rfl⟩, hR2, nR, dl, hD2⟩
      have dmem := List.mem_of_getElem? hd
      have il : i < 100 := by have := (List.getElem?_eq_some_iff.mp hd).1; omega
      have nRd : R ≠ d := fun z => nR (z ▸ dmem)
      -- for most in [40, 12, 5]
      refine q_forNLn (xs := [.int 40, .int 12, .int 5]) (el_lst (ea_cons ev_c (ea_cons ev_c (ea_cons ev_c ea_nil))) (by show 3 ≤ 100000; decide)) (fun p j σ' H' => (∃ y2, σ' = [some (.ref a), some (.ref d), y2, none, none, none]) ∧
          H' p = some (.lst [.int 40, .int 12, .int 5]) ∧ p ≠ d ∧ H' R = some (.lst (ds.map V.ref)) ∧ Drs H' ds (100000 * i + 20000 * j)) ?_ (fun p j σ' H' _ z => .inl (.inl z.2.1)) ?_ ?_
      · intro p H3 np e3 hp
        refine ⟨⟨_, rfl⟩, hp, fun z => ?_, e3 _ _ hR2, hD2.on e3 (by omega)⟩
        obtain ⟨k, ⟨xx, bb, hh⟩, _⟩ := hD2 d dmem
        rw [← z, np] at hh
        cases hh
      · clear hR2 hD2
        rintro p j x σ' H3 hx ⟨⟨y2, rfl⟩, hp, npd, hR3, hD3⟩
        obtain ⟨m, rfl, hm1, hm2, hj⟩ : ∃ m : Int, x = .int m ∧ 5 ≤ m ∧ m ≤ 40 ∧ j < 3 := by
          match j, hx with
          | 0, hx => exact ⟨40, (Option.some.inj hx).symm, by decide, by decide, by decide⟩
          | 1, hx => exact ⟨12, (Option.some.inj hx).symm, by decide, by decide, by decide⟩
          | 2, hx => exact ⟨5, (Option.some.inj hx).symm, by decide, by decide, by decide⟩
        obtain ⟨k, hdk, k0, k1⟩ := hD3 d dmem
        -- if not loose_right(draws, order(draws, most))
        refine ⟨_, rfl, _, rfl, _, rfl, d, k, m, rfl, hdk, ⟨k0, by omega⟩, ⟨by omega, hm2⟩, fun n ord po k4 H4 n3 nm O npo e4 hd4 hk4 hpo => ?_⟩
        refine ⟨d, po, k4, ord, n, rfl, hd4, ⟨by omega, by omega⟩, hpo, O, ⟨n3, by omega⟩, fun k5 H5 e5 hd5 hk5 => ⟨true, rfl, iteF ?_⟩⟩
        have eA := e4.trans e5
        exact ⟨⟨_, rfl⟩, eA _ _ npd hp, npd, eA _ _ nRd hR3, hD3.step eA hd5 (by omega) (by omega) (by omega)⟩
      · rintro p σ' H3 ⟨⟨y2, rfl⟩, hp, npd, hR3, hD3⟩
        obtain ⟨k, hdk, k0, k1⟩ := hD3 d dmem
        have k1 : k ≤ 100000 * (i : Int) + 20000 * 3 := k1
        -- if not tight_right(draws, order(draws, [40, 6][int(next(draws)) % 2]))
        refine ⟨_, rfl, _, rfl, (by show 2 ≤ sizeLine; decide), fun pl npl => ?_⟩
        have e4 : Ex H3 (upd H3 pl (.lst [.int 40, .int 6])) := Ex.new npl
        have hpl : (upd H3 pl (.lst [.int 40, .int 6])) pl = some (.lst [.int 40, .int 6]) := upd_same
        generalize upd H3 pl (.lst [.int 40, .int 6]) = H4 at e4 hpl
        have npld : pl ≠ d := fun z => by
          obtain ⟨xx, bb, hh⟩ := hdk
          rw [← z, npl] at hh
          cases hh
        refine ⟨_, rfl, d, k, rfl, hdk.on e4, ⟨k0, by omega⟩, fun r H5 r0 e5 hd5 => .inl ⟨r, rfl, _, _, rfl, rfl, (by show (2 : Int) ≠ 0; decide), ?_⟩⟩
        have f2 := fmod_at (i := r) (j := 2) (by decide)
        obtain ⟨m, hm, hm1, hm2⟩ : ∃ m : Int, atI [V.int 40, V.int 6] (r.fmod 2) = some (.int m) ∧ 4 ≤ m ∧ m ≤ 40 := by
          rcases (show r.fmod 2 = 0 ∨ r.fmod 2 = 1 by omega) with z | z
          · exact ⟨40, by rw [z]; rfl, by decide, by decide⟩
          · exact ⟨6, by rw [z]; rfl, by decide, by decide⟩
        refine ⟨pl, _, _, _, rfl, rfl, .inl (.inl (e5 _ _ npld hpl)), hm, d, _, m, rfl, hd5, ⟨by omega, by omega⟩, ⟨hm1, hm2⟩, fun n ord po k6 H6 n3 nm O npo e6 hd6 hk6 hpo => ?_⟩
        refine ⟨d, po, k6, ord, n, rfl, hd6, ⟨by omega, by omega⟩, hpo, O, ⟨n3, by omega⟩, fun k7 H7 e7 hd7 hk7 => ⟨true, rfl, iteF ?_⟩⟩
        have eA := (((ExA.of e4).trans e5).trans e6).trans e7
        exact ⟨⟨_, _, rfl⟩, eA _ _ nRd hR3, nR, dl, hD3.step eA hd7 (by omega) (by omega) (by show 100000 * (i : Int) + 20000 * 3 ≤ 100000 * ((i + 1 : Nat) : Int); omega)⟩
    · rintro R ds i σ' H2 ⟨⟨y1, y2, rfl⟩, _⟩
      -- draws = draws(0)
      refine ⟨0, rfl, fun x b d H3 nd e3 hd0 => ?_⟩
      have hd3 : Dr H3 d 0 := ⟨x, b, hd0⟩
      dsimp only [gName]
      show tSeq (tAsg _ _) _ _ [some (.ref a), some (.ref d), y2, none, none, none] H3
      -- row = list(range(1, 41))
      refine ⟨_, _, rfl, rfl, ⟨by decide, by decide, by decide, by decide, by decide⟩, fun r nr => ?_⟩
      have e4 : Ex H3 (upd H3 r (.lst (rgV 1 41))) := Ex.new nr
      have hr0 : (upd H3 r (.lst (rgV 1 41))) r = some (.lst (((List.range 40).map fun i : Nat => 1 + (i : Int)).map V.int)) := by
        rw [upd_same]
        unfold rgV
        rw [List.map_map]
        rfl
      have R40 : MR.Stn 40 ((List.range 40).map fun i : Nat => 1 + (i : Int)) := stnB_ok (by decide +kernel)
      generalize ((List.range 40).map fun i : Nat => 1 + (i : Int)) = row at hr0 R40
      generalize upd H3 r (.lst (rgV 1 41)) = H4 at hr0 e4
      have rl := R40.len
      have hd4 := hd3.on e4
      dsimp only [gName]
      show tSeq _ _ _ [some (.ref a), some (.ref d), y2, some (.ref r), none, none] H4
      have six : EaS 6 (tCons (tVar 3) (tCons (tOp rCat (tSl3 K (tVar 3) tNoPart tNoPart (tPart (tC (V.int 2)))) (tSl3 K (tVar 3) (tPart (tC (V.int 1))) tNoPart (tPart (tC (V.int 2))))) (tCons (tOp rCat (tSl (rSlL K) (tVar 3) (tPart (tC (V.int 13))) tNoPart) (tRevL K (tSl (rSlL K) (tVar 3) tNoPart (tPart (tC (V.int 13))))))
          (tCons (tLst (lI [1, 2, 3])) (tCons (tLst (lI [3, 2, 1])) (tCons (tLst (lI [5, 4, 2, 1, 3])) tNil)))))) [some (.ref a), some (.ref d), y2, some (.ref r), none, none] H4 := by
        have rV : SqL K H4 r (row.map V.int) := .inl (.inl hr0)
        refine eas_cons (es_var rfl ⟨row, 40, hr0, R40, by decide, by decide⟩) (eas_cons ?_ (eas_cons ?_ (eas_cons (es_el (n := 3) (el_lI (by decide)) (stnB_ok (by decide)) (by decide) (by decide)) (eas_cons (es_el (n := 3) (el_lI (by decide)) (stnB_ok (by decide)) (by decide) (by decide)) (eas_cons (es_el (n := 5) (el_lI (by decide)) (stnB_ok (by decide)) (by decide) (by decide)) eas_nil)))))
        · have hp := halves_perm (row.map V.int) (by rw [List.length_map, rl]; decide)
          have hl := hp.length_eq
          rw [List.length_append, List.length_map, rl] at hl
          exact es_perm (el_cat (el_sl3 (ev_var rfl) eo_none eo_none (eo_some ev_c) rV (by decide)) (el_sl3 (ev_var rfl) (eo_some ev_c) eo_none (eo_some ev_c) rV (by decide)) (by rw [hl]; decide)) hp R40 (by decide) (by decide)
        · have z1 := el_sl (K := K) (σ := [some (.ref a), some (.ref d), y2, some (.ref r), none, none]) (H := H4) (te := tVar 3) (tl := tPart (tC (V.int 13))) (th := tNoPart) (lo := some ((13 : Nat) : Int)) (hi := none) (ev_var rfl) (eo_some ev_c) eo_none rV
          have z2 := el_sl (K := K) (σ := [some (.ref a), some (.ref d), y2, some (.ref r), none, none]) (H := H4) (te := tVar 3) (tl := tNoPart) (th := tPart (tC (V.int 13))) (lo := none) (hi := some ((13 : Nat) : Int)) (ev_var rfl) eo_none (eo_some ev_c) rV
          rw [cut_fr] at z1
          rw [cut_to] at z2
          refine es_perm (el_cat z1 (el_rev z2) (by rw [List.length_reverse, List.length_drop, List.length_take, List.length_map, rl]; decide)) ?_ R40 (by decide) (by decide)
          refine (List.Perm.append_left _ (List.reverse_perm _)).trans ((List.perm_append_comm).trans ?_)
          rw [List.take_append_drop]
      -- for some in [..]
      have nzd : ∀ {z : Addr}, H4 z = none → z ≠ d := fun {z} nz w => by
        obtain ⟨xx, bb, hh⟩ := hd4
        rw [← w, nz] at hh
        cases hh
      refine q_forS six (by decide) (fun z as u σ' H' => (∃ y4, σ' = [some (.ref a), some (.ref d), y2, some (.ref r), y4, none]) ∧ z ≠ d ∧ H' z = some (.lst (as.map V.ref)) ∧ (∀ b ∈ as, OrdAt H' b) ∧ ∃ k, Dr H' d k ∧ 0 ≤ k ∧ k ≤ 3000 * (u : Int)) (fun z as H6 nz e6 hz has al => ⟨⟨_, rfl⟩, nzd nz, hz, has, 0, hd4.on e6, by decide, by decide⟩) (fun z as u σ' H' w => .inl (.inl w.2.2.1)) ?_ ?_
      · rintro z as u b σ' H7 al hb ⟨⟨y4, rfl⟩, nzd, hz7, has7, k, hd7, k0, k1⟩
        have ul : u < 6 := by have := (List.getElem?_eq_some_iff.mp hb).1; omega
        obtain ⟨ord, n, hbo, O, n3, n40⟩ := has7 b (List.mem_of_getElem? hb)
        refine ⟨_, rfl, _, rfl, d, b, k, ord, n, rfl, hd7, ⟨k0, by omega⟩, hbo, O, ⟨n3, n40⟩, fun k8 H8 e8 hd8 hk8 => ⟨true, rfl, ?_⟩⟩
        have hbo8 := e8 _ _ (ne_draws hbo hd7) hbo
        refine iteF ⟨_, rfl, _, rfl, d, b, k8, ord, n, rfl, hd8, ⟨by omega, by omega⟩, hbo8, O, ⟨n3, n40⟩, fun k9 H9 e9 hd9 hk9 => ⟨true, rfl, iteF ?_⟩⟩
        have eA := e8.trans e9
        exact ⟨⟨_, rfl⟩, nzd, eA _ _ nzd hz7, fun b' hb' => (has7 b' hb').exA hd7 eA, k9, hd9, by omega, by show k9 ≤ 3000 * ((u + 1 : Nat) : Int); omega⟩
      · rintro z as u σ' H7 ⟨⟨y4, rfl⟩, _⟩
        -- return backs_counted(5, [], [5, 4, 2, 1, 3]) == [(6, 120)]
        have ct := elt_countedL (K := K) (σ := [some (.ref a), some (.ref d), y2, some (.ref r), y4, none]) (H := H7) (tn := tC (V.int 5)) (to := tLst (lI [5, 4, 2, 1, 3])) (n := 5) (ord := [5, 4, 2, 1, 3]) ev_c (ets_nil (K := K)) (el_lI (by decide)) (netok_nil (n := 5) (by decide) (by decide)) (stnB_ok (by decide)) (fun w => absurd rfl w)
        rw [whole_5] at ct
        refine s_ret (v := .bl true) (ev_is (ev_eqDD (EvDr.pairs ct) (EvDr.pairs (us := [(6, 120)]) (elt_one (eu_tup (ea_cons ev_c (ea_cons ev_c ea_nil)) (by show 2 ≤ 100000; decide)))) (by decide +kernel) (by decide +kernel)) (congrArg V.bl (by decide +kernel))) fun H8 _ => q H8
theorem all_mk {P : Program} {w : World} {K : PySem.W.Frag} {h : Heap} {mg : Str → Option Value} {fa : Addr} (X : K.In h) (G : h.Ns mainGlobals mg) (hfa : mg "law" = some (.ref fa))
    {f_is_whole : Addr} {od_is_whole an_is_whole : Option Addr} {sl_is_whole : Array (Option Value)} {oc_is_whole kV_is_whole dc_is_whole pm_is_whole cd_is_whole ct_is_whole : Value}
    (a_is_whole : PySem.W.nsIn K mainGlobals "is_whole" = some (some (.ref f_is_whole)))
    (l_is_whole : K.lookup f_is_whole = some ⟨oc_is_whole, od_is_whole, .func (PySem.W.fnOf "is_whole" "is_whole" (defArgs s_is_whole) (defBody s_is_whole) (defScope s_is_whole) .none kV_is_whole dc_is_whole pm_is_whole an_is_whole cd_is_whole ct_is_whole), sl_is_whole⟩)
    (c_is_whole : PySem.W.codeIn K cd_is_whole "is_whole" = true) (k_is_whole : PySem.W.keepIn K (.ref f_is_whole) = true)
    {f_is_from_one : Addr} {od_is_from_one an_is_from_one : Option Addr} {sl_is_from_one : Array (Option Value)} {oc_is_from_one kV_is_from_one dc_is_from_one pm_is_from_one cd_is_from_one ct_is_from_one : Value}
    (a_is_from_one : PySem.W.nsIn K mainGlobals "is_from_one" = some (some (.ref f_is_from_one)))
    (l_is_from_one : K.lookup f_is_from_one = some ⟨oc_is_from_one, od_is_from_one, .func (PySem.W.fnOf "is_from_one" "is_from_one" (defArgs s_is_from_one) (defBody s_is_from_one) (defScope s_is_from_one) .none kV_is_from_one dc_is_from_one pm_is_from_one an_is_from_one cd_is_from_one ct_is_from_one), sl_is_from_one⟩)
    (c_is_from_one : PySem.W.codeIn K cd_is_from_one "is_from_one" = true) (k_is_from_one : PySem.W.keepIn K (.ref f_is_from_one) = true)
    {f_first_wrong : Addr} {od_first_wrong an_first_wrong : Option Addr} {sl_first_wrong : Array (Option Value)} {oc_first_wrong kV_first_wrong dc_first_wrong pm_first_wrong cd_first_wrong ct_first_wrong : Value}
    (a_first_wrong : PySem.W.nsIn K mainGlobals "first_wrong" = some (some (.ref f_first_wrong)))
    (l_first_wrong : K.lookup f_first_wrong = some ⟨oc_first_wrong, od_first_wrong, .func (PySem.W.fnOf "first_wrong" "first_wrong" (defArgs s_first_wrong) (defBody s_first_wrong) (defScope s_first_wrong) .none kV_first_wrong dc_first_wrong pm_first_wrong an_first_wrong cd_first_wrong ct_first_wrong), sl_first_wrong⟩)
    (c_first_wrong : PySem.W.codeIn K cd_first_wrong "first_wrong" = true) (k_first_wrong : PySem.W.keepIn K (.ref f_first_wrong) = true)
    {f_check_count : Addr} {od_check_count an_check_count : Option Addr} {sl_check_count : Array (Option Value)} {oc_check_count kV_check_count dc_check_count pm_check_count cd_check_count ct_check_count : Value}
    (a_check_count : PySem.W.nsIn K mainGlobals "check_count" = some (some (.ref f_check_count)))
    (l_check_count : K.lookup f_check_count = some ⟨oc_check_count, od_check_count, .func (PySem.W.fnOf "check_count" "check_count" (defArgs s_check_count) (defBody s_check_count) (defScope s_check_count) .none kV_check_count dc_check_count pm_check_count an_check_count cd_check_count ct_check_count), sl_check_count⟩)
    (c_check_count : PySem.W.codeIn K cd_check_count "check_count" = true) (k_check_count : PySem.W.keepIn K (.ref f_check_count) = true)
    {f_is_tie : Addr} {od_is_tie an_is_tie : Option Addr} {sl_is_tie : Array (Option Value)} {oc_is_tie kV_is_tie dc_is_tie pm_is_tie cd_is_tie ct_is_tie : Value}
    (a_is_tie : PySem.W.nsIn K mainGlobals "is_tie" = some (some (.ref f_is_tie)))
    (l_is_tie : K.lookup f_is_tie = some ⟨oc_is_tie, od_is_tie, .func (PySem.W.fnOf "is_tie" "is_tie" (defArgs s_is_tie) (defBody s_is_tie) (defScope s_is_tie) .none kV_is_tie dc_is_tie pm_is_tie an_is_tie cd_is_tie ct_is_tie), sl_is_tie⟩)
    (c_is_tie : PySem.W.codeIn K cd_is_tie "is_tie" = true) (k_is_tie : PySem.W.keepIn K (.ref f_is_tie) = true)
    {f_check_ties : Addr} {od_check_ties an_check_ties : Option Addr} {sl_check_ties : Array (Option Value)} {oc_check_ties kV_check_ties dc_check_ties pm_check_ties cd_check_ties ct_check_ties : Value}
    (a_check_ties : PySem.W.nsIn K mainGlobals "check_ties" = some (some (.ref f_check_ties)))
    (l_check_ties : K.lookup f_check_ties = some ⟨oc_check_ties, od_check_ties, .func (PySem.W.fnOf "check_ties" "check_ties" (defArgs s_check_ties) (defBody s_check_ties) (defScope s_check_ties) .none kV_check_ties dc_check_ties pm_check_ties an_check_ties cd_check_ties ct_check_ties), sl_check_ties⟩)
    (c_check_ties : PySem.W.codeIn K cd_check_ties "check_ties" = true) (k_check_ties : PySem.W.keepIn K (.ref f_check_ties) = true)
    {f_check_net : Addr} {od_check_net an_check_net : Option Addr} {sl_check_net : Array (Option Value)} {oc_check_net kV_check_net dc_check_net pm_check_net cd_check_net ct_check_net : Value}
    (a_check_net : PySem.W.nsIn K mainGlobals "check_net" = some (some (.ref f_check_net)))
    (l_check_net : K.lookup f_check_net = some ⟨oc_check_net, od_check_net, .func (PySem.W.fnOf "check_net" "check_net" (defArgs s_check_net) (defBody s_check_net) (defScope s_check_net) .none kV_check_net dc_check_net pm_check_net an_check_net cd_check_net ct_check_net), sl_check_net⟩)
    (c_check_net : PySem.W.codeIn K cd_check_net "check_net" = true) (k_check_net : PySem.W.keepIn K (.ref f_check_net) = true)
    {f_check_standing : Addr} {od_check_standing an_check_standing : Option Addr} {sl_check_standing : Array (Option Value)} {oc_check_standing kV_check_standing dc_check_standing pm_check_standing cd_check_standing ct_check_standing : Value}
    (a_check_standing : PySem.W.nsIn K mainGlobals "check_standing" = some (some (.ref f_check_standing)))
    (l_check_standing : K.lookup f_check_standing = some ⟨oc_check_standing, od_check_standing, .func (PySem.W.fnOf "check_standing" "check_standing" (defArgs s_check_standing) (defBody s_check_standing) (defScope s_check_standing) .none kV_check_standing dc_check_standing pm_check_standing an_check_standing cd_check_standing ct_check_standing), sl_check_standing⟩)
    (c_check_standing : PySem.W.codeIn K cd_check_standing "check_standing" = true) (k_check_standing : PySem.W.keepIn K (.ref f_check_standing) = true)
    {f_check_order_of : Addr} {od_check_order_of an_check_order_of : Option Addr} {sl_check_order_of : Array (Option Value)} {oc_check_order_of kV_check_order_of dc_check_order_of pm_check_order_of cd_check_order_of ct_check_order_of : Value}
    (a_check_order_of : PySem.W.nsIn K mainGlobals "check_order_of" = some (some (.ref f_check_order_of)))
    (l_check_order_of : K.lookup f_check_order_of = some ⟨oc_check_order_of, od_check_order_of, .func (PySem.W.fnOf "check_order_of" "check_order_of" (defArgs s_check_order_of) (defBody s_check_order_of) (defScope s_check_order_of) .none kV_check_order_of dc_check_order_of pm_check_order_of an_check_order_of cd_check_order_of ct_check_order_of), sl_check_order_of⟩)
    (c_check_order_of : PySem.W.codeIn K cd_check_order_of "check_order_of" = true) (k_check_order_of : PySem.W.keepIn K (.ref f_check_order_of) = true)
    {f_check_calls : Addr} {od_check_calls an_check_calls : Option Addr} {sl_check_calls : Array (Option Value)} {oc_check_calls kV_check_calls dc_check_calls pm_check_calls cd_check_calls ct_check_calls : Value}
    (a_check_calls : PySem.W.nsIn K mainGlobals "check_calls" = some (some (.ref f_check_calls)))
    (l_check_calls : K.lookup f_check_calls = some ⟨oc_check_calls, od_check_calls, .func (PySem.W.fnOf "check_calls" "check_calls" (defArgs s_check_calls) (defBody s_check_calls) (defScope s_check_calls) .none kV_check_calls dc_check_calls pm_check_calls an_check_calls cd_check_calls ct_check_calls), sl_check_calls⟩)
    (c_check_calls : PySem.W.codeIn K cd_check_calls "check_calls" = true) (k_check_calls : PySem.W.keepIn K (.ref f_check_calls) = true)
    {f_check_many : Addr} {od_check_many an_check_many : Option Addr} {sl_check_many : Array (Option Value)} {oc_check_many kV_check_many dc_check_many pm_check_many cd_check_many ct_check_many : Value}
    (a_check_many : PySem.W.nsIn K mainGlobals "check_many" = some (some (.ref f_check_many)))
    (l_check_many : K.lookup f_check_many = some ⟨oc_check_many, od_check_many, .func (PySem.W.fnOf "check_many" "check_many" (defArgs s_check_many) (defBody s_check_many) (defScope s_check_many) .none kV_check_many dc_check_many pm_check_many an_check_many cd_check_many ct_check_many), sl_check_many⟩)
    (c_check_many : PySem.W.codeIn K cd_check_many "check_many" = true) (k_check_many : PySem.W.keepIn K (.ref f_check_many) = true)
    {f_next_call : Addr} {od_next_call an_next_call : Option Addr} {sl_next_call : Array (Option Value)} {oc_next_call kV_next_call dc_next_call pm_next_call cd_next_call ct_next_call : Value}
    (a_next_call : PySem.W.nsIn K mainGlobals "next_call" = some (some (.ref f_next_call)))
    (l_next_call : K.lookup f_next_call = some ⟨oc_next_call, od_next_call, .func (PySem.W.fnOf "next_call" "next_call" (defArgs s_next_call) (defBody s_next_call) (defScope s_next_call) .none kV_next_call dc_next_call pm_next_call an_next_call cd_next_call ct_next_call), sl_next_call⟩)
    (c_next_call : PySem.W.codeIn K cd_next_call "next_call" = true) (k_next_call : PySem.W.keepIn K (.ref f_next_call) = true)
    {f_breaks_of : Addr} {od_breaks_of an_breaks_of : Option Addr} {sl_breaks_of : Array (Option Value)} {oc_breaks_of kV_breaks_of dc_breaks_of pm_breaks_of cd_breaks_of ct_breaks_of : Value}
    (a_breaks_of : PySem.W.nsIn K mainGlobals "breaks_of" = some (some (.ref f_breaks_of)))
    (l_breaks_of : K.lookup f_breaks_of = some ⟨oc_breaks_of, od_breaks_of, .func (PySem.W.fnOf "breaks_of" "breaks_of" (defArgs s_breaks_of) (defBody s_breaks_of) (defScope s_breaks_of) .none kV_breaks_of dc_breaks_of pm_breaks_of an_breaks_of cd_breaks_of ct_breaks_of), sl_breaks_of⟩)
    (c_breaks_of : PySem.W.codeIn K cd_breaks_of "breaks_of" = true) (k_breaks_of : PySem.W.keepIn K (.ref f_breaks_of) = true)
    {f_places_of : Addr} {od_places_of an_places_of : Option Addr} {sl_places_of : Array (Option Value)} {oc_places_of kV_places_of dc_places_of pm_places_of cd_places_of ct_places_of : Value}
    (a_places_of : PySem.W.nsIn K mainGlobals "places_of" = some (some (.ref f_places_of)))
    (l_places_of : K.lookup f_places_of = some ⟨oc_places_of, od_places_of, .func (PySem.W.fnOf "places_of" "places_of" (defArgs s_places_of) (defBody s_places_of) (defScope s_places_of) .none kV_places_of dc_places_of pm_places_of an_places_of cd_places_of ct_places_of), sl_places_of⟩)
    (c_places_of : PySem.W.codeIn K cd_places_of "places_of" = true) (k_places_of : PySem.W.keepIn K (.ref f_places_of) = true)
    {f_standing_of : Addr} {od_standing_of an_standing_of : Option Addr} {sl_standing_of : Array (Option Value)} {oc_standing_of kV_standing_of dc_standing_of pm_standing_of cd_standing_of ct_standing_of : Value}
    (a_standing_of : PySem.W.nsIn K mainGlobals "standing_of" = some (some (.ref f_standing_of)))
    (l_standing_of : K.lookup f_standing_of = some ⟨oc_standing_of, od_standing_of, .func (PySem.W.fnOf "standing_of" "standing_of" (defArgs s_standing_of) (defBody s_standing_of) (defScope s_standing_of) .none kV_standing_of dc_standing_of pm_standing_of an_standing_of cd_standing_of ct_standing_of), sl_standing_of⟩)
    (c_standing_of : PySem.W.codeIn K cd_standing_of "standing_of" = true) (k_standing_of : PySem.W.keepIn K (.ref f_standing_of) = true)
    {f_turned_about : Addr} {od_turned_about an_turned_about : Option Addr} {sl_turned_about : Array (Option Value)} {oc_turned_about kV_turned_about dc_turned_about pm_turned_about cd_turned_about ct_turned_about : Value}
    (a_turned_about : PySem.W.nsIn K mainGlobals "turned_about" = some (some (.ref f_turned_about)))
    (l_turned_about : K.lookup f_turned_about = some ⟨oc_turned_about, od_turned_about, .func (PySem.W.fnOf "turned_about" "turned_about" (defArgs s_turned_about) (defBody s_turned_about) (defScope s_turned_about) .none kV_turned_about dc_turned_about pm_turned_about an_turned_about cd_turned_about ct_turned_about), sl_turned_about⟩)
    (c_turned_about : PySem.W.codeIn K cd_turned_about "turned_about" = true) (k_turned_about : PySem.W.keepIn K (.ref f_turned_about) = true)
    {f_tied_seats : Addr} {od_tied_seats an_tied_seats : Option Addr} {sl_tied_seats : Array (Option Value)} {oc_tied_seats kV_tied_seats dc_tied_seats pm_tied_seats cd_tied_seats ct_tied_seats : Value}
    (a_tied_seats : PySem.W.nsIn K mainGlobals "tied_seats" = some (some (.ref f_tied_seats)))
    (l_tied_seats : K.lookup f_tied_seats = some ⟨oc_tied_seats, od_tied_seats, .func (PySem.W.fnOf "tied_seats" "tied_seats" (defArgs s_tied_seats) (defBody s_tied_seats) (defScope s_tied_seats) .none kV_tied_seats dc_tied_seats pm_tied_seats an_tied_seats cd_tied_seats ct_tied_seats), sl_tied_seats⟩)
    (c_tied_seats : PySem.W.codeIn K cd_tied_seats "tied_seats" = true) (k_tied_seats : PySem.W.keepIn K (.ref f_tied_seats) = true)
    {f_people_called : Addr} {od_people_called an_people_called : Option Addr} {sl_people_called : Array (Option Value)} {oc_people_called kV_people_called dc_people_called pm_people_called cd_people_called ct_people_called : Value}
    (a_people_called : PySem.W.nsIn K mainGlobals "people_called" = some (some (.ref f_people_called)))
    (l_people_called : K.lookup f_people_called = some ⟨oc_people_called, od_people_called, .func (PySem.W.fnOf "people_called" "people_called" (defArgs s_people_called) (defBody s_people_called) (defScope s_people_called) .none kV_people_called dc_people_called pm_people_called an_people_called cd_people_called ct_people_called), sl_people_called⟩)
    (c_people_called : PySem.W.codeIn K cd_people_called "people_called" = true) (k_people_called : PySem.W.keepIn K (.ref f_people_called) = true)
    {f_places_after : Addr} {od_places_after an_places_after : Option Addr} {sl_places_after : Array (Option Value)} {oc_places_after kV_places_after dc_places_after pm_places_after cd_places_after ct_places_after : Value}
    (a_places_after : PySem.W.nsIn K mainGlobals "places_after" = some (some (.ref f_places_after)))
    (l_places_after : K.lookup f_places_after = some ⟨oc_places_after, od_places_after, .func (PySem.W.fnOf "places_after" "places_after" (defArgs s_places_after) (defBody s_places_after) (defScope s_places_after) .none kV_places_after dc_places_after pm_places_after an_places_after cd_places_after ct_places_after), sl_places_after⟩)
    (c_places_after : PySem.W.codeIn K cd_places_after "places_after" = true) (k_places_after : PySem.W.keepIn K (.ref f_places_after) = true)
    {f_parts_of : Addr} {od_parts_of an_parts_of : Option Addr} {sl_parts_of : Array (Option Value)} {oc_parts_of kV_parts_of dc_parts_of pm_parts_of cd_parts_of ct_parts_of : Value}
    (a_parts_of : PySem.W.nsIn K mainGlobals "parts_of" = some (some (.ref f_parts_of)))
    (l_parts_of : K.lookup f_parts_of = some ⟨oc_parts_of, od_parts_of, .func (PySem.W.fnOf "parts_of" "parts_of" (defArgs s_parts_of) (defBody s_parts_of) (defScope s_parts_of) .none kV_parts_of dc_parts_of pm_parts_of an_parts_of cd_parts_of ct_parts_of), sl_parts_of⟩)
    (c_parts_of : PySem.W.codeIn K cd_parts_of "parts_of" = true) (k_parts_of : PySem.W.keepIn K (.ref f_parts_of) = true)
    {f_is_wood_of : Addr} {od_is_wood_of an_is_wood_of : Option Addr} {sl_is_wood_of : Array (Option Value)} {oc_is_wood_of kV_is_wood_of dc_is_wood_of pm_is_wood_of cd_is_wood_of ct_is_wood_of : Value}
    (a_is_wood_of : PySem.W.nsIn K mainGlobals "is_wood_of" = some (some (.ref f_is_wood_of)))
    (l_is_wood_of : K.lookup f_is_wood_of = some ⟨oc_is_wood_of, od_is_wood_of, .func (PySem.W.fnOf "is_wood_of" "is_wood_of" (defArgs s_is_wood_of) (defBody s_is_wood_of) (defScope s_is_wood_of) .none kV_is_wood_of dc_is_wood_of pm_is_wood_of an_is_wood_of cd_is_wood_of ct_is_wood_of), sl_is_wood_of⟩)
    (c_is_wood_of : PySem.W.codeIn K cd_is_wood_of "is_wood_of" = true) (k_is_wood_of : PySem.W.keepIn K (.ref f_is_wood_of) = true)
    {f_is_row_of : Addr} {od_is_row_of an_is_row_of : Option Addr} {sl_is_row_of : Array (Option Value)} {oc_is_row_of kV_is_row_of dc_is_row_of pm_is_row_of cd_is_row_of ct_is_row_of : Value}
    (a_is_row_of : PySem.W.nsIn K mainGlobals "is_row_of" = some (some (.ref f_is_row_of)))
    (l_is_row_of : K.lookup f_is_row_of = some ⟨oc_is_row_of, od_is_row_of, .func (PySem.W.fnOf "is_row_of" "is_row_of" (defArgs s_is_row_of) (defBody s_is_row_of) (defScope s_is_row_of) .none kV_is_row_of dc_is_row_of pm_is_row_of an_is_row_of cd_is_row_of ct_is_row_of), sl_is_row_of⟩)
    (c_is_row_of : PySem.W.codeIn K cd_is_row_of "is_row_of" = true) (k_is_row_of : PySem.W.keepIn K (.ref f_is_row_of) = true)
    {f_least_together : Addr} {od_least_together an_least_together : Option Addr} {sl_least_together : Array (Option Value)} {oc_least_together kV_least_together dc_least_together pm_least_together cd_least_together ct_least_together : Value}
    (a_least_together : PySem.W.nsIn K mainGlobals "least_together" = some (some (.ref f_least_together)))
    (l_least_together : K.lookup f_least_together = some ⟨oc_least_together, od_least_together, .func (PySem.W.fnOf "least_together" "least_together" (defArgs s_least_together) (defBody s_least_together) (defScope s_least_together) .none kV_least_together dc_least_together pm_least_together an_least_together cd_least_together ct_least_together), sl_least_together⟩)
    (c_least_together : PySem.W.codeIn K cd_least_together "least_together" = true) (k_least_together : PySem.W.keepIn K (.ref f_least_together) = true)
    {f_back_after : Addr} {od_back_after an_back_after : Option Addr} {sl_back_after : Array (Option Value)} {oc_back_after kV_back_after dc_back_after pm_back_after cd_back_after ct_back_after : Value}
    (a_back_after : PySem.W.nsIn K mainGlobals "back_after" = some (some (.ref f_back_after)))
    (l_back_after : K.lookup f_back_after = some ⟨oc_back_after, od_back_after, .func (PySem.W.fnOf "back_after" "back_after" (defArgs s_back_after) (defBody s_back_after) (defScope s_back_after) .none kV_back_after dc_back_after pm_back_after an_back_after cd_back_after ct_back_after), sl_back_after⟩)
    (c_back_after : PySem.W.codeIn K cd_back_after "back_after" = true) (k_back_after : PySem.W.keepIn K (.ref f_back_after) = true)
    {f_backs_counted : Addr} {od_backs_counted an_backs_counted : Option Addr} {sl_backs_counted : Array (Option Value)} {oc_backs_counted kV_backs_counted dc_backs_counted pm_backs_counted cd_backs_counted ct_backs_counted : Value}
    (a_backs_counted : PySem.W.nsIn K mainGlobals "backs_counted" = some (some (.ref f_backs_counted)))
    (l_backs_counted : K.lookup f_backs_counted = some ⟨oc_backs_counted, od_backs_counted, .func (PySem.W.fnOf "backs_counted" "backs_counted" (defArgs s_backs_counted) (defBody s_backs_counted) (defScope s_backs_counted) .none kV_backs_counted dc_backs_counted pm_backs_counted an_backs_counted cd_backs_counted ct_backs_counted), sl_backs_counted⟩)
    (c_backs_counted : PySem.W.codeIn K cd_backs_counted "backs_counted" = true) (k_backs_counted : PySem.W.keepIn K (.ref f_backs_counted) = true)
    {f_all_back : Addr} {od_all_back an_all_back : Option Addr} {sl_all_back : Array (Option Value)} {oc_all_back kV_all_back dc_all_back pm_all_back cd_all_back ct_all_back : Value}
    (a_all_back : PySem.W.nsIn K mainGlobals "all_back" = some (some (.ref f_all_back)))
    (l_all_back : K.lookup f_all_back = some ⟨oc_all_back, od_all_back, .func (PySem.W.fnOf "all_back" "all_back" (defArgs s_all_back) (defBody s_all_back) (defScope s_all_back) .none kV_all_back dc_all_back pm_all_back an_all_back cd_all_back ct_all_back), sl_all_back⟩)
    (c_all_back : PySem.W.codeIn K cd_all_back "all_back" = true) (k_all_back : PySem.W.keepIn K (.ref f_all_back) = true)
    {f_fixed_after : Addr} {od_fixed_after an_fixed_after : Option Addr} {sl_fixed_after : Array (Option Value)} {oc_fixed_after kV_fixed_after dc_fixed_after pm_fixed_after cd_fixed_after ct_fixed_after : Value}
    (a_fixed_after : PySem.W.nsIn K mainGlobals "fixed_after" = some (some (.ref f_fixed_after)))
    (l_fixed_after : K.lookup f_fixed_after = some ⟨oc_fixed_after, od_fixed_after, .func (PySem.W.fnOf "fixed_after" "fixed_after" (defArgs s_fixed_after) (defBody s_fixed_after) (defScope s_fixed_after) .none kV_fixed_after dc_fixed_after pm_fixed_after an_fixed_after cd_fixed_after ct_fixed_after), sl_fixed_after⟩)
    (c_fixed_after : PySem.W.codeIn K cd_fixed_after "fixed_after" = true) (k_fixed_after : PySem.W.keepIn K (.ref f_fixed_after) = true)
    {f_first_backs : Addr} {od_first_backs an_first_backs : Option Addr} {sl_first_backs : Array (Option Value)} {oc_first_backs kV_first_backs dc_first_backs pm_first_backs cd_first_backs ct_first_backs : Value}
    (a_first_backs : PySem.W.nsIn K mainGlobals "first_backs" = some (some (.ref f_first_backs)))
    (l_first_backs : K.lookup f_first_backs = some ⟨oc_first_backs, od_first_backs, .func (PySem.W.fnOf "first_backs" "first_backs" (defArgs s_first_backs) (defBody s_first_backs) (defScope s_first_backs) .none kV_first_backs dc_first_backs pm_first_backs an_first_backs cd_first_backs ct_first_backs), sl_first_backs⟩)
    (c_first_backs : PySem.W.codeIn K cd_first_backs "first_backs" = true) (k_first_backs : PySem.W.keepIn K (.ref f_first_backs) = true)
    {f_first_backs_in_row : Addr} {od_first_backs_in_row an_first_backs_in_row : Option Addr} {sl_first_backs_in_row : Array (Option Value)} {oc_first_backs_in_row kV_first_backs_in_row dc_first_backs_in_row pm_first_backs_in_row cd_first_backs_in_row ct_first_backs_in_row : Value}
    (a_first_backs_in_row : PySem.W.nsIn K mainGlobals "first_backs_in_row" = some (some (.ref f_first_backs_in_row)))
    (l_first_backs_in_row : K.lookup f_first_backs_in_row = some ⟨oc_first_backs_in_row, od_first_backs_in_row, .func (PySem.W.fnOf "first_backs_in_row" "first_backs_in_row" (defArgs s_first_backs_in_row) (defBody s_first_backs_in_row) (defScope s_first_backs_in_row) .none kV_first_backs_in_row dc_first_backs_in_row pm_first_backs_in_row an_first_backs_in_row cd_first_backs_in_row ct_first_backs_in_row), sl_first_backs_in_row⟩)
    (c_first_backs_in_row : PySem.W.codeIn K cd_first_backs_in_row "first_backs_in_row" = true) (k_first_backs_in_row : PySem.W.keepIn K (.ref f_first_backs_in_row) = true)
    {f_first_backs_in_wood : Addr} {od_first_backs_in_wood an_first_backs_in_wood : Option Addr} {sl_first_backs_in_wood : Array (Option Value)} {oc_first_backs_in_wood kV_first_backs_in_wood dc_first_backs_in_wood pm_first_backs_in_wood cd_first_backs_in_wood ct_first_backs_in_wood : Value}
    (a_first_backs_in_wood : PySem.W.nsIn K mainGlobals "first_backs_in_wood" = some (some (.ref f_first_backs_in_wood)))
    (l_first_backs_in_wood : K.lookup f_first_backs_in_wood = some ⟨oc_first_backs_in_wood, od_first_backs_in_wood, .func (PySem.W.fnOf "first_backs_in_wood" "first_backs_in_wood" (defArgs s_first_backs_in_wood) (defBody s_first_backs_in_wood) (defScope s_first_backs_in_wood) .none kV_first_backs_in_wood dc_first_backs_in_wood pm_first_backs_in_wood an_first_backs_in_wood cd_first_backs_in_wood ct_first_backs_in_wood), sl_first_backs_in_wood⟩)
    (c_first_backs_in_wood : PySem.W.codeIn K cd_first_backs_in_wood "first_backs_in_wood" = true) (k_first_backs_in_wood : PySem.W.keepIn K (.ref f_first_backs_in_wood) = true)
    {f_first_backs_by_walk : Addr} {od_first_backs_by_walk an_first_backs_by_walk : Option Addr} {sl_first_backs_by_walk : Array (Option Value)} {oc_first_backs_by_walk kV_first_backs_by_walk dc_first_backs_by_walk pm_first_backs_by_walk cd_first_backs_by_walk ct_first_backs_by_walk : Value}
    (a_first_backs_by_walk : PySem.W.nsIn K mainGlobals "first_backs_by_walk" = some (some (.ref f_first_backs_by_walk)))
    (l_first_backs_by_walk : K.lookup f_first_backs_by_walk = some ⟨oc_first_backs_by_walk, od_first_backs_by_walk, .func (PySem.W.fnOf "first_backs_by_walk" "first_backs_by_walk" (defArgs s_first_backs_by_walk) (defBody s_first_backs_by_walk) (defScope s_first_backs_by_walk) .none kV_first_backs_by_walk dc_first_backs_by_walk pm_first_backs_by_walk an_first_backs_by_walk cd_first_backs_by_walk ct_first_backs_by_walk), sl_first_backs_by_walk⟩)
    (c_first_backs_by_walk : PySem.W.codeIn K cd_first_backs_by_walk "first_backs_by_walk" = true) (k_first_backs_by_walk : PySem.W.keepIn K (.ref f_first_backs_by_walk) = true)
    {f_called : Addr} {od_called an_called : Option Addr} {sl_called : Array (Option Value)} {oc_called kV_called dc_called pm_called cd_called ct_called : Value}
    (a_called : PySem.W.nsIn K mainGlobals "called" = some (some (.ref f_called)))
    (l_called : K.lookup f_called = some ⟨oc_called, od_called, .func (PySem.W.fnOf "called" "called" (defArgs s_called) (defBody s_called) (defScope s_called) .none kV_called dc_called pm_called an_called cd_called ct_called), sl_called⟩)
    (c_called : PySem.W.codeIn K cd_called "called" = true) (k_called : PySem.W.keepIn K (.ref f_called) = true)
    {f_after_rounds : Addr} {od_after_rounds an_after_rounds : Option Addr} {sl_after_rounds : Array (Option Value)} {oc_after_rounds kV_after_rounds dc_after_rounds pm_after_rounds cd_after_rounds ct_after_rounds : Value}
    (a_after_rounds : PySem.W.nsIn K mainGlobals "after_rounds" = some (some (.ref f_after_rounds)))
    {D_after_rounds : Addr} {Dc_after_rounds : Value} {Dd_after_rounds : Option Addr} {Dn_after_rounds : Nat} {Dt_after_rounds : Tok} {Ds_after_rounds : Array (Option Value)} (y_after_rounds : K.lookup D_after_rounds = some ⟨Dc_after_rounds, Dd_after_rounds, .seq #[.int 1 Dt_after_rounds] Dn_after_rounds, Ds_after_rounds⟩)
    (l_after_rounds : K.lookup f_after_rounds = some ⟨oc_after_rounds, od_after_rounds, .func (PySem.W.fnOf "after_rounds" "after_rounds" (defArgs s_after_rounds) (defBody s_after_rounds) (defScope s_after_rounds) (.ref D_after_rounds) kV_after_rounds dc_after_rounds pm_after_rounds an_after_rounds cd_after_rounds ct_after_rounds), sl_after_rounds⟩)
    (c_after_rounds : PySem.W.codeIn K cd_after_rounds "after_rounds" = true) (k_after_rounds : PySem.W.keepIn K (.ref f_after_rounds) = true)
    {f_places_after_rounds : Addr} {od_places_after_rounds an_places_after_rounds : Option Addr} {sl_places_after_rounds : Array (Option Value)} {oc_places_after_rounds kV_places_after_rounds dc_places_after_rounds pm_places_after_rounds cd_places_after_rounds ct_places_after_rounds : Value}
    (a_places_after_rounds : PySem.W.nsIn K mainGlobals "places_after_rounds" = some (some (.ref f_places_after_rounds)))
    (l_places_after_rounds : K.lookup f_places_after_rounds = some ⟨oc_places_after_rounds, od_places_after_rounds, .func (PySem.W.fnOf "places_after_rounds" "places_after_rounds" (defArgs s_places_after_rounds) (defBody s_places_after_rounds) (defScope s_places_after_rounds) .none kV_places_after_rounds dc_places_after_rounds pm_places_after_rounds an_places_after_rounds cd_places_after_rounds ct_places_after_rounds), sl_places_after_rounds⟩)
    (c_places_after_rounds : PySem.W.codeIn K cd_places_after_rounds "places_after_rounds" = true) (k_places_after_rounds : PySem.W.keepIn K (.ref f_places_after_rounds) = true)
    {f_l_draws : Addr} {od_l_draws an_l_draws : Option Addr} {sl_l_draws : Array (Option Value)} {oc_l_draws kV_l_draws dc_l_draws pm_l_draws cd_l_draws ct_l_draws : Value}
    (a_l_draws : PySem.W.nsIn K mainGlobals "_law_draws" = some (some (.ref f_l_draws)))
    (l_l_draws : K.lookup f_l_draws = some ⟨oc_l_draws, od_l_draws, .func (PySem.W.fnOf "_law_draws" "_law_draws" (defArgs s_l_draws) (defBody s_l_draws) (defScope s_l_draws) .none kV_l_draws dc_l_draws pm_l_draws an_l_draws cd_l_draws ct_l_draws), sl_l_draws⟩)
    (c_l_draws : PySem.W.codeIn K cd_l_draws "_law_draws" = true) (k_l_draws : PySem.W.keepIn K (.ref f_l_draws) = true)
    {f_l_next : Addr} {od_l_next an_l_next : Option Addr} {sl_l_next : Array (Option Value)} {oc_l_next kV_l_next dc_l_next pm_l_next cd_l_next ct_l_next : Value}
    (a_l_next : PySem.W.nsIn K mainGlobals "_law_next" = some (some (.ref f_l_next)))
    (l_l_next : K.lookup f_l_next = some ⟨oc_l_next, od_l_next, .func (PySem.W.fnOf "_law_next" "_law_next" (defArgs s_l_next) (defBody s_l_next) (defScope s_l_next) .none kV_l_next dc_l_next pm_l_next an_l_next cd_l_next ct_l_next), sl_l_next⟩)
    (c_l_next : PySem.W.codeIn K cd_l_next "_law_next" = true) (k_l_next : PySem.W.keepIn K (.ref f_l_next) = true)
    {f_l_shuffled : Addr} {od_l_shuffled an_l_shuffled : Option Addr} {sl_l_shuffled : Array (Option Value)} {oc_l_shuffled kV_l_shuffled dc_l_shuffled pm_l_shuffled cd_l_shuffled ct_l_shuffled : Value}
    (a_l_shuffled : PySem.W.nsIn K mainGlobals "_law_shuffled" = some (some (.ref f_l_shuffled)))
    (l_l_shuffled : K.lookup f_l_shuffled = some ⟨oc_l_shuffled, od_l_shuffled, .func (PySem.W.fnOf "_law_shuffled" "_law_shuffled" (defArgs s_l_shuffled) (defBody s_l_shuffled) (defScope s_l_shuffled) .none kV_l_shuffled dc_l_shuffled pm_l_shuffled an_l_shuffled cd_l_shuffled ct_l_shuffled), sl_l_shuffled⟩)
    (c_l_shuffled : PySem.W.codeIn K cd_l_shuffled "_law_shuffled" = true) (k_l_shuffled : PySem.W.keepIn K (.ref f_l_shuffled) = true)
    {f_l_order : Addr} {od_l_order an_l_order : Option Addr} {sl_l_order : Array (Option Value)} {oc_l_order kV_l_order dc_l_order pm_l_order cd_l_order ct_l_order : Value}
    (a_l_order : PySem.W.nsIn K mainGlobals "_law_order" = some (some (.ref f_l_order)))
    (l_l_order : K.lookup f_l_order = some ⟨oc_l_order, od_l_order, .func (PySem.W.fnOf "_law_order" "_law_order" (defArgs s_l_order) (defBody s_l_order) (defScope s_l_order) .none kV_l_order dc_l_order pm_l_order an_l_order cd_l_order ct_l_order), sl_l_order⟩)
    (c_l_order : PySem.W.codeIn K cd_l_order "_law_order" = true) (k_l_order : PySem.W.keepIn K (.ref f_l_order) = true)
    {f_l_breaks : Addr} {od_l_breaks an_l_breaks : Option Addr} {sl_l_breaks : Array (Option Value)} {oc_l_breaks kV_l_breaks dc_l_breaks pm_l_breaks cd_l_breaks ct_l_breaks : Value}
    (a_l_breaks : PySem.W.nsIn K mainGlobals "_law_breaks" = some (some (.ref f_l_breaks)))
    (l_l_breaks : K.lookup f_l_breaks = some ⟨oc_l_breaks, od_l_breaks, .func (PySem.W.fnOf "_law_breaks" "_law_breaks" (defArgs s_l_breaks) (defBody s_l_breaks) (defScope s_l_breaks) .none kV_l_breaks dc_l_breaks pm_l_breaks an_l_breaks cd_l_breaks ct_l_breaks), sl_l_breaks⟩)
    (c_l_breaks : PySem.W.codeIn K cd_l_breaks "_law_breaks" = true) (k_l_breaks : PySem.W.keepIn K (.ref f_l_breaks) = true)
    {f_l_product : Addr} {od_l_product an_l_product : Option Addr} {sl_l_product : Array (Option Value)} {oc_l_product kV_l_product dc_l_product pm_l_product cd_l_product ct_l_product : Value}
    (a_l_product : PySem.W.nsIn K mainGlobals "_law_product" = some (some (.ref f_l_product)))
    (l_l_product : K.lookup f_l_product = some ⟨oc_l_product, od_l_product, .func (PySem.W.fnOf "_law_product" "_law_product" (defArgs s_l_product) (defBody s_l_product) (defScope s_l_product) .none kV_l_product dc_l_product pm_l_product an_l_product cd_l_product ct_l_product), sl_l_product⟩)
    (c_l_product : PySem.W.codeIn K cd_l_product "_law_product" = true) (k_l_product : PySem.W.keepIn K (.ref f_l_product) = true)
    {f_l_multiple : Addr} {od_l_multiple an_l_multiple : Option Addr} {sl_l_multiple : Array (Option Value)} {oc_l_multiple kV_l_multiple dc_l_multiple pm_l_multiple cd_l_multiple ct_l_multiple : Value}
    (a_l_multiple : PySem.W.nsIn K mainGlobals "_law_multiple" = some (some (.ref f_l_multiple)))
    (l_l_multiple : K.lookup f_l_multiple = some ⟨oc_l_multiple, od_l_multiple, .func (PySem.W.fnOf "_law_multiple" "_law_multiple" (defArgs s_l_multiple) (defBody s_l_multiple) (defScope s_l_multiple) .none kV_l_multiple dc_l_multiple pm_l_multiple an_l_multiple cd_l_multiple ct_l_multiple), sl_l_multiple⟩)
    (c_l_multiple : PySem.W.codeIn K cd_l_multiple "_law_multiple" = true) (k_l_multiple : PySem.W.keepIn K (.ref f_l_multiple) = true)
    {f_l_rings : Addr} {od_l_rings an_l_rings : Option Addr} {sl_l_rings : Array (Option Value)} {oc_l_rings kV_l_rings dc_l_rings pm_l_rings cd_l_rings ct_l_rings : Value}
    (a_l_rings : PySem.W.nsIn K mainGlobals "_law_rings" = some (some (.ref f_l_rings)))
    (l_l_rings : K.lookup f_l_rings = some ⟨oc_l_rings, od_l_rings, .func (PySem.W.fnOf "_law_rings" "_law_rings" (defArgs s_l_rings) (defBody s_l_rings) (defScope s_l_rings) .none kV_l_rings dc_l_rings pm_l_rings an_l_rings cd_l_rings ct_l_rings), sl_l_rings⟩)
    (c_l_rings : PySem.W.codeIn K cd_l_rings "_law_rings" = true) (k_l_rings : PySem.W.keepIn K (.ref f_l_rings) = true)
    {f_l_loose_right : Addr} {od_l_loose_right an_l_loose_right : Option Addr} {sl_l_loose_right : Array (Option Value)} {oc_l_loose_right kV_l_loose_right dc_l_loose_right pm_l_loose_right cd_l_loose_right ct_l_loose_right : Value}
    (a_l_loose_right : PySem.W.nsIn K mainGlobals "_law_loose_right" = some (some (.ref f_l_loose_right)))
    (l_l_loose_right : K.lookup f_l_loose_right = some ⟨oc_l_loose_right, od_l_loose_right, .func (PySem.W.fnOf "_law_loose_right" "_law_loose_right" (defArgs s_l_loose_right) (defBody s_l_loose_right) (defScope s_l_loose_right) .none kV_l_loose_right dc_l_loose_right pm_l_loose_right an_l_loose_right cd_l_loose_right ct_l_loose_right), sl_l_loose_right⟩)
    (c_l_loose_right : PySem.W.codeIn K cd_l_loose_right "_law_loose_right" = true) (k_l_loose_right : PySem.W.keepIn K (.ref f_l_loose_right) = true)
    {f_l_tight_right : Addr} {od_l_tight_right an_l_tight_right : Option Addr} {sl_l_tight_right : Array (Option Value)} {oc_l_tight_right kV_l_tight_right dc_l_tight_right pm_l_tight_right cd_l_tight_right ct_l_tight_right : Value}
    (a_l_tight_right : PySem.W.nsIn K mainGlobals "_law_tight_right" = some (some (.ref f_l_tight_right)))
    (l_l_tight_right : K.lookup f_l_tight_right = some ⟨oc_l_tight_right, od_l_tight_right, .func (PySem.W.fnOf "_law_tight_right" "_law_tight_right" (defArgs s_l_tight_right) (defBody s_l_tight_right) (defScope s_l_tight_right) .none kV_l_tight_right dc_l_tight_right pm_l_tight_right an_l_tight_right cd_l_tight_right ct_l_tight_right), sl_l_tight_right⟩)
    (c_l_tight_right : PySem.W.codeIn K cd_l_tight_right "_law_tight_right" = true) (k_l_tight_right : PySem.W.keepIn K (.ref f_l_tight_right) = true)
    {f_law : Addr} {od_law an_law : Option Addr} {sl_law : Array (Option Value)} {oc_law kV_law dc_law pm_law cd_law ct_law : Value}
    (a_law : PySem.W.nsIn K mainGlobals "law" = some (some (.ref f_law)))
    (l_law : K.lookup f_law = some ⟨oc_law, od_law, .func (PySem.W.fnOf "law" "law" (defArgs s_law) (defBody s_law) (defScope s_law) .none kV_law dc_law pm_law an_law cd_law ct_law), sl_law⟩)
    (c_law : PySem.W.codeIn K cd_law "law" = true) (k_law : PySem.W.keepIn K (.ref f_law) = true)
    {t_LEAST_COUNT : Tok} (q_LEAST_COUNT : PySem.W.nsIn K mainGlobals "LEAST_COUNT" = some (some (.int 3 t_LEAST_COUNT)))
    {t_MOST_COUNT : Tok} (q_MOST_COUNT : PySem.W.nsIn K mainGlobals "MOST_COUNT" = some (some (.int 40 t_MOST_COUNT)))
    (m_comb : PySem.W.nsIn K mainGlobals "comb" = some (some (.builtin "math.comb")))
    (m_factorial : PySem.W.nsIn K mainGlobals "factorial" = some (some (.builtin "math.factorial")))
    (m_gcd : PySem.W.nsIn K mainGlobals "gcd" = some (some (.builtin "math.gcd")))
    (m_lcm : PySem.W.nsIn K mainGlobals "lcm" = some (some (.builtin "math.lcm")))
    (z_isinstance : PySem.W.nsIn K mainGlobals "isinstance" = some none)
    (z_int : PySem.W.nsIn K mainGlobals "int" = some none)
    (z_bool : PySem.W.nsIn K mainGlobals "bool" = some none)
    (z_set : PySem.W.nsIn K mainGlobals "set" = some none)
    (z_enumerate : PySem.W.nsIn K mainGlobals "enumerate" = some none)
    (z_list : PySem.W.nsIn K mainGlobals "list" = some none)
    (z_len : PySem.W.nsIn K mainGlobals "len" = some none)
    (z_tuple : PySem.W.nsIn K mainGlobals "tuple" = some none)
    (z_sorted : PySem.W.nsIn K mainGlobals "sorted" = some none)
    (z_range : PySem.W.nsIn K mainGlobals "range" = some none)
    (z_all : PySem.W.nsIn K mainGlobals "all" = some none)
    (z_sum : PySem.W.nsIn K mainGlobals "sum" = some none)
    (z_abs : PySem.W.nsIn K mainGlobals "abs" = some none)
    (z_repr : PySem.W.nsIn K mainGlobals "repr" = some none)
    : ∃ fd : FuncData, (∀ (s : Shared) (u : Value), BindsTo s fd ⟨[u], []⟩ [("_law_script", u)]) ∧ ∀ base : Heap, K.In base → base.Ns mainGlobals mg → FnG P w K mg base CX0 8 fa fd ["_law_script"] (sp_law K) := by
  have e := hfa.symm.trans (PySem.W.mg_of X G a_law)
  cases e
  have F_is_whole := fun_mk (st := s_is_whole) l_is_whole c_is_whole k_is_whole
  have F_is_from_one := fun_mk (st := s_is_from_one) l_is_from_one c_is_from_one k_is_from_one
  have F_first_wrong := fun_mk (st := s_first_wrong) l_first_wrong c_first_wrong k_first_wrong
  have F_check_count := fun_mk (st := s_check_count) l_check_count c_check_count k_check_count
  have F_is_tie := fun_mk (st := s_is_tie) l_is_tie c_is_tie k_is_tie
  have F_check_ties := fun_mk (st := s_check_ties) l_check_ties c_check_ties k_check_ties
  have F_check_net := fun_mk (st := s_check_net) l_check_net c_check_net k_check_net
  have F_check_standing := fun_mk (st := s_check_standing) l_check_standing c_check_standing k_check_standing
  have F_check_order_of := fun_mk (st := s_check_order_of) l_check_order_of c_check_order_of k_check_order_of
  have F_check_calls := fun_mk (st := s_check_calls) l_check_calls c_check_calls k_check_calls
  have F_check_many := fun_mk (st := s_check_many) l_check_many c_check_many k_check_many
  have F_next_call := fun_mk (st := s_next_call) l_next_call c_next_call k_next_call
  have F_breaks_of := fun_mk (st := s_breaks_of) l_breaks_of c_breaks_of k_breaks_of
  have F_places_of := fun_mk (st := s_places_of) l_places_of c_places_of k_places_of
  have F_standing_of := fun_mk (st := s_standing_of) l_standing_of c_standing_of k_standing_of
  have F_turned_about := fun_mk (st := s_turned_about) l_turned_about c_turned_about k_turned_about
  have F_tied_seats := fun_mk (st := s_tied_seats) l_tied_seats c_tied_seats k_tied_seats
  have F_people_called := fun_mk (st := s_people_called) l_people_called c_people_called k_people_called
  have F_places_after := fun_mk (st := s_places_after) l_places_after c_places_after k_places_after
  have F_parts_of := fun_mk (st := s_parts_of) l_parts_of c_parts_of k_parts_of
  have F_is_wood_of := fun_mk (st := s_is_wood_of) l_is_wood_of c_is_wood_of k_is_wood_of
  have F_is_row_of := fun_mk (st := s_is_row_of) l_is_row_of c_is_row_of k_is_row_of
  have F_least_together := fun_mk (st := s_least_together) l_least_together c_least_together k_least_together
  have F_back_after := fun_mk (st := s_back_after) l_back_after c_back_after k_back_after
  have F_backs_counted := fun_mk (st := s_backs_counted) l_backs_counted c_backs_counted k_backs_counted
  have F_all_back := fun_mk (st := s_all_back) l_all_back c_all_back k_all_back
  have F_fixed_after := fun_mk (st := s_fixed_after) l_fixed_after c_fixed_after k_fixed_after
  have F_first_backs := fun_mk (st := s_first_backs) l_first_backs c_first_backs k_first_backs
  have F_first_backs_in_row := fun_mk (st := s_first_backs_in_row) l_first_backs_in_row c_first_backs_in_row k_first_backs_in_row
  have F_first_backs_in_wood := fun_mk (st := s_first_backs_in_wood) l_first_backs_in_wood c_first_backs_in_wood k_first_backs_in_wood
  have F_first_backs_by_walk := fun_mk (st := s_first_backs_by_walk) l_first_backs_by_walk c_first_backs_by_walk k_first_backs_by_walk
  have F_called := fun_mk (st := s_called) l_called c_called k_called
  have F_after_rounds : FunD K "after_rounds" "after_rounds" (defArgs s_after_rounds) (defBody s_after_rounds) (defScope s_after_rounds) [.int 1] [] f_after_rounds (PySem.W.fnOf "after_rounds" "after_rounds" (defArgs s_after_rounds) (defBody s_after_rounds) (defScope s_after_rounds) (.ref D_after_rounds) kV_after_rounds dc_after_rounds pm_after_rounds an_after_rounds cd_after_rounds ct_after_rounds) := ⟨⟨_, _, _, _, _, _, _, _, _, _, rfl, l_after_rounds, c_after_rounds, .inr ⟨by simp, D_after_rounds, _, [.int 1 Dt_after_rounds], _, rfl, y_after_rounds, rfl, .cons ⟨_, rfl⟩ .nil⟩, .inl rfl⟩, k_after_rounds⟩
  have F_places_after_rounds := fun_mk (st := s_places_after_rounds) l_places_after_rounds c_places_after_rounds k_places_after_rounds
  have F_l_draws := fun_mk (st := s_l_draws) l_l_draws c_l_draws k_l_draws
  have F_l_next := fun_mk (st := s_l_next) l_l_next c_l_next k_l_next
  have F_l_shuffled := fun_mk (st := s_l_shuffled) l_l_shuffled c_l_shuffled k_l_shuffled
  have F_l_order := fun_mk (st := s_l_order) l_l_order c_l_order k_l_order
  have F_l_breaks := fun_mk (st := s_l_breaks) l_l_breaks c_l_breaks k_l_breaks
  have F_l_product := fun_mk (st := s_l_product) l_l_product c_l_product k_l_product
  have F_l_multiple := fun_mk (st := s_l_multiple) l_l_multiple c_l_multiple k_l_multiple
  have F_l_rings := fun_mk (st := s_l_rings) l_l_rings c_l_rings k_l_rings
  have F_l_loose_right := fun_mk (st := s_l_loose_right) l_l_loose_right c_l_loose_right k_l_loose_right
  have F_l_tight_right := fun_mk (st := s_l_tight_right) l_l_tight_right c_l_tight_right k_l_tight_right
  have F_law := fun_mk (st := s_law) l_law c_law k_law
  let A : Ad := ⟨f_is_whole, f_is_from_one, f_first_wrong, f_check_count, f_is_tie, f_check_ties, f_check_net, f_check_standing, f_check_order_of, f_check_calls, f_check_many, f_next_call, f_breaks_of, f_places_of, f_standing_of, f_turned_about, f_tied_seats, f_people_called, f_places_after, f_parts_of, f_is_wood_of, f_is_row_of, f_least_together, f_back_after, f_backs_counted, f_all_back, f_fixed_after, f_first_backs, f_first_backs_in_row, f_first_backs_in_wood, f_first_backs_by_walk, f_called, f_after_rounds, f_places_after_rounds, f_l_draws, f_l_next, f_l_shuffled, f_l_order, f_l_breaks, f_l_product, f_l_multiple, f_l_rings, f_l_loose_right, f_l_tight_right, fa,
    (PySem.W.fnOf "is_whole" "is_whole" (defArgs s_is_whole) (defBody s_is_whole) (defScope s_is_whole) .none kV_is_whole dc_is_whole pm_is_whole an_is_whole cd_is_whole ct_is_whole),
    (PySem.W.fnOf "is_from_one" "is_from_one" (defArgs s_is_from_one) (defBody s_is_from_one) (defScope s_is_from_one) .none kV_is_from_one dc_is_from_one pm_is_from_one an_is_from_one cd_is_from_one ct_is_from_one),
    (PySem.W.fnOf "first_wrong" "first_wrong" (defArgs s_first_wrong) (defBody s_first_wrong) (defScope s_first_wrong) .none kV_first_wrong dc_first_wrong pm_first_wrong an_first_wrong cd_first_wrong ct_first_wrong),
    (PySem.W.fnOf "check_count" "check_count" (defArgs s_check_count) (defBody s_check_count) (defScope s_check_count) .none kV_check_count dc_check_count pm_check_count an_check_count cd_check_count ct_check_count),
    (PySem.W.fnOf "is_tie" "is_tie" (defArgs s_is_tie) (defBody s_is_tie) (defScope s_is_tie) .none kV_is_tie dc_is_tie pm_is_tie an_is_tie cd_is_tie ct_is_tie),
    (PySem.W.fnOf "check_ties" "check_ties" (defArgs s_check_ties) (defBody s_check_ties) (defScope s_check_ties) .none kV_check_ties dc_check_ties pm_check_ties an_check_ties cd_check_ties ct_check_ties),
    (PySem.W.fnOf "check_net" "check_net" (defArgs s_check_net) (defBody s_check_net) (defScope s_check_net) .none kV_check_net dc_check_net pm_check_net an_check_net cd_check_net ct_check_net),
    (PySem.W.fnOf "check_standing" "check_standing" (defArgs s_check_standing) (defBody s_check_standing) (defScope s_check_standing) .none kV_check_standing dc_check_standing pm_check_standing an_check_standing cd_check_standing ct_check_standing),
    (PySem.W.fnOf "check_order_of" "check_order_of" (defArgs s_check_order_of) (defBody s_check_order_of) (defScope s_check_order_of) .none kV_check_order_of dc_check_order_of pm_check_order_of an_check_order_of cd_check_order_of ct_check_order_of),
    (PySem.W.fnOf "check_calls" "check_calls" (defArgs s_check_calls) (defBody s_check_calls) (defScope s_check_calls) .none kV_check_calls dc_check_calls pm_check_calls an_check_calls cd_check_calls ct_check_calls),
    (PySem.W.fnOf "check_many" "check_many" (defArgs s_check_many) (defBody s_check_many) (defScope s_check_many) .none kV_check_many dc_check_many pm_check_many an_check_many cd_check_many ct_check_many),
    (PySem.W.fnOf "next_call" "next_call" (defArgs s_next_call) (defBody s_next_call) (defScope s_next_call) .none kV_next_call dc_next_call pm_next_call an_next_call cd_next_call ct_next_call),
    (PySem.W.fnOf "breaks_of" "breaks_of" (defArgs s_breaks_of) (defBody s_breaks_of) (defScope s_breaks_of) .none kV_breaks_of dc_breaks_of pm_breaks_of an_breaks_of cd_breaks_of ct_breaks_of),
    (PySem.W.fnOf "places_of" "places_of" (defArgs s_places_of) (defBody s_places_of) (defScope s_places_of) .none kV_places_of dc_places_of pm_places_of an_places_of cd_places_of ct_places_of),
    (PySem.W.fnOf "standing_of" "standing_of" (defArgs s_standing_of) (defBody s_standing_of) (defScope s_standing_of) .none kV_standing_of dc_standing_of pm_standing_of an_standing_of cd_standing_of ct_standing_of),
    (PySem.W.fnOf "turned_about" "turned_about" (defArgs s_turned_about) (defBody s_turned_about) (defScope s_turned_about) .none kV_turned_about dc_turned_about pm_turned_about an_turned_about cd_turned_about ct_turned_about),
    (PySem.W.fnOf "tied_seats" "tied_seats" (defArgs s_tied_seats) (defBody s_tied_seats) (defScope s_tied_seats) .none kV_tied_seats dc_tied_seats pm_tied_seats an_tied_seats cd_tied_seats ct_tied_seats),
    (PySem.W.fnOf "people_called" "people_called" (defArgs s_people_called) (defBody s_people_called) (defScope s_people_called) .none kV_people_called dc_people_called pm_people_called an_people_called cd_people_called ct_people_called),
    (PySem.W.fnOf "places_after" "places_after" (defArgs s_places_after) (defBody s_places_after) (defScope s_places_after) .none kV_places_after dc_places_after pm_places_after an_places_after cd_places_after ct_places_after),
    (PySem.W.fnOf "parts_of" "parts_of" (defArgs s_parts_of) (defBody s_parts_of) (defScope s_parts_of) .none kV_parts_of dc_parts_of pm_parts_of an_parts_of cd_parts_of ct_parts_of),
    (PySem.W.fnOf "is_wood_of" "is_wood_of" (defArgs s_is_wood_of) (defBody s_is_wood_of) (defScope s_is_wood_of) .none kV_is_wood_of dc_is_wood_of pm_is_wood_of an_is_wood_of cd_is_wood_of ct_is_wood_of),
    (PySem.W.fnOf "is_row_of" "is_row_of" (defArgs s_is_row_of) (defBody s_is_row_of) (defScope s_is_row_of) .none kV_is_row_of dc_is_row_of pm_is_row_of an_is_row_of cd_is_row_of ct_is_row_of),
    (PySem.W.fnOf "least_together" "least_together" (defArgs s_least_together) (defBody s_least_together) (defScope s_least_together) .none kV_least_together dc_least_together pm_least_together an_least_together cd_least_together ct_least_together),
    (PySem.W.fnOf "back_after" "back_after" (defArgs s_back_after) (defBody s_back_after) (defScope s_back_after) .none kV_back_after dc_back_after pm_back_after an_back_after cd_back_after ct_back_after),
    (PySem.W.fnOf "backs_counted" "backs_counted" (defArgs s_backs_counted) (defBody s_backs_counted) (defScope s_backs_counted) .none kV_backs_counted dc_backs_counted pm_backs_counted an_backs_counted cd_backs_counted ct_backs_counted),
    (PySem.W.fnOf "all_back" "all_back" (defArgs s_all_back) (defBody s_all_back) (defScope s_all_back) .none kV_all_back dc_all_back pm_all_back an_all_back cd_all_back ct_all_back),
    (PySem.W.fnOf "fixed_after" "fixed_after" (defArgs s_fixed_after) (defBody s_fixed_after) (defScope s_fixed_after) .none kV_fixed_after dc_fixed_after pm_fixed_after an_fixed_after cd_fixed_after ct_fixed_after),
    (PySem.W.fnOf "first_backs" "first_backs" (defArgs s_first_backs) (defBody s_first_backs) (defScope s_first_backs) .none kV_first_backs dc_first_backs pm_first_backs an_first_backs cd_first_backs ct_first_backs),
    (PySem.W.fnOf "first_backs_in_row" "first_backs_in_row" (defArgs s_first_backs_in_row) (defBody s_first_backs_in_row) (defScope s_first_backs_in_row) .none kV_first_backs_in_row dc_first_backs_in_row pm_first_backs_in_row an_first_backs_in_row cd_first_backs_in_row ct_first_backs_in_row),
    (PySem.W.fnOf "first_backs_in_wood" "first_backs_in_wood" (defArgs s_first_backs_in_wood) (defBody s_first_backs_in_wood) (defScope s_first_backs_in_wood) .none kV_first_backs_in_wood dc_first_backs_in_wood pm_first_backs_in_wood an_first_backs_in_wood cd_first_backs_in_wood ct_first_backs_in_wood),
    (PySem.W.fnOf "first_backs_by_walk" "first_backs_by_walk" (defArgs s_first_backs_by_walk) (defBody s_first_backs_by_walk) (defScope s_first_backs_by_walk) .none kV_first_backs_by_walk dc_first_backs_by_walk pm_first_backs_by_walk an_first_backs_by_walk cd_first_backs_by_walk ct_first_backs_by_walk),
    (PySem.W.fnOf "called" "called" (defArgs s_called) (defBody s_called) (defScope s_called) .none kV_called dc_called pm_called an_called cd_called ct_called),
    (PySem.W.fnOf "after_rounds" "after_rounds" (defArgs s_after_rounds) (defBody s_after_rounds) (defScope s_after_rounds) (.ref D_after_rounds) kV_after_rounds dc_after_rounds pm_after_rounds an_after_rounds cd_after_rounds ct_after_rounds),
    (PySem.W.fnOf "places_after_rounds" "places_after_rounds" (defArgs s_places_after_rounds) (defBody s_places_after_rounds) (defScope s_places_after_rounds) .none kV_places_after_rounds dc_places_after_rounds pm_places_after_rounds an_places_after_rounds cd_places_after_rounds ct_places_after_rounds),
    (PySem.W.fnOf "_law_draws" "_law_draws" (defArgs s_l_draws) (defBody s_l_draws) (defScope s_l_draws) .none kV_l_draws dc_l_draws pm_l_draws an_l_draws cd_l_draws ct_l_draws),
    (PySem.W.fnOf "_law_next" "_law_next" (defArgs s_l_next) (defBody s_l_next) (defScope s_l_next) .none kV_l_next dc_l_next pm_l_next an_l_next cd_l_next ct_l_next),
    (PySem.W.fnOf "_law_shuffled" "_law_shuffled" (defArgs s_l_shuffled) (defBody s_l_shuffled) (defScope s_l_shuffled) .none kV_l_shuffled dc_l_shuffled pm_l_shuffled an_l_shuffled cd_l_shuffled ct_l_shuffled),
    (PySem.W.fnOf "_law_order" "_law_order" (defArgs s_l_order) (defBody s_l_order) (defScope s_l_order) .none kV_l_order dc_l_order pm_l_order an_l_order cd_l_order ct_l_order),
    (PySem.W.fnOf "_law_breaks" "_law_breaks" (defArgs s_l_breaks) (defBody s_l_breaks) (defScope s_l_breaks) .none kV_l_breaks dc_l_breaks pm_l_breaks an_l_breaks cd_l_breaks ct_l_breaks),
    (PySem.W.fnOf "_law_product" "_law_product" (defArgs s_l_product) (defBody s_l_product) (defScope s_l_product) .none kV_l_product dc_l_product pm_l_product an_l_product cd_l_product ct_l_product),
    (PySem.W.fnOf "_law_multiple" "_law_multiple" (defArgs s_l_multiple) (defBody s_l_multiple) (defScope s_l_multiple) .none kV_l_multiple dc_l_multiple pm_l_multiple an_l_multiple cd_l_multiple ct_l_multiple),
    (PySem.W.fnOf "_law_rings" "_law_rings" (defArgs s_l_rings) (defBody s_l_rings) (defScope s_l_rings) .none kV_l_rings dc_l_rings pm_l_rings an_l_rings cd_l_rings ct_l_rings),
    (PySem.W.fnOf "_law_loose_right" "_law_loose_right" (defArgs s_l_loose_right) (defBody s_l_loose_right) (defScope s_l_loose_right) .none kV_l_loose_right dc_l_loose_right pm_l_loose_right an_l_loose_right cd_l_loose_right ct_l_loose_right),
    (PySem.W.fnOf "_law_tight_right" "_law_tight_right" (defArgs s_l_tight_right) (defBody s_l_tight_right) (defScope s_l_tight_right) .none kV_l_tight_right dc_l_tight_right pm_l_tight_right an_l_tight_right cd_l_tight_right ct_l_tight_right),
    (PySem.W.fnOf "law" "law" (defArgs s_law) (defBody s_law) (defScope s_law) .none kV_law dc_law pm_law an_law cd_law ct_law),t_LEAST_COUNT, t_MOST_COUNT⟩
  have T : Txt K mg A :=
    { F_is_whole := F_is_whole
      g_is_whole := PySem.W.mg_of X G a_is_whole
      b_is_whole := F_is_whole.binds (ps := ["thing"]) fun _ _ _ _ _ _ us hl => match us, hl with | [_], _ => rfl
      F_is_from_one := F_is_from_one
      g_is_from_one := PySem.W.mg_of X G a_is_from_one
      b_is_from_one := F_is_from_one.binds (ps := ["thing", "most"]) fun _ _ _ _ _ _ us hl => match us, hl with | [_, _], _ => rfl
      F_first_wrong := F_first_wrong
      g_first_wrong := PySem.W.mg_of X G a_first_wrong
      b_first_wrong := F_first_wrong.binds (ps := ["things", "most"]) fun _ _ _ _ _ _ us hl => match us, hl with | [_, _], _ => rfl
      F_check_count := F_check_count
      g_check_count := PySem.W.mg_of X G a_check_count
      b_check_count := F_check_count.binds (ps := ["number"]) fun _ _ _ _ _ _ us hl => match us, hl with | [_], _ => rfl
      F_is_tie := F_is_tie
      g_is_tie := PySem.W.mg_of X G a_is_tie
      b_is_tie := F_is_tie.binds (ps := ["thing", "seats"]) fun _ _ _ _ _ _ us hl => match us, hl with | [_, _], _ => rfl
      F_check_ties := F_check_ties
      g_check_ties := PySem.W.mg_of X G a_check_ties
      b_check_ties := F_check_ties.binds (ps := ["ties", "seats"]) fun _ _ _ _ _ _ us hl => match us, hl with | [_, _], _ => rfl
      F_check_net := F_check_net
      g_check_net := PySem.W.mg_of X G a_check_net
      b_check_net := F_check_net.binds (ps := ["seats", "ties"]) fun _ _ _ _ _ _ us hl => match us, hl with | [_, _], _ => rfl
      F_check_standing := F_check_standing
      g_check_standing := PySem.W.mg_of X G a_check_standing
      b_check_standing := F_check_standing.binds (ps := ["standing", "seats"]) fun _ _ _ _ _ _ us hl => match us, hl with | [_, _], _ => rfl
      F_check_order_of := F_check_order_of
      g_check_order_of := PySem.W.mg_of X G a_check_order_of
      b_check_order_of := F_check_order_of.binds (ps := ["order", "count"]) fun _ _ _ _ _ _ us hl => match us, hl with | [_, _], _ => rfl
      F_check_calls := F_check_calls
      g_check_calls := PySem.W.mg_of X G a_check_calls
      b_check_calls := F_check_calls.binds (ps := ["calls", "count"]) fun _ _ _ _ _ _ us hl => match us, hl with | [_, _], _ => rfl
      F_check_many := F_check_many
      g_check_many := PySem.W.mg_of X G a_check_many
      b_check_many := F_check_many.binds (ps := ["many"]) fun _ _ _ _ _ _ us hl => match us, hl with | [_], _ => rfl
      F_next_call := F_next_call
      g_next_call := PySem.W.mg_of X G a_next_call
      b_next_call := F_next_call.binds (ps := ["call", "count"]) fun _ _ _ _ _ _ us hl => match us, hl with | [_, _], _ => rfl
      F_breaks_of := F_breaks_of
      g_breaks_of := PySem.W.mg_of X G a_breaks_of
      b_breaks_of := F_breaks_of.binds (ps := ["order"]) fun _ _ _ _ _ _ us hl => match us, hl with | [_], _ => rfl
      F_places_of := F_places_of
      g_places_of := PySem.W.mg_of X G a_places_of
      b_places_of := F_places_of.binds (ps := ["standing"]) fun _ _ _ _ _ _ us hl => match us, hl with | [_], _ => rfl
      F_standing_of := F_standing_of
      g_standing_of := PySem.W.mg_of X G a_standing_of
      b_standing_of := F_standing_of.binds (ps := ["places"]) fun _ _ _ _ _ _ us hl => match us, hl with | [_], _ => rfl
      F_turned_about := F_turned_about
      g_turned_about := PySem.W.mg_of X G a_turned_about
      b_turned_about := F_turned_about.binds (ps := ["row"]) fun _ _ _ _ _ _ us hl => match us, hl with | [_], _ => rfl
      F_tied_seats := F_tied_seats
      g_tied_seats := PySem.W.mg_of X G a_tied_seats
      b_tied_seats := F_tied_seats.binds (ps := ["seats", "ties"]) fun _ _ _ _ _ _ us hl => match us, hl with | [_, _], _ => rfl
      F_people_called := F_people_called
      g_people_called := PySem.W.mg_of X G a_people_called
      b_people_called := F_people_called.binds (ps := ["calls", "count"]) fun _ _ _ _ _ _ us hl => match us, hl with | [_, _], _ => rfl
      F_places_after := F_places_after
      g_places_after := PySem.W.mg_of X G a_places_after
      b_places_after := F_places_after.binds (ps := ["places", "pairs", "tied"]) fun _ _ _ _ _ _ us hl => match us, hl with | [_, _, _], _ => rfl
      F_parts_of := F_parts_of
      g_parts_of := PySem.W.mg_of X G a_parts_of
      b_parts_of := F_parts_of.binds (ps := ["seats", "ties"]) fun _ _ _ _ _ _ us hl => match us, hl with | [_, _], _ => rfl
      F_is_wood_of := F_is_wood_of
      g_is_wood_of := PySem.W.mg_of X G a_is_wood_of
      b_is_wood_of := F_is_wood_of.binds (ps := ["seats", "ties"]) fun _ _ _ _ _ _ us hl => match us, hl with | [_, _], _ => rfl
      F_is_row_of := F_is_row_of
      g_is_row_of := PySem.W.mg_of X G a_is_row_of
      b_is_row_of := F_is_row_of.binds (ps := ["seats", "ties"]) fun _ _ _ _ _ _ us hl => match us, hl with | [_, _], _ => rfl
      F_least_together := F_least_together
      g_least_together := PySem.W.mg_of X G a_least_together
      b_least_together := F_least_together.binds (ps := ["seats", "ties"]) fun _ _ _ _ _ _ us hl => match us, hl with | [_, _], _ => rfl
      F_back_after := F_back_after
      g_back_after := PySem.W.mg_of X G a_back_after
      b_back_after := F_back_after.binds (ps := ["seats", "ties", "standing", "order"]) fun _ _ _ _ _ _ us hl => match us, hl with | [_, _, _, _], _ => rfl
      F_backs_counted := F_backs_counted
      g_backs_counted := PySem.W.mg_of X G a_backs_counted
      b_backs_counted := F_backs_counted.binds (ps := ["seats", "ties", "order"]) fun _ _ _ _ _ _ us hl => match us, hl with | [_, _, _], _ => rfl
      F_all_back := F_all_back
      g_all_back := PySem.W.mg_of X G a_all_back
      b_all_back := F_all_back.binds (ps := ["seats", "ties", "order"]) fun _ _ _ _ _ _ us hl => match us, hl with | [_, _, _], _ => rfl
      F_fixed_after := F_fixed_after
      g_fixed_after := PySem.W.mg_of X G a_fixed_after
      b_fixed_after := F_fixed_after.binds (ps := ["seats", "ties", "order", "many"]) fun _ _ _ _ _ _ us hl => match us, hl with | [_, _, _, _], _ => rfl
      F_first_backs := F_first_backs
      g_first_backs := PySem.W.mg_of X G a_first_backs
      b_first_backs := F_first_backs.binds (ps := ["seats", "ties", "order"]) fun _ _ _ _ _ _ us hl => match us, hl with | [_, _, _], _ => rfl
      F_first_backs_in_row := F_first_backs_in_row
      g_first_backs_in_row := PySem.W.mg_of X G a_first_backs_in_row
      b_first_backs_in_row := F_first_backs_in_row.binds (ps := ["seats", "broken"]) fun _ _ _ _ _ _ us hl => match us, hl with | [_, _], _ => rfl
      F_first_backs_in_wood := F_first_backs_in_wood
      g_first_backs_in_wood := PySem.W.mg_of X G a_first_backs_in_wood
      b_first_backs_in_wood := F_first_backs_in_wood.binds (ps := ["seats", "ties"]) fun _ _ _ _ _ _ us hl => match us, hl with | [_, _], _ => rfl
      F_first_backs_by_walk := F_first_backs_by_walk
      g_first_backs_by_walk := PySem.W.mg_of X G a_first_backs_by_walk
      b_first_backs_by_walk := F_first_backs_by_walk.binds (ps := ["seats", "ties", "order"]) fun _ _ _ _ _ _ us hl => match us, hl with | [_, _, _], _ => rfl
      F_called := F_called
      g_called := PySem.W.mg_of X G a_called
      b_called := F_called.binds (ps := ["seats", "ties", "standing", "calls"]) fun _ _ _ _ _ _ us hl => match us, hl with | [_, _, _, _], _ => rfl
      F_after_rounds := F_after_rounds
      g_after_rounds := PySem.W.mg_of X G a_after_rounds
      b_after_rounds := bindsD0 (ps := ["seats", "ties", "standing", "order", "many"]) F_after_rounds (by simp) fun _ _ _ _ _ _ _ us its hl h2 => match us, hl, its, h2 with | [_, _, _, _, _], _, [_], _ => ⟨_, rfl, rfl⟩
      bd_after_rounds := F_after_rounds.binds1 (ps := ["seats", "ties", "standing", "order", "many"]) 4 0 (by simp) rfl fun _ _ _ _ _ _ _ us its hl h2 => match us, hl, its, h2 with | [_, _, _, _], _, [_], _ => ⟨_, rfl, rfl⟩
      F_places_after_rounds := F_places_after_rounds
      g_places_after_rounds := PySem.W.mg_of X G a_places_after_rounds
      b_places_after_rounds := F_places_after_rounds.binds (ps := ["start", "pairs", "tied", "many"]) fun _ _ _ _ _ _ us hl => match us, hl with | [_, _, _, _], _ => rfl
      F_l_draws := F_l_draws
      g_l_draws := PySem.W.mg_of X G a_l_draws
      b_l_draws := F_l_draws.binds (ps := ["_law_cell"]) fun _ _ _ _ _ _ us hl => match us, hl with | [_], _ => rfl
      F_l_next := F_l_next
      g_l_next := PySem.W.mg_of X G a_l_next
      b_l_next := F_l_next.binds (ps := ["_law_draws_here"]) fun _ _ _ _ _ _ us hl => match us, hl with | [_], _ => rfl
      F_l_shuffled := F_l_shuffled
      g_l_shuffled := PySem.W.mg_of X G a_l_shuffled
      b_l_shuffled := F_l_shuffled.binds (ps := ["_law_draws_here", "_law_things"]) fun _ _ _ _ _ _ us hl => match us, hl with | [_, _], _ => rfl
      F_l_order := F_l_order
      g_l_order := PySem.W.mg_of X G a_l_order
      b_l_order := F_l_order.binds (ps := ["_law_draws_here", "_law_most"]) fun _ _ _ _ _ _ us hl => match us, hl with | [_, _], _ => rfl
      F_l_breaks := F_l_breaks
      g_l_breaks := PySem.W.mg_of X G a_l_breaks
      b_l_breaks := F_l_breaks.binds (ps := ["_law_row"]) fun _ _ _ _ _ _ us hl => match us, hl with | [_], _ => rfl
      F_l_product := F_l_product
      g_l_product := PySem.W.mg_of X G a_l_product
      b_l_product := F_l_product.binds (ps := ["_law_most"]) fun _ _ _ _ _ _ us hl => match us, hl with | [_], _ => rfl
      F_l_multiple := F_l_multiple
      g_l_multiple := PySem.W.mg_of X G a_l_multiple
      b_l_multiple := F_l_multiple.binds (ps := ["_law_one", "_law_two"]) fun _ _ _ _ _ _ us hl => match us, hl with | [_, _], _ => rfl
      F_l_rings := F_l_rings
      g_l_rings := PySem.W.mg_of X G a_l_rings
      b_l_rings := F_l_rings.binds (ps := ["_law_now", "_law_then"]) fun _ _ _ _ _ _ us hl => match us, hl with | [_, _], _ => rfl
      F_l_loose_right := F_l_loose_right
      g_l_loose_right := PySem.W.mg_of X G a_l_loose_right
      b_l_loose_right := F_l_loose_right.binds (ps := ["_law_draws_here", "_law_row"]) fun _ _ _ _ _ _ us hl => match us, hl with | [_, _], _ => rfl
      F_l_tight_right := F_l_tight_right
      g_l_tight_right := PySem.W.mg_of X G a_l_tight_right
      b_l_tight_right := F_l_tight_right.binds (ps := ["_law_draws_here", "_law_row"]) fun _ _ _ _ _ _ us hl => match us, hl with | [_, _], _ => rfl
      F_law := F_law
      g_law := PySem.W.mg_of X G a_law
      b_law := F_law.binds (ps := ["_law_script"]) fun _ _ _ _ _ _ us hl => match us, hl with | [_], _ => rfl
      g_LEAST_COUNT := PySem.W.mg_of X G q_LEAST_COUNT
      g_MOST_COUNT := PySem.W.mg_of X G q_MOST_COUNT
      m_comb := PySem.W.mg_of X G m_comb
      m_factorial := PySem.W.mg_of X G m_factorial
      m_gcd := PySem.W.mg_of X G m_gcd
      m_lcm := PySem.W.mg_of X G m_lcm
      z_isinstance := PySem.W.mg_none_of X G z_isinstance
      z_int := PySem.W.mg_none_of X G z_int
      z_bool := PySem.W.mg_none_of X G z_bool
      z_set := PySem.W.mg_none_of X G z_set
      z_enumerate := PySem.W.mg_none_of X G z_enumerate
      z_list := PySem.W.mg_none_of X G z_list
      z_len := PySem.W.mg_none_of X G z_len
      z_tuple := PySem.W.mg_none_of X G z_tuple
      z_sorted := PySem.W.mg_none_of X G z_sorted
      z_range := PySem.W.mg_none_of X G z_range
      z_all := PySem.W.mg_none_of X G z_all
      z_sum := PySem.W.mg_none_of X G z_sum
      z_abs := PySem.W.mg_none_of X G z_abs
      z_repr := PySem.W.mg_none_of X G z_repr }
  exact ⟨_, fun s u => .of_eq rfl, fun base _ _ => ok_law (A := A) T⟩
end
end K24

/-! The end of a law's row whose defs want that no guard stands. -/
namespace Vf
open PySem PySem.Spec PyProof.Rows L2
theorem law_runs {P : Program} {w : World} {K : PySem.W.Frag} {mg mb : Str → Option Value} {k : Nat} {fa a : Addr} {fd : FuncData} {x : Str} {sp : Sp} {s₁ : Shared} {vs : List Value} {ns : List Int}
    (KX : K.In s₁.heap) (hns : s₁.heap.Ns mainGlobals mg) (hb : s₁.heap.Ns builtinsNs mb) (hbb : ∀ x : Str, x ≠ "__name__" → mb x = bootBuiltins x) (hlim : s₁.heap.NoLimit) (hg : s₁.gens = #[])
    (ha : s₁.heap.get? a = some { cls := .type "list", data := .seq vs.toArray }) (hi : IntsAre vs ns) (hl : ns.length ≤ sizeLine) (hr : Room k callerA)
    (F : ∀ base : Heap, K.In base → base.Ns mainGlobals mg → FnG P w K mg base CX0 k fa fd [x] sp) (hbind : ∀ (s : Shared) (u : Value), BindsTo s fd ⟨[u], []⟩ [(x, u)])
    (hsp : ∀ H : Hp, Only H → SqL K H a (ns.map V.int) → sp [.ref a] H (fun v _ => v = .bl true) fun _ _ _ => False) :
    codeAny (model P w) callerA (.call (.ref fa) ⟨[.ref a], []⟩) (fun r s' => r = .ok (.ret (.bool true)) ∧ OldK s₁.heap s'.heap ∧ s'.os = s₁.os ∧ AllBare s'.gens) s₁ := by
  let ob : Obj := { cls := .type "list", data := .seq vs.toArray }
  have main : ∀ H : Hp, (∀ b, H b = none ∨ (b = a ∧ K.lookup a = none ∧ H b = some (.frz ob (.lst (ns.map V.int))))) → SqL K H a (ns.map V.int) →
      codeAny (model P w) callerA (.call (.ref fa) ⟨[.ref a], []⟩) (fun r s' => r = .ok (.ret (.bool true)) ∧ OldK s₁.heap s'.heap ∧ s'.os = s₁.os ∧ AllBare s'.gens) s₁ := by
    intro H hH hS
    have only : Only H := fun b => (hH b).elim .inl fun z => .inr ⟨_, _, z.2.2⟩
    have hok : HOk P w H s₁.heap := by
      intro b o e
      rcases hH b with z | ⟨rfl, _, z⟩
      · rw [z] at e; cases e
      · rw [z] at e
        cases e
        exact ⟨ha, by rw [List.length_map]; exact hl, vs, _, vals_ints hi, ha⟩
    have free : ∀ {b : Addr} {o : Obj}, s₁.heap.get? b = some o → (∀ it n, o.data ≠ .seq it n) → H b = none := by
      intro b o e d
      rcases hH b with z | ⟨rfl, _, _⟩
      · exact z
      · rw [ha] at e
        cases e
        exact absurd rfl (d _ _)
    have ns_at : ∀ {b : Addr} {m : Str → Option Value}, s₁.heap.Ns b m → (hidT s₁.heap H).Ns b m := by
      rintro b m ⟨o, es, ep, e, d, r⟩
      exact ⟨o, es, ep, hidT_get e (free e fun it n z => by rw [d] at z; cases z), d, r⟩
    have Kb : K.In (hidT s₁.heap H) := by
      intro b o e
      refine hidT_get (KX b o e) ?_
      rcases hH b with z | ⟨rfl, z, _⟩
      · exact z
      · rw [z] at e; cases e
    obtain ⟨mc, c1, c2⟩ := hlim
    have hM : Mod K mg (hidT s₁.heap H) := ⟨Kb, ns_at hns, ⟨mb, ns_at hb, hbb⟩, ⟨mc, ns_at c1, c2⟩⟩
    have none0 : ∀ b ∈ frs [], H b = none := fun b z => nomatch (show b ∈ ([] : List Addr) from z)
    have e0 : Env0 P w K mg (hidT s₁.heap H) callerA [] s₁ H := ⟨rfl, hM, fun b o e => of_hidT e, Nat.le_of_eq (hidT_size _ _), trivial, none0, hok, .of_eq hg⟩
    refine codeAny_mono ((F _ Kb (ns_at hns)).runG callerA [] s₁ H ⟨[.ref a], []⟩ [.ref a] [.ref a] _ _ rfl hr e0 (hbind s₁ (.ref a)) (.cons rfl .nil) (hsp H only hS)) ?_
    intro r s' h
    cases r with
    | error e => exact False.elim h
    | ok fl =>
      cases fl with
      | next => exact False.elim h
      | brk => exact False.elim h
      | cont => exact False.elim h
      | ret u =>
        obtain ⟨v, H', os, bare, un, hok', rv, rfl⟩ := h
        cases (show u = Value.bool true from rv)
        refine ⟨rfl, OldK.of_keep ?_, os, bare⟩
        intro b o e
        rcases hH b with z | ⟨rfl, _, z⟩
        · exact un.keep b o e z (fun y => nomatch (show b ∈ ([] : List Addr) from y)) (fun y => nomatch y)
        · obtain ⟨e2, _⟩ := hok' _ _ (un.frzs _ _ _ z)
          rw [ha] at e
          cases e
          exact e2
  cases hk : K.lookup a with
  | some o =>
    have e := KX a o hk
    rw [ha] at e
    cases e
    refine main (fun _ => none) (fun _ => .inl rfl) (.inr ⟨ob, vs.toArray, _, hk, rfl, rfl, rfl, ?_, by simpa using vals_ints hi⟩)
    rw [List.size_toArray, hi.length]
    exact hl
  | none =>
    refine main (fun b => if b = a then some (.frz ob (.lst (ns.map V.int))) else none) (fun b => ?_) (.inl (.inr ⟨ob, if_pos rfl⟩))
    by_cases c : b = a
    · exact .inr ⟨c, hk, if_pos c⟩
    · exact .inl (if_neg c)
/-- the goal that k_head leaves -/
theorem walkG_of {l : PySem.W.OpenLaw} {n k : Nat} {q : Program} {loose : List Str} {XP : (Str → Option Value) → Heap → Prop} {YP : World → Heap → Prop} {d : DefRec} {K : Params → PySem.W.Frag} {sp : PySem.W.Frag → Sp} {x : Str}
    (hn : l.most = some n) (hn2 : n ≤ sizeLine) (hdf : d.params.defaults = []) (hr : Room k callerA) (hY : ∀ (w : World) (h : Heap), YP w h → (K w.params).In h)
    (F : ∀ (w : World) (mg : Str → Option Value) (fa : Addr) (h : Heap), (K w.params).In h → h.Ns mainGlobals mg → mg d.name = some (.ref fa) →
      ∃ fd : FuncData, (∀ (s : Shared) (u : Value), BindsTo s fd ⟨[u], []⟩ [(x, u)]) ∧
        ∀ base : Heap, (K w.params).In base → base.Ns mainGlobals mg → FnG l.prog w (K w.params) mg base CX0 k fa fd [x] (sp (K w.params)))
    (hsp : ∀ (K : PySem.W.Frag) (H : Hp) (a : Addr) (ns : List Int), ns.length ≤ n → Only H → SqL K H a (ns.map V.int) → sp K [.ref a] H (fun v _ => v = .bl true) fun _ _ _ => False) :
    PySem.W.WalkO q loose XP YP l.row.toRowW d [] (fun f vs => PySem.call f vs) := by
  refine Att.attach_call hn hdf fun w s₀ s₁ mg mb fa o pm cd doc a vs ns G Y ho hd hcd hmg hobj hints hlen hg => ?_
  obtain ⟨fd, hb, hF⟩ := F w mg fa _ (hY w _ Y) G.T.g hmg
  exact law_runs (hY w _ Y) G.T.g G.T.b G.T.builtins G.T.nolimit hg hobj hints (Nat.le_trans hlen hn2) hr hF hb (fun H hO hS => hsp _ H a ns hlen hO hS)
end Vf

open PySem PySem.W PyProof.Rows
theorem PySem.Challenge.cw_apartcalls_k24_whole_none_and_all_tied_holds : PySem.Challenge.rw_apartcalls_k24_whole_none_and_all_tied.Holds := by
  w_on
  o_law
  k_head
  (case hw => w_witness2)
  k_fill
  refine Vf.walkG_of (l := PySem.Challenge.rw_apartcalls_k24_whole_none_and_all_tied) (n := 63) (k := 8) (x := "_law_script") (sp := K24.sp_law) rfl (by decide) rfl ⟨rfl, by decide, by decide⟩ (fun w h Y => PySem.W.kIn_of Y) ?F (fun K H a ns hl _ hS => ⟨a, ns, rfl, hS, hl, fun _ => rfl⟩)
  case F =>
    intro w mg fa h KX G hmg
    refine' K24.all_mk KX G hmg ?a_is_whole ?l_is_whole ?c_is_whole ?k_is_whole ?a_is_from_one ?l_is_from_one ?c_is_from_one ?k_is_from_one ?a_first_wrong ?l_first_wrong ?c_first_wrong ?k_first_wrong ?a_check_count ?l_check_count ?c_check_count ?k_check_count ?a_is_tie ?l_is_tie ?c_is_tie ?k_is_tie ?a_check_ties ?l_check_ties ?c_check_ties ?k_check_ties ?a_check_net ?l_check_net ?c_check_net ?k_check_net ?a_check_standing ?l_check_standing ?c_check_standing ?k_check_standing ?a_check_order_of ?l_check_order_of ?c_check_order_of ?k_check_order_of ?a_check_calls ?l_check_calls ?c_check_calls ?k_check_calls ?a_check_many ?l_check_many ?c_check_many ?k_check_many ?a_next_call ?l_next_call ?c_next_call ?k_next_call ?a_breaks_of ?l_breaks_of ?c_breaks_of ?k_breaks_of ?a_places_of ?l_places_of ?c_places_of ?k_places_of ?a_standing_of ?l_standing_of ?c_standing_of ?k_standing_of ?a_turned_about ?l_turned_about ?c_turned_about ?k_turned_about ?a_tied_seats ?l_tied_seats ?c_tied_seats ?k_tied_seats ?a_people_called ?l_people_called ?c_people_called ?k_people_called ?a_places_after ?l_places_after ?c_places_after ?k_places_after ?a_parts_of ?l_parts_of ?c_parts_of ?k_parts_of ?a_is_wood_of ?l_is_wood_of ?c_is_wood_of ?k_is_wood_of ?a_is_row_of ?l_is_row_of ?c_is_row_of ?k_is_row_of ?a_least_together ?l_least_together ?c_least_together ?k_least_together ?a_back_after ?l_back_after ?c_back_after ?k_back_after ?a_backs_counted ?l_backs_counted ?c_backs_counted ?k_backs_counted ?a_all_back ?l_all_back ?c_all_back ?k_all_back ?a_fixed_after ?l_fixed_after ?c_fixed_after ?k_fixed_after ?a_first_backs ?l_first_backs ?c_first_backs ?k_first_backs ?a_first_backs_in_row ?l_first_backs_in_row ?c_first_backs_in_row ?k_first_backs_in_row ?a_first_backs_in_wood ?l_first_backs_in_wood ?c_first_backs_in_wood ?k_first_backs_in_wood ?a_first_backs_by_walk ?l_first_backs_by_walk ?c_first_backs_by_walk ?k_first_backs_by_walk ?a_called ?l_called ?c_called ?k_called ?a_after_rounds ?y_after_rounds ?l_after_rounds ?c_after_rounds ?k_after_rounds ?a_places_after_rounds ?l_places_after_rounds ?c_places_after_rounds ?k_places_after_rounds ?a_l_draws ?l_l_draws ?c_l_draws ?k_l_draws ?a_l_next ?l_l_next ?c_l_next ?k_l_next ?a_l_shuffled ?l_l_shuffled ?c_l_shuffled ?k_l_shuffled ?a_l_order ?l_l_order ?c_l_order ?k_l_order ?a_l_breaks ?l_l_breaks ?c_l_breaks ?k_l_breaks ?a_l_product ?l_l_product ?c_l_product ?k_l_product ?a_l_multiple ?l_l_multiple ?c_l_multiple ?k_l_multiple ?a_l_rings ?l_l_rings ?c_l_rings ?k_l_rings ?a_l_loose_right ?l_l_loose_right ?c_l_loose_right ?k_l_loose_right ?a_l_tight_right ?l_l_tight_right ?c_l_tight_right ?k_l_tight_right ?a_law ?l_law ?c_law ?k_law ?q_LEAST_COUNT ?q_MOST_COUNT ?m_comb ?m_factorial ?m_gcd ?m_lcm ?z_isinstance ?z_int ?z_bool ?z_set ?z_enumerate ?z_list ?z_len ?z_tuple ?z_sorted ?z_range ?z_all ?z_sum ?z_abs ?z_repr
    (case a_is_whole => k_is)
    (case l_is_whole => k_is)
    (case c_is_whole => k_is)
    (case k_is_whole => k_is)
    (case a_is_from_one => k_is)
    (case l_is_from_one => k_is)
    (case c_is_from_one => k_is)
    (case k_is_from_one => k_is)
    (case a_first_wrong => k_is)
    (case l_first_wrong => k_is)
    (case c_first_wrong => k_is)
    (case k_first_wrong => k_is)
    (case a_check_count => k_is)
    (case l_check_count => k_is)
    (case c_check_count => k_is)
    (case k_check_count => k_is)
    (case a_is_tie => k_is)
    (case l_is_tie => k_is)
    (case c_is_tie => k_is)
    (case k_is_tie => k_is)
    (case a_check_ties => k_is)
    (case l_check_ties => k_is)
    (case c_check_ties => k_is)
    (case k_check_ties => k_is)
    (case a_check_net => k_is)
    (case l_check_net => k_is)
    (case c_check_net => k_is)
    (case k_check_net => k_is)
    (case a_check_standing => k_is)
    (case l_check_standing => k_is)
    (case c_check_standing => k_is)
    (case k_check_standing => k_is)
    (case a_check_order_of => k_is)
    (case l_check_order_of => k_is)
    (case c_check_order_of => k_is)
    (case k_check_order_of => k_is)
    (case a_check_calls => k_is)
    (case l_check_calls => k_is)
    (case c_check_calls => k_is)
    (case k_check_calls => k_is)
    (case a_check_many => k_is)
    (case l_check_many => k_is)
    (case c_check_many => k_is)
    (case k_check_many => k_is)
    (case a_next_call => k_is)
    (case l_next_call => k_is)
    (case c_next_call => k_is)
    (case k_next_call => k_is)
    (case a_breaks_of => k_is)
    (case l_breaks_of => k_is)
    (case c_breaks_of => k_is)
    (case k_breaks_of => k_is)
    (case a_places_of => k_is)
    (case l_places_of => k_is)
    (case c_places_of => k_is)
    (case k_places_of => k_is)
    (case a_standing_of => k_is)
    (case l_standing_of => k_is)
    (case c_standing_of => k_is)
    (case k_standing_of => k_is)
    (case a_turned_about => k_is)
    (case l_turned_about => k_is)
    (case c_turned_about => k_is)
    (case k_turned_about => k_is)
    (case a_tied_seats => k_is)
    (case l_tied_seats => k_is)
    (case c_tied_seats => k_is)
    (case k_tied_seats => k_is)
    (case a_people_called => k_is)
    (case l_people_called => k_is)
    (case c_people_called => k_is)
    (case k_people_called => k_is)
    (case a_places_after => k_is)
    (case l_places_after => k_is)
    (case c_places_after => k_is)
    (case k_places_after => k_is)
    (case a_parts_of => k_is)
    (case l_parts_of => k_is)
    (case c_parts_of => k_is)
    (case k_parts_of => k_is)
    (case a_is_wood_of => k_is)
    (case l_is_wood_of => k_is)
    (case c_is_wood_of => k_is)
    (case k_is_wood_of => k_is)
    (case a_is_row_of => k_is)
    (case l_is_row_of => k_is)
    (case c_is_row_of => k_is)
    (case k_is_row_of => k_is)
    (case a_least_together => k_is)
    (case l_least_together => k_is)
    (case c_least_together => k_is)
    (case k_least_together => k_is)
    (case a_back_after => k_is)
    (case l_back_after => k_is)
    (case c_back_after => k_is)
    (case k_back_after => k_is)
    (case a_backs_counted => k_is)
    (case l_backs_counted => k_is)
    (case c_backs_counted => k_is)
    (case k_backs_counted => k_is)
    (case a_all_back => k_is)
    (case l_all_back => k_is)
    (case c_all_back => k_is)
    (case k_all_back => k_is)
    (case a_fixed_after => k_is)
    (case l_fixed_after => k_is)
    (case c_fixed_after => k_is)
    (case k_fixed_after => k_is)
    (case a_first_backs => k_is)
    (case l_first_backs => k_is)
    (case c_first_backs => k_is)
    (case k_first_backs => k_is)
    (case a_first_backs_in_row => k_is)
    (case l_first_backs_in_row => k_is)
    (case c_first_backs_in_row => k_is)
    (case k_first_backs_in_row => k_is)
    (case a_first_backs_in_wood => k_is)
    (case l_first_backs_in_wood => k_is)
    (case c_first_backs_in_wood => k_is)
    (case k_first_backs_in_wood => k_is)
    (case a_first_backs_by_walk => k_is)
    (case l_first_backs_by_walk => k_is)
    (case c_first_backs_by_walk => k_is)
    (case k_first_backs_by_walk => k_is)
    (case a_called => k_is)
    (case l_called => k_is)
    (case c_called => k_is)
    (case k_called => k_is)
    (case a_after_rounds => k_is)
    (case l_after_rounds => k_is)
    (case c_after_rounds => k_is)
    (case k_after_rounds => k_is)
    (case a_places_after_rounds => k_is)
    (case l_places_after_rounds => k_is)
    (case c_places_after_rounds => k_is)
    (case k_places_after_rounds => k_is)
    (case a_l_draws => k_is)
    (case l_l_draws => k_is)
    (case c_l_draws => k_is)
    (case k_l_draws => k_is)
    (case a_l_next => k_is)
    (case l_l_next => k_is)
    (case c_l_next => k_is)
    (case k_l_next => k_is)
    (case a_l_shuffled => k_is)
    (case l_l_shuffled => k_is)
    (case c_l_shuffled => k_is)
    (case k_l_shuffled => k_is)
    (case a_l_order => k_is)
    (case l_l_order => k_is)
    (case c_l_order => k_is)
    (case k_l_order => k_is)
    (case a_l_breaks => k_is)
    (case l_l_breaks => k_is)
    (case c_l_breaks => k_is)
    (case k_l_breaks => k_is)
    (case a_l_product => k_is)
    (case l_l_product => k_is)
    (case c_l_product => k_is)
    (case k_l_product => k_is)
    (case a_l_multiple => k_is)
    (case l_l_multiple => k_is)
    (case c_l_multiple => k_is)
    (case k_l_multiple => k_is)
    (case a_l_rings => k_is)
    (case l_l_rings => k_is)
    (case c_l_rings => k_is)
    (case k_l_rings => k_is)
    (case a_l_loose_right => k_is)
    (case l_l_loose_right => k_is)
    (case c_l_loose_right => k_is)
    (case k_l_loose_right => k_is)
    (case a_l_tight_right => k_is)
    (case l_l_tight_right => k_is)
    (case c_l_tight_right => k_is)
    (case k_l_tight_right => k_is)
    (case a_law => k_is)
    (case l_law => k_is)
    (case c_law => k_is)
    (case k_law => k_is)
    (case q_LEAST_COUNT => k_is)
    (case q_MOST_COUNT => k_is)
    (case m_comb => k_is)
    (case m_factorial => k_is)
    (case m_gcd => k_is)
    (case m_lcm => k_is)
    (case z_isinstance => k_is)
    (case z_int => k_is)
    (case z_bool => k_is)
    (case z_set => k_is)
    (case z_enumerate => k_is)
    (case z_list => k_is)
    (case z_len => k_is)
    (case z_tuple => k_is)
    (case z_sorted => k_is)
    (case z_range => k_is)
    (case z_all => k_is)
    (case z_sum => k_is)
    (case z_abs => k_is)
    (case z_repr => k_is)
    (case y_after_rounds => k_is)

