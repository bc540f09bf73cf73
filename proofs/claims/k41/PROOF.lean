import PyProof.Rows.All
import Wide.All
import OpenK.AllK
import Wide.FinOn
import PyProof.EqAt
import PyProof.EqKinds
import PyProof.TupleCall
import PyProof.ReprRoads
import HandS.ForMost
import HandS.Evl
import HandS.Defaults
import HandS.SetFor
import HandS.Strs
import HandS.TupSets
import HandS.IsInst
import HandS.NoneIn
import HandS.Style
import HandS.TupAny
import HandS.Conv
import PyProof.Rows.StrJoinMade
import KE.DataCmp
import PyProof.SliceList
import PyProof.Rows.RuleB_mod
import HandS.Zip
import KE.GoesZip
import KE.KDictZip
import HandS.DictComp
import HandS.Small
import HandS.Walk
import HandS.Sort
import HandS.Gcd
import KE.KMathGC
import KE.SortData
import HandS.DictTup
import KE.DataMinMax
import KE.KTryMore
import HandS.TryMany
import HandS.WordsExc
import HandS.ExcIs
import HandS.ExcField
import HandS.ExcInit
import PyProof.ReprDict
import HandS.RaiseMore
import HandS.Lambda
import HandS.CallLocal
import KE.KExcInit
import HandS.Property
import HandS.GenList
import HandS.NamedTupGet
import HandS.MakeKwOnly
import HandS.Star
import HandS.Dict
import PyProof.StrBlock2
import HandS.Ends
import KE.KNestM
import HandS.EndTab
import PySem.Challenge.RW_apartcalls_k41_what_rooms_refuse
set_option Elab.async false
set_option linter.all false
set_option maxRecDepth 110000
set_option maxHeartbeats 0
/-! Rules of our own: defs that are called where no guard stands (for repr), repr of data, powers, calls by keywords alone. -/
namespace Vf
open PySem PySem.Spec PyProof.Rows L2

/-! ### defs that are called where no guard stands -/
structure FnG (P : Program) (w : World) (K : PySem.W.Frag) (mg : Str → Option Value) (base : Heap) (CX : CXT) (k : Nat) (f : Addr) (fd : FuncData) (ps : List Str) (sp : Sp) : Prop where
  lenG : ∀ vs H Q E, sp vs H Q E → vs.length = ps.length
  runG : ∀ (A : Around) (outer : List Env) (s : Shared) (H : Hp) (args : Args) (us : List Value) (vs : List V) (Q : VK) (E : XK),
    A.guards = some [] → Room k A → Env0 P w K mg base A outer s H → BindsTo s fd args (ps.zip us) → Vals vs us → sp vs H Q E →
      codeAny (model P w) A (.call (.ref f) args) (CR CX outer P w H s Q E) s

theorem FnG.of {P : Program} {w : World} {K : PySem.W.Frag} {mg : Str → Option Value} {base : Heap} {CX : CXT} {k : Nat} {f : Addr} {fd : FuncData} {ps : List Str} {sp : Sp}
    (F : FnOk P w K mg base CX k f fd ps sp) : FnG P w K mg base CX k f fd ps sp :=
  ⟨F.len, fun A outer s H args us vs Q E _ => F.run A outer s H args us vs Q E⟩

section
variable {P : Program} {w : World} {K : PySem.W.Frag} {mg : Str → Option Value} {base : Heap}
theorem okG {x qual : Str} {st : Stmt} {f : Addr} {fd : FuncData} {N ps : List Str} {k : Nat} {sp : Sp} (F : Fun K x qual st f fd) (S : FnScope N ps (defScope st))
    (len : ∀ vs H Q E, sp vs H Q E → vs.length = ps.length)
    (hbody : ∀ (cdv : Value) (A : Around) (outer : List Env) (s : Shared) (H : Hp) (vs : List V) (Q : VK) (E : XK), A.guards = some [] →
      Room k (A.deeper (envOfC qual (defScope st) s.heap.objs.size f cdv)) → sp vs H Q E →
      ∃ t, PSs (cxOf CX0 P w K mg base N qual (defScope st) f cdv A outer s H E).nox (defBody st) t ∧ t { nx := fun _ H' => Q .non H', rt := Q } (start N vs) H) :
    FnG P w K mg base CX0 (k + 1) f fd ps sp := by
  obtain ⟨oc, od, kV, doc, pm, an, cdv, ct, osl, rfl, lk, hcd⟩ := F.ex
  refine ⟨len, fun A outer s H args us vs Q E hg hr e0 hb r hsp => ?_⟩
  have KX : K.In s.heap := e0.mod.kin.keeps fun b o e => (e0.bs b o e).1
  have lim : s.heap.NoLimit := e0.mod.nolimit.keeps fun b o e => (e0.bs b o e).1
  have hkind : ∀ y ∈ ps.zip us, (defScope st).names.lookup y.1 = some .local ∨
      ((defScope st).names.lookup y.1 = some .cell ∧ ((cellsFrom (s.heap.objs.size + 1) (defScope st).names []).lookup y.1).isSome = true) := by
    rintro ⟨n, v⟩ hy
    rcases S.par n (List.of_mem_zip hy).1 with q | q
    · exact .inl q
    · exact .inr ⟨q, PySem.W.cellsFrom_some _ _ _ (.inl q)⟩
  refine codeAny_call_function hr.depth (KX _ _ lk) rfl S.co S.gen rfl (PySem.W.codeRec_of KX hcd)
    (hb _ _ _ _ (wpAny_newFunctionEnv_cells S.kind hkind fun env he s1 x => ?_))
  subst he
  refine ⟨lim.keeps x.toInCall.keep, codeAny_func ?_⟩
  obtain ⟨t, ht0, hq⟩ := hbody cdv A outer s H vs Q E hg (hr.deeper _) hsp
  have ht := ht0.nox
  have I := inv_start (CX := CX0) (E := E) S hr.hd e0 (len _ _ _ _ hsp) r x
  refine wpAny_mono (ht.run [] s1 (start N vs) H _ I hq) ?_ (fun e s' hs => hs)
  intro fl s' hs
  cases fl with
  | ret u =>
    obtain ⟨v, σ', H', J, rv, q⟩ := hs
    exact ⟨v, H', J.os, J.bare, J.base, J.hok, rv, q⟩
  | next =>
    obtain ⟨σ', H', J, q⟩ := hs
    exact ⟨V.non, H', J.os, J.bare, J.base, J.hok, rfl, q⟩
  | brk =>
    obtain ⟨_, _, _, q⟩ := hs
    exact q.elim
  | cont =>
    obtain ⟨_, _, _, q⟩ := hs
    exact q.elim
end

section
variable {X : Cx} {CX : CXT} {k : Nat} {f : Addr} {fd : FuncData} {ps : List Str} {sp : Sp} {dvs : List V} {ds : List Value} {E : XK} {x : Str} {p pos : Pos} {e : Expr} {es : List Expr} {t : TA}
theorem runG_fn {pins : List (Addr × Obj)} {σ : L2.St} {H : Hp} {s : Shared} {Q : VK} {us : List Value} {vs : List V}
    (F : FnG X.prog X.w X.K X.mg X.base CX0 k f fd ps sp) (hgd : X.A.guards = some []) (hr : Room k X.A) (hb : Binds X.K fd ps []) (I : Inv X pins σ H s) (r : Vals vs us) (h : sp vs H Q E0) :
    wpAny (model X.prog X.w) X.A (call (.ref f) us) (EP X pins σ Q) X.xe s := by
  have hl : us.length = ps.length := by rw [← r.length]; exact F.lenG _ _ _ _ h
  have hb' := hb s us I.kIn (by rw [List.append_nil]; exact hl)
  rw [List.append_nil] at hb'
  refine wpAny_call (codeAny_mono (F.runG X.A X.stack s H ⟨us, []⟩ us vs Q E0 hgd hr I.env0 hb' r h) ?_)
  intro r s' hq
  cases r with
  | error e => exact False.elim hq
  | ok fl =>
    cases fl with
    | ret u => exact I.after hq
    | next => exact False.elim hq
    | brk => exact False.elim hq
    | cont => exact False.elim hq
/-- f(e, ..), f such a def -/
theorem pe_callG (F : FnG X.prog X.w X.K X.mg X.base CX0 k f fd ps sp) (hgd : X.A.guards = some []) (hr : Room k X.A) (hg : Gl X x) (hm : X.mg x = some (.ref f)) (hk : PySem.W.keepIn X.K (.ref f) = true) (hb : Binds X.K fd ps [])
    (ha : PA X (e :: es) t) (hdb : (x == ("__debug__" : Str)) = false := by decide) (he : starEach (e :: es) X.env = (false, eval e X.env) :: starEach es X.env := by rfl)
    (hpl : (backTo pos (starEach es X.env)).any (·.1) = false := by rfl) :
    PE X (.Call (.Name x p) (e :: es) [] pos) (tCall sp [] E0 t) := by
  refine ⟨fun pins s σ H Q I h => wpAny_Call_Name_kw (ld_glob I hg hm ?_ hdb)⟩
  refine PySem.W.callWith_K (h₀ := X.base) I.ok.mod.kin hk (thn (ha.run pos pins s σ H _ I h) fun us s1 ⟨vs, H1, I1, r, q⟩ => ⟨I1.kIn, ?_⟩) he hpl
  simp only [List.append_nil] at q
  exact runG_fn F hgd hr hb I1 r q
end

/-! ### calls by keywords alone -/
section
variable {X : Cx} {CX : CXT} {k : Nat} {f : Addr} {fd : FuncData} {ps ks : List Str} {sp : Sp} {E : XK} {x : Str} {p pos : Pos} {kws : List Keyword} {tk : TA}
variable {g : List Value → List Value → List Value} {gV : List V → List V → List V}
/-- f(k = v, ..) -/
theorem pe_callK0 (F : FnOk X.prog X.w X.K X.mg X.base CX k f fd ps sp) (hr : Room k X.A) (hg : Gl X x) (hm : X.mg x = some (.ref f)) (hk : PySem.W.keepIn X.K (.ref f) = true) (hb : KBinds X.K fd ps ks g gV) (hx : Passes CX X E)
    (hkw : PK X kws tk) (hall : (backToKw pos (keywordEach kws X.env)).all (·.1.isSome) = true := by rfl) (hks : (backToKw pos (keywordEach kws X.env)).filterMap (·.1) = ks := by rfl)
    (hdb : (x == ("__debug__" : Str)) = false := by decide) :
    PE X (.Call (.Name x p) [] kws pos) (tCallK sp gV E tNil tk) := by
  refine ⟨fun pins s σ H Q I h => wpAny_Call_Name_kw (ld_glob I hg hm ?_ hdb)⟩
  refine PySem.W.callWith_KW0 (h₀ := X.base) I.ok.mod.kin hk hall (thn (hkw.run pos pins s σ H _ I h) fun ws s2 ⟨zs, H2, I2, rz, q2⟩ => ⟨I2.kIn, ?_⟩) (by
    show (false || (backToKw pos (keywordEach kws X.env)).any (·.1.isNone)) = false
    have h1 := List.all_eq_true.mp hall
    simp only [Bool.false_or, List.any_eq_false]
    intro y hy hz
    have h2 := h1 y hy
    cases hh : y.1 with
    | none => rw [hh] at h2; exact absurd h2 (by decide)
    | some z => rw [hh] at hz; simp at hz)
  rw [hks]
  exact run_fnk (us := []) F hr hb hx I2 .nil rz q2
end

/-- two parameters, told by name in the other order -/
def swap2 {α : Type} : List α → List α → List α
  | [], [a, b] => [b, a]
  | _, _ => []
theorem swap2_binds {K : PySem.W.Frag} {fd : FuncData} {p1 p2 : Str} (h : ∀ a b : Value, bindArgs fd ⟨[], [(p2, a), (p1, b)]⟩ = pure [(p1, b), (p2, a)]) :
    KBinds K fd [p1, p2] [p2, p1] swap2 swap2 := by
  refine ⟨fun s us ws _ hl => ?_, fun {vs us zs ws} r1 r2 => ?_⟩
  · match us, ws, hl with
    | [], [a, b], _ => exact .of_eq (h a b)
    | [], [], hl => exact absurd hl (by simp [swap2])
    | [], [_], hl => exact absurd hl (by simp [swap2])
    | [], _ :: _ :: _ :: _, hl => exact absurd hl (by simp [swap2])
    | _ :: _, _, hl => exact absurd hl (by simp [swap2])
  · cases r1 with
    | cons _ _ => exact .nil
    | nil =>
      cases r2 with
      | nil => exact .nil
      | cons a ra =>
        cases ra with
        | nil => exact .nil
        | cons b rb =>
          cases rb with
          | nil => exact .cons b (.cons a .nil)
          | cons _ _ => exact .nil

/-! ### powers of any size -/
section
variable {X : Cx}
def CPowW (i j : Int) : Prop := 0 ≤ j ∧ (Builtin.Int.intBits i : Int) * j ≤ 2 ^ 27
theorem op_powW : OpR X (binaryOp .Pow) (rI CPowW fun i j => .int (i ^ j.toNat)) := opI fun _ _ _ _ _ _ _ hc q => pow_int hc.1 hc.2 q
end

/-! ### repr of data -/
section
variable {X : Cx}
def rRepr (K : PySem.W.Frag) : List V → Hp → VK → Prop := fun xs H Q => ∃ (a : Addr) (d : PyData), xs = [.ref a] ∧ Dp K H (.ref a) d ∧ d.showable = true ∧ d.hasDict = false ∧ d.depth ≤ 60 ∧ d.shown.length ≤ sizeLine ∧ Q (.str d.shown) H
theorem call_repr_D {k : Nat} (hgd : X.A.guards = some []) (hr : Room k X.A) : CallR X (.builtin "repr") (rRepr X.K) := by
  intro pins s σ H xs us Q I r h
  obtain ⟨a, d, rfl, hd, hs, hn, hdp, hz, q⟩ := h
  obtain ⟨u, rfl, ru⟩ := vals1 r
  cases (show u = Value.ref a from ru)
  obtain ⟨as, rd⟩ := Dp.reads I d (.ref a) (.ref a) hd rfl
  refine PySem.repr_of_reads' rd hs (fun z => absurd z (by rw [hn]; decide)) hgd (by have := hr.un; omega) (fun _ _ e => e) (fun h' u tk hk => ?_) hz
  exact ⟨.str d.shown, H, I.kept (t' := tk) hk, ⟨u, rfl⟩, q⟩
end
end Vf

/-! set(xs) of a list of ints, kept as an object. -/
namespace Vf
open PySem PySem.Spec PyProof.Rows L2

/-- an empty set, as it is made -/
abbrev freshSet (w : World) : Obj := { cls := .type "set", dict := none, data := .set #[] 0 (.fresh 0 0 (!w.params.followText "set-order")) }
section
variable {P : Program} {w : World} {A : Around} {E : Value → Shared → Prop} {s : Shared}
theorem mk_set_list {l : Addr} {items : Array Value} (ns : List Int) {Q : Value → Shared → Prop} (hh : A.handled = none) (hl : s.heap.IsList l items)
    (hit : IntsAre items.toList ns) (hb : ns.length + 1 < scanBound)
    (h : ∀ (h' : Heap) (tk c : Nat), SetR w h' s.heap.objs.size (fun j => decide (j ∈ ns)) c → c ≤ ns.length →
      (∀ b o, s.heap.get? b = some o → h'.get? b = some o) → Q (.ref s.heap.objs.size) { s with heap := h', toks := tk }) :
    wpAny (model P w) A (call (.type "set") [.ref l]) Q E s := by
  have hisz : items.size = ns.length := (Array.length_toList (xs := items)).symm.trans (IntsAre.length hit)
  obtain ⟨c, tl, hmro⟩ := F.called_set.mro
  have hmade := F.called_set.made
  have hsub := F.called_set.sub
  refine wpAny_call (codeAny_of_tree ?_)
  show wpAny _ _ (callAny (.type "set") _) _ _ _
  refine wpAny_pure ⟨Code.quiet_builtin _ (by decide +kernel), codeAny_builtin F.entry_type_call ?_⟩
  rw [Around.under_plain (weight_type_call_type "set" [.ref l] []) rfl]
  have k1 := F.called_set.notType
  have k2 := F.called_set.canCreate
  have k3 := F.typeCall_set_1 (.ref l)
  repeat (any_goals (first | assumption | wp_step))
  refine codeAny_mono (code_set_led1 (.ref l) (E := E) (Q₁ := fun obj s₁ => obj = .ref s.heap.objs.size ∧ s₁ = { s with heap := s.heap.push (freshSet w) }) ⟨rfl, rfl⟩) ?_
  intro r s₁ hr
  cases r with
  | error e => exact hr
  | ok fl =>
    cases fl with
    | ret obj =>
      obtain ⟨rfl, rfl⟩ := hr
      have hS : (s.heap.push (freshSet w)).get? s.heap.objs.size = some (freshSet w) := Heap.get?_push_size _ rfl
      have hT : Shared.TypeIs { s with heap := s.heap.push (freshSet w) } (.ref s.heap.objs.size) "set" := ⟨_, hS, rfl⟩
      have k4 := F.called_set.init.lookup
      have k5 := F.called_set.init.bind (.ref s.heap.objs.size)
      repeat (any_goals (first | assumption | wp_step))
      let G : Value → Shared → Prop := fun r s₂ => r = .none ∧ ∃ h' tk c, s₂ = { s with heap := h', toks := tk } ∧
        SetR w h' s.heap.objs.size (fun j => decide (j ∈ ns)) c ∧ c ≤ ns.length ∧ (∀ b o, s.heap.get? b = some o → h'.get? b = some o)
      refine codeAny_mono (codeAny_call_builtin (R := wants G E) F.called_set.init.plain F.entry_set_init (check_set_init_1 hT ?_)) ?_
      · obtain ⟨ol, hol, hcl, nl, hdl⟩ := hl
        obtain ⟨ocls, odict, odata, oslots⟩ := ol
        simp only at hcl hdl
        subst hcl
        subst hdl
        have hol' : (s.heap.push (freshSet w)).get? l = some { cls := .type "list", dict := odict, data := .seq items nl, slots := oslots } := Heap.get?_push_of_some _ hol
        have k6 := F.sub_list_set
        have k7 := F.sub_list_frozenset
        have k8 : (Value.type "list" == Value.type "dict") = false := by decide
        have hl1 : (s.heap.push (freshSet w)).IsList l items := ⟨_, hol', rfl, nl, rfl⟩
        unfold Builtin.«set.__init__» noKeywords Builtin.Frozenset.updateFrom
        generalize hPI : pyIter = PI
        wp_walk
        subst hPI
        refine wpAny_pyIter_list hl1 (wpAny_bind (wpAny_runValue ?_))
        have hlS : l < s.heap.objs.size := Heap.lt_size hol
        have hh3 : A.in1.in1.in1.handled = none := by simp [hh]
        have hz : (s.heap.push (freshSet w)).objs.size = s.heap.objs.size + 1 := Heap.size_push ..
        have hneI : l ≠ (s.heap.push (freshSet w)).objs.size := by rw [hz]; exact Nat.ne_of_lt (Nat.lt_succ_of_lt hlS)
        have hSf : s.heap.objs.size ∉ [(s.heap.push (freshSet w)).objs.size, l] := by
          rw [hz]
          intro hm
          rcases List.mem_cons.mp hm with e | hm
          · exact absurd e (Nat.ne_of_lt (Nat.lt_succ_self _))
          · exact absurd (List.mem_singleton.mp hm) (Nat.ne_of_gt hlS)
        have hval : ∀ (i : Nat) (v : Value), items[i]? = some v → ∃ k t, ns[i]? = some k ∧ v = .int k t := by
          intro i v hv
          have hi : i < ns.length := hisz ▸ (Array.getElem?_eq_some_iff.mp hv).1
          obtain ⟨t, e⟩ := PyProof.Rows.IntsAre.int_at hit i v (by rw [Array.getElem?_toList]; exact hv)
          exact ⟨ns[i], t, List.getElem?_eq_getElem hi, by rw [e, List.getD_eq_getElem?_getD, List.getElem?_eq_getElem hi] <;> rfl⟩
        refine set_update_ints ((Walks.list hh3 _ l hneI items).toS) s.heap.objs.size hSf ns hisz hb hval (items.size - 0) 0 _ (by omega) (Nat.zero_le _)
          ⟨⟨_, Heap.get?_push_size _ rfl, rfl, rfl⟩, (hl1.push _)⟩ ⟨0, Nat.le_refl 0, setR_new_at (Heap.get?_push_of_some _ hS)⟩ ?_
        intro s' c' hm hc' hS'
        obtain ⟨h', g2, d', tk', os'⟩ := s'
        obtain rfl : g2 = s.gens := hm.gens
        obtain rfl : d' = s.drawn := hm.drawn
        obtain rfl : os' = s.os := hm.os
        show wpAny _ _ _ _ _ _
        refine wpAny_pure ?_
        show wpAny _ _ (ret Value.none) _ _ _
        rw [hisz] at hc'
        refine wpAny_pure ⟨rfl, h', tk', c', rfl, hS', hc', fun b o e => ?_⟩
        have hb0 : b < s.heap.objs.size := Heap.lt_size e
        refine hm.heap b o (fun hmem => ?_) (Heap.get?_push_of_some _ (Heap.get?_push_of_some _ e))
        rcases List.mem_cons.mp hmem with e1 | hmem
        · exact absurd e1 (Nat.ne_of_lt hb0)
        · have e1 := List.mem_singleton.mp hmem
          rw [hz] at e1
          exact absurd e1 (Nat.ne_of_lt (Nat.lt_succ_of_lt hb0))
      · intro r₂ s₂ hr₂
        cases r₂ with
        | error e => exact hr₂
        | ok fl₂ =>
          cases fl₂ with
          | ret r =>
            obtain ⟨rfl, h', tk, c', rfl, hS', hc', hk'⟩ := hr₂
            repeat (any_goals (first | assumption | wp_step))
            exact h _ _ _ hS' hc' hk'
          | _ => exact hr₂.elim
    | _ => exact hr.elim
end
section
variable {X : Cx}
/-- set(xs), ints -/
def rSetOfI (K : PySem.W.Frag) (w : World) : List V → Hp → VK → Prop := fun xs H Q => ∃ (p : Addr) (ns : List Int), xs = [.ref p] ∧ SqL K H p (ns.map V.int) ∧ ns.length ≤ 1000 ∧
  ∀ a c, H a = none → c ≤ ns.length → Q (.ref a) (upd H a (SetO w a (fun j => decide (j ∈ ns)) c))
theorem cr_setOfI (hc : X.calm = true) : CallR X (.type "set") (rSetOfI X.K X.w) := by
  intro pins s σ H xs us Q I r h
  obtain ⟨p, ns, rfl, hs, hl, q⟩ := h
  obtain ⟨its, rv, pl, _⟩ := I.list hs
  rw [Vals.ref1 r]
  refine mk_set_list ns (I.ok.hd hc) pl.isList rv.ints (by unfold scanBound; omega) fun h' tk c R hcn k => ?_
  have hf : H s.heap.objs.size = none := I.hok.fresh (Nat.le_refl _)
  exact ⟨.ref s.heap.objs.size, _, I.laid (t' := tk) k (Nat.le_refl _) (setO_new R), rfl, q _ c hf hcn⟩
end
end Vf

/-! Sets of tuples of ints, of more than a thousand members: in, add. -/
namespace Vf
open PySem PySem.Spec PyProof.Rows L2

/-! ### the round of a table's slots, larger tables -/
def MaskW (m : Nat) : Prop := m = 7 ∨ m = 31 ∨ m = 127 ∨ m = 511 ∨ m = 2047
def mark (m : Nat) : Nat → Nat → Nat → Nat
  | 0, _, acc => acc
  | k + 1, x, acc => mark m k ((x * 5 + 1) % (m + 1)) (acc ||| (1 <<< x))
def walkT (m : Nat) : Nat → Nat → Nat
  | 0, x => x
  | k + 1, x => walkT m k ((x * 5 + 1) % (m + 1))
theorem lcgI_shift (m x : Nat) : ∀ k, lcgI m ((x * 5 + 1) % (m + 1)) k = lcgI m x (k + 1)
  | 0 => rfl
  | k + 1 => by
    have ih := lcgI_shift m x k
    show (lcgI m ((x * 5 + 1) % (m + 1)) k * 5 + 1) % (m + 1) = (lcgI m x (k + 1) * 5 + 1) % (m + 1)
    rw [ih]
theorem lcgI_plus (m x a : Nat) : ∀ k, lcgI m (lcgI m x a) k = lcgI m x (a + k)
  | 0 => rfl
  | k + 1 => by
    have ih := lcgI_plus m x a k
    show (lcgI m (lcgI m x a) k * 5 + 1) % (m + 1) = (lcgI m x (a + k) * 5 + 1) % (m + 1)
    rw [ih]
theorem walkT_eq (m : Nat) : ∀ k x, walkT m k x = lcgI m x k
  | 0, _ => rfl
  | k + 1, x => by
    show walkT m k ((x * 5 + 1) % (m + 1)) = _
    rw [walkT_eq m k, lcgI_shift]
theorem mark_bit (m j : Nat) : ∀ k x acc, (mark m k x acc).testBit j = true → acc.testBit j = true ∨ ∃ c, c < k ∧ lcgI m x c = j
  | 0, _, _, h => .inl h
  | k + 1, x, acc, h => by
    rcases mark_bit m j k _ _ h with h1 | ⟨c, hc, e⟩
    · rw [Nat.testBit_or, Bool.or_eq_true] at h1
      rcases h1 with h1 | h1
      · exact .inl h1
      · refine .inr ⟨0, Nat.succ_pos _, ?_⟩
        rw [Nat.one_shiftLeft, Nat.testBit_two_pow] at h1
        exact of_decide_eq_true h1
    · exact .inr ⟨c + 1, Nat.succ_lt_succ hc, by rw [← lcgI_shift]; exact e⟩
theorem mark_all {m : Nat} (h : mark m (m + 1) 0 0 = 2 ^ (m + 1) - 1) {j : Nat} (hj : j ≤ m) : ∃ c, c ≤ m ∧ lcgI m 0 c = j := by
  have hb : (mark m (m + 1) 0 0).testBit j = true := by
    rw [h, Nat.testBit_two_pow_sub_one]
    exact decide_eq_true (Nat.lt_succ_of_le hj)
  rcases mark_bit m j _ _ _ hb with h1 | ⟨c, hc, e⟩
  · rw [Nat.zero_testBit] at h1
    exact absurd h1 (by decide)
  · exact ⟨c, Nat.le_of_lt_succ hc, e⟩
theorem seen_slots {m : Nat} (hm : MaskW m) {j : Nat} (hj : j ≤ m) : ∃ c, c ≤ m ∧ lcgI m 0 c = j := by
  rcases hm with e | e | e | e | e
  · subst e; exact mark_all (by decide +kernel) hj
  · subst e; exact mark_all (by decide +kernel) hj
  · subst e; exact mark_all (by decide +kernel) hj
  · subst e; exact mark_all (by decide +kernel) hj
  · subst e; exact mark_all (by decide +kernel) hj
theorem round_slots {m : Nat} (hm : MaskW m) : lcgI m 0 (m + 1) = 0 := by
  rw [← walkT_eq]
  rcases hm with e | e | e | e | e
  · subst e; decide +kernel
  · subst e; decide +kernel
  · subst e; decide +kernel
  · subst e; decide +kernel
  · subst e; decide +kernel
theorem from_any {m : Nat} (hm : MaskW m) {i j : Nat} (hi : i ≤ m) (hj : j ≤ m) : ∃ k, k ≤ m ∧ lcgI m i k = j := by
  obtain ⟨a, ha, ea⟩ := seen_slots hm hi
  obtain ⟨b, hb, eb⟩ := seen_slots hm hj
  by_cases c : a ≤ b
  · refine ⟨b - a, Nat.le_trans (Nat.sub_le _ _) hb, ?_⟩
    rw [← ea, lcgI_plus, Nat.add_sub_cancel' c, eb]
  · refine ⟨m + 1 + b - a, by omega, ?_⟩
    rw [← ea, lcgI_plus, Nat.add_sub_cancel' (by omega), ← lcgI_plus, round_slots hm, eb]
theorem runs_meet {m : Nat} (hm : MaskW m) (h : Int) {j : Nat} (hj : j ≤ m) : ∃ n, n ≤ m + 12 ∧ runI m (SetTable.bits h) n = j := by
  obtain ⟨k, hk, e⟩ := from_any hm (runI_le m (SetTable.bits h) 12) hj
  refine ⟨12 + k, by omega, ?_⟩
  rw [runI_tail (bits_lt h), e]
theorem way_top (m : Nat) (h : Int) (k : Nat) : way m h k ≤ m := by
  have h0 : SetTable.bits h % (m + 1) ≤ m := Nat.le_of_lt_succ (Nat.mod_lt _ (Nat.succ_pos m))
  have h1 := runEnd_bd h0
  have h2 := nth_in (m := m) k (runAt m (SetTable.bits h % (m + 1)) (SetTable.bits h)) (by
    simp only [runAt]
    omega)
  exact Nat.le_trans (Nat.le_add_right _ _) h2
theorem way_meets {m : Nat} (hm : MaskW m) (h : Int) {j : Nat} (hj : j ≤ m) : ∃ k, k < 10 * SetTable.turns m ∧ way m h k = j := by
  obtain ⟨n, hn, e⟩ := runs_meet hm h hj
  obtain ⟨k, hk, e2⟩ := run_nth m (SetTable.bits h) n
  refine ⟨k, by unfold SetTable.turns; omega, ?_⟩
  unfold way
  rw [e2]
  exact e

/-! ### the table -/
structure TabW (t : SetTable) (hs : List Int) : Prop where
  ris : Ris t.place.toList
  dm : t.dummies = #[]
  sz : t.place.size = hs.length
  msk : MaskW t.mask
  top : ∀ x ∈ t.place.toList, x ≤ t.mask
  led : ∀ (i : Nat) (h : Int) (j : Nat), hs[i]? = some h → t.place.toList[i]? = some j → ∃ k, way t.mask h k = j ∧ ∀ c, c < k → way t.mask h c ∈ t.place.toList
theorem TabW.free {t : SetTable} {hs : List Int} (T : TabW t hs) (hl : hs.length ≤ t.mask) (h : Int) :
    ∃ K, K < 10 * SetTable.turns t.mask ∧ way t.mask h K ∉ t.place.toList ∧ ∀ c, c < K → way t.mask h c ∈ t.place.toList := by
  obtain ⟨j, hj, hn⟩ := st_missing t.place.toList (t.mask + 1) (by rw [Array.length_toList, T.sz]; omega)
  obtain ⟨k, hk, e⟩ := way_meets T.msk h (Nat.le_of_lt_succ hj)
  obtain ⟨K, a1, a2, a3⟩ := st_least (p := fun c => way t.mask h c ∉ t.place.toList) k (fun z => hn (e ▸ z))
  exact ⟨K, Nat.lt_of_le_of_lt a1 hk, a2, fun c hc => Classical.byContradiction (a3 c hc)⟩
theorem TabW.ahead {t : SetTable} {hs : List Int} (T : TabW t hs) {h : Int} {K i j : Nat} (hK : way t.mask h K ∉ t.place.toList) (hi : hs[i]? = some h) (hj : t.place.toList[i]? = some j) :
    ∃ c, c < K ∧ way t.mask h c = j := by
  obtain ⟨c, e, hb⟩ := T.led i h j hi hj
  refine ⟨c, Nat.lt_of_not_le fun z => hK ?_, e⟩
  rcases Nat.lt_or_eq_of_le z with y | y
  · exact hb K y
  · rw [y, e]
    exact List.mem_of_getElem? hj
theorem TabW.put {t : SetTable} {hs : List Int} (T : TabW t hs) {h : Int} {K : Nat} (hK : way t.mask h K ∉ t.place.toList) (hb : ∀ c, c < K → way t.mask h c ∈ t.place.toList) :
    SetTable.below t.place (way t.mask h K) ≤ hs.length ∧ (t.put (way t.mask h K)).1.fill = hs.length + 1 ∧
    TabW (t.put (way t.mask h K)).1 (hs.take (SetTable.below t.place (way t.mask h K)) ++ h :: hs.drop (SetTable.below t.place (way t.mask h K))) := by
  have top := way_top t.mask h K
  have cut := (below_cut T.ris (way t.mask h K)).1
  generalize hw : way t.mask h K = j at *
  have e1 : SetTable.below t.place j ≤ t.place.toList.length := by rw [Array.length_toList]; exact cut
  have e2 : SetTable.below t.place j ≤ hs.length := T.sz ▸ cut
  have pp := put_place t j
  have sz : (t.put j).1.place.size = hs.length + 1 := by
    rw [← Array.length_toList, pp, len_ins _ e1, Array.length_toList, T.sz]
  have nw : t.place[SetTable.below t.place j]? ≠ some j := fun e => hK (List.mem_of_getElem? ((Array.getElem?_toList (xs := t.place)).trans e))
  have more : ∀ x, x ∈ t.place.toList → x ∈ (t.put j).1.place.toList := fun x hx => by
    rw [pp]
    exact mem_ins.2 (.inr hx)
  refine ⟨e2, ?_, ris_insert T.ris nw, put_dm T.dm j, ?_, T.msk, ?_, ?_⟩
  · show (t.put j).1.place.size + (t.put j).1.dummies.size = _
    rw [sz, put_dm T.dm j]
    rfl
  · rw [sz, len_ins _ e2]
  · intro x hx
    rw [pp] at hx
    rcases mem_ins.1 hx with z | z
    · rw [z]; exact top
    · exact T.top x z
  · intro i h' j' h1 h2
    rw [tins_get hs e2] at h1
    rw [pp, tins_get _ e1] at h2
    show ∃ k, way t.mask h' k = j' ∧ _
    split at h1
    · rename_i c
      rw [if_pos c] at h2
      obtain ⟨k, a, b⟩ := T.led i h' j' h1 h2
      exact ⟨k, a, fun c hc => more _ (b c hc)⟩
    · rename_i c
      rw [if_neg c] at h2
      split at h1
      · rename_i d
        rw [if_pos d] at h2
        cases h1
        cases h2
        exact ⟨K, hw, fun c hc => more _ (hb c hc)⟩
      · rename_i d
        rw [if_neg d] at h2
        obtain ⟨k, a, b⟩ := T.led (i - 1) h' j' h1 h2
        exact ⟨k, a, fun c hc => more _ (b c hc)⟩

/-! ### the table laid anew -/
theorem slot_free {m : Nat} (hm : MaskW m) (owner : Array (Option Nat)) (h : Int) {j : Nat} (hj : j ≤ m) (hf : oAt owner j = none) :
    ∃ K, SetTable.layClean.free m owner (SetTable.turns m) (SetTable.bits h % (m + 1)) (SetTable.bits h) = some (way m h K) ∧ oAt owner (way m h K) = none ∧ ∀ k, k < K → oAt owner (way m h k) ≠ none := by
  obtain ⟨n, hn, e⟩ := runs_meet hm h hj
  have e2 : way m h (off m (SetTable.bits h % (m + 1)) (SetTable.bits h) n) = j := by
    unfold way
    rw [nth_off, itL_run]
    exact e
  obtain ⟨K, a1, a2, a3⟩ := st_least (p := fun k => oAt owner (way m h k) = none) _ (show oAt owner (way m h (off m (SetTable.bits h % (m + 1)) (SetTable.bits h) n)) = none by rw [e2]; exact hf)
  refine ⟨K, free_spec m owner _ n _ _ K (by unfold SetTable.turns; omega) a1 (fun k hk => ?_) ?_, a2, a3⟩
  · have z := a3 k hk
    revert z
    unfold way
    cases oAt owner (nth m (runAt m (SetTable.bits h % (m + 1)) (SetTable.bits h)) k).j with
    | none => intro z; exact absurd rfl z
    | some _ => intro _; rfl
  · have z : oAt owner (nth m (runAt m (SetTable.bits h % (m + 1)) (SetTable.bits h)) K).j = none := a2
    rw [z]
    rfl
theorem own_next {m : Nat} (hm : MaskW m) {done : List Int} {owner : Array (Option Nat)} (W : Own m done owner) (hl : done.length ≤ m) (h : Int) :
    ∃ j, SetTable.layClean.free m owner (SetTable.turns m) (SetTable.bits h % (m + 1)) (SetTable.bits h) = some j ∧ Own m (done ++ [h]) (owner.setIfInBounds j (some done.length)) := by
  obtain ⟨ps, hps, hin⟩ := W.ps
  obtain ⟨j0, h0, hn0⟩ := st_missing ps (m + 1) (by omega)
  have hj0 : oAt owner j0 = none := by
    cases z : oAt owner j0 with
    | none => rfl
    | some k => exact absurd (hin j0 (Nat.le_of_lt_succ h0) (fun e => by rw [z] at e; cases e)) hn0
  obtain ⟨K, e1, e2, e3⟩ := slot_free hm owner h (Nat.le_of_lt_succ h0) hj0
  have hjm := way_top m h K
  refine ⟨way m h K, e1, ?_⟩
  have self : oAt (owner.setIfInBounds (way m h K) (some done.length)) (way m h K) = some done.length := oAt_set_self _ (by rw [W.sz]; exact Nat.lt_succ_of_le hjm)
  have other : ∀ i, i ≠ way m h K → oAt (owner.setIfInBounds (way m h K) (some done.length)) i = oAt owner i := fun i hi => oAt_set_ne _ hi
  have size2 : (owner.setIfInBounds (way m h K) (some done.length)).size = m + 1 := by rw [Array.size_setIfInBounds]; exact W.sz
  generalize owner.setIfInBounds (way m h K) (some done.length) = own2 at *
  have keep : ∀ i, oAt owner i ≠ none → oAt own2 i ≠ none := fun i hi => by
    by_cases c : i = way m h K
    · rw [c, self]
      exact fun z => nomatch z
    · rw [other i c]
      exact hi
  refine ⟨size2, ?_, ?_, way m h K :: ps, by simp [hps], ?_⟩
  · intro j k hj e
    by_cases c : j = way m h K
    · rw [c, self] at e
      cases e
      exact ⟨h, K, by simp, c.symm, fun k' hk' => keep _ (e3 k' hk')⟩
    · rw [other j c] at e
      obtain ⟨h', K', a1, a2, a3⟩ := W.at_ j k hj e
      have hk : k < done.length := (List.getElem?_eq_some_iff.mp a1).1
      exact ⟨h', K', by rw [List.getElem?_append_left hk]; exact a1, a2, fun k' hk' => keep _ (a3 k' hk')⟩
  · intro k hk
    by_cases c : k < done.length
    · obtain ⟨j, hj, e⟩ := W.all k c
      exact ⟨j, hj, by rw [other j (fun z => by rw [z, e2] at e; cases e)]; exact e⟩
    · have ek : k = done.length := by
        rw [List.length_append, List.length_singleton] at hk
        omega
      exact ⟨way m h K, hjm, by rw [ek]; exact self⟩
  · intro j hj e
    by_cases c : j = way m h K
    · rw [c]; exact List.mem_cons_self
    · rw [other j c] at e
      exact List.mem_cons_of_mem _ (hin j hj e)
theorem owns_all {m : Nat} (hm : MaskW m) : ∀ (rest done : List Int) (owner : Array (Option Nat)), Own m done owner → done.length + rest.length ≤ m →
    ∃ own2, rest.foldl (stepF m) (some (owner, done.length)) = some (own2, (done ++ rest).length) ∧ Own m (done ++ rest) own2
  | [], done, owner, W, _ => ⟨owner, by simp, by simpa using W⟩
  | h :: rest, done, owner, W, hl => by
    simp only [List.length_cons] at hl
    obtain ⟨j, e, W2⟩ := own_next hm W (by omega) h
    obtain ⟨own2, a, b⟩ := owns_all hm rest (done ++ [h]) _ W2 (by simp; omega)
    have e1 : done ++ [h] ++ rest = done ++ h :: rest := by simp
    have e2 : (done ++ [h]).length = done.length + 1 := by simp
    rw [e1, e2] at a
    rw [e1] at b
    exact ⟨own2, by rw [List.foldl_cons, stepF_some e]; exact a, b⟩
theorem clean_all {m : Nat} (hm : MaskW m) {hs : Array Int} (hn : hs.size ≤ m) : ∃ owner, SetTable.layClean m hs = some owner ∧ Own m hs.toList owner := by
  obtain ⟨owner, a, b⟩ := owns_all hm hs.toList [] _ (Own.init m) (by simpa using hn)
  refine ⟨owner, ?_, by simpa using b⟩
  have a2 : hs.toList.foldl (stepF m) (some (Array.replicate (m + 1) none, 0)) = some (owner, ([] ++ hs.toList).length) := a
  rw [layClean_eq, a2]
  rfl
theorem relaid_all (t : SetTable) {hs : Array Int} {wanted M : Nat} (hw : SetTable.sizeAbove wanted - 1 = M) (hM : MaskW M) (hn : hs.size ≤ M) :
    ∃ t2 order, t.relaid hs wanted = some (t2, order) ∧ order.toList.Perm (List.range hs.size) ∧ TabW t2 (order.toList.map fun i => hs.getD i 0) ∧ t2.mask = M ∧ t2.led = t.led ∧ t2.plain = t.plain := by
  obtain ⟨owner, e, W⟩ := clean_all hM hn
  have two := ris_live (fun j => owner.getD j none) (List.range (M + 1)) (by
    unfold Ris
    exact List.pairwise_lt_range)
  have up : Ris ((liveOf M owner).map (·.1)) := two.1
  have inr : ∀ x ∈ (liveOf M owner).map (·.1), x ∈ List.range (M + 1) := two.2
  have mem : ∀ j k, (j, k) ∈ liveOf M owner ↔ j ≤ M ∧ oAt owner j = some k := fun j k => mem_live W.sz
  have every : ∀ k, k < hs.size → k ∈ (liveOf M owner).map (·.2) := fun k hk => by
    obtain ⟨j, a, b⟩ := W.all k (by simpa using hk)
    exact List.mem_map.mpr ⟨(j, k), (mem j k).2 ⟨a, b⟩, rfl⟩
  have len : (liveOf M owner).length = hs.size := by
    refine Nat.le_antisymm ?_ ?_
    · obtain ⟨ps, a, b⟩ := W.ps
      have nd : ((liveOf M owner).map (·.1)).Nodup := List.Pairwise.imp (fun z => Nat.ne_of_lt z) up
      have z := nat_nodup_len _ ps nd (by
        intro x hx
        obtain ⟨⟨y, k⟩, hq, rfl⟩ := List.mem_map.mp hx
        obtain ⟨c1, c2⟩ := (mem y k).1 hq
        exact b y c1 (fun z => by rw [z] at c2; cases c2))
      simpa [a] using z
    · have z := nat_nodup_len (List.range hs.size) ((liveOf M owner).map (·.2)) List.nodup_range fun k hk => every k (List.mem_range.mp hk)
      simpa using z
  refine ⟨tabOf t M owner, ((liveOf M owner).map (·.2)).toArray, ?_, perm_range hs.size _ (by simpa using len) every, ⟨up, rfl, ?_, hM, ?_, ?_⟩, rfl, rfl, rfl⟩
  · rw [relaid_eq, hw, e]
    rfl
  · show ((liveOf M owner).map (·.1)).toArray.size = _
    simp
  · intro x hx
    exact Nat.le_of_lt_succ (List.mem_range.mp (inr x hx))
  · intro i h j h1 h2
    have h1' : (((liveOf M owner).map (·.2)).map fun i => hs.getD i 0)[i]? = some h := h1
    have h2' : ((liveOf M owner).map (·.1))[i]? = some j := h2
    simp only [List.getElem?_map, Option.map_eq_some_iff] at h1' h2'
    obtain ⟨k, ⟨⟨y, k'⟩, g1, rfl⟩, rfl⟩ := h1'
    obtain ⟨q, g2, rfl⟩ := h2'
    rw [g1] at g2
    cases g2
    obtain ⟨c1, c2⟩ := (mem y k').1 (List.mem_of_getElem? g1)
    obtain ⟨h0, K, a1, a2, a3⟩ := W.at_ y k' c1 c2
    have eh : hs.getD k' 0 = h0 := by
      rw [Array.getElem?_toList] at a1
      rw [Array.getD_eq_getD_getElem?, a1]
      rfl
    refine ⟨K, by show way M (hs.getD k' 0) K = y; rw [eh]; exact a2, fun c hc => ?_⟩
    show way M (hs.getD k' 0) c ∈ (liveOf M owner).map (·.1)
    rw [eh]
    cases z : oAt owner (way M h0 c) with
    | none => exact absurd z (a3 c hc)
    | some k2 => exact List.mem_map.mpr ⟨(way M h0 c, k2), (mem _ _).2 ⟨way_top M h0 c, z⟩, rfl⟩

/-! ### the set -/
/-- what the object at a holds: the tuples at L's addresses, told by their ints -/
def SetW0 (P : Program) (w : World) (h : Heap) (a : Addr) (L : List (Addr × List Int)) (es : Array (Int × Value)) (ep : Nat) (t : SetTable) : Prop :=
  (∃ o, h.get? a = some o ∧ o.ExactSet ∧ o.data = .set es ep t) ∧ es.toList = rowsOf P w L ∧ TabW t (L.map fun p => thash P w p.2) ∧ t.plain = true ∧
    (w.params.followText "set-order" = true ∨ t.led = true) ∧ L.length * 5 < t.mask * 3 ∧ L.length ≤ 1200
section
variable {P : Program} {w : World} {A : Around} {E : Value → Shared → Prop} {s : Shared} {a : Addr} {L : List (Addr × List Int)} {es : Array (Int × Value)} {ep : Nat} {t : SetTable}
theorem rows_size (h : es.toList = rowsOf P w L) : es.size = L.length := by
  rw [← Array.length_toList, h]
  simp [rowsOf]
theorem rows_at (h : es.toList = rowsOf P w L) {i : Nat} {p : Addr × List Int} (hp : L[i]? = some p) : es[i]? = some (thash P w p.2, Value.ref p.1) := by
  rw [← Array.getElem?_toList, h]
  simp [rowsOf, hp]
theorem fits_of (T : TabW t (L.map fun p => thash P w p.2)) (hr : es.toList = rowsOf P w L) (hl : L.length ≤ t.mask) : t.fits es.size = true := by
  have h1 := T.sz
  rw [List.length_map] at h1
  unfold SetTable.fits SetTable.fill
  rw [T.dm, Bool.and_eq_true, beq_iff_eq, decide_eq_true_eq, rows_size hr, h1]
  exact ⟨rfl, hl⟩
theorem stands (T : TabW t (L.map fun p => thash P w p.2)) : ¬ t.gaveWay = true := by
  unfold SetTable.gaveWay
  rcases T.msk with e | e | e | e | e <;> rw [e] <;> decide
/-- the search, from the c-th slot of its way on -/
theorem seek (R : SetW0 P w s.heap a L es ep t) (tup : ∀ p ∈ L, IsT P w s.heap p.2 p.1) (ad : Bool) {x : Addr} {k : List Int} (hx : IsT P w s.heap k x) (hu : A.units < cLine) {K : Nat} (hf0 : K < 10 * SetTable.turns t.mask)
    (hK : way t.mask (thash P w k) K ∉ t.place.toList) (hKb : ∀ c, c < K → way t.mask (thash P w k) c ∈ t.place.toList) {Q : SetFound → Shared → Prop}
    (hin : k ∈ L.map (·.2) → ∀ oi, (ad = false → oi ≠ none) → Q (.there oi) s) (hout : k ∉ L.map (·.2) → Q (.free (way t.mask (thash P w k) K) false) s) :
    ∀ (f c : Nat) (stand : Option SetTable.Probe), stand.getD (t.probeStart (thash P w k)) = nth t.mask (runAt t.mask (SetTable.bits (thash P w k) % (t.mask + 1)) (SetTable.bits (thash P w k))) c → c ≤ K → K - c < f →
      (∀ (i : Nat) p, L[i]? = some p → p.2 = k → ∃ c', c ≤ c' ∧ c' < K ∧ t.place.toList[i]? = some (way t.mask (thash P w k) c')) →
      wpAny (model P w) A (setSearchFrom a (.ref x) (thash P w k) ad f stand) Q E s
  | 0, c, stand, _, _, hf, _ => absurd hf (Nat.not_lt_zero _)
  | f + 1, c, stand, hst, hc, hf, hre => by
    obtain ⟨⟨o, ho, hex, hd⟩, rows, T, pl, ld, room, few⟩ := id R
    have fit : t.fits es.size = true := fits_of T rows (by omega)
    generalize hpr : runAt t.mask (SetTable.bits (thash P w k) % (t.mask + 1)) (SetTable.bits (thash P w k)) = pr at hst
    have wy : ∀ q, (nth t.mask pr q).j = way t.mask (thash P w k) q := fun q => by rw [← hpr]
    have shift : ∀ q, nth t.mask (nth t.mask pr c) q = nth t.mask pr (c + q) := fun q => (nth_add t.mask c pr q).symm
    have nodummy : ∀ (n : Nat) (p : SetTable.Probe), p.dummy = none → (nth t.mask p n).dummy = none := by
      intro n
      induction n with
      | zero => exact fun p h => h
      | succ n ih =>
        refine fun p h => ih (adv t.mask p) ?_
        unfold adv
        split <;> exact h
    have spec := go_spec t T.ris T.dm (fun i => (es[i]?.map (·.1)).getD 0) (thash P w k) (10 * SetTable.turns t.mask) (K - c) (nth t.mask pr c) (nodummy c pr (by rw [← hpr]; rfl)) (by omega)
      (fun q hq => by rw [shift, wy]; exact hKb _ (by omega)) (by rw [shift, wy, Nat.add_sub_cancel' hc]; exact hK)
    have hashAt : ∀ (i : Nat) p, L[i]? = some p → ((es[i]?.map (·.1)).getD 0) = thash P w p.2 := fun i p hp => by rw [rows_at rows hp]; rfl
    rw [setSearchFrom_succ]
    refine wpAny_bind (wpAny_setState_of ho hd fit ?_)
    dsimp only
    refine wp_if_neg (stands T) ?_
    try refine wpAny_bind (wpAny_pure ?_)
    have probe_is : ∀ r, SetTable.probe.go t (fun i => (es[i]?.map (·.1)).getD 0) (thash P w k) (10 * SetTable.turns t.mask) (nth t.mask pr c) = r →
        t.probe (fun i => (es[i]?.map (·.1)).getD 0) (thash P w k) (stand.getD (t.probeStart (thash P w k))) = r := fun r e => by rw [hst]; exact e
    rcases spec with ⟨q, i, hq, hi, hh, hno, pe⟩ | ⟨hno, pe⟩
    · rw [probe_is _ pe]
      dsimp only
      rw [shift, wy] at hi
      have hil : i < L.length := by
        have h1 : i < t.place.toList.length := (List.getElem?_eq_some_iff.mp hi).1
        rw [Array.length_toList, T.sz, List.length_map] at h1
        exact h1
      obtain ⟨p, hp⟩ : ∃ p, L[i]? = some p := ⟨_, List.getElem?_eq_getElem hil⟩
      have hm : p ∈ L := List.mem_of_getElem? hp
      have rest : wpAny (model P w) A (searchRest a (.ref x) (thash P w k) ad f es t (nth t.mask (nth t.mask pr c) q).j i (nth t.mask (nth t.mask pr c) (q + 1))) Q E s := by
        unfold searchRest
        rw [rows_at rows hp]
        dsimp only
        refine wpAny_bind (wpAny_holding (wpAny_eqBool_tuple hu (tup p hm) hx ?_))
        refine wpAny_bind (wpAny_setState_of ho hd fit ?_)
        dsimp only
        have slot : t.slot (nth t.mask (nth t.mask pr c) q).j = .live i := by
          rw [shift, wy]
          exact slot_live T.ris hi
        by_cases hkk : p.2 = k
        · have mem : k ∈ L.map (·.2) := List.mem_map.mpr ⟨p, hm, hkk⟩
          cases ad with
          | true =>
            refine wp_if_pos (by simp [hkk]) ?_
            exact wpAny_pure (hin mem none (fun z => nomatch z))
          | false =>
            refine wp_if_neg (by simp) ?_
            try refine wpAny_bind (wpAny_pure ?_)
            rw [sameMem]
            dsimp only
            simp only [if_true, slot, rows_at rows hp]
            refine wpAny_bind (wpAny_isSame_ref_self (wpAny_bind (wpAny_pure ?_)))
            simp only [if_true]
            refine wp_if_pos (by simp [hkk]) ?_
            exact wpAny_pure (hin mem (some i) (fun _ z => nomatch z))
        · refine wp_if_neg (by simp [hkk]) ?_
          try refine wpAny_bind (wpAny_pure ?_)
          rw [sameMem]
          dsimp only
          simp only [if_true, slot, rows_at rows hp]
          refine wpAny_bind (wpAny_isSame_ref_self (wpAny_bind (wpAny_pure ?_)))
          simp only [if_true]
          refine wp_if_neg (by simp [hkk]) ?_
          refine seek R tup ad hx hu hf0 hK hKb hin hout f (c + (q + 1)) _ (by rw [hpr]; exact shift (q + 1)) (by omega) (by omega) fun i0 p0 h0 hk0 => ?_
          obtain ⟨c', a1, a2, a3⟩ := hre i0 p0 h0 hk0
          refine ⟨c', ?_, a2, a3⟩
          have z1 : ¬ c' < c + q := fun y => by
            refine hno (c' - c) i0 (by omega) (by rw [shift, wy, Nat.add_sub_cancel' a1]; exact a3) ?_
            exact (hashAt i0 p0 h0).trans (congrArg (thash P w) hk0)
          have z2 : c' ≠ c + q := fun y => by
            have s1 := slot_live T.ris a3
            rw [y, slot_live T.ris hi] at s1
            cases s1
            rw [hp] at h0
            cases h0
            exact hkk hk0
          omega
      by_cases hl : t.led = true
      · refine wp_if_neg (by simp [hl]) ?_
        try refine wpAny_bind (wpAny_pure ?_)
        exact rest
      · refine wp_if_pos (by simp [hl]) ?_
        refine wpAny_bind (seen_tup hx (fun y hy => ?_) ?_)
        · obtain ⟨e, he, rfl⟩ := List.mem_map.mp hy
          have he2 : e ∈ es.toList := by
            have z : e ∈ es ∧ e.1 = thash P w k := by simpa using he
            simpa using z.1
          rw [rows] at he2
          obtain ⟨p2, hp2, rfl⟩ := List.mem_map.mp he2
          exact ⟨p2.2, p2.1, rfl, tup p2 hp2⟩
        · refine wp_if_neg (by decide) ?_
          try refine wpAny_bind (wpAny_pure ?_)
          exact rest
    · rw [probe_is _ pe]
      dsimp only
      rw [shift, wy, Nat.add_sub_cancel' hc]
      refine wpAny_pure (hout fun hm => ?_)
      obtain ⟨p0, h0, hk0⟩ := List.mem_map.mp hm
      obtain ⟨i0, hi0, e0⟩ := List.getElem_of_mem h0
      have h00 : L[i0]? = some p0 := by rw [List.getElem?_eq_getElem hi0, e0]
      obtain ⟨c', a1, a2, a3⟩ := hre i0 p0 h00 hk0
      refine hno (c' - c) i0 (by omega) (by rw [shift, wy, Nat.add_sub_cancel' a1]; exact a3) ?_
      exact (hashAt i0 p0 h00).trans (congrArg (thash P w) hk0)
theorem seek_all (R : SetW0 P w s.heap a L es ep t) (tup : ∀ p ∈ L, IsT P w s.heap p.2 p.1) (ad : Bool) {x : Addr} {k : List Int} (hx : IsT P w s.heap k x) (hu : A.units < cLine) {Q : SetFound → Shared → Prop}
    (hin : k ∈ L.map (·.2) → ∀ oi, (ad = false → oi ≠ none) → Q (.there oi) s)
    (hout : ∀ K, k ∉ L.map (·.2) → way t.mask (thash P w k) K ∉ t.place.toList → (∀ c, c < K → way t.mask (thash P w k) c ∈ t.place.toList) → Q (.free (way t.mask (thash P w k) K) false) s) :
    wpAny (model P w) A (setSearch a (.ref x) (thash P w k) ad) Q E s := by
  obtain ⟨_, rows, T, _, _, room, _⟩ := id R
  obtain ⟨K, a1, a2, a3⟩ := T.free (by rw [List.length_map]; omega) (thash P w k)
  have big : K < 100000 := by
    have z : 10 * SetTable.turns t.mask < 100000 := by
      unfold SetTable.turns
      rcases T.msk with e | e | e | e | e <;> omega
    omega
  unfold setSearch
  refine seek R tup ad hx hu a1 a2 a3 hin (fun z => hout K z a2 a3) 100000 0 none rfl (Nat.zero_le _) (by omega) fun i p hp hk => ?_
  have hil : i < t.place.toList.length := by
    rw [Array.length_toList, T.sz, List.length_map]
    exact (List.getElem?_eq_some_iff.mp hp).1
  obtain ⟨c, hc, e⟩ := T.ahead (h := thash P w k) a2 (by rw [List.getElem?_map, hp, ← hk]; rfl) (List.getElem?_eq_getElem hil)
  exact ⟨c, Nat.zero_le _, hc, by rw [e]; exact List.getElem?_eq_getElem hil⟩
end

/-! ### adding -/
section
variable {P : Program} {w : World} {A : Around} {E : Value → Shared → Prop} {s : Shared} {a : Addr} {L : List (Addr × List Int)} {es : Array (Int × Value)} {ep : Nat} {t : SetTable}
theorem size_w20 : SetTable.sizeAbove (SetTable.grown 5) = 32 := by decide +kernel
theorem size_w76 : SetTable.sizeAbove (SetTable.grown 19) = 128 := by decide +kernel
theorem size_w308 : SetTable.sizeAbove (SetTable.grown 77) = 512 := by decide +kernel
theorem size_w1228 : SetTable.sizeAbove (SetTable.grown 307) = 2048 := by decide +kernel
theorem relay_all {o : Obj} (ho : s.heap.get? a = some o) (hex : o.ExactSet) (hd : o.data = .set es ep t) (rows : es.toList = rowsOf P w L) (T : TabW t (L.map fun p => thash P w p.2)) (pl : t.plain = true)
    (ld : w.params.followText "set-order" = true ∨ t.led = true) (few : L.length ≤ 1200) (hlm : L.length ≤ t.mask) {wanted M : Nat} (hw : SetTable.sizeAbove wanted = M + 1) (hM : MaskW M) (hn : L.length * 5 < M * 3) {Q : Unit → Shared → Prop}
    (hQ : ∀ h' L' es' ep' t', Heap.SameBut a s.heap h' → SetW0 P w h' a L' es' ep' t' → L'.Perm L → Q () { s with heap := h' }) : wpAny (model P w) A (setRelay a wanted) Q E s := by
  have hsz := rows_size rows
  have bigM : M ≤ 2047 := by rcases hM with e | e | e | e | e <;> omega
  obtain ⟨t2, order, e, pm, T2, m2, l2, p2⟩ := relaid_all t (hs := es.map (·.1)) (wanted := wanted) (M := M) (by rw [hw]; rfl) hM (by rw [Array.size_map, hsz]; omega)
  rw [Array.size_map, hsz] at pm
  obtain ⟨L2, r1, r2, r3⟩ := order_rows L es order rows pm
  rw [← r3] at T2
  have hs2 : (order.filterMap (es[·]?)).size = es.size := by rw [rows_size r1, r2.length_eq, hsz]
  rw [setRelay_eq]
  refine wpAny_bind (wpAny_setState_of ho hd (fits_of T rows hlm) ?_)
  dsimp only
  refine wp_if_neg (by rw [hw, sizeLine_eq]; omega) ?_
  try refine wpAny_bind (wpAny_pure ?_)
  rw [e]
  dsimp only
  refine wpAny_bind ?_
  refine wp_if_neg (by rw [hs2]; simp) ?_
  try refine wpAny_bind (wpAny_pure ?_)
  refine wpAny_pure ?_
  dsimp only
  refine wpAny_storeSet_of ho hd ?_ (by rw [hs2, hsz, sizeLine_eq]; omega)
  refine hQ _ L2 (order.filterMap (es[·]?)) (ep + 1) t2 (Heap.SameBut.update ..) ⟨⟨_, store_at ho hd, ⟨hex.1, hex.2.1, hex.2.2⟩, rfl⟩, r1, T2, by rw [p2]; exact pl, by rw [l2]; exact ld, ?_, ?_⟩ r2
  · rw [r2.length_eq, m2]; exact hn
  · rw [r2.length_eq]; exact few
theorem add_all (R : SetW0 P w s.heap a L es ep t) (tup : ∀ p ∈ L, IsT P w s.heap p.2 p.1) {x : Addr} {k : List Int} (hx : IsT P w s.heap k x) (hu : A.units < cLine) (hfew : L.length < 1200) {Q : Bool → Shared → Prop}
    (hQ : ∀ b h' L' es' ep' t', Heap.SameBut a s.heap h' → SetW0 P w h' a L' es' ep' t' → (k ∈ L.map (·.2) → L' = L) → (k ∉ L.map (·.2) → L'.Perm ((x, k) :: L)) → Q b { s with heap := h' }) :
    wpAny (model P w) A (setAddHashed a (.ref x) (thash P w k)) Q E s := by
  obtain ⟨⟨o, ho, hex, hd⟩, rows, T, pl, ld, room, few⟩ := id R
  have fit : t.fits es.size = true := fits_of T rows (by omega)
  have hsl := rows_size rows
  unfold setAddHashed
  refine wpAny_holding ?_
  rw [show (100000 : Nat) = 99999 + 1 from rfl, setAddHashedIn_succ]
  refine wpAny_bind (wpAny_setState_of ho hd fit ?_)
  dsimp only
  refine wp_if_neg (by simp [byScan, Value.scannable]) ?_
  try refine wpAny_bind (wpAny_pure ?_)
  refine wpAny_bind (seek_all R tup true hx hu (fun hm oi _ => ?_) fun K hm hK hb => ?_)
  · dsimp only
    exact wpAny_pure (hQ false s.heap L es ep t (Heap.SameBut.refl a s.heap) R (fun _ => rfl) fun z => absurd hm z)
  · dsimp only
    refine wpAny_bind (wpAny_setState_of ho hd fit ?_)
    dsimp only
    obtain ⟨q1, q2, q3⟩ := T.put hK hb
    have b1 : (t.put (way t.mask (thash P w k) K)).1.plain = true := pl
    have b2 : (t.put (way t.mask (thash P w k) K)).1.mask = t.mask := rfl
    have b3 : (t.put (way t.mask (thash P w k) K)).1.led = t.led := rfl
    have b4 : (t.put (way t.mask (thash P w k) K)).2 = SetTable.below t.place (way t.mask (thash P w k) K) := rfl
    generalize hpt : t.put (way t.mask (thash P w k) K) = pt at q2 q3 b1 b2 b3 b4 ⊢
    obtain ⟨t1, p⟩ := pt
    dsimp only at q2 q3 b1 b2 b3 b4 ⊢
    rw [← b4] at q1 q3
    clear b4
    first
      | (refine wpAny_bind ?_; refine wp_if_pos b1 ?_; refine hashBy_tup hx ?_)
      | refine wp_if_pos b1 (wpAny_bind (hashBy_tup hx ?_))
    simp only [if_true]
    rw [List.length_map] at q1 q2
    have r1 : (SetTable.insertAt es p (thash P w k, Value.ref x)).toList = rowsOf P w (L.take p ++ (x, k) :: L.drop p) := by
      rw [SetTable.toList_insertAt, rows_put, rows]
    have pm := put_perm L p (x, k)
    have hl1 : (L.take p ++ (x, k) :: L.drop p).length = L.length + 1 := pm.length_eq
    have q4 : TabW t1 ((L.take p ++ (x, k) :: L.drop p).map fun p => thash P w p.2) := by
      rw [List.map_append, List.map_cons, List.map_take, List.map_drop]
      exact q3
    have s1 := rows_size r1
    rw [hl1] at s1
    generalize SetTable.insertAt es p (thash P w k, Value.ref x) = es1 at r1 s1 ⊢
    generalize L.take p ++ (x, k) :: L.drop p = L1 at r1 pm hl1 q4
    refine wpAny_bind (wpAny_storeSet_of ho hd ?_ (by rw [s1, sizeLine_eq]; omega))
    have sb : Heap.SameBut a s.heap (s.heap.update a (Obj.putSet es1 t1)) := Heap.SameBut.update ..
    have ho1 := store_at (es' := es1) (t' := t1) ho hd
    generalize s.heap.update a (Obj.putSet es1 t1) = h1 at sb ho1 ⊢
    have ex1 : ({ o with data := .set es1 (ep + 1) t1 } : Obj).ExactSet := ⟨hex.1, hex.2.1, hex.2.2⟩
    have ld1 : w.params.followText "set-order" = true ∨ t1.led = true := by rw [b3]; exact ld
    by_cases hf : t1.tooFull = true
    · first
        | (refine wpAny_bind ?_; refine wp_if_pos (by simp [hf]) ?_)
        | (refine wp_if_pos (by simp [hf]) ?_; refine wpAny_bind ?_)
      have full : (L.length + 1) * 5 ≥ t.mask * 3 := by
        have z := hf
        unfold SetTable.tooFull at z
        rw [decide_eq_true_eq, q2, b2] at z
        exact z
      rw [hsl]
      have go : ∀ M, SetTable.sizeAbove (SetTable.grown (L.length + 1)) = M + 1 → MaskW M → (L.length + 1) * 5 < M * 3 →
          wpAny (model P w) A (setRelay a (SetTable.grown (L.length + 1))) (fun _ s' => wpAny (model P w) A (pure true) Q E s') E { s with heap := h1 } := fun M e1 e2 e3 => by
        refine relay_all (s := { s with heap := h1 }) ho1 ex1 rfl r1 q4 b1 ld1 (by rw [hl1]; exact hfew) (by rw [hl1, b2]; omega) e1 e2 (by rw [hl1]; exact e3) fun h2 L2 es2 ep2 t2 sb2 R2 pm2 => ?_
        exact wpAny_pure (hQ true h2 L2 es2 ep2 t2 (sb.trans sb2) R2 (fun z => absurd z hm) fun _ => pm2.trans pm)
      rcases T.msk with e | e | e | e | e
      · have e2 : L.length + 1 = 5 := by omega
        exact go 31 (by rw [e2, size_w20]) (.inr (.inl rfl)) (by omega)
      · have e2 : L.length + 1 = 19 := by omega
        exact go 127 (by rw [e2, size_w76]) (.inr (.inr (.inl rfl))) (by omega)
      · have e2 : L.length + 1 = 77 := by omega
        exact go 511 (by rw [e2, size_w308]) (.inr (.inr (.inr (.inl rfl)))) (by omega)
      · have e2 : L.length + 1 = 307 := by omega
        exact go 2047 (by rw [e2, size_w1228]) (.inr (.inr (.inr (.inr rfl)))) (by omega)
      · exfalso
        omega
    · first
        | refine wp_if_neg (by simp [hf]) ?_
        | (refine wpAny_bind ?_; refine wp_if_neg (by simp [hf]) ?_; refine wpAny_pure ?_)
      refine wpAny_pure (hQ true h1 L1 es1 (ep + 1) t1 sb ⟨⟨_, ho1, ex1, rfl⟩, r1, q4, b1, ld1, ?_, by rw [hl1]; exact hfew⟩ (fun z => absurd z hm) fun _ => pm)
      have z := hf
      unfold SetTable.tooFull at z
      rw [decide_eq_true_eq, q2, b2] at z
      rw [hl1, b2]
      omega
end
end Vf

/-! Sets of tuples of ints over the layer: set(), add, in, not in. -/
namespace Vf
open PySem PySem.Spec PyProof.Rows L2
def SetWO (P : Program) (w : World) (a : Addr) (L : List (Addr × List Int)) : HO := .ext fun h => ∃ es ep t, SetW0 P w h a L es ep t
theorem setW_at {P : Program} {w : World} {h h' : Heap} {a : Addr} {L : List (Addr × List Int)} (R : ∃ es ep t, SetW0 P w h a L es ep t) (k : ∀ o, h.get? a = some o → h'.get? a = some o) : ∃ es ep t, SetW0 P w h' a L es ep t := by
  obtain ⟨es, ep, t, ⟨o, ho, r⟩, z⟩ := R
  exact ⟨es, ep, t, ⟨o, k o ho, r⟩, z⟩
theorem setWO_new {w : World} {P : Program} {H : Hp} {h : Heap} {a : Addr} {L : List (Addr × List Int)} (R : ∃ es ep t, SetW0 P w h a L es ep t) : ObjOk P w H h a (SetWO P w a L) := by
  refine ⟨R, ?_, fun h1 h2 p k => setW_at p k⟩
  obtain ⟨es, ep, t, ⟨o, ho, r⟩, z⟩ := R
  exact ⟨o, ho⟩
section
variable {X : Cx}
theorem setWO_get {pins : List (Addr × Obj)} {σ : L2.St} {H : Hp} {s : Shared} {a : Addr} {L : List (Addr × List Int)} (I : Inv X pins σ H s) (ha : H a = some (SetWO X.prog X.w a L)) : ∃ es ep t, SetW0 X.prog X.w s.heap a L es ep t := (I.hok a _ ha).1
/-- set() -/
def rSet0W (P : Program) (w : World) : List V → Hp → VK → Prop := fun xs H Q => xs = [] ∧ ∀ p, H p = none → Q (.ref p) (upd H p (SetWO P w p []))
theorem cr_set0W : CallR X (.type "set") (rSet0W X.prog X.w) := by
  intro pins s σ H xs us Q I r h
  obtain ⟨rfl, q⟩ := h
  cases r
  refine setR_new fun new => ?_
  refine ⟨.ref s.heap.objs.size, upd H s.heap.objs.size (SetWO X.prog X.w s.heap.objs.size []), I.laid (t' := s.toks) (fun b u e => Heap.get?_push_of_some _ e) (Nat.le_refl _) (setWO_new ?_), rfl, q _ (I.hok.fresh (Nat.le_refl _))⟩
  refine ⟨#[], 0, .fresh 0 0 (!X.w.params.followText "set-order"), ⟨_, Heap.get?_push_size _ rfl, ⟨rfl, rfl, rfl⟩, rfl⟩, rfl, ⟨List.Pairwise.nil, rfl, rfl, .inl rfl, (fun x hx => by cases hx), (fun i h j h1 _ => by simp at h1)⟩, rfl, ?_, (by show 0 * 5 < 7 * 3; decide), (by show 0 ≤ 1200; decide)⟩
  cases X.w.params.followText "set-order"
  · exact .inr rfl
  · exact .inl rfl
/-- found.add(t) -/
def rSAddW (K : PySem.W.Frag) (P : Program) (w : World) : V → List V → Hp → VK → Prop := fun x xs H Q => ∃ (a b : Addr) (k : List Int) (L : List (Addr × List Int)), x = V.ref a ∧ xs = [V.ref b] ∧
  H a = some (SetWO P w a L) ∧ SqT K H b (k.map V.int) ∧ (∀ p ∈ L, SqT K H p.1 (p.2.map V.int)) ∧ L.length < 1200 ∧
  ∀ L', (k ∈ L.map (·.2) → L' = L) → (k ∉ L.map (·.2) → L'.Perm ((b, k) :: L)) → Q .non (upd H a (SetWO P w a L'))
theorem mt_saddW (hu : X.A.units + 10 < cLine) : MtR X "set.add" (rSAddW X.K X.prog X.w) := by
  intro pins s σ H x xs v us Q I rx rxs h
  obtain ⟨a, b, k, L, rfl, rfl, ha, hb, hL, few, q⟩ := h
  cases rx
  cases rxs with
  | cons ry rt =>
    cases rt
    cases (show _ = Value.ref b from ry)
    obtain ⟨es, ep, t, R⟩ := setWO_get I ha
    obtain ⟨⟨o, ho, hex, hd⟩, _⟩ := id R
    have ty : s.TypeIs (.ref a) "set" := ⟨o, ho, hex.1⟩
    refine wpAny_call_entry F.slot_set_add ty F.entry_set_add ?_ (F.args_set_add_2 _ _)
    unfold Builtin.«set.add» Builtin.Frozenset.oneOther
    simp only [List.isEmpty_nil, bind_assoc]
    unfold Builtin.Frozenset.addrOf setAdd
    refine wpAny_bind (wpAny_pure ?_)
    try dsimp only
    refine wpAny_bind (wpAny_pure ?_)
    try dsimp only
    refine wpAny_bind ?_
    refine wpAny_holding ?_
    refine wpAny_bind (wpAny_pyHash_tuple (by show X.A.units + 1 < cLine; omega) (I.isT hb) ?_)
    refine add_all (s := { s with toks := s.toks + (k.length + 1) }) R (fun p hp => I.isT (hL p hp)) (I.isT hb) (by show X.A.units + 1 < cLine; omega) few fun bb h' L' es' ep' t' sb R' z1 z2 => ?_
    show wpAny _ _ (ret Value.none) _ _ _
    refine wpAny_pure ⟨_, rfl, ?_⟩
    have he : ∃ u, h'.get? a = some u := by
      obtain ⟨⟨o', ho', _⟩, _⟩ := R'
      exact ⟨o', ho'⟩
    exact ⟨.non, _, I.write (e := a) (t' := s.toks + (k.length + 1)) (by rw [ha]; trivial) (.inl rfl) (fun c u hc hu => (sb.2 c hc).trans hu) he (setWO_new ⟨es', ep', t', R'⟩), rfl, q L' z1 z2⟩
def tSAddW (K : PySem.W.Frag) (P : Program) (w : World) (to : TE) (t : TA) : TE := fun σ H Q => to σ H fun x H1 => (∃ a L, x = V.ref a ∧ H1 a = some (SetWO P w a L)) ∧ t σ H1 fun xs H2 => rSAddW K P w x xs H2 Q
variable {o e : Expr} {es : List Expr} {to : TE} {t : TA} {apos cpos : Pos}
theorem pe_saddW (hu : X.A.units + 10 < cLine) (ho : PE X o to) (ha : PA X (e :: es) t)
    (hbase : attributeBase o "add" X.env (eval o X.env) = eval o X.env := by rfl)
    (hfew : ((backTo cpos (starEach (e :: es) X.env)).all (fun x => !x.1) && (backToKw cpos (keywordEach [] X.env)).all (fun x => x.1.isSome)
      && decide ((e :: es).length + ([] : List Keyword).length + (if ([] : List Keyword).isEmpty then 0 else 1) < 30)) = true := by rfl)
    (hline : (apos.endLine == cpos.line) = true := by rfl) (hs : starEach (e :: es) X.env = (false, eval e X.env) :: starEach es X.env := by rfl)
    (hplain : (backTo cpos (starEach es X.env)).any (·.1) = false := by rfl) :
    PE X (.Call (.Attribute o "add" apos) (e :: es) [] cpos) (tSAddW X.K X.prog X.w to t) := by
  refine ⟨fun pins s σ H Q I h => wpAny_Call_method_late hbase hfew hline rfl (thn (ho.run pins s σ H _ I h) fun v s1 ⟨x, H1, I1, r1, ty, q1⟩ => ?_)⟩
  obtain ⟨a, L, rfl, hka⟩ := ty
  obtain ⟨es', ep, tb, R⟩ := setWO_get I1 hka
  obtain ⟨⟨oo, hoo, hex, hd⟩, _⟩ := id R
  cases r1
  refine ⟨"set", "set.add", F.plainAttrs_set, F.slot_set_add, F.type_set_add, ⟨oo, hoo, hex.1⟩, ?_, ?_⟩
  · intro c e
    injection e with e
    subst e
    exact ⟨oo, hoo, hex.2.1⟩
  have hA := ha.run cpos pins s1 σ H1 _ I1 q1
  rw [hs] at hA ⊢
  refine Calls.callWith_builtin (by
    show (false || (backTo cpos (starEach es X.env)).any (·.1)) = false
    rw [hplain]
    rfl) (Calls.evalArgs_plain (thn hA ?_))
  exact fun us s2 ⟨vs, H2, I2, r2, q2⟩ => mt_saddW hu pins s2 σ H2 (.ref a) vs (.ref a) us Q I2 rfl r2 q2
/-- t in found -/
def rInW (K : PySem.W.Frag) (P : Program) (w : World) : R2 := fun x y H Q => ∃ (a b : Addr) (k : List Int) (L : List (Addr × List Int)), x = V.ref b ∧ y = V.ref a ∧
  H a = some (SetWO P w a L) ∧ SqT K H b (k.map V.int) ∧ (∀ p ∈ L, SqT K H p.1 (p.2.map V.int)) ∧ Q (.bl (decide (k ∈ L.map (·.2)))) H
theorem op_inW (hu : X.A.units + 10 < cLine) : OpR X (compareOp .In) (rInW X.K X.prog X.w) := by
  intro pins s σ H x y v u Q I rx ry h
  obtain ⟨a, b, k, L, rfl, rfl, ha, hb, hL, q⟩ := h
  cases rx
  cases ry
  obtain ⟨es, ep, t, R⟩ := setWO_get I ha
  obtain ⟨⟨o, ho, hex, hd⟩, rows, T, pl, ld, room, few⟩ := id R
  have ty : s.TypeIs (.ref a) "set" := ⟨o, ho, hex.1⟩
  show wpAny _ _ (do return Value.bool (← contains (.ref a) (.ref b))) _ _ s
  refine wpAny_bind ?_
  unfold contains
  try with_reducible refine wpAny_holding ?_
  refine wpAny_bind (wpAny_specialOf ty F.slot_set_contains.lookup ?_)
  show wpAny _ _ (if (some (Value.builtin "set.__contains__") == some Value.none) = true then _ else _) _ _ s
  rw [if_neg (by rw [beq_builtin_none]; exact Bool.false_ne_true)]
  refine wpAny_bind (wpAny_callSpecialUnlessNone?_slot (name := Str.ofString "__contains__") ty F.slot_set_contains
    (wpAny_call_entry F.slot_set_contains ty entry_set_contains ?_ (F.args_set_contains_2 _ _)))
  unfold Builtin.«frozenset.__contains__» Builtin.Frozenset.oneOther
  simp only [List.isEmpty_nil, bind_assoc]
  unfold Builtin.Frozenset.addrOf Builtin.Frozenset.withSetAsKey setContains
  refine wpAny_bind (wpAny_pure ?_)
  try dsimp only
  refine wpAny_bind (wpAny_pure ?_)
  try dsimp only
  refine wpAny_bind (wpAny_tryCatch ?_)
  refine wpAny_holding ?_
  refine wpAny_bind (wpAny_pyHash_tuple (by show X.A.units + 1 < cLine; omega) (I.isT hb) ?_)
  have tup : ∀ p ∈ L, IsT X.prog X.w s.heap p.2 p.1 := fun p hp => I.isT (hL p hp)
  have hx : IsT X.prog X.w s.heap k b := I.isT hb
  have fit : ∀ n : Nat, t.fits es.size = true := fun _ => fits_of T rows (by omega)
  refine wpAny_bind ?_
  unfold setFind
  rw [show (100000 : Nat) = 99999 + 1 from rfl]
  unfold setFindIn
  refine wpAny_bind (wpAny_setState_of (s := { s with toks := s.toks + (k.length + 1) }) ho hd (fit 0) ?_)
  dsimp only
  refine wp_if_neg (by simp [byScan, Value.scannable]) ?_
  have fin : ∀ oi : Option Nat, oi.isSome = decide (k ∈ L.map (·.2)) → ∃ v, Fin.done (Flow.ret (Value.bool oi.isSome)) = Fin.done (Flow.ret v) ∧
      wpAny (model X.prog X.w) X.A (truthy v) (fun c s' => wpAny (model X.prog X.w) X.A (pure (Value.bool c)) (EP X pins σ Q) X.xe s') X.xe { s with toks := s.toks + (k.length + 1) } := fun oi e =>
    ⟨_, rfl, wpAny_truthy_bool (wpAny_pure ⟨.bl _, H, I.tok _, rfl, by rw [e]; exact q⟩)⟩
  refine wpAny_bind (seek_all (s := { s with toks := s.toks + (k.length + 1) }) R tup false hx (by show X.A.units + 1 < cLine; omega) (fun hm oi hoi => ?_) fun K hm _ _ => ?_)
  · dsimp only
    refine wpAny_pure (wpAny_pure ?_)
    show wpAny _ _ (ret (Value.bool oi.isSome)) _ _ _
    refine wpAny_pure (fin oi ?_)
    have ne := hoi rfl
    cases oi with
    | none => exact absurd rfl ne
    | some z => exact (decide_eq_true hm).symm
  · dsimp only
    refine wpAny_pure (wpAny_pure ?_)
    show wpAny _ _ (ret (Value.bool (none : Option Nat).isSome)) _ _ _
    exact wpAny_pure (fin none (decide_eq_false hm).symm)
end
end Vf

/-! Loops and small readings. -/
namespace Vf
open PySem PySem.Spec PyProof.Rows L2 Evl
theorem hu10 {A : Around} {k : Nat} (hr : Room k A) : A.units + 10 < cLine := Nat.lt_of_le_of_lt (Nat.add_le_add_left (by decide : 10 ≤ 64) _) hr.units
/-- for i, x in enumerate(xs) -/
theorem for_enumL {K : PySem.W.Frag} {a : Addr} {xs : List V} {g : TG} {tb : TS} {D : Ends} {σ : L2.St} {H : Hp} (Pv : Nat → L2.St → Hp → Prop) (h0 : Pv 0 σ H) (hl : ∀ i σ H, Pv i σ H → SqL K H a xs)
    (hs : ∀ (i : Nat) (x : V) (T : Addr) (σ : L2.St) (H : Hp), xs[i]? = some x → Pv i σ H → H T = none → g (.ref T) σ (upd H T (.tup [.int (i : Nat), x])) fun σ2 H2 => tb { D with nx := Pv (i + 1), ct := Pv (i + 1), bk := D.nx } σ2 H2)
    (hd : ∀ σ H, Pv xs.length σ H → D.nx σ H) :
    ∃ W : Nat → Nat → L2.St → Hp → Prop, (∃ m, W 0 m σ H) ∧ ∀ i m σ H, W i m σ H →
      ((Ite K a).stop i H ∧ D.nx σ H) ∨ ((Ite K a).go i H ∧ ∃ N : L2.St → Hp → Prop, (∀ σ' H', N σ' H' → ∃ m', m' < m ∧ W (i + 1) m' σ' H') ∧
        ∀ v H', (Ite K a).yld i H v H' → g v σ H' fun σ2 H2 => tb { D with nx := N, ct := N, bk := D.nx } σ2 H2) := by
  refine ⟨fun i m σ H => i + m = xs.length ∧ Pv i σ H, ⟨xs.length, Nat.zero_add _, h0⟩, ?_⟩
  rintro i m σ H ⟨him, p⟩
  have q := hl i σ H p
  rcases Nat.lt_or_ge i xs.length with hi | hi
  · refine .inr ⟨⟨xs, xs[i], q, List.getElem?_eq_getElem hi⟩, Pv (i + 1), fun σ' H' p' => ⟨m - 1, by omega, by omega, p'⟩, fun v H' y => ?_⟩
    obtain ⟨T, x, rfl, nT, rfl, f⟩ := y
    exact hs i x T σ H (f xs q) p nT
  · refine .inl ⟨⟨xs, q, hi⟩, hd σ H ?_⟩
    have e : i = xs.length := by omega
    rwa [← e]
theorem Ex.set {H H' : Hp} {p : Addr} {o : HO} (e : Ex H H') (h : H p = none) : Ex H (upd H' p o) := Ex.mut e h
theorem take_snoc {α : Type} {l : List α} {i : Nat} {x : α} (h : l[i]? = some x) : l.take (i + 1) = l.take i ++ [x] := by
  rw [List.take_add_one, h]
  rfl
theorem map_at {α : Type} {ns : List α} {f : α → V} {i : Nat} {x : V} (h : (ns.map f)[i]? = some x) : ∃ n, ns[i]? = some n ∧ x = f n := by
  rw [List.getElem?_map, Option.map_eq_some_iff] at h
  obtain ⟨n, h1, h2⟩ := h
  exact ⟨n, h1, h2.symm⟩
theorem nodup_at {α : Type} {l : List α} (nd : l.Nodup) {i : Nat} {x : α} (h : l[i]? = some x) : x ∉ l.take i := by
  intro hm
  obtain ⟨j, hj, e⟩ := List.getElem_of_mem hm
  obtain ⟨hi, e2⟩ := List.getElem?_eq_some_iff.mp h
  have hj2 : j < i := by
    rw [List.length_take] at hj
    omega
  rw [List.getElem_take] at e
  exact absurd ((List.getElem_inj nd).mp (e.trans e2.symm)) (Nat.ne_of_lt hj2)
/-- a tuple stays while another object changes -/
theorem sqT_upd {K : PySem.W.Frag} {H : Hp} {a p : Addr} {xs : List V} {o o' : HO} (h : SqT K H a xs) (hp : H p = some o) (no : ∀ ys, o ≠ .tup ys) (nf : ∀ ob u, o ≠ .frz ob u) : SqT K (upd H p o') a xs := by
  rcases h with (h | ⟨ob, h⟩) | h
  · have ne : a ≠ p := fun e => by
      rw [e, hp] at h
      exact no _ (Option.some.inj h)
    exact .inl (.inl (by rw [upd_ne ne]; exact h))
  · have ne : a ≠ p := fun e => by
      rw [e, hp] at h
      exact nf _ _ (Option.some.inj h)
    exact .inl (.inr ⟨ob, by rw [upd_ne ne]; exact h⟩)
  · exact .inr h
/-- a list stays while another object, that is no list, changes; or a new one -/
theorem sqL_upd {K : PySem.W.Frag} {H : Hp} {a p : Addr} {xs : List V} {o o' : HO} (h : SqL K H a xs) (hp : H p = some o) (no : ∀ ys, o ≠ .lst ys) (nf : ∀ ob u, o ≠ .frz ob u) : SqL K (upd H p o') a xs := by
  rcases h with (h | ⟨ob, h⟩) | h
  · have ne : a ≠ p := fun e => by
      rw [e, hp] at h
      exact no _ (Option.some.inj h)
    exact .inl (.inl (by rw [upd_ne ne]; exact h))
  · have ne : a ≠ p := fun e => by
      rw [e, hp] at h
      exact nf _ _ (Option.some.inj h)
    exact .inl (.inr ⟨ob, by rw [upd_ne ne]; exact h⟩)
  · exact .inr h
end Vf

/-! Comprehensions over ranges; a new list of new lists. -/
namespace Vf
open PySem PySem.Spec PyProof.Rows L2 Evl
section
variable {K : PySem.W.Frag} {σ : L2.St} {H H' : Hp} {ta : TA} {te : TE} {t : TT}
theorem el_lcR2 {j : Nat} {vs : List Nat} {lo n : Int} (f : Nat → Bool) (v : Nat → V) (h : EvA ta σ H [.int lo, .int n]) (hn : -40000 ≤ lo ∧ lo ≤ 40000 ∧ -40000 ≤ n ∧ n - lo ≤ 40000)
    (hw : ∀ x, wipe ((wipe σ vs).set j (some x)) vs = wipe σ vs) (ht : ∀ (i : Nat) H1, Ex H H1 → lo + (i : Int) < n → EvT t ((wipe σ vs).set j (some (.int (lo + (i : Int))))) H1 (f i))
    (he : ∀ (i : Nat) H1, Ex H H1 → lo + (i : Int) < n → f i = true → Ev te ((wipe σ vs).set j (some (.int (lo + (i : Int))))) H1 (v i)) :
    EvL (tLc (iRng2 ta) (gName j) t te vs) σ H (given (n - lo).toNat f v) := by
  intro H0 e Q q
  refine h H0 e _ fun H1 e1 => ⟨lo, n, rfl, by omega, fun Dl hD => ?_⟩
  refine lc_range (lo := lo) (n := (n - lo).toNat) (Cw H1 f v Dl) ⟨hD, Ex.new hD, upd_same⟩ (fun i H' hi p => ⟨hw _, ?_⟩) fun H' p => q Dl H' (fresh_back e1 p.1) (e1.trans p.2.1) p.2.2
  exact cw_turn p (by omega) (ht i H1 (e.trans e1) (by omega)) fun hf => he i H1 (e.trans e1) (by omega) hf

/-- a new list of new lists, seen from H -/
def LLAt (H H2 : Hp) (D : Addr) (ls : List (List V)) : Prop :=
  ∃ ps : List Addr, H2 D = some (.lst (ps.map V.ref)) ∧ ps.length = ls.length ∧ D ∉ ps ∧ ∀ (i : Nat) (p : Addr) (l : List V), ps[i]? = some p → ls[i]? = some l → H p = none ∧ H2 p = some (.lst l)
def EvLL (te : TE) (σ : L2.St) (H : Hp) (ls : List (List V)) : Prop := ∀ H1, Ex H H1 → ∀ Q : VK, (∀ D H2, H1 D = none → Ex H1 H2 → LLAt H1 H2 D ls → Q (.ref D) H2) → te σ H1 Q
def RetLL (ls : List (List V)) (H : Hp) (Q : VK) : Prop := ∀ D H2, H D = none → Ex H H2 → LLAt H H2 D ls → Q (.ref D) H2
theorem LLAt.back {H H1 H2 : Hp} {D : Addr} {ls : List (List V)} (e : Ex H H1) (h : LLAt H1 H2 D ls) : LLAt H H2 D ls := by
  obtain ⟨ps, a, b, c, d⟩ := h
  exact ⟨ps, a, b, c, fun i p l x y => ⟨fresh_back e (d i p l x y).1, (d i p l x y).2⟩⟩
theorem LLAt.on {H H2 H3 : Hp} {D : Addr} {ls : List (List V)} (h : LLAt H H2 D ls) (e : Ex H2 H3) : LLAt H H3 D ls := by
  obtain ⟨ps, a, b, c, d⟩ := h
  exact ⟨ps, e _ _ a, b, c, fun i p l x y => ⟨(d i p l x y).1, e _ _ (d i p l x y).2⟩⟩
theorem RetLL.go {ls : List (List V)} {Q : VK} (k : RetLL ls H Q) (e : Ex H H') {D : Addr} {H2 : Hp} (hD : H' D = none) (e2 : Ex H' H2) (h : LLAt H' H2 D ls) : Q (.ref D) H2 :=
  k D H2 (fresh_back e hD) (e.trans e2) (h.back e)
/-- the rows so far -/
def Rw (H : Hp) (f : Nat → Bool) (L : Nat → List V) (Dl : Addr) (i : Nat) (H' : Hp) : Prop := H Dl = none ∧ Ex H H' ∧ LLAt H H' Dl (((List.range i).filter f).map L)
theorem rw_turn {H H' : Hp} {f : Nat → Bool} {L : Nat → List V} {Dl : Addr} {i : Nat} {σ2 : L2.St} (p : Rw H f L Dl i H') (hi : i < 50000) (ht : EvT t σ2 H (f i)) (he : f i = true → EvL te σ2 H (L i)) :
    t σ2 H' fun b H3 => if b = true then te σ2 H3 fun y H4 => ∃ acc, H4 Dl = some (.lst acc) ∧ acc.length < sizeLine ∧ Rw H f L Dl (i + 1) (upd H4 Dl (.lst (acc ++ [y]))) else Rw H f L Dl (i + 1) H3 := by
  obtain ⟨p1, p2, p3⟩ := p
  refine ht H' p2 _ fun H3 e3 => ?_
  cases hf : f i with
  | true =>
    show te σ2 H3 fun y H4 => ∃ acc, H4 Dl = some (.lst acc) ∧ acc.length < sizeLine ∧ Rw H f L Dl (i + 1) (upd H4 Dl (.lst (acc ++ [y])))
    refine he hf H3 (p2.trans e3) _ fun q H4 nq e4 hq => ?_
    obtain ⟨ps, a, b, c, d⟩ := (p3.on e3).on e4
    have len : ps.length ≤ i := by
      rw [b, List.length_map]
      have z := List.length_filter_le f (List.range i)
      rwa [List.length_range] at z
    have neD : q ≠ Dl := fun z => by
      have a3 := (p3.on e3)
      obtain ⟨_, a3, _⟩ := a3
      rw [← z, nq] at a3
      cases a3
    refine ⟨ps.map V.ref, a, sz_lt (by rw [List.length_map]; omega), p1, Ex.mut ((p2.trans e3).trans e4) p1, ps ++ [q], ?_, ?_, ?_, ?_⟩
    · rw [upd_same, List.map_append]
      rfl
    · rw [List.range_succ, List.filter_append, List.filter_cons, if_pos (by rw [hf])]
      simp [b]
    · intro z
      rcases List.mem_append.mp z with z | z
      · exact c z
      · exact neD (List.mem_singleton.mp z).symm
    · intro k pp l hk hl
      rw [List.range_succ, List.filter_append, List.filter_cons, if_pos (by rw [hf])] at hl
      simp only [List.filter_nil, List.map_append, List.map_cons, List.map_nil] at hl
      by_cases hk2 : k < ps.length
      · rw [List.getElem?_append_left hk2] at hk
        rw [List.getElem?_append_left (by rw [← b]; exact hk2)] at hl
        obtain ⟨d1, d2⟩ := d k pp l hk hl
        exact ⟨d1, by rw [upd_ne (show pp ≠ Dl from fun z => c (by rw [← z]; exact List.mem_of_getElem? hk))]; exact d2⟩
      · have ek : k = ps.length := by
          have z := (List.getElem?_eq_some_iff.mp hk).1
          rw [List.length_append, List.length_singleton] at z
          omega
        rw [ek, List.getElem?_append_right (Nat.le_refl _), Nat.sub_self] at hk
        rw [ek, b, List.getElem?_append_right (Nat.le_refl _), Nat.sub_self] at hl
        cases hk
        cases hl
        exact ⟨fresh_back (p2.trans e3) nq, by rw [upd_ne neD]; exact hq⟩
  | false =>
    show Rw H f L Dl (i + 1) H3
    refine ⟨p1, p2.trans e3, ?_⟩
    rw [List.range_succ, List.filter_append, List.filter_cons, if_neg (by rw [hf]; decide)]
    simpa using p3.on e3
theorem ell_lcR2 {j : Nat} {vs : List Nat} {lo n : Int} (f : Nat → Bool) (L : Nat → List V) (h : EvA ta σ H [.int lo, .int n]) (hn : -40000 ≤ lo ∧ lo ≤ 40000 ∧ -40000 ≤ n ∧ n - lo ≤ 40000)
    (hw : ∀ x, wipe ((wipe σ vs).set j (some x)) vs = wipe σ vs) (ht : ∀ (i : Nat) H1, Ex H H1 → lo + (i : Int) < n → EvT t ((wipe σ vs).set j (some (.int (lo + (i : Int))))) H1 (f i))
    (he : ∀ (i : Nat) H1, Ex H H1 → lo + (i : Int) < n → f i = true → EvL te ((wipe σ vs).set j (some (.int (lo + (i : Int))))) H1 (L i)) :
    EvLL (tLc (iRng2 ta) (gName j) t te vs) σ H (((List.range (n - lo).toNat).filter f).map L) := by
  intro H0 e Q q
  refine h H0 e _ fun H1 e1 => ⟨lo, n, rfl, by omega, fun Dl hD => ?_⟩
  refine lc_range (lo := lo) (n := (n - lo).toNat) (Rw H1 f L Dl) ⟨hD, Ex.new hD, [], upd_same, rfl, (by simp), (fun i p l x => by simp at x)⟩ (fun i H' hi p => ⟨hw _, ?_⟩)
    fun H' p => q Dl H' (fresh_back e1 p.1) (e1.trans p.2.1) (p.2.2.back e1)
  exact rw_turn p (by omega) (ht i H1 (e.trans e1) (by omega)) fun hf => he i H1 (e.trans e1) (by omega) hf
/-- over a list -/
theorem ell_lcL {a : Addr} {xs : List V} {tl : TE} {j : Nat} {vs : List Nat} (f : Nat → Bool) (L : Nat → List V) (h : Ev tl σ H (.ref a)) (hx : SqL K H a xs) (hz : xs.length ≤ 40000) (hw : ∀ x, wipe ((wipe σ vs).set j (some x)) vs = wipe σ vs)
    (ht : ∀ (i : Nat) (x : V) H1, Ex H H1 → xs[i]? = some x → EvT t ((wipe σ vs).set j (some x)) H1 (f i)) (he : ∀ (i : Nat) (x : V) H1, Ex H H1 → xs[i]? = some x → f i = true → EvL te ((wipe σ vs).set j (some x)) H1 (L i)) :
    EvLL (tLc (iList K tl) (gName j) t te vs) σ H (((List.range xs.length).filter f).map L) := by
  intro H0 e Q q
  refine h H0 e _ fun H1 e1 => ⟨a, rfl, ⟨xs, ex_l (e.trans e1) hx⟩, fun Dl hD => ?_⟩
  refine lc_list (xs := xs) (Rw H1 f L Dl) ⟨hD, Ex.new hD, [], upd_same, rfl, (by simp), (fun i p l x => by simp at x)⟩ (fun i H' _ p => ex_l ((e.trans e1).trans p.2.1) hx) (fun i x H' hi p => ⟨hw x, ?_⟩)
    fun H' p => q Dl H' (fresh_back e1 p.1) (e1.trans p.2.1) (p.2.2.back e1)
  have hlt := (List.getElem?_eq_some_iff.mp hi).1
  exact rw_turn p (by omega) (ht i x H1 (e.trans e1) hi) fun hf => he i x H1 (e.trans e1) hi hf
theorem et_yes : EvT tYes σ H true := fun H1 _ _ q => q H1 (Ex.refl H1)
theorem atI_int {l : List Int} {i : Int} (h0 : 0 ≤ i) (h1 : i < l.length) : atI (l.map V.int) i = some (.int (l.getD i.toNat 0)) := by
  obtain ⟨k, rfl⟩ : ∃ k : Nat, i = (k : Int) := ⟨i.toNat, by omega⟩
  have hk : k < l.length := by omega
  refine atI_nat ?_
  rw [List.getElem?_map, List.getElem?_eq_getElem hk, List.getD_eq_getElem?_getD, show ((k : Int)).toNat = k from rfl, List.getElem?_eq_getElem hk]
  rfl
/-- a built-in's call upon a new list -/
theorem ev_cbL {r : List V → Hp → VK → Prop} {xs : List V} {z : V} (h : EvL te σ H xs) (hr : ∀ p H1, Ex H H1 → H1 p = some (.lst xs) → RC r [.ref p] H1 z) : Ev (tCB r (tCons te tNil)) σ H z :=
  fun H1 e Q q => h H1 e _ fun p H2 _ e2 hp => hr p H2 (e.trans e2) hp H2 (Ex.refl H2) Q fun H3 e3 => q H3 (e2.trans e3)
theorem dec_vi (a b : Int) : decide (V.int a = V.int b) = decide (a = b) := by
  by_cases c : a = b
  · rw [decide_eq_true c, decide_eq_true (congrArg V.int c)]
  · rw [decide_eq_false c, decide_eq_false fun z => c (V.int.inj z)]
theorem given_ints (n : Nat) (f : Nat → Bool) (g : Nat → Int) : given n f (fun i => V.int (g i)) = (((List.range n).filter f).map g).map V.int := by
  unfold given
  rw [List.map_map]
  rfl
/-- [y for x in xs for y in x], the rows lists that stand -/
theorem el_flat {a : Addr} {as : List Addr} {rows : List (List V)} {tl : TE} {j j2 : Nat} {vs vs1 : List Nat} (h : Ev tl σ H (.ref a)) (hx : SqL K H a (as.map V.ref)) (hl : as.length = rows.length)
    (hr : ∀ (i : Nat) (b : Addr) (r : List V), as[i]? = some b → rows[i]? = some r → SqL K H b r) (hz : rows.flatten.length ≤ 40000) (hw : ∀ x, wipe ((wipe σ vs).set j (some x)) vs = wipe σ vs)
    (hw1 : ∀ x y, wipe ((wipe ((wipe σ vs).set j (some x)) vs1).set j2 (some y)) vs1 = wipe ((wipe σ vs).set j (some x)) vs1) (hj : ∀ x, ((wipe σ vs).set j (some x))[j]? = some (some x))
    (hj2 : ∀ x y, ((wipe ((wipe σ vs).set j (some x)) vs1).set j2 (some y))[j2]? = some (some y)) :
    EvL (tLc2 (iList K tl) (gName j) tYes (iList K (tVar j)) (gName j2) tYes (tVar j2) vs vs1) σ H rows.flatten := by
  intro H0 e Q q
  refine h H0 e _ fun H1 e1 => ⟨a, rfl, ⟨_, ex_l (e.trans e1) hx⟩, fun D hD => ?_⟩
  refine ⟨fun i m H' => i + m = rows.length ∧ Ex H1 H' ∧ H' D = some (.lst (rows.take i).flatten), ⟨rows.length, Nat.zero_add _, Ex.new hD, upd_same⟩, ?_⟩
  rintro i m H2 ⟨him, e2, h2⟩
  have hS2 : SqL K H2 a (as.map V.ref) := ex_l ((e.trans e1).trans e2) hx
  rcases Nat.lt_or_ge i rows.length with hi | hi
  · have hia : i < as.length := hl ▸ hi
    refine .inr ⟨⟨_, .ref as[i], hS2, by rw [List.getElem?_map, List.getElem?_eq_getElem hia]; rfl⟩, fun H' => Ex H1 H' ∧ H' D = some (.lst (rows.take (i + 1)).flatten), fun H' p => ⟨m - 1, by omega, by omega, p⟩, fun x H' hy => ?_⟩
    obtain ⟨rfl, hy⟩ := hy
    have ex : x = .ref as[i] := Option.some.inj ((hy _ hS2).symm.trans (by rw [List.getElem?_map, List.getElem?_eq_getElem hia]; rfl))
    subst ex
    have hb : as[i]? = some as[i] := List.getElem?_eq_getElem hia
    have hrow : rows[i]? = some rows[i] := List.getElem?_eq_getElem hi
    have hR : ∀ H', Ex H1 H' → SqL K H' as[i] rows[i] := fun H' e' => ex_l ((e.trans e1).trans e') (hr i _ _ hb hrow)
    refine ⟨hw _, ⟨_, hj _, as[i], rfl, ⟨_, hR _ e2⟩, ?_⟩⟩
    refine ⟨fun c k H' => c + k = rows[i].length ∧ Ex H1 H' ∧ H' D = some (.lst ((rows.take i).flatten ++ rows[i].take c)), ⟨rows[i].length, Nat.zero_add _, e2, by simpa using h2⟩, ?_⟩
    rintro c k H3 ⟨hck, e3, h3⟩
    rcases Nat.lt_or_ge c rows[i].length with hc | hc
    · refine .inr ⟨⟨_, rows[i][c], hR _ e3, List.getElem?_eq_getElem hc⟩, fun H' => Ex H1 H' ∧ H' D = some (.lst ((rows.take i).flatten ++ rows[i].take (c + 1))), fun H' p => ⟨k - 1, by omega, by omega, p⟩, fun y H' hy => ?_⟩
      obtain ⟨rfl, hy⟩ := hy
      have ey : y = rows[i][c] := Option.some.inj ((hy _ (hR _ e3)).symm.trans (List.getElem?_eq_getElem hc))
      subst ey
      refine ⟨hw1 _ _, ⟨_, hj2 _ _, _, h3, ?_, ?_, ?_⟩⟩
      · refine sz_lt ?_
        have z0 : rows.flatten = (rows.take (i + 1)).flatten ++ (rows.drop (i + 1)).flatten := by rw [← List.flatten_append, List.take_append_drop]
        rw [take_snoc hrow, List.flatten_append] at z0
        have z := congrArg List.length z0
        simp only [List.length_append, List.flatten_cons, List.flatten_nil, List.append_nil] at z
        rw [List.length_append, List.length_take]
        omega
      · exact Ex.mut e3 hD
      · rw [upd_same, take_snoc (List.getElem?_eq_getElem hc), List.append_assoc]
    · refine .inl ⟨⟨_, hR _ e3, hc⟩, e3, ?_⟩
      show H3 D = _
      rw [h3, List.take_of_length_le hc, take_snoc hrow, List.flatten_append]
      simp
  · refine .inl ⟨⟨_, hS2, by rw [List.length_map, hl]; exact hi⟩, q D H2 (fresh_back e1 hD) (e1.trans e2) ?_⟩
    rw [h2, List.take_of_length_le hi]
end
/-! ### rules told by the module's facts (a comprehension's block has them from its def) -/
section
variable {X : Cx} {K : PySem.W.Frag}
theorem ix_listK (h : X.K = K) : IxR X (rIxL K) := by subst h; exact ix_list
theorem ix_tupK (h : X.K = K) : IxR X (rIxT K) := by subst h; exact ix_tup
theorem op_inK (h : X.K = K) : OpR X (compareOp .In) (rIn K false) := by subst h; exact op_in_seq
theorem op_notInK (h : X.K = K) : OpR X (compareOp .NotIn) (rIn K true) := by subst h; exact op_notIn_seq
theorem sl_listK (h : X.K = K) : SlR X (rSlL K) := by subst h; exact sl_list
theorem call_lenK (h : X.K = K) : CallR X (.builtin "len") (rLenS K) := by subst h; exact call_len_seq
theorem call_listK (h : X.K = K) : CallR X (.type "list") (rListS K) := by subst h; exact call_list_of
theorem cr_sortedK (h : X.K = K) : CallR X (.builtin "sorted") (rSorted K) := by subst h; exact cr_sorted
theorem cr_maxK (hc : X.calm = true) (h : X.K = K) : CallR X (.builtin "max") (rMax K) := by subst h; exact cr_max hc
theorem cr_allK (hc : X.calm = true) (h : X.K = K) : CallR X (.builtin "all") (rAll K) := by subst h; exact cr_all hc
theorem mt_countK (h : X.K = K) : MtR X "list.count" (rCntI K) := by subst h; exact mt_lcount
theorem pe_revK {e : Expr} {te : TE} {k : Nat} {p1 p2 p3 pos : Pos} (h : X.K = K) (he : PE X e te) : PE X (.Subscript e (.Slice none none (some (.UnaryOp .USub (.Constant (.int 1) k p1) p2)) p3) pos) (tRevL K te) := by subst h; exact pe_revL he
theorem pi_listK {tg l : Expr} {tl : TE} (h : X.K = K) (hl : PE X l tl) : PI X tg l (iList K tl) := by subst h; exact pi_list hl
theorem pg_unlK {pos : Pos} {es : List Expr} {k : Nat} {t : TGs} {n : Nat} (h : X.K = K) (hc : X.calm = true) (hs : PGs X es t)
    (hn : (assignEach es X.env).length = n := by rfl) (hst : (assignEach es X.env).findIdx? (·.1) = none := by rfl) : PG X (.Tuple es k pos) (gUnl K n t) := by subst h; exact pg_unl hc hs hn hst
theorem pg_tupK {pos : Pos} {es : List Expr} {k : Nat} {t : TGs} {n : Nat} (h : X.K = K) (hc : X.calm = true) (hs : PGs X es t)
    (hn : (assignEach es X.env).length = n := by rfl) (hst : (assignEach es X.env).findIdx? (·.1) = none := by rfl) : PG X (.Tuple es k pos) (gTup K n t) := by subst h; exact pg_tup hc hs hn hst
theorem pe_bmK {o e : Expr} {es : List Expr} {to : TE} {t : TA} {apos cpos : Pos} {T id : String} {name : Str} {r : V → List V → Hp → VK → Prop} (h : X.K = K) (pa : PlainAttrs T) (slot : Slot T name id)
    (hty : typeOf (.builtin id) = pure (.type "method_descriptor")) (hm : MtR X id r) (ho : PE X o to) (ha : PA X (e :: es) t)
    (k1 : attributeBase o name X.env (eval o X.env) = eval o X.env := by rfl)
    (k2 : ((backTo cpos (starEach (e :: es) X.env)).all (fun x => !x.1) && (backToKw cpos (keywordEach [] X.env)).all (fun x => x.1.isSome) &&
      decide ((e :: es).length + ([] : List Keyword).length + (if ([] : List Keyword).isEmpty then 0 else 1) < 30)) = true := by rfl)
    (k3 : (apos.endLine == cpos.line) = true := by rfl) (k4 : starEach (e :: es) X.env = (false, eval e X.env) :: starEach es X.env := by rfl)
    (k5 : (backTo cpos (starEach es X.env)).any (·.1) = false := by rfl) : PE X (.Call (.Attribute o name apos) (e :: es) [] cpos) (tBM K T r to t) := by
  subst h
  exact pe_bm pa slot hty hm ho ha k1 k2 k3 k4 k5
end
end Vf

/-! Data at any depth: what may be compared and shown. -/
namespace Vf
open PySem PySem.Spec PyProof.Rows L2 Evl
/-- data of at most dep lists one in the other, shown by at most len signs -/
structure Dn (d : PyData) (len dep : Nat) : Prop where
  len_ : d.shown.length ≤ len
  show_ : d.showable = true
  dict_ : d.hasDict = false
  lay_ : d.canLay0 = true
  dep_ : d.depth ≤ dep
theorem Dn.mono {d : PyData} {len dep len' dep' : Nat} (h : Dn d len dep) (h1 : len ≤ len') (h2 : dep ≤ dep') : Dn d len' dep' :=
  ⟨Nat.le_trans h.len_ h1, h.show_, h.dict_, h.lay_, Nat.le_trans h.dep_ h2⟩
theorem Dn.int {i : Int} (h0 : 0 ≤ i) (h1 : i < 10 ^ 10) : Dn (.int i) 10 0 := by
  refine ⟨toString_length_le h0 (by decide) h1, ?_, rfl, rfl, Nat.le_refl _⟩
  refine decide_eq_true ?_
  have h2 : i.natAbs < 2 ^ 40 := by omega
  by_cases c : i.natAbs = 0
  · rw [c]; decide
  · exact Nat.lt_of_lt_of_le ((Nat.log2_lt c).2 h2) (by decide)
theorem Dn.bool (b : Bool) : Dn (.bool b) 5 0 := by
  refine ⟨?_, rfl, rfl, rfl, Nat.le_refl _⟩
  cases b <;> decide
theorem textFrom_le : ∀ (ts : List Str) (k : Nat) (acc : Str), (textFrom k acc ts).length ≤ acc.length + piled ts
  | [], _, _ => Nat.le_add_right _ _
  | t :: r, k, acc => by
    have h := textFrom_le r (k + 1) (acc ++ (if k > 0 then ", " else "" : String) ++ t)
    have e : (acc ++ (if k > 0 then ", " else "" : String) ++ t).length ≤ acc.length + 2 + t.length := by
      rw [strLen_append, strLen_append]
      split
      · exact Nat.le_refl _
      · show acc.length + 0 + t.length ≤ _
        omega
    rw [piled_cons]
    show (textFrom (k + 1) _ r).length ≤ _
    omega
theorem dn_all {len dep : Nat} : ∀ {ds : List PyData}, (∀ d ∈ ds, Dn d len dep) →
    piled (PyData.shownAll ds) ≤ (len + 2) * ds.length ∧ PyData.showableAll ds = true ∧ PyData.hasDictAll ds = false ∧ PyData.canLayAll0 ds = true ∧ PyData.depthAll ds ≤ dep
  | [], _ => ⟨Nat.zero_le _, rfl, rfl, rfl, Nat.zero_le _⟩
  | d :: ds, h => by
    obtain ⟨a1, a2, a3, a4, a5⟩ := h d List.mem_cons_self
    obtain ⟨b1, b2, b3, b4, b5⟩ := dn_all (ds := ds) fun x hx => h x (List.mem_cons_of_mem _ hx)
    refine ⟨?_, ?_, ?_, ?_, ?_⟩
    · show piled (d.shown :: PyData.shownAll ds) ≤ _
      rw [piled_cons, List.length_cons, Nat.mul_add]
      omega
    · show (d.showable && PyData.showableAll ds) = true
      rw [a2, b2]; rfl
    · show (d.hasDict || PyData.hasDictAll ds) = false
      rw [a3, b3]; rfl
    · show (d.canLay0 && PyData.canLayAll0 ds) = true
      rw [a4, b4]; rfl
    · show max d.depth (PyData.depthAll ds) ≤ dep
      omega
theorem Dn.list {ds : List PyData} {len dep : Nat} (h : ∀ d ∈ ds, Dn d len dep) : Dn (.list ds) ((len + 2) * ds.length + 2) (dep + 1) := by
  obtain ⟨b1, b2, b3, b4, b5⟩ := dn_all h
  refine ⟨?_, b2, b3, b4, Nat.succ_le_succ b5⟩
  show (textFrom 0 "[" (PyData.shownAll ds) ++ "]").length ≤ _
  have z := textFrom_le (PyData.shownAll ds) 0 "["
  rw [strLen_append]
  have e1 : (Str.ofString "[").length = 1 := by decide
  have e2 : (Str.ofString "]").length = 1 := by decide
  rw [e1] at z
  rw [e2]
  omega
abbrev dInts (ns : List Int) : PyData := .list (ns.map .int)
abbrev dRows (ls : List (List Int)) : PyData := .list (ls.map dInts)
theorem dn_ints {ns : List Int} (h : ∀ x ∈ ns, 0 ≤ x ∧ x < 10 ^ 10) : Dn (dInts ns) (12 * ns.length + 2) 1 := by
  have z := Dn.list (ds := ns.map .int) (len := 10) (dep := 0) fun d hd => by
    obtain ⟨x, hx, rfl⟩ := List.mem_map.mp hd
    exact Dn.int (h x hx).1 (h x hx).2
  rw [List.length_map] at z
  exact z
theorem dn_rows {ls : List (List Int)} {m : Nat} (h : ∀ l ∈ ls, l.length ≤ m ∧ ∀ x ∈ l, 0 ≤ x ∧ x < 10 ^ 10) : Dn (dRows ls) ((12 * m + 4) * ls.length + 2) 2 := by
  have z := Dn.list (ds := ls.map dInts) (len := 12 * m + 2) (dep := 1) fun d hd => by
    obtain ⟨l, hl, rfl⟩ := List.mem_map.mp hd
    exact (dn_ints (h l hl).2).mono (by have := (h l hl).1; omega) (Nat.le_refl _)
  rw [List.length_map] at z
  exact z
section
variable {K : PySem.W.Frag} {H H' : Hp}
theorem dp_list (ns : List Int) : DpAll K H (ns.map V.int) (ns.map .int) := by
  induction ns with
  | nil => exact .nil
  | cons n ns ih => exact .cons (.int n) ih
theorem dp_ints {a : Addr} {ns : List Int} (h : SqL K H a (ns.map V.int)) : Dp K H (.ref a) (dInts ns) := .lst h (dp_list ns)
theorem dp_rows {a : Addr} {ps : List Addr} {ls : List (List Int)} (h : SqL K H a (ps.map V.ref)) (hl : ps.length = ls.length) (hr : ∀ (i : Nat) (p : Addr) (l : List Int), ps[i]? = some p → ls[i]? = some l → SqL K H p (l.map V.int)) :
    Dp K H (.ref a) (dRows ls) := by
  refine .lst h ?_
  clear h
  induction ps generalizing ls with
  | nil =>
    cases ls with
    | nil => exact .nil
    | cons l ls => cases hl
  | cons p ps ih =>
    cases ls with
    | nil => cases hl
    | cons l ls =>
      exact .cons (dp_ints (hr 0 p l rfl rfl)) (ih (by simpa using hl) fun i p' l' h1 h2 => hr (i + 1) p' l' h1 h2)
mutual
theorem Dp.on (e : Ex H H') : ∀ (d : PyData) (v : V), Dp K H v d → Dp K H' v d
  | .none, _, h => by cases h; exact .non
  | .bool b, _, h => by cases h; exact .bl b
  | .int i, _, h => by cases h; exact .int i
  | .str x, _, h => by cases h; exact .str x
  | .list ds, _, h => by
    cases h with
    | lst hs ha => exact .lst (ex_l e hs) (DpAll.on e ds _ ha)
  | .tuple ds, _, h => by
    cases h with
    | tup hs ha => exact .tup (ex_t e hs) (DpAll.on e ds _ ha)
  | .dict _, _, h => by cases h
theorem DpAll.on (e : Ex H H') : ∀ (ds : List PyData) (vs : List V), DpAll K H vs ds → DpAll K H' vs ds
  | [], _, h => by cases h; exact .nil
  | d :: ds, _, h => by
    cases h with
    | cons h1 h2 => exact .cons (Dp.on e d _ h1) (DpAll.on e ds _ h2)
end
/-- what may be compared, item by item -/
def Sh (K : PySem.W.Frag) (H : Hp) (x : V) : Prop := ∃ e, Dp K H x e ∧ PyData.canLay0 e = true ∧ PyData.depth e ≤ 8
theorem Sh.int (i : Int) : Sh K H (.int i) := ⟨.int i, .int i, rfl, by simp [PyData.depth]⟩
theorem Sh.pair {a : Addr} {x y : Int} (h : SqL K H a [.int x, .int y]) : Sh K H (.ref a) :=
  ⟨dInts [x, y], dp_ints h, rfl, by simp [dInts, PyData.depth, PyData.depthAll]⟩
theorem sh_all : ∀ {xs : List V}, (∀ x ∈ xs, Sh K H x) → ∃ ds, DpAll K H xs ds ∧ ds.length = xs.length ∧ PyData.canLayAll0 ds = true ∧ PyData.depthAll ds ≤ 8
  | [], _ => ⟨[], .nil, rfl, rfl, by simp [PyData.depthAll]⟩
  | x :: xs, h => by
    obtain ⟨e, e1, e2, e3⟩ := h x List.mem_cons_self
    obtain ⟨ds, d1, d2, d3, d4⟩ := sh_all (xs := xs) fun y hy => h y (List.mem_cons_of_mem _ hy)
    refine ⟨e :: ds, .cons e1 d1, by simp [d2], ?_, ?_⟩
    · simp [PyData.canLayAll0, e2, d3]
    · simp only [PyData.depthAll]
      omega
/-- xs != [], the empty list new -/
theorem ne_nil {l p : Addr} {xs : List V} {Q : VK} (hl : SqL K H l xs) (hp : H p = some (.lst [])) (hx : ∀ x ∈ xs, Sh K H x) (q : Q (.bl (!xs.isEmpty)) H) : rNeD K (.ref l) (.ref p) H Q := by
  obtain ⟨ds, d1, d2, d3, d4⟩ := sh_all hx
  refine ⟨.list ds, .list [], .lst hl d1, .lst (.inl (.inl hp)) .nil, ?_, rfl, ?_⟩
  · refine Bool.and_eq_true_iff.mpr ⟨d3, decide_eq_true ?_⟩
    have z : (PyData.list ds).depth = PyData.depthAll ds + 1 := by simp only [PyData.depth]
    omega
  · have e : PyData.eqv (.list ds) (.list []) = xs.isEmpty := by
      cases ds with
      | nil =>
        cases xs with
        | nil => rfl
        | cons _ _ => cases d2
      | cons _ _ =>
        cases xs with
        | nil => cases d2
        | cons _ _ => rfl
    rw [e]
    exact q
end
end Vf

/-! a > b for data that are alike; lists of whole numbers by their first places that part. -/
namespace Vf
open PySem PySem.Spec PyProof.Rows L2 Evl
section
variable {X : Cx}
def rGtD (K : PySem.W.Frag) : R2 := fun x y H Q => ∃ d e, Dp K H x d ∧ Dp K H y e ∧ PySem.W.alike d e = true ∧ d ≠ .none ∧ d.depth ≤ 60 ∧ Q (.bl (PySem.W.dataLt e d)) H
theorem op_gtD (hu : X.A.units + 64 < cLine) : OpR X (compareOp .Gt) (rGtD X.K) := by
  intro pins s σ H x y v u Q I rx ry h
  obtain ⟨d, e, hd, he, ha, hn, hdp, q⟩ := h
  obtain ⟨as, r1⟩ := Dp.reads I d x v hd rx
  obtain ⟨bs, r2⟩ := Dp.reads I e y u he ry
  exact PySem.W.gt_data r1 r2 ha hn (Nat.lt_of_le_of_lt (Nat.add_le_add_left (Nat.le_trans (Nat.min_le_left _ _) (Nat.le_trans hdp (by decide : 60 ≤ 64))) _) hu) ⟨.bl _, H, I, rfl, q⟩
end
theorem alike_ints : ∀ (a b : List Int), PySem.W.alike (dInts a) (dInts b) = true := by
  have key : ∀ a b : List Int, PySem.W.alikeAll (a.map .int) (b.map .int) = true := by
    intro a
    induction a with
    | nil => intro b; cases b <;> rfl
    | cons x a ih =>
      intro b
      cases b with
      | nil => rfl
      | cons y b => exact ih b
  exact fun a b => key a b
/-- a is b, or less where they part first -/
def LexLe : List Int → List Int → Prop
  | [], _ => True
  | _ :: _, [] => False
  | a :: as, b :: bs => a < b ∨ (a = b ∧ LexLe as bs)
theorem not_gt : ∀ {a b : List Int}, LexLe a b → PySem.W.dataLt (dInts b) (dInts a) = false := by
  have key : ∀ {a b : List Int}, LexLe a b → PyProof.Rows.lexLt itemOrd (PySem.W.keyToksAll (b.map .int)) (PySem.W.keyToksAll (a.map .int)) = false := by
    intro a
    induction a with
    | nil =>
      intro b _
      cases b with
      | nil => rfl
      | cons y b =>
        show PyProof.Rows.lexLt itemOrd (.inl 1 :: _) (.inl 0 :: []) = false
        rw [lex_diff (O := itemOrd) (by decide)]
        rfl
    | cons x a ih =>
      intro b h
      cases b with
      | nil => exact h.elim
      | cons y b =>
        show PyProof.Rows.lexLt itemOrd (.inl 1 :: .inl y :: _) (.inl 1 :: .inl x :: _) = false
        rw [lex_self (O := itemOrd)]
        rcases h with h | ⟨h, k⟩
        · rw [lex_diff (O := itemOrd) (by intro z; injection z; omega)]
          show decide (y < x) = false
          exact decide_eq_false (by omega)
        · subst h
          rw [lex_self (O := itemOrd)]
          exact ih k
  intro a b h
  exact key h
end Vf

/-! Slices with a step, left %= made, calls by keywords in the other order, defaults. -/
namespace Vf
open PySem PySem.Spec PyProof.Rows L2 Evl
/-! ### xs[lo:hi:st] -/
def idxF (lo hi st : Option Int) (n : Nat) : List Nat := sliceRange (sliceBounds lo hi st n).1 (sliceBounds lo hi st n).2.1 (sliceBounds lo hi st n).2.2
def pickL {α : Type} (xs : List α) (lo hi st : Option Int) : List α := (idxF lo hi st xs.length).filterMap (xs[·]?)
theorem pick_map {α β : Type} (f : α → β) (xs : List α) (lo hi st : Option Int) : pickL (xs.map f) lo hi st = (pickL xs lo hi st).map f := by
  unfold pickL
  rw [List.length_map, List.map_filterMap]
  refine congrArg (fun g => List.filterMap g _) (funext fun i => ?_)
  rw [List.getElem?_map]
theorem vals_at {xs : List V} {its : List Value} (r : Vals xs its) : ∀ i : Nat, RelO (xs[i]?) (its[i]?) := by
  induction r with
  | nil => intro i; exact True.intro
  | cons h _ ih =>
    intro i
    cases i with
    | zero => exact h
    | succ i => simpa using ih i
theorem vals_pick {xs : List V} {its : List Value} (r : Vals xs its) : ∀ idx : List Nat, Vals (idx.filterMap (xs[·]?)) (idx.filterMap (its[·]?))
  | [] => .nil
  | i :: idx => by
    have a := vals_at r i
    rw [List.filterMap_cons, List.filterMap_cons]
    cases hx : xs[i]? with
    | none =>
      cases hi : its[i]? with
      | none => exact vals_pick r idx
      | some u => rw [hx, hi] at a; exact a.elim
    | some x =>
      cases hi : its[i]? with
      | none => rw [hx, hi] at a; exact a.elim
      | some u => rw [hx, hi] at a; exact .cons a (vals_pick r idx)
theorem pick_le (its : List Value) (lo hi st : Option Int) : (pickL its lo hi st).length ≤ its.length := by
  have := slicePick_size_le its.toArray lo hi st
  unfold slicePick at this
  rw [List.size_toArray, List.size_toArray] at this
  unfold pickL idxF
  have e : (fun i : Nat => its.toArray[i]?) = fun i : Nat => its[i]? := funext fun i => by simp
  rw [e] at this
  exact this
theorem slice_is (its : List Value) (lo hi st : Option Int) : slicePick its.toArray lo hi st = (pickL its lo hi st).toArray := by
  unfold slicePick pickL idxF
  rw [List.size_toArray]
  refine congrArg List.toArray (congrArg (fun g => List.filterMap g _) (funext fun i => ?_))
  simp
def tSl3 (K : PySem.W.Frag) (te : TE) (tl th ts : TO) : TE := fun σ H Q => te σ H fun x H1 => ∃ a, x = .ref a ∧ tl σ H1 fun lo H2 => th σ H2 fun hi H3 => ts σ H3 fun st H4 =>
  ∃ xs, SqL K H4 a xs ∧ st ≠ some 0 ∧ ∀ p, H4 p = none → Q (.ref p) (upd H4 p (.lst (pickL xs lo hi st)))
section
variable {X : Cx} {K : PySem.W.Frag}
theorem pe_slice3 {e es : Expr} {lo hi : Option Expr} {te : TE} {tl th ts : TO} {p2 pos : Pos} (hK : X.K = K) (he : PE X e te) (hl : PO X lo tl) (hu : PO X hi th) (hs : PO X (some es) ts) :
    PE X (.Subscript e (.Slice lo hi (some es) p2) pos) (tSl3 K te tl th ts) := by
  subst hK
  refine ⟨fun pins s σ H Q I h => ?_⟩
  refine Subscript_ (thn (he.run pins s σ H _ I h) fun v s1 ⟨x, H1, I1, r1, q1⟩ => ?_)
  obtain ⟨a, ex, q1⟩ := q1
  subst ex
  cases r1
  refine wpAny_Slice (thn (hl.run pins s1 σ H1 _ I1 q1) fun vl s2 ⟨l, H2, I2, pl, q2⟩ => thn (hu.run pins s2 σ H2 _ I2 q2) fun vu s3 ⟨u, H3, I3, pu, q3⟩ => ?_)
  refine thn (hs.run pins s3 σ H3 _ I3 q3) fun vs s4 ⟨st, H4, I4, ps, q4⟩ => ?_
  obtain ⟨xs, hx, h0, q⟩ := q4
  have I5 : Inv X pins σ H4 { s4 with heap := s4.heap.push { cls := .type "slice", data := .fields #[vl, vu, vs] } } := I4.kept (t' := s4.toks) fun b ob q => Heap.get?_push_of_some _ q
  obtain ⟨its, r, ht, hz⟩ := I5.list hx
  have hlen := r.length
  show wpAny (model X.prog X.w) X.A (subscriptTail e (.Slice lo hi (some es) p2) (.ref a) (.ref s4.heap.objs.size)) (EP X pins σ Q) X.xe { s4 with heap := s4.heap.push { cls := .type "slice", data := .fields #[vl, vu, vs] } }
  refine tail_any (ops := [.ref a, .ref s4.heap.objs.size]) ht.isList.typeIs (PySem.slot_list_getitem.lookup) ?_ (by with_unfolding_all rfl)
  refine wpAny_getItem_list_slice ht.isList (Heap.IsSliceOf.new _ vl vu vs) pl pu ps h0 ?_ (by rw [List.size_toArray]; omega)
  rw [slice_is]
  refine ⟨.ref _, _, I5.laid (t' := s4.toks) (o := .lst (pickL xs l u st)) (fun b ob q => Heap.get?_push_of_some _ q) (Nat.le_refl _) ?_, rfl, q _ (I5.hok.fresh (Nat.le_refl _))⟩
  have rp : Vals (pickL xs l u st) (pickL its l u st) := by
    unfold pickL
    rw [hlen]
    exact vals_pick r _
  exact ⟨by rw [rp.length]; have := pick_le its l u st; omega, _, 0, rp, Heap.get?_push_size _ rfl⟩
theorem el_sl3 {σ : L2.St} {H : Hp} {te : TE} {tl th ts : TO} {a : Addr} {xs : List V} {lo hi st : Option Int} (h : Ev te σ H (.ref a)) (hl : EvO tl σ H lo) (hu : EvO th σ H hi) (hs : EvO ts σ H st) (hx : SqL K H a xs) (h0 : st ≠ some 0) :
    EvL (tSl3 K te tl th ts) σ H (pickL xs lo hi st) := fun H1 e Q q =>
  h H1 e _ fun H2 e2 => ⟨a, rfl, hl H2 (e.trans e2) _ fun H3 e3 => hu H3 ((e.trans e2).trans e3) _ fun H4 e4 => hs H4 (((e.trans e2).trans e3).trans e4) _ fun H5 e5 =>
    ⟨xs, ex_l ((((e.trans e2).trans e3).trans e4).trans e5) hx, h0, fun p np => q p _ (fresh_back (((e2.trans e3).trans e4).trans e5) np) ((((e2.trans e3).trans e4).trans e5).trans (Ex.new np)) upd_same⟩⟩
/-! ### left %= made -/
def ipM : TIp := fun x y H Q => ∃ i j, x = .int i ∧ y = .int j ∧ j ≠ 0 ∧ Q (.int (i.fmod j)) H
theorem ip_modN : PIp X .Mod ipM := by
  intro pins s σ H x y v u Q I r1 r2 h
  obtain ⟨i, j, e1, e2, hj, q⟩ := h
  subst e1; subst e2
  obtain ⟨t, rfl⟩ := r1
  obtain ⟨t', rfl⟩ := r2
  exact imod_int hj ⟨.int _, H, I.tok _, ⟨_, rfl⟩, q⟩
end
/-! ### parameters told by name, in the other order -/
def rev3 {α : Type} : List α → List α → List α
  | [], [a, b, c] => [c, b, a]
  | _, _ => []
def rev4 {α : Type} : List α → List α → List α
  | [], [a, b, c, d] => [d, c, b, a]
  | _, _ => []
def rev5 {α : Type} : List α → List α → List α
  | [], [a, b, c, d, e] => [e, d, c, b, a]
  | _, _ => []
theorem rev3_len {α : Type} {us ws : List α} (h : (rev3 us ws).length = 3) : us = [] ∧ ∃ a b c, ws = [a, b, c] := by
  unfold rev3 at h
  split at h
  · exact ⟨rfl, _, _, _, rfl⟩
  · cases h
theorem rev4_len {α : Type} {us ws : List α} (h : (rev4 us ws).length = 4) : us = [] ∧ ∃ a b c d, ws = [a, b, c, d] := by
  unfold rev4 at h
  split at h
  · exact ⟨rfl, _, _, _, _, rfl⟩
  · cases h
theorem rev5_len {α : Type} {us ws : List α} (h : (rev5 us ws).length = 5) : us = [] ∧ ∃ a b c d e, ws = [a, b, c, d, e] := by
  unfold rev5 at h
  split at h
  · exact ⟨rfl, _, _, _, _, _, rfl⟩
  · cases h
theorem rev3_rel {vs : List V} {us : List Value} {zs : List V} {ws : List Value} (r1 : Vals vs us) (r2 : Vals zs ws) : Vals (rev3 vs zs) (rev3 us ws) := by
  cases r1 with
  | cons _ _ => cases r2 <;> exact .nil
  | nil =>
    cases r2 with
    | nil => exact .nil
    | cons a r => cases r with
      | nil => exact .nil
      | cons b r => cases r with
        | nil => exact .nil
        | cons c r => cases r with
          | nil => exact .cons c (.cons b (.cons a .nil))
          | cons _ _ => exact .nil
theorem rev4_rel {vs : List V} {us : List Value} {zs : List V} {ws : List Value} (r1 : Vals vs us) (r2 : Vals zs ws) : Vals (rev4 vs zs) (rev4 us ws) := by
  cases r1 with
  | cons _ _ => cases r2 <;> exact .nil
  | nil =>
    cases r2 with
    | nil => exact .nil
    | cons a r => cases r with
      | nil => exact .nil
      | cons b r => cases r with
        | nil => exact .nil
        | cons c r => cases r with
          | nil => exact .nil
          | cons d r => cases r with
            | nil => exact .cons d (.cons c (.cons b (.cons a .nil)))
            | cons _ _ => exact .nil
theorem rev5_rel {vs : List V} {us : List Value} {zs : List V} {ws : List Value} (r1 : Vals vs us) (r2 : Vals zs ws) : Vals (rev5 vs zs) (rev5 us ws) := by
  cases r1 with
  | cons _ _ => cases r2 <;> exact .nil
  | nil =>
    cases r2 with
    | nil => exact .nil
    | cons a r => cases r with
      | nil => exact .nil
      | cons b r => cases r with
        | nil => exact .nil
        | cons c r => cases r with
          | nil => exact .nil
          | cons d r => cases r with
            | nil => exact .nil
            | cons e r => cases r with
              | nil => exact .cons e (.cons d (.cons c (.cons b (.cons a .nil))))
              | cons _ _ => exact .nil
theorem rev3_binds {K : PySem.W.Frag} {fd : FuncData} {p1 p2 p3 : Str} (h : ∀ a b c : Value, bindArgs fd ⟨[], [(p3, a), (p2, b), (p1, c)]⟩ = pure [(p1, c), (p2, b), (p3, a)]) :
    KBinds K fd [p1, p2, p3] [p3, p2, p1] rev3 rev3 := by
  refine ⟨fun s us ws _ hl => ?_, rev3_rel⟩
  obtain ⟨rfl, a, b, c, rfl⟩ := rev3_len hl
  exact .of_eq (h a b c)
theorem rev4_binds {K : PySem.W.Frag} {fd : FuncData} {p1 p2 p3 p4 : Str} (h : ∀ a b c d : Value, bindArgs fd ⟨[], [(p4, a), (p3, b), (p2, c), (p1, d)]⟩ = pure [(p1, d), (p2, c), (p3, b), (p4, a)]) :
    KBinds K fd [p1, p2, p3, p4] [p4, p3, p2, p1] rev4 rev4 := by
  refine ⟨fun s us ws _ hl => ?_, rev4_rel⟩
  obtain ⟨rfl, a, b, c, d, rfl⟩ := rev4_len hl
  exact .of_eq (h a b c d)
/-- a def with defaults, all of its parameters told by name -/
theorem rev5_bindsD {K : PySem.W.Frag} {x qual : Str} {params : Arguments} {body : List Stmt} {scope : Scope} {dvs : List V} {kws : List (Str × V)} {f : Addr} {fd : FuncData} {p1 p2 p3 p4 p5 : Str} (F : FunD K x qual params body scope dvs kws f fd) (hd : dvs ≠ [])
    (h : ∀ (T : Addr) (kV doc pm : Value) (an : Option Addr) (cdv ct : Value) (a b c d e : Value) (its : List Value), its.length = dvs.length →
      ∃ k, bindArgs (PySem.W.fnOf x qual params body scope (.ref T) kV doc pm an cdv ct) ⟨[], [(p5, a), (p4, b), (p3, c), (p2, d), (p1, e)]⟩ = seqItems? (.ref T) >>= k ∧ k (some its.toArray) = pure [(p1, e), (p2, d), (p3, c), (p4, b), (p5, a)]) :
    KBinds K fd [p1, p2, p3, p4, p5] [p5, p4, p3, p2, p1] rev5 rev5 := by
  obtain ⟨oc, od, dV, kV, doc, pm, an, cdv, ct, osl, rfl, lk, hcd, hD, hK⟩ := F.ex
  rcases hD with ⟨e, _⟩ | ⟨_, T, o, its, m, rfl, lT, oT, rT⟩
  · exact absurd e hd
  · refine ⟨fun s us ws X hl => ?_, rev5_rel⟩
    obtain ⟨rfl, a, b, c, d, e, rfl⟩ := rev5_len hl
    obtain ⟨k, e1, e2⟩ := h T kV doc pm an cdv ct a b c d e its rT.length.symm
    refine BindsTo.of_looks fun M => ?_
    show PySem.W.Looks M s.heap (bindArgs _ ⟨[], [(p5, a), (p4, b), (p3, c), (p2, d), (p1, e)]⟩) _
    rw [e1]
    exact looks_items X lT oT (.of_pure e2)
/-- every parameter written, though there are defaults -/
theorem bindsD0 {K : PySem.W.Frag} {x qual : Str} {params : Arguments} {body : List Stmt} {scope : Scope} {dvs : List V} {kws : List (Str × V)} {f : Addr} {fd : FuncData} {ps : List Str} (F : FunD K x qual params body scope dvs kws f fd) (hd : dvs ≠ [])
    (h : ∀ (T : Addr) (kV doc pm : Value) (an : Option Addr) (cdv ct : Value) (us its : List Value), us.length = ps.length → its.length = dvs.length →
      ∃ k, bindArgs (PySem.W.fnOf x qual params body scope (.ref T) kV doc pm an cdv ct) ⟨us, []⟩ = seqItems? (.ref T) >>= k ∧ k (some its.toArray) = pure (ps.zip us)) : Binds K fd ps [] := by
  obtain ⟨ds, r, b⟩ := F.binds1 (ps := ps) ps.length dvs.length hd (by rw [Nat.sub_self]; rfl) fun T kV doc pm an cdv ct us its h1 h2 => by
    obtain ⟨k, e1, e2⟩ := h T kV doc pm an cdv ct us its h1 h2
    exact ⟨k, e1, by rw [e2, ← h2, List.drop_length, List.append_nil]⟩
  rw [List.drop_length] at r
  cases r
  exact b
end Vf

/-! A new list of new lists, all different, whose rows are changed. -/
namespace Vf
open PySem PySem.Spec PyProof.Rows L2 Evl
def LLN (H H2 : Hp) (D : Addr) (ls : List (List V)) : Prop :=
  ∃ ps : List Addr, H2 D = some (.lst (ps.map V.ref)) ∧ ps.length = ls.length ∧ D ∉ ps ∧ ps.Nodup ∧ ∀ (i : Nat) (p : Addr) (l : List V), ps[i]? = some p → ls[i]? = some l → H p = none ∧ H2 p = some (.lst l)
theorem LLN.on {H H2 H3 : Hp} {D : Addr} {ls : List (List V)} (h : LLN H H2 D ls) (e : Ex H2 H3) : LLN H H3 D ls := by
  obtain ⟨ps, a, b, c, n, d⟩ := h
  exact ⟨ps, e _ _ a, b, c, n, fun i p l x y => ⟨(d i p l x y).1, e _ _ (d i p l x y).2⟩⟩
theorem LLN.back {H H1 H2 : Hp} {D : Addr} {ls : List (List V)} (e : Ex H H1) (h : LLN H1 H2 D ls) : LLN H H2 D ls := by
  obtain ⟨ps, a, b, c, n, d⟩ := h
  exact ⟨ps, a, b, c, n, fun i p l x y => ⟨fresh_back e (d i p l x y).1, (d i p l x y).2⟩⟩
theorem LLN.row {H H2 : Hp} {D : Addr} {ls : List (List V)} (h : LLN H H2 D ls) {i : Nat} {row : List V} (hi : ls[i]? = some row) :
    ∃ (ps : List Addr) (p : Addr), H2 D = some (.lst (ps.map V.ref)) ∧ ps[i]? = some p ∧ H p = none ∧ H2 p = some (.lst row) := by
  obtain ⟨ps, a, b, c, n, d⟩ := h
  have hl : i < ps.length := by rw [b]; exact (List.getElem?_eq_some_iff.mp hi).1
  exact ⟨ps, ps[i], a, List.getElem?_eq_getElem hl, (d i _ _ (List.getElem?_eq_getElem hl) hi).1, (d i _ _ (List.getElem?_eq_getElem hl) hi).2⟩
theorem LLN.put {H H2 : Hp} {D : Addr} {ls : List (List V)} (h : LLN H H2 D ls) {i : Nat} {row : List V} (hi : ls[i]? = some row) :
    ∃ (ps : List Addr) (p : Addr), H2 D = some (.lst (ps.map V.ref)) ∧ ps[i]? = some p ∧ H p = none ∧ H2 p = some (.lst row) ∧ ∀ row', LLN H (upd H2 p (.lst row')) D (ls.set i row') := by
  obtain ⟨ps, a, b, c, n, d⟩ := h
  have hl : i < ps.length := by rw [b]; exact (List.getElem?_eq_some_iff.mp hi).1
  have hp : ps[i]? = some ps[i] := List.getElem?_eq_getElem hl
  obtain ⟨d1, d2⟩ := d i _ _ hp hi
  refine ⟨ps, ps[i], a, hp, d1, d2, fun row' => ⟨ps, ?_, by rw [List.length_set, b], c, n, fun k q l hk hl' => ?_⟩⟩
  · rw [upd_ne (fun z : D = ps[i] => c (by rw [z]; exact List.getElem_mem hl))]
    exact a
  · by_cases e : k = i
    · subst e
      rw [hp] at hk
      cases hk
      rw [List.getElem?_set_self (by rw [← b]; exact hl)] at hl'
      cases hl'
      exact ⟨d1, upd_same⟩
    · rw [List.getElem?_set_ne (fun z => e z.symm)] at hl'
      obtain ⟨x, y⟩ := d k q l hk hl'
      refine ⟨x, ?_⟩
      rw [upd_ne]
      · exact y
      · intro z
        obtain ⟨hk1, hk2⟩ := List.getElem?_eq_some_iff.mp hk
        exact e ((List.getElem_inj n).mp (hk2.trans z))
section
variable {K : PySem.W.Frag} {σ : L2.St} {H H' : Hp} {ta : TA} {te : TE} {t : TT}
def RwN (H : Hp) (L : Nat → List V) (Dl : Addr) (i : Nat) (H' : Hp) : Prop := H Dl = none ∧ Ex H H' ∧ LLN H H' Dl ((List.range i).map L)
theorem rwn_turn {H H' : Hp} {L : Nat → List V} {Dl : Addr} {i : Nat} {σ2 : L2.St} (p : RwN H L Dl i H') (hi : i < 50000) (he : EvL te σ2 H (L i)) :
    te σ2 H' fun y H4 => ∃ acc, H4 Dl = some (.lst acc) ∧ acc.length < sizeLine ∧ RwN H L Dl (i + 1) (upd H4 Dl (.lst (acc ++ [y]))) := by
  obtain ⟨p1, p2, p3⟩ := p
  refine he H' p2 _ fun q H4 nq e4 hq => ?_
  obtain ⟨_, a3, _⟩ := id p3
  obtain ⟨ps, a, b, c, n, d⟩ := p3
  have a4 := e4 _ _ a
  have neD : q ≠ Dl := fun z => by
    rw [← z, nq] at a
    cases a
  have len : ps.length = i := by rw [b, List.length_map, List.length_range]
  have nin : q ∉ ps := fun z => by
    obtain ⟨k, hk, e⟩ := List.getElem_of_mem z
    have := (d k q (((List.range i).map L)[k]'(by rw [← b]; exact hk)) (by rw [List.getElem?_eq_getElem hk, e]) (List.getElem?_eq_getElem _)).2
    rw [nq] at this
    cases this
  refine ⟨ps.map V.ref, a4, sz_lt (by rw [List.length_map]; omega), p1, Ex.mut (p2.trans e4) p1, ps ++ [q], ?_, ?_, ?_, ?_, ?_⟩
  · rw [upd_same, List.map_append]
    rfl
  · rw [List.range_succ, List.map_append, List.length_append, List.length_append, b]
    rfl
  · intro z
    rcases List.mem_append.mp z with z | z
    · exact c z
    · exact neD (List.mem_singleton.mp z).symm
  · refine List.nodup_append.mpr ⟨n, by simp, fun x hx y hy e => ?_⟩
    rw [List.mem_singleton.mp hy] at e
    exact nin (e ▸ hx)
  · intro k pp l hk hl
    rw [List.range_succ, List.map_append] at hl
    by_cases hk2 : k < ps.length
    · rw [List.getElem?_append_left hk2] at hk
      rw [List.getElem?_append_left (by rw [← b]; exact hk2)] at hl
      obtain ⟨d1, d2⟩ := d k pp l hk hl
      exact ⟨d1, by rw [upd_ne (show pp ≠ Dl from fun z => c (by rw [← z]; exact List.mem_of_getElem? hk))]; exact e4 _ _ d2⟩
    · have ek : k = ps.length := by
        have z := (List.getElem?_eq_some_iff.mp hk).1
        rw [List.length_append, List.length_singleton] at z
        omega
      rw [ek, List.getElem?_append_right (Nat.le_refl _), Nat.sub_self] at hk
      rw [ek, b, List.getElem?_append_right (Nat.le_refl _), Nat.sub_self] at hl
      cases hk
      cases hl
      exact ⟨fresh_back p2 nq, by rw [upd_ne neD]; exact hq⟩
def EvLN (te : TE) (σ : L2.St) (H : Hp) (ls : List (List V)) : Prop := ∀ H1, Ex H H1 → ∀ Q : VK, (∀ D H2, H1 D = none → Ex H1 H2 → LLN H1 H2 D ls → Q (.ref D) H2) → te σ H1 Q
theorem eln_lcR1 {j : Nat} {vs : List Nat} {n : Int} (L : Nat → List V) (h : EvA ta σ H [.int n]) (hn : 0 ≤ n ∧ n ≤ 40000)
    (hw : ∀ x, wipe ((wipe σ vs).set j (some x)) vs = wipe σ vs)
    (he : ∀ (i : Nat) H1, Ex H H1 → (i : Int) < n → EvL te ((wipe σ vs).set j (some (.int (i : Int)))) H1 (L i)) :
    EvLN (tLc (iRng1 ta) (gName j) tYes te vs) σ H ((List.range n.toNat).map L) := by
  intro H0 e Q q
  refine h H0 e _ fun H1 e1 => ⟨n, rfl, by omega, by omega, fun Dl hD => ?_⟩
  refine lc_range (lo := 0) (n := n.toNat) (RwN H1 L Dl) ⟨hD, Ex.new hD, [], upd_same, rfl, (by simp), List.nodup_nil, (fun i p l x => by simp at x)⟩ (fun i H' hi p => ?_)
    fun H' p => q Dl H' (fresh_back e1 p.1) (e1.trans p.2.1) (p.2.2.back e1)
  have e0 : (0 : Int) + (i : Int) = (i : Int) := Int.zero_add _
  show wipe ((wipe σ vs).set j (some (.int ((0 : Int) + (i : Int))))) vs = wipe σ vs ∧ tYes ((wipe σ vs).set j (some (.int ((0 : Int) + (i : Int))))) H' fun b H3 => if b = true then te ((wipe σ vs).set j (some (.int ((0 : Int) + (i : Int))))) H3 fun y H4 => ∃ acc, H4 Dl = some (.lst acc) ∧ acc.length < sizeLine ∧ RwN H1 L Dl (i + 1) (upd H4 Dl (.lst (acc ++ [y]))) else RwN H1 L Dl (i + 1) H3
  rw [e0]
  exact ⟨hw _, rwn_turn p (by omega) (he i H1 (e.trans e1) (by omega))⟩
end
end Vf
namespace Vf
open PySem PySem.Spec PyProof.Rows L2 Evl
/-! ### a new list of new tuples; a list many times over -/
section
variable {K : PySem.W.Frag} {σ : L2.St} {H H' : Hp} {ta : TA} {te tb tl : TE} {t : TT}
def TLAt (H2 : Hp) (D : Addr) (us : List (List V)) : Prop := ∃ ps : List Addr, H2 D = some (.lst (ps.map V.ref)) ∧ ps.length = us.length ∧ ∀ (i : Nat) (p : Addr) (u : List V), ps[i]? = some p → us[i]? = some u → H2 p = some (.tup u)
theorem TLAt.on {H2 H3 : Hp} {D : Addr} {us : List (List V)} (h : TLAt H2 D us) (e : Ex H2 H3) : TLAt H3 D us := by
  obtain ⟨ps, a, b, c⟩ := h
  exact ⟨ps, e _ _ a, b, fun i p l x y => e _ _ (c i p l x y)⟩
def RwT (H : Hp) (L : Nat → List V) (Dl : Addr) (i : Nat) (H' : Hp) : Prop := H Dl = none ∧ Ex H H' ∧ TLAt H' Dl ((List.range i).map L)
theorem rwt_turn {H H' : Hp} {L : Nat → List V} {Dl : Addr} {i : Nat} {σ2 : L2.St} (p : RwT H L Dl i H') (hi : i < 50000) (he : EvU te σ2 H (L i)) :
    te σ2 H' fun y H4 => ∃ acc, H4 Dl = some (.lst acc) ∧ acc.length < sizeLine ∧ RwT H L Dl (i + 1) (upd H4 Dl (.lst (acc ++ [y]))) := by
  obtain ⟨p1, p2, p3⟩ := p
  refine he H' p2 _ fun q H4 nq e4 hq => ?_
  obtain ⟨ps, a, b, d⟩ := p3
  have a4 := e4 _ _ a
  have neD : q ≠ Dl := fun z => by
    rw [← z, nq] at a
    cases a
  have len : ps.length = i := by rw [b, List.length_map, List.length_range]
  refine ⟨ps.map V.ref, a4, sz_lt (by rw [List.length_map]; omega), p1, Ex.mut (p2.trans e4) p1, ps ++ [q], ?_, ?_, ?_⟩
  · rw [upd_same, List.map_append]
    rfl
  · rw [List.range_succ, List.map_append, List.length_append, List.length_append, b]
    rfl
  · intro k pp l hk hl
    rw [List.range_succ, List.map_append] at hl
    by_cases hk2 : k < ps.length
    · rw [List.getElem?_append_left hk2] at hk
      rw [List.getElem?_append_left (by rw [← b]; exact hk2)] at hl
      have d2 := d k pp l hk hl
      have nD : pp ≠ Dl := fun z => by
        rw [z, a] at d2
        cases d2
      rw [upd_ne nD]
      exact e4 _ _ d2
    · have ek : k = ps.length := by
        have z := (List.getElem?_eq_some_iff.mp hk).1
        rw [List.length_append, List.length_singleton] at z
        omega
      rw [ek, List.getElem?_append_right (Nat.le_refl _), Nat.sub_self] at hk
      rw [ek, b, List.getElem?_append_right (Nat.le_refl _), Nat.sub_self] at hl
      cases hk
      cases hl
      rw [upd_ne neD]
      exact hq
def EvLT (te : TE) (σ : L2.St) (H : Hp) (us : List (List V)) : Prop := ∀ H1, Ex H H1 → ∀ Q : VK, (∀ D H2, H1 D = none → Ex H1 H2 → TLAt H2 D us → Q (.ref D) H2) → te σ H1 Q
theorem elt_lcL {a : Addr} {xs : List V} {j : Nat} {vs : List Nat} (L : Nat → List V) (h : Ev tl σ H (.ref a)) (hx : SqL K H a xs) (hz : xs.length ≤ 40000) (hw : ∀ x, wipe ((wipe σ vs).set j (some x)) vs = wipe σ vs)
    (he : ∀ (i : Nat) (x : V) H1, Ex H H1 → xs[i]? = some x → EvU te ((wipe σ vs).set j (some x)) H1 (L i)) :
    EvLT (tLc (iList K tl) (gName j) tYes te vs) σ H ((List.range xs.length).map L) := by
  intro H0 e Q q
  refine h H0 e _ fun H1 e1 => ⟨a, rfl, ⟨xs, ex_l (e.trans e1) hx⟩, fun Dl hD => ?_⟩
  refine lc_list (xs := xs) (RwT H1 L Dl) ⟨hD, Ex.new hD, [], upd_same, rfl, (fun i p l x => by simp at x)⟩ (fun i H' _ p => ex_l ((e.trans e1).trans p.2.1) hx) (fun i x H' hi p => ⟨hw x, ?_⟩)
    fun H' p => q Dl H' (fresh_back e1 p.1) (e1.trans p.2.1) p.2.2
  have hlt := (List.getElem?_eq_some_iff.mp hi).1
  show tYes ((wipe σ vs).set j (some x)) H' fun b H3 => if b = true then te ((wipe σ vs).set j (some x)) H3 fun y H4 => ∃ acc, H4 Dl = some (.lst acc) ∧ acc.length < sizeLine ∧ RwT H1 L Dl (i + 1) (upd H4 Dl (.lst (acc ++ [y]))) else RwT H1 L Dl (i + 1) H3
  exact rwt_turn p (by omega) (he i x H1 (e.trans e1) hi)
theorem el_rep {ta' : TE} {xs : List V} {k : Int} (h : EvL ta' σ H xs) (hk : Ev tb σ H (.int k)) (h0 : -100000 ≤ k ∧ k ≤ 100000) (hz : xs.length * k.toNat ≤ 100000) : EvL (tOp rRep ta' tb) σ H (List.replicate k.toNat xs).flatten := fun H1 e Q q =>
  h H1 e _ fun p H2 np e2 hp => hk H2 (e.trans e2) _ fun H3 e3 => ⟨p, k, xs, rfl, rfl, e3 _ _ hp, by omega, by omega, sz_of hz, fun p2 np2 => q p2 _ (fresh_back (e2.trans e3) np2) ((e2.trans e3).trans (Ex.new np2)) upd_same⟩
theorem q_asgLN {D : Ends} {tz : TS} {i : Nat} {ls : List (List V)} (h : EvLN te σ H ls) (k : ∀ A H1, H A = none → Ex H H1 → LLN H H1 A ls → tz D (σ.set i (some (.ref A))) H1) : tSeq (tAsg te (gName i)) tz D σ H :=
  h H (Ex.refl H) _ fun A H1 nA e1 hA => k A H1 nA e1 hA
theorem s_retLT {D : Ends} {us : List (List V)} (h : EvLT te σ H us) (k : ∀ A H1, H A = none → Ex H H1 → TLAt H1 A us → D.rt (.ref A) H1) : tRet te D σ H :=
  h H (Ex.refl H) _ fun A H1 nA e1 hA => k A H1 nA e1 hA
end
end Vf

/-! Lists of whole numbers: == and != as data. -/
namespace Vf
open PySem PySem.Spec PyProof.Rows L2 Evl
theorem eqv_ints : ∀ (a b : List Int), PyData.eqv (dInts a) (dInts b) = decide (a = b) := by
  have key : ∀ a b : List Int, PyData.eqvAll (a.map .int) (b.map .int) = decide (a = b) := by
    intro a
    induction a with
    | nil =>
      intro b
      cases b with
      | nil => rfl
      | cons y b => exact (decide_eq_false (by simp)).symm
    | cons x a ih =>
      intro b
      cases b with
      | nil => exact (decide_eq_false (by simp)).symm
      | cons y b =>
        show ((x == y) && PyData.eqvAll (a.map .int) (b.map .int)) = _
        rw [ih b, Bool.eq_iff_iff]
        simp
  exact key
theorem shaped_ints (a : List Int) : SeqAt.shaped (dInts a) = true := by
  have key : ∀ a : List Int, PyData.canLayAll0 (a.map .int) = true ∧ PyData.depthAll (a.map .int) = 0 := by
    intro a
    induction a with
    | nil => exact ⟨rfl, rfl⟩
    | cons x a ih =>
      refine ⟨?_, ?_⟩
      · show (PyData.canLay0 (.int x) && PyData.canLayAll0 (a.map .int)) = true
        rw [ih.1]
        rfl
      · show max (PyData.depth (.int x)) (PyData.depthAll (a.map .int)) = 0
        rw [ih.2]
        rfl
  refine Bool.and_eq_true_iff.mpr ⟨(key a).1, decide_eq_true ?_⟩
  show PyData.depthAll (a.map .int) + 1 ≤ 64
  rw [(key a).2]
  decide
section
variable {K : PySem.W.Frag} {H : Hp} {p q : Addr} {a b : List Int} {Q : VK}
theorem eq_ints (hp : SqL K H p (a.map V.int)) (hq : SqL K H q (b.map V.int)) (h : Q (.bl (decide (a = b))) H) : rEqD K (.ref p) (.ref q) H Q :=
  ⟨dInts a, dInts b, dp_ints hp, dp_ints hq, shaped_ints a, shaped_ints b, by rw [eqv_ints]; exact h⟩
theorem ne_ints (hp : SqL K H p (a.map V.int)) (hq : SqL K H q (b.map V.int)) (h : Q (.bl (!decide (a = b))) H) : rNeD K (.ref p) (.ref q) H Q :=
  ⟨dInts a, dInts b, dp_ints hp, dp_ints hq, shaped_ints a, shaped_ints b, by rw [eqv_ints]; exact h⟩
end
end Vf

/-! list(zip(xs, ys)): a new list of new tuples. -/
namespace Vf
open PySem PySem.Spec PyProof.Rows L2
section
variable {X : Cx}
/-- the zip's own cells -/
structure ZAt (h : Heap) (z TI TO i1 i2 l1 l2 : Addr) (i : Nat) : Prop where
  ti : IsPair h TI (.ref i1) (.ref i2)
  it1 : h.IsListIter i1 l1 i
  it2 : h.IsListIter i2 l2 i
  to : ∃ o, h.get? TO = some o
  st : (i = 0 ∧ IsZip h z TI TO .none ∧ ∃ a b, IsPair h TO a b) ∨ ∃ T f oT, IsZipHeld h z TI TO T f ∧ h.get? T = some oT ∧ T ≠ z ∧ T ≠ i1 ∧ T ≠ i2
theorem ZAt.on {h h' : Heap} {z TI TO i1 i2 l1 l2 S : Addr} {i : Nat} (Z : ZAt h z TI TO i1 i2 l1 l2 i) (hS : S ≠ z ∧ S ≠ TI ∧ S ≠ TO ∧ S ≠ i1 ∧ S ≠ i2) (e : ∀ b o, b ≠ S → h.get? b = some o → h'.get? b = some o) (hs : ∃ o, h'.get? S = some o) : ZAt h' z TI TO i1 i2 l1 l2 i := by
  obtain ⟨a, ⟨o1, b1, b2⟩, ⟨o2, c1, c2⟩, ⟨o3, t1⟩, d⟩ := Z
  refine ⟨e _ _ hS.2.1.symm a, ⟨o1, e _ _ hS.2.2.2.1.symm b1, b2⟩, ⟨o2, e _ _ hS.2.2.2.2.symm c1, c2⟩, ⟨o3, e _ _ hS.2.2.1.symm t1⟩, ?_⟩
  rcases d with ⟨d1, d2, x, y, d3⟩ | ⟨T, f, oT, d1, d2, d3, d4, d5⟩
  · exact .inl ⟨d1, e _ _ hS.1.symm d2, x, y, e _ _ hS.2.2.1.symm d3⟩
  · by_cases c : T = S
    · obtain ⟨o, hs⟩ := hs
      exact .inr ⟨T, f, o, e _ _ hS.1.symm d1, by rw [c]; exact hs, d3, d4, d5⟩
    · exact .inr ⟨T, f, oT, e _ _ hS.1.symm d1, e _ _ c d2, d3, d4, d5⟩
/-- one more pair drawn -/
theorem zip_draw {P : Program} {w : World} {A : Around} {E : Value → Shared → Prop} {s : Shared} {z TI TO i1 i2 l1 l2 : Addr} {i : Nat} {xs ys : Array Value} {x y : Value} {Q : Option Value → Shared → Prop} (ap : ZipApart z TI TO i1 i2 l1 l2)
    (Z : ZAt s.heap z TI TO i1 i2 l1 l2 i) (h1 : s.heap.IsList l1 xs) (h2 : s.heap.IsList l2 ys) (hx : xs[i]? = some x) (hy : ys[i]? = some y)
    (h : ∀ h' : Heap, ZAt h' z TI TO i1 i2 l1 l2 (i + 1) → IsPair h' s.heap.objs.size x y → h'.objs.size = s.heap.objs.size + 1 → (∀ (c : Addr) (o : Obj), c ≠ z → c ≠ TO → c ≠ i1 → c ≠ i2 → s.heap.get? c = some o → h'.get? c = some o) →
      Q (some (.ref s.heap.objs.size)) { heap := h', gens := s.gens, drawn := s.drawn, toks := s.toks, os := s.os }) :
    wpAny (model P w) A (pyNext (.ref z)) Q E s := by
  obtain ⟨a, b, c, ⟨o3, t1⟩, d⟩ := Z
  have lz : ∀ {q o}, s.heap.get? q = some o → s.heap.objs.size ≠ q := fun {q o} e z => absurd (Heap.lt_size e) (by rw [← z]; exact Nat.lt_irrefl _)
  obtain ⟨o1, b1, b2⟩ := b
  obtain ⟨o2, c1, c2⟩ := c
  rcases d with ⟨rfl, d2, u, v, d3⟩ | ⟨T, f, oT, d1, d2, d3, d4, d5⟩
  · refine wpAny_pyNext_zip_item ap d2 a d3 ⟨o1, b1, b2⟩ ⟨o2, c1, c2⟩ h1 h2 hx hy fun h' g1 g2 g3 g4 g5 g6 g7 => ?_
    exact h h' ⟨g7 _ _ ap.TIz ap.TITO ap.TIi1 ap.TIi2 a, g3, g4, ⟨_, g2⟩, .inr ⟨_, _, _, g1, g5, lz d2, lz b1, lz c1⟩⟩ g5 g6 g7
  · refine wpAny_pyNext_zip_item_held ap d1 d2 a ⟨o1, b1, b2⟩ ⟨o2, c1, c2⟩ h1 h2 hx hy fun h' g1 g3 g4 g5 g6 g7 => ?_
    exact h h' ⟨g7 _ _ ap.TIz ap.TIi1 ap.TIi2 a, g3, g4, ⟨_, g7 _ _ ap.TOz ap.TOi1 ap.TOi2 t1⟩, .inr ⟨T, _, _, g1, g7 _ _ d3 d4 d5 d2, d3, d4, d5⟩⟩ g5 g6 fun c o e1 _ e3 e4 => g7 c o e1 e3 e4
theorem zip_stop {P : Program} {w : World} {A : Around} {E : Value → Shared → Prop} {s : Shared} {z TI TO i1 i2 l1 l2 : Addr} {i : Nat} {xs ys : Array Value} {Q : Option Value → Shared → Prop} (hh : A.handled = none) (ap : ZipApart z TI TO i1 i2 l1 l2)
    (Z : ZAt s.heap z TI TO i1 i2 l1 l2 i) (h1 : s.heap.IsList l1 xs) (h2 : s.heap.IsList l2 ys) (hx : xs[i]? = none)
    (h : ∀ h' : Heap, (∀ (c : Addr) (o : Obj), c ≠ z → c ≠ TO → c ≠ i1 → c ≠ i2 → s.heap.get? c = some o → h'.get? c = some o) →
      Q none { heap := h', gens := s.gens, drawn := s.drawn, toks := s.toks, os := s.os }) :
    wpAny (model P w) A (pyNext (.ref z)) Q E s := by
  obtain ⟨a, b, c, _, d⟩ := Z
  rcases d with ⟨rfl, d2, u, v, d3⟩ | ⟨T, f, oT, d1, d2, d3, d4, d5⟩
  · exact wpAny_pyNext_zip_end hh ap d2 a d3 b c h1 h2 (.inl hx) h
  · exact wpAny_pyNext_zip_end_held hh ap d1 d2 a b c h1 h2 (.inl hx) fun h' g => h h' fun c o e1 _ e3 e4 => g c o e1 e3 e4
theorem zip_loop {pins : List (Addr × Obj)} {σ : L2.St} {z TI TO i1 i2 l1 l2 S : Addr} {xs ys : List V} {H0 : Hp} (ap : ZipApart z TI TO i1 i2 l1 l2) (hl : xs.length = ys.length) (hx : xs.length ≤ 1000) {A : Around} (hh : A.in1.handled = none)
    (fp : ∀ H s, L2.Inv X pins σ H s → (∀ b ∈ [z, TO, i1, i2], H b = none) → ∀ b ∈ [z, TO, i1, i2], FpOk X pins H b) {R : Result → Shared → Prop}
    (hS : S ≠ z ∧ S ≠ TI ∧ S ≠ TO ∧ S ≠ i1 ∧ S ≠ i2) (hX : ∀ H, (∀ b o, b ≠ S → H0 b = some o → H b = some o) → SqL X.K H l1 xs ∧ SqL X.K H l2 ys)
    (h : ∀ s' H' (ps : List Addr), L2.Inv X pins σ H' s' → (∀ b o, b ≠ S → H0 b = some o → H' b = some o) → H' S = some (.lst (ps.map V.ref)) → ps.length = xs.length →
      (∀ (j : Nat) (p : Addr), ps[j]? = some p → ∃ x y, xs[j]? = some x ∧ ys[j]? = some y ∧ H' p = some (.tup [x, y])) → R (.ok (.ret .none)) s') :
    ∀ (k i : Nat) (s : Shared) (H : Hp) (ps : List Addr), xs.length - i = k → i ≤ xs.length → L2.Inv X pins σ H s → (∀ b o, b ≠ S → H0 b = some o → H b = some o) → H S = some (.lst (ps.map V.ref)) → ps.length = i →
      (∀ (j : Nat) (p : Addr), ps[j]? = some p → ∃ x y, xs[j]? = some x ∧ ys[j]? = some y ∧ H p = some (.tup [x, y])) → (∀ b ∈ [z, TO, i1, i2], H b = none) → ZAt s.heap z TI TO i1 i2 l1 l2 i →
      codeAny (model X.prog X.w) A (Code.builtin "list.extend.loop" { pos := [.ref S, .ref z, .none] }) R s := by
  intro k
  induction k with
  | zero =>
    intro i s H ps hk hi I e hs hp ht hf Z
    obtain ⟨s1, s2⟩ := hX H e
    obtain ⟨its1, r1, p1, _⟩ := I.list s1
    obtain ⟨its2, r2, p2, _⟩ := I.list s2
    have f4 := fp H s I hf
    refine codeAny_builtin F.entry_extend_loop ?_
    rw [Around.under_plain (by rfl) (by rfl)]
    unfold Builtin.«list.extend.loop»
    refine wpAny_bind (zip_stop hh ap Z p1.isList p2.isList ?_ fun h' g => ?_)
    · have := r1.length
      simp
      omega
    · refine wpAny_pure ?_
      have I2 := I.turnedL (h' := h') (t' := s.toks) (ch := [z, TO, i1, i2]) (fun b o hb e => g b o (fun z => hb (by simp [z])) (fun z => hb (by simp [z])) (fun z => hb (by simp [z])) (fun z => hb (by simp [z])) e) f4
      exact h _ H ps I2 e hs (by omega) ht
  | succ k ih =>
    intro i s H ps hk hi I e hs hp ht hf Z
    obtain ⟨s1, s2⟩ := hX H e
    obtain ⟨its1, r1, p1, _⟩ := I.list s1
    obtain ⟨its2, r2, p2, _⟩ := I.list s2
    have f4 := fp H s I hf
    obtain ⟨x, hx⟩ : ∃ x, xs[i]? = some x := ⟨_, List.getElem?_eq_getElem (by omega)⟩
    obtain ⟨y, hy⟩ : ∃ y, ys[i]? = some y := ⟨_, List.getElem?_eq_getElem (by omega)⟩
    have q1 := vals_at r1 i
    have q2 := vals_at r2 i
    rw [hx] at q1
    rw [hy] at q2
    obtain ⟨u, hu, ru⟩ : ∃ u, its1[i]? = some u ∧ RelV x u := by
      cases hu : its1[i]? with
      | none => rw [hu] at q1; exact q1.elim
      | some u => rw [hu] at q1; exact ⟨u, rfl, q1⟩
    obtain ⟨v, hv, rv⟩ : ∃ v, its2[i]? = some v ∧ RelV y v := by
      cases hv : its2[i]? with
      | none => rw [hv] at q2; exact q2.elim
      | some v => rw [hv] at q2; exact ⟨v, rfl, q2⟩
    refine codeAny_builtin F.entry_extend_loop ?_
    rw [Around.under_plain (by rfl) (by rfl)]
    unfold Builtin.«list.extend.loop»
    refine wpAny_bind (zip_draw (x := u) (y := v) ap Z p1.isList p2.isList (by simpa using hu) (by simpa using hv) fun h' Z' hpair hsz g => ?_)
    have nT : H s.heap.objs.size = none := I.fresh
    have I2 := I.turnedNew (h' := h') (t' := s.toks) (ch := [z, TO, i1, i2]) (T := s.heap.objs.size) (ob := .tup [x, y]) (fun b o hb e => g b o (fun z => hb (by simp [z])) (fun z => hb (by simp [z])) (fun z => hb (by simp [z])) (fun z => hb (by simp [z])) e) f4 (Nat.le_refl _)
      ⟨by show 2 ≤ sizeLine; decide, [u, v], .cons ru (.cons rv .nil), ⟨_, hpair, rfl, _, rfl⟩⟩
    have nST : S ≠ s.heap.objs.size := ne_of_none hs nT
    have hs2 : upd H s.heap.objs.size (.tup [x, y]) S = some (.lst (ps.map V.ref)) := by rw [upd_ne nST]; exact hs
    obtain ⟨its, n, rs, hgS, _⟩ := I2.lst hs2
    have hlen := rs.length
    rw [List.length_map] at hlen
    have I3 := I2.lset (ys := (ps ++ [s.heap.objs.size]).map V.ref) (its' := its ++ [.ref s.heap.objs.size]) (f := fun x_1 => x_1.push (.ref s.heap.objs.size)) (t' := s.toks) hs2 hgS (by simp) (by rw [List.map_append]; exact rs.append (.cons rfl .nil)) (by rw [List.length_map, List.length_append]; show ps.length + 1 ≤ _; unfold sizeLine; omega)
    refine wpAny_bind (listUpdate_at hgS rfl ?_ (by unfold sizeLine; simp; omega) (by unfold sizeLine; simp; omega))
    refine wpAny_pure ⟨Code.quiet_builtin _ (by decide +kernel), ?_⟩
    have hT3 : ∀ b o, b ≠ S → upd H s.heap.objs.size (.tup [x, y]) b = some o → upd (upd H s.heap.objs.size (.tup [x, y])) S (.lst ((ps ++ [s.heap.objs.size]).map V.ref)) b = some o := fun b o nb hb => by rw [upd_ne nb]; exact hb
    have up1 : ∀ b o, H b = some o → upd H s.heap.objs.size (.tup [x, y]) b = some o := fun b o hb => by rw [upd_ne (ne_of_none hb nT)]; exact hb
    refine ih (i + 1) _ _ (ps ++ [s.heap.objs.size]) (by omega) (by omega) I3 (fun b o nb hb => hT3 b o nb (up1 b o (e b o nb hb))) upd_same (by rw [List.length_append]; show ps.length + 1 = i + 1; omega) (fun j p hp => ?_) (fun b hb => ?_) (Z'.on hS (fun b o nb hb => ?_) ?_)
    · by_cases c : j < ps.length
      · rw [List.getElem?_append_left c] at hp
        obtain ⟨x', y', h1, h2, h3⟩ := ht j p hp
        have np : p ≠ S := fun z => by rw [z, hs] at h3; cases h3
        exact ⟨x', y', h1, h2, hT3 p _ np (up1 p _ h3)⟩
      · rw [List.getElem?_append_right (by omega)] at hp
        have ej : j - ps.length = 0 := by
          rcases Nat.eq_zero_or_pos (j - ps.length) with z | z
          · exact z
          · rw [List.getElem?_eq_none (by show 1 ≤ _; exact z)] at hp; cases hp
        rw [ej] at hp
        cases hp
        refine ⟨x, y, ?_, ?_, hT3 _ _ nST.symm upd_same⟩
        · rw [show j = i by omega]; exact hx
        · rw [show j = i by omega]; exact hy
    · have nb0 := hf b hb
      have nbS : b ≠ S := fun z => by rw [z, hs] at nb0; cases nb0
      have hbT : b ≠ s.heap.objs.size := by
        obtain ⟨za, ⟨o1, zb, _⟩, ⟨o2, zc, _⟩, ⟨o3, zt⟩, zd⟩ := Z
        have lt : ∀ {q o}, s.heap.get? q = some o → q ≠ s.heap.objs.size := fun {q o} e z => absurd (Heap.lt_size e) (by rw [z]; exact Nat.lt_irrefl _)
        simp only [List.mem_cons, List.not_mem_nil, or_false] at hb
        rcases hb with rfl | rfl | rfl | rfl
        · rcases zd with ⟨_, d2, _⟩ | ⟨T, f, oT, d1, _⟩
          · exact lt d2
          · exact lt d1
        · exact lt zt
        · exact lt zb
        · exact lt zc
      rw [upd_ne nbS, upd_ne hbT]
      exact nb0
    · show (h'.update S _).get? b = some o
      rw [Heap.get?_update_ne _ _ _ _ nb]
      exact hb
    · exact ⟨_, Heap.get?_update_self _ hgS rfl⟩
end
end Vf

/-! list(zip(xs, ys)), the call. -/
namespace Vf
open PySem PySem.Spec PyProof.Rows L2 Evl
theorem zip_no_len : typeLookup (Value.type "zip") (Str.ofString "__len__") = pure none := by kernel_rfl
theorem zip_no_hint : typeLookup (Value.type "zip") (Str.ofString "__length_hint__") = pure none := by kernel_rfl
theorem wp_hint_zip {M : Model} {A : Around} {E : Value → Shared → Prop} {s : Shared} {z : Value} {Q : Bool → Shared → Prop} (hT : s.TypeIs z "zip") (h : Q true s) : wpAny M A (Builtin.List.listLengthHint z) Q E s := by
  unfold Builtin.List.listLengthHint
  refine wpAny_bind (wpAny_specialOf hT zip_no_len ?_)
  dsimp only
  rw [if_neg (by decide), if_neg (by decide)]
  refine wpAny_bind (wpAny_specialOf hT zip_no_hint ?_)
  exact wpAny_pure h
theorem ext_zip {P : Program} {w : World} {A : Around} {s : Shared} {R : Result → Shared → Prop} {z TI TO S : Addr} (hz : IsZip s.heap z TI TO .none) (hS : s.heap.get? S = some { cls := .type "list", data := .seq #[] }) (hne : S ≠ z)
    (h : codeAny (model P w) A (Code.builtin "list.extend.loop" { pos := [.ref S, .ref z, .none] }) R { s with heap := (s.heap.update S (Obj.mapSeq fun x => x.push .none)).update S (Obj.mapSeq fun x => x.pop) }) :
    wpAny (model P w) A.in1 (Builtin.List.listExtendWith (.ref S) (.ref z) .none)
      (fun fin s' => match fin with
        | .done f => R (.ok f) s'
        | .again c' => c'.quiet = true ∧ codeAny (model P w) A c' R s')
      (fun e s' => R (.error e) s') s := by
  have hT2 : Shared.TypeIs s (.ref z) "zip" := ⟨_, hz, rfl⟩
  have k7 : Builtin.List.listSameRef (.ref S) (.ref z) = false := by
    unfold Builtin.List.listSameRef
    simp [hne]
  unfold Builtin.List.listExtendWith
  generalize hPI : pyIter = PI
  generalize hLT : Builtin.List.listTouch = LT
  generalize hLH : Builtin.List.listLengthHint = LH
  wp_walk
  subst hPI
  refine wpAny_pyIter_zip hz ?_
  wp_walk
  subst hLH
  refine wp_hint_zip hT2 ?_
  wp_walk
  subst hLT
  unfold Builtin.List.listTouch
  refine wpAny_bind (listUpdate_at hS rfl ?_ (by decide) (by decide))
  refine listUpdate_at (Heap.get?_update_self _ hS rfl) rfl ?_ (by decide) (by decide)
  exact wpAny_pure ⟨Code.quiet_builtin _ (by decide +kernel), h⟩
theorem li_kind : builtinKind "list.__init__" = some .slot := by kernel_rfl
theorem li_split : splitId "list.__init__" = some ("list", "__init__") := by kernel_rfl
theorem check_list_init_1 {M : Model} {A : Around} {E : Value → Shared → Prop} {s : Shared} {self a : Value} {Q : Unit → Shared → Prop} (hT : s.TypeIs self "list") (h : Q () s) : wpAny M A (checkBuiltinCall "list.__init__" { pos := [self, a] }) Q E s := by
  have k := F.args_list_init_2 self a
  unfold argsOk at k
  unfold checkBuiltinCall
  rw [li_kind, li_split]
  dsimp only
  have ks : isSubtype (.type "list") (.type "list") = pure true := F.called_list.sub
  repeat (any_goals (first | assumption | wp_step))
section
variable {X : Cx}
theorem zip_run {pins : List (Addr × Obj)} {σ : L2.St} {z TI TO i1 i2 l1 l2 : Addr} {xs ys : List V} {H : Hp} {s : Shared} {R : Result → Shared → Prop} (ap : ZipApart z TI TO i1 i2 l1 l2) (hl : xs.length = ys.length) (hx : xs.length ≤ 1000) {A : Around} (hh : A.in1.handled = none)
    (I : L2.Inv X pins σ H s) (fp : ∀ b ∈ [z, TO, i1, i2], FpOk X pins H b) (Z : ZAt s.heap z TI TO i1 i2 l1 l2 0) (hz : IsZip s.heap z TI TO .none) (s1 : SqL X.K H l1 xs) (s2 : SqL X.K H l2 ys)
    (h : ∀ (s' : Shared) (H' : Hp) (ps : List Addr), L2.Inv X pins σ H' s' → (∀ b o, b ≠ s.heap.objs.size → H b = some o → H' b = some o) → H' s.heap.objs.size = some (.lst (ps.map V.ref)) → ps.length = xs.length →
      (∀ (j : Nat) (p : Addr), ps[j]? = some p → ∃ x y, xs[j]? = some x ∧ ys[j]? = some y ∧ H' p = some (.tup [x, y])) → R (.ok (.ret .none)) s') :
    codeAny (model X.prog X.w) A (Code.builtin "list.extend.loop" { pos := [.ref s.heap.objs.size, .ref z, .none] }) R
      { s with heap := (((s.heap.push { cls := .type "list", data := .seq #[] }).update s.heap.objs.size (Obj.mapSeq fun x => #[])).update s.heap.objs.size (Obj.mapSeq fun x => x.push .none)).update s.heap.objs.size (Obj.mapSeq fun x => x.pop) } := by
  have hS : (s.heap.push { cls := .type "list", data := .seq #[] }).get? s.heap.objs.size = some { cls := .type "list", data := .seq #[] } := Heap.get?_push_size _ rfl
  have g1 : ((s.heap.push { cls := .type "list", data := .seq #[] }).update s.heap.objs.size (Obj.mapSeq fun x => #[])).get? s.heap.objs.size = some { cls := .type "list", data := .seq #[] } := Heap.get?_update_self _ hS rfl
  have nS : H s.heap.objs.size = none := I.fresh
  have lt : ∀ {q o}, s.heap.get? q = some o → s.heap.objs.size ≠ q := fun {q o} e z => absurd (Heap.lt_size e) (by rw [← z]; exact Nat.lt_irrefl _)
  obtain ⟨o1, zb, _⟩ := Z.it1
  obtain ⟨o2, zc, _⟩ := Z.it2
  obtain ⟨o3, zt⟩ := Z.to
  have hall : s.heap.objs.size ≠ z ∧ s.heap.objs.size ≠ TI ∧ s.heap.objs.size ≠ TO ∧ s.heap.objs.size ≠ i1 ∧ s.heap.objs.size ≠ i2 := ⟨lt hz, lt Z.ti, lt zt, lt zb, lt zc⟩
  have I1 := I.lnew (ys := []) (its := []) (t' := s.toks) .nil (Nat.zero_le _)
  have I2 := I1.lset (ys := []) (its' := []) (f := fun x => #[]) (t' := s.toks) upd_same hS rfl .nil (Nat.zero_le _)
  have I3 := I2.lset (ys := [.non]) (its' := [.none]) (f := fun x => x.push .none) (t' := s.toks) upd_same g1 rfl (.cons rfl .nil) (by decide)
  have g3 := Heap.get?_update_self (Obj.mapSeq fun x => x.push .none) g1 rfl
  have I4 := I3.lset (ys := []) (its' := []) (f := fun x => x.pop) (t' := s.toks) upd_same g3 rfl .nil (Nat.zero_le _)
  have Z4 : ZAt ((((s.heap.push { cls := .type "list", data := .seq #[] }).update s.heap.objs.size (Obj.mapSeq fun x => #[])).update s.heap.objs.size (Obj.mapSeq fun x => x.push .none)).update s.heap.objs.size (Obj.mapSeq fun x => x.pop)) z TI TO i1 i2 l1 l2 0 := by
    refine Z.on hall (fun b o nb hb => ?_) ⟨_, Heap.get?_update_self _ g3 rfl⟩
    rw [Heap.get?_update_ne _ _ _ _ nb, Heap.get?_update_ne _ _ _ _ nb, Heap.get?_update_ne _ _ _ _ nb]
    exact Heap.get?_push_of_some _ hb
  have hE : ∀ b (o : HO), b ≠ s.heap.objs.size → H b = some o → upd (upd (upd (upd H s.heap.objs.size (HO.lst [])) s.heap.objs.size (HO.lst [])) s.heap.objs.size (HO.lst [V.non])) s.heap.objs.size (HO.lst []) b = some o := fun b o nb hb => by
    rw [upd_ne nb, upd_ne nb, upd_ne nb, upd_ne nb]
    exact hb
  have hf : ∀ b ∈ [z, TO, i1, i2], upd (upd (upd (upd H s.heap.objs.size (HO.lst [])) s.heap.objs.size (HO.lst [])) s.heap.objs.size (HO.lst [V.non])) s.heap.objs.size (HO.lst []) b = none := fun b hb => by
    have nb : b ≠ s.heap.objs.size := by
      simp only [List.mem_cons, List.not_mem_nil, or_false] at hb
      rcases hb with rfl | rfl | rfl | rfl
      · exact hall.1.symm
      · exact hall.2.2.1.symm
      · exact hall.2.2.2.1.symm
      · exact hall.2.2.2.2.symm
    rw [upd_ne nb, upd_ne nb, upd_ne nb, upd_ne nb]
    exact (fp b hb).1
  have hup : upd (upd (upd (upd H s.heap.objs.size (HO.lst [])) s.heap.objs.size (HO.lst [])) s.heap.objs.size (HO.lst [V.non])) s.heap.objs.size (HO.lst []) s.heap.objs.size = some (HO.lst []) := upd_same
  generalize upd (upd (upd (upd H s.heap.objs.size (HO.lst [])) s.heap.objs.size (HO.lst [])) s.heap.objs.size (HO.lst [V.non])) s.heap.objs.size (HO.lst []) = H4 at I4 hE hf hup
  exact zip_loop (X := X) (pins := pins) (σ := σ) (H0 := H) (S := s.heap.objs.size) (xs := xs) (ys := ys) ap hl hx hh (fun H s _ hf b hb => ⟨hf b hb, (fp b hb).2⟩) hall (fun H2 e => ⟨ex_l (fun b o hb => e b o (ne_of_none hb nS) hb) s1, ex_l (fun b o hb => e b o (ne_of_none hb nS) hb) s2⟩) h
    xs.length 0 _ H4 [] (by omega) (Nat.zero_le _) I4 hE hup rfl (fun j p hp => nomatch hp) hf Z4
theorem call_list_zip {pins : List (Addr × Obj)} {σ : L2.St} {z TI TO i1 i2 l1 l2 : Addr} {xs ys : List V} {H : Hp} {s : Shared} {Q : Value → Shared → Prop} {E : Value → Shared → Prop} (ap : ZipApart z TI TO i1 i2 l1 l2) (hl : xs.length = ys.length) (hx : xs.length ≤ 1000) {A : Around} (hh : A.handled = none)
    (I : L2.Inv X pins σ H s) (fp : ∀ b ∈ [z, TO, i1, i2], FpOk X pins H b) (Z : ZAt s.heap z TI TO i1 i2 l1 l2 0) (hz : IsZip s.heap z TI TO .none) (s1 : SqL X.K H l1 xs) (s2 : SqL X.K H l2 ys)
    (h : ∀ (s' : Shared) (H' : Hp) (S : Addr) (ps : List Addr), L2.Inv X pins σ H' s' → Ex H H' → H S = none → H' S = some (.lst (ps.map V.ref)) → ps.length = xs.length →
      (∀ (j : Nat) (p : Addr), ps[j]? = some p → ∃ x y, xs[j]? = some x ∧ ys[j]? = some y ∧ H' p = some (.tup [x, y])) → Q (.ref S) s') :
    wpAny (model X.prog X.w) A (call (.type "list") [.ref z]) Q E s := by
  obtain ⟨c, tl, hmro⟩ := F.called_list.mro
  have hmade := F.called_list.made
  have hsub := F.called_list.sub
  refine wpAny_call (codeAny_of_tree ?_)
  show wpAny _ _ (callAny (.type "list") _) _ _ _
  refine wpAny_pure ⟨Code.quiet_builtin _ (by decide +kernel), codeAny_builtin F.entry_type_call ?_⟩
  rw [Around.under_plain (weight_type_call_type "list" [.ref z] []) rfl]
  have k1 := F.called_list.notType
  have k2 := F.called_list.canCreate
  have k3 := F.typeCall_list_1 (.ref z)
  repeat (any_goals (first | assumption | wp_step))
  refine codeAny_mono (code_list_new (.ref z) (E := E) (Q₁ := fun obj s₁ => obj = .ref s.heap.objs.size ∧ s₁ = { s with heap := s.heap.push { cls := .type "list", data := .seq #[] } }) ⟨rfl, rfl⟩) ?_
  intro r s₁ hr
  cases r with
  | error e => exact hr
  | ok fl =>
    cases fl with
    | ret obj =>
      obtain ⟨rfl, rfl⟩ := hr
      have hS : (s.heap.push { cls := .type "list", data := .seq #[] }).get? s.heap.objs.size = some { cls := .type "list", data := .seq #[] } := Heap.get?_push_size _ rfl
      have hT : Shared.TypeIs { s with heap := s.heap.push { cls := .type "list", data := .seq #[] } } (.ref s.heap.objs.size) "list" := ⟨_, hS, rfl⟩
      have k4 := F.called_list.init.lookup
      have k5 := F.called_list.init.bind (.ref s.heap.objs.size)
      repeat (any_goals (first | assumption | wp_step))
      let G : Value → Shared → Prop := fun r s₂ => r = .none ∧ ∃ (H' : Hp) (ps : List Addr), L2.Inv X pins σ H' s₂ ∧ (∀ b o, b ≠ s.heap.objs.size → H b = some o → H' b = some o) ∧ H' s.heap.objs.size = some (.lst (ps.map V.ref)) ∧ ps.length = xs.length ∧
        (∀ (j : Nat) (p : Addr), ps[j]? = some p → ∃ x y, xs[j]? = some x ∧ ys[j]? = some y ∧ H' p = some (.tup [x, y]))
      refine codeAny_mono (codeAny_call_builtin (R := wants G E) F.called_list.init.plain F.entry_list_init (check_list_init_1 hT ?_)) ?_
      · have hne : s.heap.objs.size ≠ z := fun e => absurd (Heap.lt_size hz) (by rw [e]; exact Nat.lt_irrefl _)
        have hz2 : IsZip (s.heap.push { cls := .type "list", data := .seq #[] }) z TI TO .none := Heap.get?_push_of_some _ hz
        unfold Builtin.«list.__init__»
        generalize hEW : Builtin.List.listExtendWith = EW
        wp_walk
        subst hEW
        have g1 : ((s.heap.push { cls := .type "list", data := .seq #[] }).update s.heap.objs.size (Obj.mapSeq fun x => #[])).get? s.heap.objs.size = some { cls := .type "list", data := .seq #[] } := Heap.get?_update_self _ hS rfl
        have g2 : IsZip ((s.heap.push { cls := .type "list", data := .seq #[] }).update s.heap.objs.size (Obj.mapSeq fun x => #[])) z TI TO .none := by
          show Heap.get? _ _ = _
          rw [Heap.get?_update_ne _ _ _ _ hne.symm]
          exact hz2
        refine ext_zip g2 g1 hne ?_
        exact zip_run ap hl hx (by simp [hh]) I fp Z hz s1 s2 fun s' H' ps J e hp hlen ht => ⟨rfl, H', ps, J, e, hp, hlen, ht⟩
      · intro r₂ s₂ hr₂
        cases r₂ with
        | error e => exact hr₂
        | ok fl₂ =>
          cases fl₂ with
          | ret r =>
            obtain ⟨rfl, H', ps, J, e, hp, hlen, ht⟩ := hr₂
            have nS : H s.heap.objs.size = none := I.fresh
            repeat (any_goals (first | assumption | wp_step))
            exact h _ H' _ ps J (fun b o hb => e b o (ne_of_none hb nS) hb) nS hp hlen ht
          | _ => exact hr₂.elim
    | _ => exact hr.elim
end
end Vf

/-! list(zip(xs, ys)), the rule; sums of bools. -/
namespace Vf
open PySem PySem.Spec PyProof.Rows L2 Evl
section
variable {X : Cx} {K : PySem.W.Frag}
def tLstZip (K : PySem.W.Frag) (ta : TA) : TE := fun σ H Q => ta σ H fun vs H1 => ∃ (a b : Addr) (xs ys : List V), vs = [.ref a, .ref b] ∧ SqL K H1 a xs ∧ SqL K H1 b ys ∧ xs.length = ys.length ∧ xs.length ≤ 1000 ∧
  ∀ (l : Addr) (ps : List Addr) (H2 : Hp), H1 l = none → Ex H1 H2 → H2 l = some (.lst (ps.map V.ref)) → ps.length = xs.length → (∀ (j : Nat) (p : Addr), ps[j]? = some p → ∃ x y, xs[j]? = some x ∧ ys[j]? = some y ∧ H2 p = some (.tup [x, y])) → Q (.ref l) H2
theorem pe_listZip {e e2 : Expr} {ta : TA} {p p2 pos pos2 : Pos} (hK : X.K = K) (hc : X.calm = true) (hg : Gl X "list") (hm : X.mg "list" = none) (hg2 : Gl X "zip") (hm2 : X.mg "zip" = none) (he : PA X [e, e2] ta)
    (hs : starEach [e, e2] X.env = (false, eval e X.env) :: starEach [e2] X.env := by rfl) (hs2 : ((backTo pos2 (starEach [e2] X.env)).any fun x => x.fst) = false := by rfl)
    (hs3 : starEach [Expr.Call (.Name "zip" p2) [e, e2] [] pos2] X.env = [(false, eval (.Call (.Name "zip" p2) [e, e2] [] pos2) X.env)] := by rfl) :
    PE X (.Call (.Name "list" p) [.Call (.Name "zip" p2) [e, e2] [] pos2] [] pos) (tLstZip K ta) := by
  subst hK
  refine ⟨fun pins s σ H Q I h => Call_Name1 (ld_blt I hg hm (u := .type "list") (by decide +kernel) (PySem.callWith_type1 ?_) (by decide) (by decide)) hs3⟩
  refine Call_Name rfl (ld_blt I hg2 hm2 (u := .type "zip") (by decide +kernel) (PyProof.Rows.callWith_type1 ?_ hs hs2) (by decide) (by decide))
  refine thn (he.run pos2 pins s σ H _ I h) fun us s2 ⟨vs, H1, I1, rv, a, b, xs, ys, hvs, s1, s2', hl, hx, k⟩ => ?_
  subst hvs
  obtain ⟨its1, r1, p1, _⟩ := I1.list s1
  obtain ⟨its2, r2, p2, _⟩ := I1.list s2'
  have hus : us = [.ref a, .ref b] := by
    cases rv with
    | cons h1 t =>
      cases t with
      | cons h2 t =>
        cases t
        rw [show _ = Value.ref a from h1, show _ = Value.ref b from h2]
  rw [hus]
  refine call_zip_2 p1.isList p2.isList fun h' g1 g2 g3 g4 g5 g6 g7 => ?_
  have I2 := I1.kept (h' := h') (t' := s2.toks) g7
  have nn : ∀ q, s2.heap.objs.size ≤ q → H1 q = none := fun q hq => I1.hok.fresh hq
  have fo : ∀ q, s2.heap.objs.size ≤ q → FpOk X pins H1 q := fun q hq => I1.fpOk hq (nn q hq)
  have L1 : a < s2.heap.objs.size := p1.lt
  have L2' : b < s2.heap.objs.size := p2.lt
  refine call_list_zip (zipApart_new L1 L2') hl hx (I.ok.hd hc) I2 (fun q hq => ?_) ⟨g2, g4, g5, ⟨_, g3⟩, .inl ⟨rfl, g1, _, _, g3⟩⟩ g1 s1 s2' (fun s' H' S ps J e nS hp hlen ht => ⟨.ref S, H', J, rfl, k S ps H' nS e hp hlen ht⟩)
  simp only [List.mem_cons, List.not_mem_nil, or_false] at hq
  rcases hq with rfl | rfl | rfl | rfl
  · exact fo _ (Nat.le_add_right _ _)
  · exact fo _ (Nat.le_add_right _ _)
  · exact fo _ (Nat.le_refl _)
  · exact fo _ (Nat.le_add_right _ _)
def bcnt (bs : List Bool) : Int := (bs.filter id).length
def rSumB (K : PySem.W.Frag) : List V → Hp → VK → Prop := fun vs H Q => ∃ (a : Addr) (bs : List Bool), vs = [.ref a] ∧ SqL K H a (bs.map V.bl) ∧ Q (.int (bcnt bs)) H
theorem pre_cnt (bs : List Bool) : ∀ n, n ≤ bs.length → preSum (fun i => if bs.getD i false = true then 1 else 0) n = bcnt (bs.take n) := by
  intro n
  induction n with
  | zero => intro _; rfl
  | succ n ih =>
    intro hn
    have hx : bs[n]? = some bs[n] := List.getElem?_eq_getElem (by omega)
    have e : preSum (fun i => if bs.getD i false = true then (1 : Int) else 0) (n + 1) = preSum (fun i => if bs.getD i false = true then 1 else 0) n + if bs.getD n false = true then 1 else 0 := rfl
    rw [e, ih (by omega), take_snoc hx, List.getD_eq_getElem?_getD, hx]
    unfold bcnt
    rw [List.filter_append, List.length_append]
    cases bs[n] <;> simp
theorem cr_sumB (hc : X.calm = true) (hK : X.K = K) : CallR X (.builtin "sum") (rSumB K) := by
  subst hK
  intro pins s σ H xs us Q I r h
  obtain ⟨a, bs, rfl, hs, q⟩ := h
  obtain ⟨its, rv, pl, _⟩ := I.list hs
  rw [Vals.ref1 r]
  have hlen := rv.length
  rw [List.length_map] at hlen
  refine call_sum_walkAnyB (wpAny_pyIter_list pl.isList ?_)
  have hls : a < s.heap.objs.size := pl.lt
  refine ⟨_, _, _, _, _, _, _, fun i => if bs.getD i false = true then 1 else 0, rfl, (Walks.list (by simp [I.ok.hd hc]) _ a (Nat.ne_of_lt hls) its.toArray).toS, ⟨⟨_, Heap.get?_push_size _ rfl, rfl, rfl⟩, pl.isList.push _⟩, fun b hb => ?_, fun i v hv => ?_, fun s' t' M => ?_⟩
  · show b < (s.heap.push _).objs.size
    rw [Heap.size_push]
    simp only [List.mem_cons, List.not_mem_nil, or_false] at hb
    rcases hb with rfl | rfl
    · exact Nat.lt_succ_self _
    · exact Nat.lt_succ_of_lt hls
  · have z := vals_at rv i
    have hv : its[i]? = some v := by simpa using hv
    rw [hv] at z
    have hi : i < bs.length := by
      rw [hlen]
      exact (List.getElem?_eq_some_iff.mp hv).1
    have hx : bs[i]? = some bs[i] := List.getElem?_eq_getElem hi
    rw [List.getElem?_map, hx] at z
    refine .inr ⟨bs[i], z, ?_⟩
    show (if bs.getD i false = true then (1 : Int) else 0) = _
    rw [List.getD_eq_getElem?_getD, hx]
    rfl
  · obtain ⟨h', g2, d', tk', os'⟩ := s'
    obtain rfl : g2 = s.gens := M.gens
    obtain rfl : d' = s.drawn := M.drawn
    obtain rfl : os' = s.os := M.os
    have e : preSum (fun i => if bs.getD i false = true then (1 : Int) else 0) its.toArray.size = bcnt bs := by
      rw [List.size_toArray, ← hlen, pre_cnt bs _ (Nat.le_refl _), List.take_length]
    rw [e]
    refine ⟨.int (bcnt bs), H, I.kept (fun b u hb => M.heap b u (fun hm => ?_) (Heap.get?_push_of_some _ hb)), ⟨_, rfl⟩, q⟩
    have := Heap.lt_size hb
    rw [List.mem_singleton.mp hm] at this
    exact Nat.lt_irrefl _ this
end
end Vf

/-! {t: v}, t a tuple; xs[i] read where it is changed. -/
namespace Vf
open PySem PySem.Spec PyProof.Rows L2 Evl
section
variable {X : Cx} {K : PySem.W.Frag}
def rGetL (K : PySem.W.Frag) : V → V → Hp → VK → Prop := fun o i H Q => ∃ (p : Addr) (xs : List V) (j : Nat) (v : V), o = .ref p ∧ i = .int (j : Int) ∧ SqL K H p xs ∧ xs[j]? = some v ∧ Q v H
theorem get_listK (hK : X.K = K) : PGet X (rGetL K) := by
  subst hK
  intro pins s σ H o i ov iv Q I ro ri h
  obtain ⟨p, xs, j, v, rfl, rfl, hs, hx, q⟩ := h
  obtain ⟨its, rv, pl, hz⟩ := I.list hs
  cases (show ov = Value.ref p from ro)
  obtain ⟨t, rfl⟩ : ∃ t, iv = Value.int (j : Int) t := ri
  have z := vals_at rv j
  rw [hx] at z
  cases hu : its[j]? with
  | none => rw [hu] at z; exact z.elim
  | some u =>
    rw [hu] at z
    have hj : j < xs.length := (List.getElem?_eq_some_iff.mp hx).1
    refine wpAny_getItem_list pl.isList (by omega) (by unfold sizeLine at hz; omega) (by simpa using hu) ⟨v, H, I, z, q⟩
theorem eval_disp1 (k v : Expr) (env : Env) (pos : Pos) : eval (Expr.Dict [some k] [v] pos) env = (do standAt pos; let d ← subDict (pairTrees [some k] [v] env pos); pure (Value.ref d)) := by
  rw [arm_eval_Dict, ← dictDisplay_pairs _ (by simp [pairTrees]) (by simp [pairTrees])]
  rfl
/-- {t: v}, t a tuple -/
def tDisp1T (tk tv : TE) : TE := fun σ H Q => ∀ p, H p = none → tk σ (upd H p (.dT [])) fun x H1 => tv σ H1 fun y H2 => ∃ (b : Addr) (k : List Key), x = .ref b ∧ H2 b = some (.tup (k.map kV)) ∧ H2 p = some (.dT []) ∧ Q (.ref p) (upd H2 p (.dT [(k, y)]))
theorem pe_disp1T {k v : Expr} {tk tv : TE} {pos : Pos} (hu : X.A.units < cLine) (hk : PE X k tk) (hv : PE X v tv) : PE X (.Dict [some k] [v] pos) (tDisp1T tk tv) := by
  refine ⟨fun pins s σ H Q I h => ?_⟩
  rw [eval_disp1]
  refine wpAny_bind ?_
  wp_step
  refine wpAny_bind (wpAny_subDict_any (pairs := pairTrees [some k] [v] X.env pos) (by show 1 ≤ 15; decide) ?_)
  have nD : H s.heap.objs.size = none := I.fresh
  have hD : (s.heap.push { cls := .type "dict", data := .dict #[] }).get? s.heap.objs.size = some { cls := .type "dict", data := .dict #[] } := Heap.get?_push_size _ rfl
  have nsm : (s.heap.objs.size == sysModules) = false := by
    have := I.big
    exact beq_eq_false_iff_ne.mpr fun z => absurd this (by rw [z]; exact Nat.lt_irrefl _)
  have I1 : L2.Inv X pins σ (upd H s.heap.objs.size (.dT [])) { s with heap := s.heap.push { cls := .type "dict", data := .dict #[] } } :=
    I.laid (t' := s.toks) (fun b u e => Heap.get?_push_of_some _ e) (Nat.le_refl _) ⟨Nat.zero_le _, nsm, [], .nil, _, _, _, hD, ⟨rfl, rfl, rfl⟩, rfl, rfl, .nil⟩
  have T := h s.heap.objs.size nD
  have P2 : PPs X pos [some k] [v] [(tk, tv)] := pps_cons hk hv pps_nil
  refine thn (P2.run pins _ σ _ (fun ps H2 => match ps with | [(x, y)] => ∃ (b : Addr) (k : List Key), x = .ref b ∧ H2 b = some (.tup (k.map kV)) ∧ H2 s.heap.objs.size = some (.dT []) ∧ Q (.ref s.heap.objs.size) (upd H2 s.heap.objs.size (.dT [(k, y)])) | _ => False) I1 T) fun vs s2 ⟨ps, H2, I2, vv, z⟩ => ?_
  · match ps, vv, z with
    | [(x, y)], vv, ⟨b, kk, hx, hb, hp, q⟩ =>
    subst hx
    obtain ⟨u, r, rfl, hu1, hr1⟩ : ∃ u r, vs = [(u, r)] ∧ RelV (.ref b) u ∧ RelV y r := by
      cases vv with
      | cons h1 t =>
        cases t
        exact ⟨_, _, rfl, h1.1, h1.2⟩
    cases (show u = Value.ref b from hu1)
    obtain ⟨_, _, xs, kt, dh⟩ := dt_of I2.hok hp
    have e0 : xs = [] := by cases kt; rfl
    subst e0
    unfold storeAll
    rw [List.forIn_cons]
    refine wpAny_bind (wpAny_bind (wpAny_dictSet_heap (knd := tupleKind (mixKind X.prog X.w)) hu (key_of I2.hok hb) dh (fun h' dh' sb => ?_) (by decide)))
    refine wpAny_pure ?_
    refine wpAny_pure ?_
    refine wpAny_pure ?_
    obtain ⟨o, es, ep, d1, d2, d3, d4, _, d6⟩ := dh'
    have nbD : b ≠ s.heap.objs.size := fun z => by rw [z, hp] at hb; cases hb
    refine ⟨.ref s.heap.objs.size, _, I2.write (h' := h') (x := s.heap.objs.size) (e := s.heap.objs.size) (o := .dT [(kk, y)]) (t' := s2.toks + (tupleKind (mixKind X.prog X.w)).draws kk) (by rw [hp]; trivial) (.inl rfl) (fun q u nq e => ?_) ⟨_, d1⟩ ⟨by show 1 ≤ sizeLine; decide, nsm, [(kk, b, r)], .cons ⟨rfl, ?_, hr1⟩ .nil, o, es, ep, d1, d2, d3, d4, d6⟩, rfl, q⟩
    · exact (sb.2 q nq).trans e
    · show upd H2 s.heap.objs.size _ b = _
      rw [upd_ne nbD]
      exact hb
theorem mt_indexK (h : X.K = K) : MtR X "list.index" (rIndex K) := by subst h; exact mt_index
end
end Vf

/-! Comprehensions over zip. -/
namespace Vf
open PySem PySem.Spec PyProof.Rows L2 Evl
section
variable {X : Cx} {K : PySem.W.Frag}
theorem pi_zipK {e e2 : Expr} {ta : TA} {p pos tpos : Pos} {elts : List Expr} {kk : Nat} (h : X.K = K) (hg : Gl X "zip") (hm : X.mg "zip" = none) (ha : PA X [e, e2] ta)
    (hs : starEach [e, e2] X.env = (false, eval e X.env) :: starEach [e2] X.env := by rfl) (hpl : (backTo pos (starEach [e2] X.env)).any (·.1) = false := by rfl) :
    PI X (.Tuple elts kk tpos) (.Call (.Name "zip" p) [e, e2] [] pos) (iZip K ta) := by subst h; exact pi_zip hg hm ha hs hpl
end
section
variable {K : PySem.W.Frag} {σ : L2.St} {H : Hp} {ta : TA} {te : TE} {t : TT}
/-- [e for x, y in zip(xs, ys) if t] -/
theorem el_lcZ {a b : Addr} {xs ys : List V} {j1 j2 : Nat} {vs : List Nat} (f : Nat → Bool) (v : Nat → V) (h : EvA ta σ H [.ref a, .ref b]) (hx : SqL K H a xs) (hy : SqL K H b ys) (hl : xs.length = ys.length) (hz : xs.length ≤ 40000)
    (hw : ∀ x y, wipe (((wipe σ vs).set j1 (some x)).set j2 (some y)) vs = wipe σ vs)
    (ht : ∀ (i : Nat) (x y : V) H1, Ex H H1 → xs[i]? = some x → ys[i]? = some y → EvT t (((wipe σ vs).set j1 (some x)).set j2 (some y)) H1 (f i))
    (he : ∀ (i : Nat) (x y : V) H1, Ex H H1 → xs[i]? = some x → ys[i]? = some y → f i = true → Ev te (((wipe σ vs).set j1 (some x)).set j2 (some y)) H1 (v i)) :
    EvL (tLc (iZip K ta) (gTup K 2 (gCons (gName j1) (gCons (gName j2) gNil))) t te vs) σ H (given xs.length f v) := fun H0 e Q q => h H0 e _ fun H1 e1 => by
  refine ⟨a, b, xs, ys, rfl, ex_l (e.trans e1) hx, ex_l (e.trans e1) hy, fun Dl hD => ?_⟩
  refine lc_it (walk_zip (K := K) (a := a) (b := b) (xs := xs) (ys := ys) (n := xs.length) (by omega)) (Cw H1 f v Dl) ⟨hD, Ex.new hD, upd_same⟩ (fun i H' _ p => ⟨ex_l ((e.trans e1).trans p.2.1) hx, ex_l ((e.trans e1).trans p.2.1) hy⟩) (fun i z H2 H' hi p Y => ?_) fun H' p => q Dl H' (fresh_back e1 p.1) (e1.trans p.2.1) p.2.2
  obtain ⟨T, x, y, rfl, nT, rfl, h1, h2⟩ := Y
  have eT : Ex H2 (upd H2 T (.tup [x, y])) := Ex.new nT
  have p2 : Cw H1 f v Dl i (upd H2 T (.tup [x, y])) := ⟨p.1, p.2.1.trans eT, eT _ _ p.2.2⟩
  refine ⟨T, _, rfl, .inl (.inl upd_same), rfl, _, _, rfl, _, _, rfl, rfl, hw x y, ?_⟩
  exact cw_turn p2 (by omega) (ht i x y H1 (e.trans e1) h1 h2) (fun hf => he i x y H1 (e.trans e1) h1 h2 hf)
end
end Vf

/-! Openers: a statement's parts one by one; for over zip. -/
namespace Vf
open PySem PySem.Spec PyProof.Rows L2 Evl
section
variable {K : PySem.W.Frag} {D : Ends} {tb tz : TS} {g : TG} {te : TE} {ta : TA} {σ : L2.St} {H : Hp}
theorem q_run (h : te σ H (fun v H1 => g v σ H1 fun σ2 H2 => tz D σ2 H2)) : tSeq (tAsg te g) tz D σ H := h
theorem call_1L {sp : Sp} {dvs xs : List V} {E : XK} {Q : VK} (h : EvL te σ H xs) (k : ∀ p H1, H p = none → Ex H H1 → H1 p = some (.lst xs) → sp ([.ref p] ++ dvs) H1 Q E) : tCall sp dvs E (tCons te tNil) σ H Q :=
  h H (Ex.refl H) _ fun p H1 np e hp => k p H1 np e hp
theorem call_ev {sp : Sp} {dvs vs : List V} {E : XK} {Q : VK} (h : EvA ta σ H vs) (k : ∀ H1, Ex H H1 → sp (vs ++ dvs) H1 Q E) : tCall sp dvs E ta σ H Q := h H (Ex.refl H) _ fun H1 e => k H1 e
theorem s_forZ {a b : Addr} {xs ys : List V} (h : EvA ta σ H [.ref a, .ref b]) (hx : SqL K H a xs) (hy : SqL K H b ys) (hl : xs.length = ys.length) (Pv : Nat → L2.St → Hp → Prop) (h0 : ∀ H1, Ex H H1 → Pv 0 σ H1)
    (hG : ∀ i σ' H', Pv i σ' H' → SqL K H' a xs ∧ SqL K H' b ys)
    (hs : ∀ i x y T σ' H', xs[i]? = some x → ys[i]? = some y → Pv i σ' H' → H' T = none → g (.ref T) σ' (upd H' T (.tup [x, y])) fun σ2 H2 => tb { D with nx := Pv (i + 1), ct := Pv (i + 1), bk := D.nx } σ2 H2)
    (hd : ∀ σ' H', Pv xs.length σ' H' → D.nx σ' H') : tFor (iZip K ta) g tb D σ H :=
  h H (Ex.refl H) _ fun H1 e1 => ⟨a, b, xs, ys, rfl, ex_l e1 hx, ex_l e1 hy, for_it (walk_zip (K := K) (a := a) (b := b) (xs := xs) (ys := ys) (n := xs.length) (by omega)) Pv (h0 H1 e1) (fun i σ' H' _ p => hG i σ' H' p)
    (fun i z σ' H2 H' hi p Y => by
      obtain ⟨T, x, y, rfl, nT, rfl, h1, h2⟩ := Y
      exact hs i x y T σ' H2 h1 h2 p nT) hd⟩
theorem q_forZ {a b : Addr} {xs ys : List V} (h : EvA ta σ H [.ref a, .ref b]) (hx : SqL K H a xs) (hy : SqL K H b ys) (hl : xs.length = ys.length) (Pv : Nat → L2.St → Hp → Prop) (h0 : ∀ H1, Ex H H1 → Pv 0 σ H1)
    (hG : ∀ i σ' H', Pv i σ' H' → SqL K H' a xs ∧ SqL K H' b ys)
    (hs : ∀ i x y T σ' H', xs[i]? = some x → ys[i]? = some y → Pv i σ' H' → H' T = none → g (.ref T) σ' (upd H' T (.tup [x, y])) fun σ2 H2 => tb { D with nx := Pv (i + 1), ct := Pv (i + 1), bk := tz D } σ2 H2)
    (hd : ∀ σ' H', Pv xs.length σ' H' → tz D σ' H') : tSeq (tFor (iZip K ta) g tb) tz D σ H := s_forZ (D := { D with nx := tz D }) h hx hy hl Pv h0 hG hs hd
end
end Vf

/-! lcm, factorial, comb; a new list of new tuples as an answer; a promise that is never asked for. -/
namespace Vf
open PySem PySem.Spec PyProof.Rows L2 Evl
section
variable {X : Cx}
def rLcm : List V → Hp → VK → Prop := fun vs H Q => ∃ a b : Int, vs = [.int a, .int b] ∧ a.natAbs < 2 ^ 64 ∧ b.natAbs < 2 ^ 64 ∧ Q (.int ((a.natAbs.lcm b.natAbs : Nat) : Int)) H
theorem cr_lcm : CallR X (.builtin "math.lcm") rLcm := by
  intro pins s σ H vs us Q I r h
  obtain ⟨a, b, rfl, ha, hb, q⟩ := h
  obtain ⟨t, u, rfl⟩ := Vals.int2 r
  exact PySem.W.mc_lcm ha hb fun _ => ⟨.int _, H, I.tok _, ⟨_, rfl⟩, q⟩
/-- 1 * 2 * .. * n -/
def fac : Nat → Nat
  | 0 => 1
  | n + 1 => (n + 1) * fac n
theorem fac_is (n : Nat) : Builtin.Math.factorialNat n = fac n := by
  induction n with
  | zero => rfl
  | succ n ih =>
    unfold Builtin.Math.factorialNat at ih ⊢
    rw [List.range_succ, List.foldl_append, ih]
    show fac n * (n + 1) = (n + 1) * fac n
    exact Nat.mul_comm _ _
def rFac : List V → Hp → VK → Prop := fun vs H Q => ∃ n : Nat, vs = [.int (n : Int)] ∧ n ≤ 1000 ∧ Q (.int ((fac n : Nat) : Int)) H
theorem cr_fac : CallR X (.builtin "math.factorial") rFac := by
  intro pins s σ H vs us Q I r h
  obtain ⟨n, rfl, hn, q⟩ := h
  obtain ⟨u, rfl, t, rfl⟩ : ∃ u, us = [u] ∧ ∃ t, u = Value.int (n : Int) t := by
    obtain ⟨u, e, ru⟩ := vals1 r
    exact ⟨u, e, ru⟩
  refine PySem.W.mc_factorial (by omega) (by omega) fun z => ⟨.int _, H, I.tok _, ⟨_, rfl⟩, ?_⟩
  rw [fac_is, Int.toNat_natCast]
  exact q
def rComb : List V → Hp → VK → Prop := fun vs H Q => ∃ a b : Nat, vs = [.int (a : Int), .int (b : Int)] ∧ a ≤ 1000 ∧ b ≤ 1000 ∧ Q (.int (PySem.W.mcComb (a : Int) (b : Int))) H
theorem cr_comb : CallR X (.builtin "math.comb") rComb := by
  intro pins s σ H vs us Q I r h
  obtain ⟨a, b, rfl, ha, hb, q⟩ := h
  obtain ⟨t, u, rfl⟩ := Vals.int2 r
  exact PySem.W.mc_comb (by omega) (by omega) (by omega) (by omega) fun _ => ⟨.int _, H, I.tok _, ⟨_, rfl⟩, q⟩
end
theorem comb_two (n : Nat) : 2 * PySem.W.mcComb (n : Int) ((2 : Nat) : Int) = (n : Int) * ((n : Int) - 1) := (PySem.W.mc_comb_known (a := (n : Int)) (b := 2) (by omega) (by decide)).2.2.2.2.2.2.2 rfl
theorem fn_never {P : Program} {w : World} {K : PySem.W.Frag} {mg : Str → Option Value} {base : Heap} {CX : CXT} {k : Nat} {f : Addr} {fd : FuncData} {ps : List Str} : FnOk P w K mg base CX k f fd ps (fun _ _ _ _ => False) :=
  ⟨fun _ _ _ _ h => h.elim, fun _ _ _ _ _ _ _ _ _ _ _ _ _ h => h.elim⟩
def RetLT (us : List (List V)) (H : Hp) (Q : VK) : Prop := ∀ D H2, H D = none → Ex H H2 → TLAt H2 D us → Q (.ref D) H2
theorem RetLT.go {H H' : Hp} {us : List (List V)} {Q : VK} (k : RetLT us H Q) (e : Ex H H') {D : Addr} {H2 : Hp} (hD : H' D = none) (e2 : Ex H' H2) (h : TLAt H2 D us) : Q (.ref D) H2 := k D H2 (fresh_back e hD) (e.trans e2) h
end Vf
namespace Vf
open PySem PySem.Spec PyProof.Rows L2 Evl
section
variable {K : PySem.W.Frag} {σ : L2.St} {H : Hp} {te : TE} {ta : TA}
theorem elt_one {us : List V} (h : EvU te σ H us) : EvLT (tLst (tCons te tNil)) σ H [us] := fun H1 e Q q =>
  h H1 e _ fun p H2 np e2 hp => ⟨(by show 1 ≤ sizeLine; decide), fun D nD => q D _ (fresh_back e2 nD) (e2.trans (Ex.new nD)) ⟨[p], upd_same, rfl, fun i p' u x y => by
    match i, x, y with
    | 0, x, y =>
      cases x
      cases y
      exact (Ex.new nD) _ _ hp⟩⟩
theorem ev_lcm {a b : Int} (h : EvA ta σ H [.int a, .int b]) (ha : a.natAbs < 2 ^ 64) (hb : b.natAbs < 2 ^ 64) : Ev (tCB rLcm ta) σ H (.int ((a.natAbs.lcm b.natAbs : Nat) : Int)) := ev_cb h fun H1 _ Q q => ⟨a, b, rfl, ha, hb, q H1 (Ex.refl H1)⟩
theorem ev_fac {n : Nat} (h : EvA ta σ H [.int (n : Int)]) (hn : n ≤ 1000) : Ev (tCB rFac ta) σ H (.int ((fac n : Nat) : Int)) := ev_cb h fun H1 _ Q q => ⟨n, rfl, hn, q H1 (Ex.refl H1)⟩
theorem ev_comb {a b : Nat} (h : EvA ta σ H [.int (a : Int), .int (b : Int)]) (ha : a ≤ 1000) (hb : b ≤ 1000) : Ev (tCB rComb ta) σ H (.int (PySem.W.mcComb (a : Int) (b : Int))) := ev_cb h fun H1 _ Q q => ⟨a, b, rfl, ha, hb, q H1 (Ex.refl H1)⟩
theorem RetLT.ret {D : Ends} {us : List (List V)} (h : EvLT te σ H us) (k : ∀ A H1, H A = none → Ex H H1 → TLAt H1 A us → D.rt (.ref A) H1) : tRet te D σ H := s_retLT h k
theorem ev_lenS {p : Addr} {xs : List V} (h : Ev te σ H (.ref p)) (hs : SqL K H p xs) : Ev (tCB (rLenS K) (tCons te tNil)) σ H (.int (xs.length : Int)) := fun H1 e Q q =>
  h H1 e _ fun H2 e2 => ⟨p, xs, rfl, .inl (ex_l (e.trans e2) hs), q H2 e2⟩
/-- [e for x, y in ts if t], ts a new list of new pairs -/
theorem el_lcT2 {tl : TE} {t : TT} {us : List (V × V)} {j1 j2 : Nat} {vs : List Nat} (f : Nat → Bool) (v : Nat → V) (h : EvLT tl σ H (us.map fun u => [u.1, u.2])) (hz : us.length ≤ 40000)
    (hw : ∀ x y, wipe (((wipe σ vs).set j1 (some x)).set j2 (some y)) vs = wipe σ vs)
    (ht : ∀ (i : Nat) (u : V × V) H1, Ex H H1 → us[i]? = some u → EvT t (((wipe σ vs).set j1 (some u.1)).set j2 (some u.2)) H1 (f i))
    (he : ∀ (i : Nat) (u : V × V) H1, Ex H H1 → us[i]? = some u → f i = true → Ev te (((wipe σ vs).set j1 (some u.1)).set j2 (some u.2)) H1 (v i)) :
    EvL (tLc (iList K tl) (gTup K 2 (gCons (gName j1) (gCons (gName j2) gNil))) t te vs) σ H (given us.length f v) := fun H0 e Q q => h H0 e _ fun a H1 na e1 hA => by
  obtain ⟨ps, hA1, hA2, hA3⟩ := hA
  rw [List.length_map] at hA2
  have hlen : (ps.map V.ref).length = us.length := by rw [List.length_map, hA2]
  refine ⟨a, rfl, ⟨_, .inl (.inl hA1)⟩, fun Dl hD => ?_⟩
  refine lc_it (walk_list (K := K) (a := a) (xs := ps.map V.ref)) (Cw H1 f v Dl) ⟨hD, Ex.new hD, upd_same⟩ (fun i H' _ p => .inl (.inl (p.2.1 _ _ hA1))) (fun i z H2 H' hi p Y => ?_) fun H' p => q Dl H' (fresh_back e1 p.1) (e1.trans p.2.1) (by rw [← hlen]; exact p.2.2)
  obtain ⟨rfl, hz2⟩ := Y
  obtain ⟨b, hb, rfl⟩ := map_at hz2
  obtain ⟨u, hu⟩ : ∃ u, us[i]? = some u := ⟨_, List.getElem?_eq_getElem (by rw [← hlen]; exact hi)⟩
  have hb2 := hA3 i b [u.1, u.2] hb (by rw [List.getElem?_map, hu]; rfl)
  refine ⟨b, _, rfl, .inl (.inl (p.2.1 _ _ hb2)), rfl, _, _, rfl, _, _, rfl, rfl, hw u.1 u.2, ?_⟩
  exact cw_turn p (by omega) (ht i u H1 (e.trans e1) hu) (fun hf => he i u H1 (e.trans e1) hu hf)
end
end Vf

/-! Lists of whole numbers: in, index, cut, put together. -/
namespace Vf
open PySem PySem.Spec PyProof.Rows L2 Evl
theorem inV_ints (x : Int) : ∀ l : List Int, inV (.int x) (l.map V.int) = decide (x ∈ l)
  | [] => rfl
  | y :: l => by
    have ih := inV_ints x l
    unfold inV at ih ⊢
    rw [List.map_cons, List.any_cons, ih]
    have e : eqV (.int y) (.int x) = decide (y = x) := rfl
    by_cases c : y = x
    · subst c
      simp [e]
    · have c2 : ¬ x = y := fun z => c z.symm
      simp [e, c, c2]
theorem flat_ints (l : List Int) : (l.map V.int).all flatV = true := by
  rw [List.all_eq_true]
  intro x hx
  obtain ⟨y, _, rfl⟩ := List.mem_map.mp hx
  rfl
theorem rv_in {K : PySem.W.Frag} {H : Hp} {p : Addr} {x : Int} {l : List Int} (h : SqL K H p (l.map V.int)) : RV (rIn K false) (.int x) (.ref p) H (.bl (decide (x ∈ l))) := fun H1 e Q q =>
  ⟨p, _, rfl, .inl (ex_l e h), rfl, flat_ints l, by rw [if_neg (by decide), inV_ints]; exact q H1 (Ex.refl H1)⟩
theorem at_idx {o : List Int} {c : Int} (h : c ∈ o) : (o.map V.int)[o.idxOf c]? = some (.int c) := by
  have hlt := List.idxOf_lt_length_of_mem h
  rw [List.getElem?_map, List.getElem?_eq_getElem hlt, List.getElem_idxOf]
  rfl
theorem idx_no {c : Int} : ∀ (o : List Int) (m : Nat), m < o.idxOf c → o[m]? ≠ some c
  | [], m, h => absurd h (Nat.not_lt_zero _)
  | x :: o, m, h => by
    rw [List.idxOf_cons] at h
    by_cases e : x = c
    · subst e
      rw [beq_self_eq_true] at h
      exact absurd h (Nat.not_lt_zero _)
    · rw [beq_eq_false_iff_ne.mpr e] at h
      cases m with
      | zero => exact fun z => e (Option.some.inj z)
      | succ m => exact idx_no o m (Nat.lt_of_succ_lt_succ h)
theorem idx_first {o : List Int} {c : Int} : ∀ (m : Nat) (z : V), m < o.idxOf c → (o.map V.int)[m]? = some z → eqV z (.int c) = false := by
  intro m z hm hz
  rw [List.getElem?_map] at hz
  cases hx : o[m]? with
  | none => rw [hx] at hz; cases hz
  | some x =>
    rw [hx] at hz
    have hz : V.int x = z := Option.some.inj hz
    subst hz
    have e : eqV (.int x) (.int c) = decide (x = c) := rfl
    rw [e]
    exact decide_eq_false fun ex => idx_no o m hm (by rw [hx, ex])
theorem rv_notin {K : PySem.W.Frag} {H : Hp} {p : Addr} {x : Int} {l : List Int} (h : SqL K H p (l.map V.int)) : RV (rIn K true) (.int x) (.ref p) H (.bl (!decide (x ∈ l))) := fun H1 e Q q => by
  have z := rv_niL (x := .int x) h rfl (flat_ints l)
  rw [inV_ints] at z
  exact z H1 e Q q
theorem cut_to (xs : List V) (k : Nat) : cutV xs none (some (k : Int)) = xs.take k := by
  unfold cutV
  rw [HT.sIx_none, HT.sIx_nat]
  by_cases h : k ≤ xs.length
  · rw [Nat.min_eq_left h]
    rfl
  · rw [Nat.min_eq_right (by omega), List.take_of_length_le (by show (xs.drop 0).length ≤ _; simp), List.take_of_length_le (by omega)]
    rfl
theorem cut_from (xs : List V) (k : Nat) (h : k ≤ xs.length) : cutV xs (some (k : Int)) none = xs.drop k := by
  unfold cutV
  rw [HT.sIx_none, HT.sIx_nat, Nat.min_eq_left h, List.take_of_length_le (by rw [List.length_drop]; exact Nat.le_refl _)]
theorem sz_of11 {n : Nat} (h : n ≤ 100000) : n ≤ sizeLine := by unfold sizeLine; omega
theorem el_cat {σ : L2.St} {H : Hp} {ta tb : TE} {a b : List V} (h : EvL ta σ H a) (k : EvL tb σ H b) (hl : a.length + b.length ≤ 100000) : EvL (tOp rCat ta tb) σ H (a ++ b) := fun H1 e Q q =>
  h H1 e _ fun p H2 np e2 hp => k H2 (e.trans e2) _ fun p2 H3 np2 e3 hp2 => ⟨p, p2, _, _, rfl, rfl, e3 _ _ hp, hp2, sz_of11 hl, fun p3 np3 => q p3 _ (fresh_back (e2.trans e3) np3) ((e2.trans e3).trans (Ex.new np3)) upd_same⟩
theorem el_cat2 {σ : L2.St} {H : Hp} {ta tb : TE} {a b : List V} {p2 : Addr} (h : EvL ta σ H a) (k : Ev tb σ H (.ref p2)) (hb : H p2 = some (.lst b)) (hl : a.length + b.length ≤ 100000) : EvL (tOp rCat ta tb) σ H (a ++ b) := fun H1 e Q q =>
  h H1 e _ fun p H2 np e2 hp => k H2 (e.trans e2) _ fun H3 e3 => ⟨p, p2, _, _, rfl, rfl, e3 _ _ hp, ((e.trans e2).trans e3) _ _ hb, sz_of11 hl, fun p3 np3 => q p3 _ (fresh_back (e2.trans e3) np3) ((e2.trans e3).trans (Ex.new np3)) upd_same⟩
theorem el_cat1 {σ : L2.St} {H : Hp} {ta tb : TE} {a b : List V} {p : Addr} (h : Ev ta σ H (.ref p)) (ha : H p = some (.lst a)) (k : EvL tb σ H b) (hl : a.length + b.length ≤ 100000) : EvL (tOp rCat ta tb) σ H (a ++ b) := fun H1 e Q q =>
  h H1 e _ fun H2 e2 => k H2 (e.trans e2) _ fun p2 H3 np2 e3 hp2 => ⟨p, p2, _, _, rfl, rfl, ((e.trans e2).trans e3) _ _ ha, hp2, sz_of11 hl, fun p3 np3 => q p3 _ (fresh_back (e2.trans e3) np3) ((e2.trans e3).trans (Ex.new np3)) upd_same⟩
theorem cut_fr (xs : List V) (k : Nat) : cutV xs (some (k : Int)) none = xs.drop k := by
  unfold cutV
  rw [HT.sIx_none, HT.sIx_nat]
  by_cases h : k ≤ xs.length
  · rw [Nat.min_eq_left h, List.take_of_length_le (by rw [List.length_drop]; omega)]
  · rw [Nat.min_eq_right (by omega), List.drop_eq_nil_of_le (by omega), List.drop_eq_nil_of_le (by omega)]
    simp
theorem cut_turn (xs : List V) (k : Nat) : (cutV xs (some (k : Int)) none ++ cutV xs none (some (k : Int))).Perm xs := by
  rw [cut_fr, cut_to]
  refine (List.perm_append_comm).trans ?_
  rw [List.take_append_drop]
theorem ev_index {K : PySem.W.Frag} {σ : L2.St} {H : Hp} {to : TE} {ta : TA} {p : Addr} {st : List Int} {c : Int} (h : Ev to σ H (.ref p)) (hs : SqL K H p (st.map V.int)) (ha : EvA ta σ H [.int c]) (hc : c ∈ st) : Ev (tBM K "list" (rIndex K) to ta) σ H (.int (st.idxOf c : Nat)) := fun H1 e Q q =>
  h H1 e _ fun H2 e2 => ⟨.inl ⟨rfl, _, ex_l (e.trans e2) hs⟩, ha H2 (e.trans e2) _ fun H3 e3 => ⟨p, st.map V.int, .int c, st.idxOf c, .int c, rfl, rfl, ex_l ((e.trans e2).trans e3) hs, rfl, flat_ints st, at_idx hc, by show decide (c = c) = true; simp, idx_first, q H3 (e2.trans e3)⟩⟩
theorem getD_of {l : List Int} {j : Nat} {v : Int} (h : l[j]? = some v) : l.getD j 0 = v := by rw [List.getD_eq_getElem?_getD, h]; rfl
end Vf

/-! What is shown: great numbers, tuples; repr of what is evaluated. -/
namespace Vf
open PySem PySem.Spec PyProof.Rows L2 Evl
theorem Dn.intB {i : Int} (h0 : 0 ≤ i) (h1 : i < 10 ^ 100) : Dn (.int i) 100 0 := by
  refine ⟨toString_length_le h0 (by decide) h1, ?_, rfl, rfl, Nat.le_refl _⟩
  refine decide_eq_true ?_
  have h2 : i.natAbs < 2 ^ 400 := by
    have : (10 : Int) ^ 100 < 2 ^ 400 := by decide +kernel
    have : i < 2 ^ 400 := by omega
    omega
  by_cases c : i.natAbs = 0
  · rw [c]; decide
  · exact Nat.lt_of_lt_of_le ((Nat.log2_lt c).2 h2) (by decide)
theorem piled_is (ts : List Str) : (ts.map (·.length)).sum + 2 * ts.length = piled ts := by
  induction ts with
  | nil => rfl
  | cons t ts ih =>
    rw [piled_cons, ← ih]
    simp only [List.map_cons, List.sum_cons, List.length_cons]
    omega
theorem Dn.tuple {ds : List PyData} {len dep : Nat} (h : ∀ d ∈ ds, Dn d len dep) : Dn (.tuple ds) ((len + 2) * ds.length + 3) (dep + 1) := by
  obtain ⟨b1, b2, b3, b4, b5⟩ := dn_all h
  refine ⟨?_, b2, b3, b4, Nat.succ_le_succ b5⟩
  show (tupleText (PyData.shownAll ds)).length ≤ _
  have z := tupleText_len_le (PyData.shownAll ds)
  rw [piled_is] at z
  omega
section
variable {K : PySem.W.Frag} {σ : L2.St} {H : Hp} {te : TE} {ta : TA}
/-- an object with such data -/
def EvDr (K : PySem.W.Frag) (te : TE) (σ : L2.St) (H : Hp) (d : PyData) : Prop := ∀ H1, Ex H H1 → ∀ Q : VK, (∀ a H2, Ex H1 H2 → Dp K H2 (.ref a) d → Q (.ref a) H2) → te σ H1 Q
theorem EvDr.ints {xs : List Int} (h : EvL te σ H (xs.map V.int)) : EvDr K te σ H (dInts xs) := fun H1 e Q q => h H1 e _ fun p H2 _ e2 hp => q p H2 e2 (dp_ints (.inl (.inl hp)))
theorem EvDr.var {i : Nat} {a : Addr} {d : PyData} (h : σ[i]? = some (some (.ref a))) (hd : Dp K H (.ref a) d) : EvDr K (tVar i) σ H d := fun H1 e Q q => ⟨_, h, q a H1 (Ex.refl H1) (Dp.on e _ _ hd)⟩
abbrev dPair (u : Int × Int) : PyData := .tuple [.int u.1, .int u.2]
abbrev dPairs (us : List (Int × Int)) : PyData := .list (us.map dPair)
theorem dp_pairs {a : Addr} {us : List (Int × Int)} (h : TLAt H a (us.map fun u => [.int u.1, .int u.2])) : Dp K H (.ref a) (dPairs us) := by
  obtain ⟨ps, h1, h2, h3⟩ := h
  rw [List.length_map] at h2
  refine .lst (.inl (.inl h1)) ?_
  clear h1
  induction ps generalizing us with
  | nil =>
    cases us with
    | nil => exact .nil
    | cons u us => cases h2
  | cons p ps ih =>
    cases us with
    | nil => cases h2
    | cons u us =>
      exact .cons (.tup (.inl (.inl (h3 0 p _ rfl rfl))) (.cons (.int _) (.cons (.int _) .nil))) (ih (by simpa using h2) fun i p' u' x y => h3 (i + 1) p' u' x y)
theorem EvDr.pairs {us : List (Int × Int)} (h : EvLT te σ H (us.map fun u => [.int u.1, .int u.2])) : EvDr K te σ H (dPairs us) := fun H1 e Q q => h H1 e _ fun D H2 _ e2 hD => q D H2 e2 (dp_pairs hD)
theorem dn_pairs {us : List (Int × Int)} (h : ∀ u ∈ us, (0 ≤ u.1 ∧ u.1 < 10 ^ 100) ∧ (0 ≤ u.2 ∧ u.2 < 10 ^ 100)) : Dn (dPairs us) (209 * us.length + 2) 2 := by
  have z := Dn.list (ds := us.map dPair) (len := 207) (dep := 1) fun d hd => by
    obtain ⟨u, hu, rfl⟩ := List.mem_map.mp hd
    obtain ⟨h1, h2⟩ := h u hu
    have y := Dn.tuple (ds := [.int u.1, .int u.2]) (len := 100) (dep := 0) fun d hd => by
      simp only [List.mem_cons, List.not_mem_nil, or_false] at hd
      rcases hd with rfl | rfl
      · exact Dn.intB h1.1 h1.2
      · exact Dn.intB h2.1 h2.2
    exact y.mono (by show (100 + 2) * 2 + 3 ≤ 207; decide) (Nat.le_refl _)
  rw [List.length_map] at z
  exact z
theorem ev_repr {d : PyData} {len dep : Nat} (h : EvDr K te σ H d) (D : Dn d len dep) (hl : len ≤ 100000) (hd : dep ≤ 60) : Ev (tCB (rRepr K) (tCons te tNil)) σ H (.str d.shown) := fun H1 e Q q =>
  h H1 e _ fun a H2 e2 hp => ⟨a, d, rfl, hp, D.show_, D.dict_, Nat.le_trans D.dep_ hd, Nat.le_trans D.len_ (Nat.le_trans hl (by decide)), q H2 e2⟩
/-- compared lists of whole numbers, one of them new, the other one held -/
theorem ev_neLV {a b : List Int} {p : Addr} {ta' tb : TE} (h : EvL ta' σ H (a.map V.int)) (k : Ev tb σ H (.ref p)) (hp : SqL K H p (b.map V.int)) : Ev (tOp (rNeD K) ta' tb) σ H (.bl (!decide (a = b))) := fun H1 e Q q =>
  h H1 e _ fun x H2 nx e2 hx => k H2 (e.trans e2) _ fun H3 e3 => ne_ints (.inl (.inl (e3 _ _ hx))) (ex_l ((e.trans e2).trans e3) hp) (q H3 (e2.trans e3))
theorem ev_eqLV {a b : List Int} {p : Addr} {ta' tb : TE} (h : EvL ta' σ H (a.map V.int)) (k : Ev tb σ H (.ref p)) (hp : SqL K H p (b.map V.int)) : Ev (tOp (rEqD K) ta' tb) σ H (.bl (decide (a = b))) := fun H1 e Q q =>
  h H1 e _ fun x H2 nx e2 hx => k H2 (e.trans e2) _ fun H3 e3 => eq_ints (.inl (.inl (e3 _ _ hx))) (ex_l ((e.trans e2).trans e3) hp) (q H3 (e2.trans e3))
theorem ev_neLL {a b : List Int} {ta' tb : TE} (h : EvL ta' σ H (a.map V.int)) (k : EvL tb σ H (b.map V.int)) : Ev (tOp (rNeD K) ta' tb) σ H (.bl (!decide (a = b))) := fun H1 e Q q =>
  h H1 e _ fun x H2 nx e2 hx => k H2 (e.trans e2) _ fun y H3 ny e3 hy => ne_ints (.inl (.inl (e3 _ _ hx))) (.inl (.inl hy)) (q H3 (e2.trans e3))
theorem ev_eqVV {a b : List Int} {p r : Addr} {ta' tb : TE} (h : Ev ta' σ H (.ref p)) (hp : SqL K H p (a.map V.int)) (k : Ev tb σ H (.ref r)) (hr : SqL K H r (b.map V.int)) : Ev (tOp (rEqD K) ta' tb) σ H (.bl (decide (a = b))) := fun H1 e Q q =>
  h H1 e _ fun H2 e2 => k H2 (e.trans e2) _ fun H3 e3 => eq_ints (ex_l ((e.trans e2).trans e3) hp) (ex_l ((e.trans e2).trans e3) hr) (q H3 (e2.trans e3))
theorem ev_lenL {xs : List V} (h : EvL te σ H xs) : Ev (tCB (rLenS K) (tCons te tNil)) σ H (.int (xs.length : Int)) := fun H1 e Q q =>
  h H1 e _ fun p H2 np e2 hp => ⟨p, xs, rfl, .inl (.inl (.inl hp)), q H2 e2⟩
end
theorem sort_is (xs : List Int) : (xs.mergeSort (fun a b => decide (a ≤ b))).Perm xs ∧ (xs.mergeSort (fun a b => decide (a ≤ b))).Pairwise (· ≤ ·) := by
  refine ⟨List.mergeSort_perm xs _, ?_⟩
  have z := List.pairwise_mergeSort (le := fun a b : Int => decide (a ≤ b)) (fun a b c h1 h2 => by simp at *; omega) (fun a b => by simp; omega) xs
  exact z.imp fun h => by simpa using h
theorem el_sorted {K : PySem.W.Frag} {σ : L2.St} {H : Hp} {te : TE} {ns ms : List Int} (h : EvL te σ H (ns.map V.int)) (hl : ns.length < 64) (u : ∀ ns' : List Int, ns'.Perm ns → ns'.Pairwise (· ≤ ·) → ns' = ms) : EvL (tCB (rSorted K) (tCons te tNil)) σ H (ms.map V.int) :=
  fun H1 e Q q => h H1 e _ fun p H2 np e2 hp => ⟨p, ns, rfl, .inl (.inl hp), hl, fun ns' p2 pm sr np2 => by
    obtain rfl := u ns' pm sr
    exact q p2 _ (fresh_back e2 np2) (e2.trans (Ex.new np2)) upd_same⟩
theorem rep_flat {α : Type} (k : Nat) (x : α) : (List.replicate k [x]).flatten = List.replicate k x := by
  induction k with
  | zero => rfl
  | succ k ih =>
    rw [List.replicate_succ, List.flatten_cons, ih, List.replicate_succ]
    rfl
theorem q_par {σ : L2.St} {H : Hp} {ta : TA} {tz : TS} {D : Ends} {i j : Nat} {v w : V} (h : EvA ta σ H [v, w]) (k : ∀ H1, Ex H H1 → tz D ((σ.set i (some v)).set j (some w)) H1) : tSeq (tPar i j ta) tz D σ H := h H (Ex.refl H) _ fun H1 e => ⟨v, w, rfl, k H1 e⟩
theorem s_par {σ : L2.St} {H : Hp} {ta : TA} {D : Ends} {i j : Nat} {v w : V} (h : EvA ta σ H [v, w]) (k : ∀ H1, Ex H H1 → D.nx ((σ.set i (some v)).set j (some w)) H1) : tPar i j ta D σ H := h H (Ex.refl H) _ fun H1 e => ⟨v, w, rfl, k H1 e⟩
end Vf

/-! dicts whose keys and values are whole numbers: items, sorted items -/
namespace Vf
open PySem PySem.W PySem.Spec PyProof.Rows L2 Evl
section
variable {X : Cx}
def rItemsK : V → List V → Hp → VK → Prop := fun x xs H Q => ∃ (d : Addr) (kvs : List (Key × V)), x = .ref d ∧ xs = [] ∧ H d = some (.dK kvs) ∧ ∀ v, H v = none → Q (.ref v) (upd H v (DX.itemsO v d))
theorem raw_of {P : Program} {w : World} {H : Hp} {h : Heap} {d : Addr} {kvs : List (Key × V)} (ok : HOk P w H h) (e : H d = some (.dK kvs)) :
    kvs.length ≤ sizeLine ∧ (d == sysModules) = false ∧ ∃ (vs : List (Key × Value)) (es : Array DictEntry) (ep : Nat), KV kvs vs ∧ DT.Raw h d es ep ∧ Pairs (mixKind P w) es.toList vs := by
  obtain ⟨z, hd, vs, kv, o, es, ep, h1, h2, h3, _, h5, _⟩ := dk_of ok e
  exact ⟨z, hd, vs, es, ep, kv, ⟨o, h1, h2, h3⟩, h5⟩
theorem mt_itemsK : MtR X "dict.items" rItemsK := by
  intro pins s σ H x xs v us Q I rx rxs h
  obtain ⟨d, kvs, rfl, rfl, hd, q⟩ := h
  obtain ⟨_, hs, _, es, ep, _, raw, _⟩ := raw_of I.hok hd
  cases rx
  cases rxs
  exact DT.callItems (es := es) (ep := ep) hs raw ⟨.ref s.heap.objs.size, _, I.laid (t' := s.toks) (fun c o q => Heap.get?_push_of_some _ q) (Nat.le_refl _) (DX.itemsO_ok (Heap.get?_push_size _ rfl)), rfl, q _ (I.hok.fresh (Nat.le_refl _))⟩
abbrev entI (e : Int × Int) : Key × V := (.inl e.1, .int e.2)
/-- sorted(d.items()) -/
def rSortIK : List V → Hp → VK → Prop := fun vs H Q => ∃ (v d : Addr) (ks : List (Int × Int)), vs = [.ref v] ∧ H v = some (DX.itemsO v d) ∧ H d = some (.dK (ks.map entI)) ∧ ks.length ≤ 1000 ∧
  ∀ (H2 : Hp) (D : Addr) (as : List Addr) (zs : List (Int × Int)), Ex H H2 → H D = none → zs.Perm ks → zs.Pairwise (fun e f => e.1 ≤ f.1) → H2 D = some (.lst (as.map V.ref)) → as.length = zs.length →
    (∀ (i : Nat) b z, as[i]? = some b → zs[i]? = some z → H2 b = some (.tup [.int z.1, .int z.2])) → Q (.ref D) H2
theorem each_refs {R : Addr → Int × Int → Prop} : ∀ {out : List Value} {zs : List (Int × Int)}, EachIs (fun v z => ∃ b, v = Value.ref b ∧ R b z) out zs → ∃ as : List Addr, out = as.map Value.ref ∧ as.length = zs.length ∧ ∀ (i : Nat) b z, as[i]? = some b → zs[i]? = some z → R b z
  | _, _, .nil => ⟨[], rfl, rfl, fun i b z h => by cases i <;> cases h⟩
  | _, _, .cons h t => by
    obtain ⟨b, rfl, r⟩ := h
    obtain ⟨as, e1, e2, e3⟩ := each_refs t
    refine ⟨b :: as, by rw [e1]; rfl, by rw [List.length_cons, List.length_cons, e2], fun i c z hc hz => ?_⟩
    match i with
    | 0 => cases hc; cases hz; exact r
    | i + 1 => exact e3 i c z hc hz
theorem each_at {R : Value → Int × Int → Prop} : ∀ {vs : List Value} {zs : List (Int × Int)}, vs.length = zs.length → (∀ (i : Nat) v z, vs[i]? = some v → zs[i]? = some z → R v z) → EachIs R vs zs
  | [], [], _, _ => .nil
  | v :: vs, z :: zs, h, k => .cons (k 0 v z rfl rfl) (each_at (by simpa using h) fun i a b ha hb => k (i + 1) a b ha hb)
  | [], _ :: _, h, _ => by simp at h
  | _ :: _, [], h, _ => by simp at h
theorem cr_sortIK (hc : X.calm = true) (hu : X.A.units + 64 < cLine) : CallR X (.builtin "sorted") rSortIK := by
  intro pins s σ H xs us Q I r h
  obtain ⟨v, d, ks, rfl, hv, hd, hl, q⟩ := h
  rw [Vals.ref1 r]
  have seen : s.heap.IsItemsView v d := (show ObjOk X.prog X.w H s.heap v (DX.itemsO v d) from I.hok v _ hv).1
  obtain ⟨_, _, vs, es, ep, kv, raw, prs⟩ := raw_of I.hok hd
  have lv := prs.length
  have lk : (ks.map entI).length = vs.length := Paired.length kv
  rw [List.length_map] at lk
  have les : es.size = ks.length := by rw [lk, ← lv, Array.length_toList]
  have noh := I.ok.hd hc
  refine DT.sortedI (es := es) (ep := ep) noh seen raw (by rw [sizeLine_eq]; omega) fun h2 tk as old lt al made => ?_
  have noD : H h2.objs.size = none := I.hok.fresh (Nat.le_of_lt lt)
  -- each tuple that was made
  have pr : ∀ (i : Nat) (b : Addr) (z : Int × Int), as[i]? = some b → ks[i]? = some z → ∃ t u : Tok, h2.get? b = some { cls := .type "tuple", data := .seq #[Value.int z.1 t, Value.int z.2 u] } := by
    intro i b z hb hz
    obtain ⟨en, he, hg⟩ := made.pairs i b hb
    have hi : i < vs.length := by rw [← lk]; exact (List.getElem?_eq_some_iff.mp hz).1
    obtain ⟨kv0, hkv⟩ : ∃ x, vs[i]? = some x := ⟨_, List.getElem?_eq_getElem hi⟩
    obtain ⟨p1, p2⟩ := prs.get? (show es.toList[i]? = some en by rw [Array.getElem?_toList]; exact he) (show vs[i]? = some (kv0.1, kv0.2) from hkv)
    obtain ⟨y, hy, y1, y2⟩ := DX.pget kv hkv
    rw [List.getElem?_map, hz] at hy
    have ey : entI z = y := Option.some.inj hy
    rw [← ey] at y1 y2
    obtain ⟨u, hu2⟩ : ∃ u, kv0.2 = Value.int z.2 u := y2
    have y1 : Sum.inl z.1 = kv0.1 := y1
    rcases keyIs_shape p1 with ⟨j, t, hk, e⟩ | ⟨x, t, hk, e⟩
    · rw [← y1] at hk
      injection hk with hk
      exact ⟨t, u, by rw [hg, p2, e, hu2, hk]⟩
    · rw [← y1] at hk
      exact nomatch hk
  have ob : (h2.push { cls := .type "list", data := .seq (as.map Value.ref).toArray }).get? h2.objs.size = some (seqObj "list" (as.map Value.ref).toArray 0) := Heap.get?_push_size _ rfl
  have kb : ∀ b o, h2.get? b = some o → (h2.push { cls := .type "list", data := .seq (as.map Value.ref).toArray }).get? b = some o := fun b o e => Heap.get?_push_of_some _ e
  have nl : ∀ b o, h2.get? b = some o → b ≠ h2.objs.size := fun b o e => Nat.ne_of_lt (Heap.lt_size e)
  generalize h2.push { cls := .type "list", data := .seq (as.map Value.ref).toArray } = h3 at ob kb ⊢
  have nda : as.Nodup := made.rise.imp fun h => Nat.ne_of_lt h
  have each : EachIs (fun v z => ∃ b, v = Value.ref b ∧ b ∈ as ∧ ∃ t u : Tok, h2.get? b = some { cls := .type "tuple", data := .seq #[Value.int z.1 t, Value.int z.2 u] }) (as.map Value.ref) ks := by
    refine each_at (by rw [List.length_map]; omega) fun i v z hv hz => ?_
    rw [List.getElem?_map] at hv
    obtain ⟨b, hb, rfl⟩ := Option.map_eq_some_iff.mp hv
    obtain ⟨t, u, hg⟩ := pr i b z hb hz
    exact ⟨b, rfl, List.mem_of_getElem? hb, t, u, hg⟩
  refine list_sort_data (n := 0) (bs := ks) (enc := fun z => PyData.tuple [.int z.1, .int z.2]) ob each (each.mono ?_) (AllAlike.of fun z y => rfl) (Sortable.tuples fun z => ⟨_, _, rfl⟩) (by rw [sizeLine_eq]; omega) (fun z _ => ?_) fun out lo eo => ?_
  · rintro v z ⟨b, rfl, hb, t, u, hg⟩
    exact ⟨[], .tuple (kb _ _ hg) rfl rfl (.cons (as := []) (bs := []) (.int _ _) (.cons (as := []) (bs := []) (.int _ _) .nil)), by simp⟩
  · show X.A.units + 1 + 1 + _ < cLine
    have : (PyData.tuple [.int z.1, .int z.2]).depth ≤ 10 := by
      simp only [PyData.depth, PyData.depthAll]
      decide
    omega
  · obtain ⟨bs, rfl, bl, hbs⟩ := each_refs eo
    obtain ⟨eF, heF⟩ := PyProof.Rows.sortedHeap_at (vs := as.map Value.ref) (out := (bs.map Value.ref).toArray) ob
    have k3 : ∀ b o, b ≠ h2.objs.size → h3.get? b = some o → (sortedHeap h3 h2.objs.size (as.map Value.ref) (bs.map Value.ref).toArray).get? b = some o := fun b o hb e => (PyProof.Rows.sortedHeap_old hb (Heap.lt_size e)).trans e
    have k2 : ∀ b o, h2.get? b = some o → (sortedHeap h3 h2.objs.size (as.map Value.ref) (bs.map Value.ref).toArray).get? b = some o := fun b o e => k3 b o (nl b o e) (kb b o e)
    generalize hs3 : ks.mergeSort (dataLe false fun z => PyData.tuple [.int z.1, .int z.2]) = zs at eo bl hbs
    have pz : zs.Perm ks := by rw [← hs3]; exact List.mergeSort_perm _ _
    have sz : zs.Pairwise (fun e f => e.1 ≤ f.1) := by
      rw [← hs3, dataLe_ii]
      refine (List.pairwise_mergeSort (fun a b c h1 h2 => ?_) (fun a b => ?_) ks).imp fun {a b} h => ?_
      · simp only [decide_eq_true_eq] at *
        omega
      · simp only [Bool.or_eq_true, decide_eq_true_eq]
        omega
      · simp only [decide_eq_true_eq] at h
        omega
    have zl := pz.length_eq
    have I1 : Inv X pins σ H { s with heap := sortedHeap h3 h2.objs.size (as.map Value.ref) (bs.map Value.ref).toArray, toks := tk } := I.kept (t' := tk) fun b o e => k2 b o (old b o e)
    have I2 : Inv X pins σ (upd H h2.objs.size (.lst (bs.map V.ref))) { s with heap := sortedHeap h3 h2.objs.size (as.map Value.ref) (bs.map Value.ref).toArray, toks := tk } :=
      I1.take (t' := tk) (fun b o _ e => e) (I.fpOk (Nat.le_of_lt lt) noD) ⟨by rw [List.length_map, sizeLine_eq]; omega, bs.map Value.ref, eF, vals_maps (fun b : Addr => V.ref b) (fun b => Value.ref b) bs fun _ _ => rfl, heF⟩
    obtain ⟨H2, I3, keep, got⟩ := DX.takeT (P := fun b vs => ∃ (z : Int × Int) (t u : Tok), h2.get? b = some { cls := .type "tuple", data := .seq #[Value.int z.1 t, Value.int z.2 u] } ∧ vs = [.int z.1, .int z.2]) I as _ I2 nda fun b hb => by
      obtain ⟨i, hi⟩ := List.getElem?_of_mem hb
      obtain ⟨z, hz⟩ : ∃ z, ks[i]? = some z := ⟨_, List.getElem?_eq_getElem (by have := (List.getElem?_eq_some_iff.mp hi).1; omega)⟩
      obtain ⟨t, u, hg⟩ := pr i b z hi hz
      have low : s.heap.objs.size ≤ b := Nat.le_of_lt (made.above b hb)
      refine ⟨low, by rw [upd_ne (nl _ _ hg)]; exact I.hok.fresh low, _, ⟨z, t, u, hg, rfl⟩, fun H3 => ⟨by rw [sizeLine_eq]; show 2 ≤ 16777216; decide, [Value.int z.1 t, Value.int z.2 u], .cons ⟨t, rfl⟩ (.cons ⟨u, rfl⟩ .nil), _, k2 _ _ hg, rfl, 0, rfl⟩⟩
    have keep' : Ex H H2 := fun b o e => keep b o (by rw [upd_ne (ne_of_none e noD)]; exact e)
    refine ⟨.ref h2.objs.size, H2, I3, rfl, q H2 h2.objs.size bs zs keep' noD pz sz (keep _ _ upd_same) bl fun i b z hb hz => ?_⟩
    obtain ⟨mem, t, u, hg⟩ := hbs i b z hb hz
    obtain ⟨vs2, ⟨z2, t2, u2, hg2, rfl⟩, hH⟩ := got b mem
    rw [hg] at hg2
    have e1 := Option.some.inj hg2
    have e2 : (Data.seq #[Value.int z.1 t, Value.int z.2 u] 0) = Data.seq #[Value.int z2.1 t2, Value.int z2.2 u2] 0 := congrArg Obj.data e1
    injection e2 with e3
    have e4 := congrArg Array.toList e3
    injection e4 with e5 e6
    injection e6 with e7 e8
    injection e5 with e5
    injection e7 with e7
    rw [e5, e7]
    exact hH
end
section
variable {X : Cx} {K : PySem.W.Frag}
theorem pe_items {o : Expr} {to : TE} {apos cpos : Pos} (h : X.K = K) (ho : PE X o to) (k1 : attributeBase o "items" X.env (eval o X.env) = eval o X.env := by rfl) (k2 : (apos.endLine == cpos.line) = true := by rfl) :
    PE X (.Call (.Attribute o "items" apos) [] [] cpos) (tBM0 K "dict" rItemsK to) := by
  subst h
  exact pe_bm0 PySem.F.plainAttrs_dict PySem.F.slot_dict_items PySem.F.type_dict_items mt_itemsK ho k1 k2
end
section
variable {K : PySem.W.Frag} {σ : L2.St} {H : Hp}
theorem ev_dget2 {td ty tx : TE} {d : Addr} {y z : V} {o : Option V} (h1 : Ev td σ H (.ref d)) (h2 : Ev ty σ H y) (h3 : Ev tx σ H z) (hD : ∀ H1, Ex H H1 → IsD H1 d ∧ DGet H1 d y o) : Ev (tDGet2 td ty tx) σ H (o.getD z) := fun H1 e Q q =>
  h1 H1 e _ fun H2 e2 => ⟨d, rfl, (hD H2 (e.trans e2)).1, h2 H2 (e.trans e2) _ fun H3 e3 => h3 H3 ((e.trans e2).trans e3) _ fun H4 e4 => ⟨o, (hD H4 (((e.trans e2).trans e3).trans e4)).2, q H4 ((e2.trans e3).trans e4)⟩⟩
/-- items in order, by keys that are all different -/
theorem elt_items {td : TE} {d : Addr} {ks zs : List (Int × Int)} (h1 : Ev td σ H (.ref d)) (hd : H d = some (.dK (ks.map entI))) (hl : ks.length ≤ 1000)
    (u : ∀ ys : List (Int × Int), ys.Perm ks → ys.Pairwise (fun e f => e.1 ≤ f.1) → ys = zs) : EvLT (tCB rSortIK (tCons (tBM0 K "dict" rItemsK td) tNil)) σ H (zs.map fun z => [.int z.1, .int z.2]) := fun H1 e Q q =>
  h1 H1 e _ fun H2 e2 => by
    have hd2 := (e.trans e2) _ _ hd
    refine ⟨.inr (.inr (.inl ⟨rfl, .inl ⟨_, hd2⟩⟩)), d, _, rfl, rfl, hd2, fun v nv => ?_⟩
    have e3 : Ex H2 (upd H2 v (DX.itemsO v d)) := Ex.new nv
    refine ⟨v, d, ks, rfl, upd_same, e3 _ _ hd2, hl, fun H4 D as ys e4 nD pm sr hD al hat => ?_⟩
    obtain rfl := u ys pm sr
    refine q D H4 (fresh_back (e2.trans e3) nD) ((e2.trans e3).trans e4) ⟨as, hD, by rw [List.length_map, al], fun i b us hb hu => ?_⟩
    rw [List.getElem?_map] at hu
    obtain ⟨z, hz, rfl⟩ := Option.map_eq_some_iff.mp hu
    exact hat i b z hb hz
end
end Vf

/-! comprehensions over a dict's keys, over its items, over a range by steps -/
namespace Vf
open PySem PySem.Spec PyProof.Rows L2 Evl
section
variable {K : PySem.W.Frag} {σ : L2.St} {H : Hp} {ta : TA} {te : TE} {t : TT}
theorem el_lcR3 {j n : Nat} {vs : List Nat} {lo hi c : Int} (f : Nat → Bool) (v : Nat → V) (h : EvA ta σ H [.int lo, .int hi, .int c]) (hr : RgC lo hi c n) (hn : n ≤ 40000)
    (hw : ∀ x, wipe ((wipe σ vs).set j (some x)) vs = wipe σ vs) (ht : ∀ (i : Nat) H1, Ex H H1 → i < n → EvT t ((wipe σ vs).set j (some (.int (lo + (i : Int) * c)))) H1 (f i))
    (he : ∀ (i : Nat) H1, Ex H H1 → i < n → f i = true → Ev te ((wipe σ vs).set j (some (.int (lo + (i : Int) * c)))) H1 (v i)) :
    EvL (tLc (iRng3 ta) (gName j) t te vs) σ H (given n f v) := fun H0 e Q q =>
  h H0 e _ fun H1 e1 => ⟨lo, hi, c, n, rfl, hr, fun Dl hD => by
    refine lc_it (walk_rangeC (lo := lo) (c := c) (n := n)) (Cw H1 f v Dl) ⟨hD, Ex.new hD, upd_same⟩ (fun i H' _ p => True.intro) (fun i z H2 H' hi p Y => ?_) fun H' p => q Dl H' (fresh_back e1 p.1) (e1.trans p.2.1) p.2.2
    obtain ⟨rfl, rfl⟩ := Y
    exact ⟨hw _, cw_turn p (by omega) (ht i H1 (e.trans e1) hi) fun hf => he i H1 (e.trans e1) hi hf⟩⟩
theorem unlock {H HL H2 : Hp} {d : Addr} {u : HO} {o : Obj} (hd : H d = some u) (hL : HL = upd H d (.frz o u)) (e : Ex HL H2) : H2 d = some (.frz o u) ∧ Ex H (upd H2 d u) := by
  subst hL
  refine ⟨e _ _ upd_same, fun b x hb => ?_⟩
  by_cases c : b = d
  · subst c
    rw [hd] at hb
    cases hb
    exact upd_same
  · rw [upd_ne c]
    exact e b x (by rw [upd_ne c]; exact hb)
theorem lock_new {H : Hp} {d b : Addr} {u : HO} {o : Obj} (hb : (upd H d (.frz o u)) b = none) : b ≠ d ∧ H b = none := by
  have ne : b ≠ d := fun z => by
    rw [z, upd_same] at hb
    cases hb
  exact ⟨ne, by rw [upd_ne ne] at hb; exact hb⟩
/-- [e for k in d if t] -/
theorem el_lcKeys {d : Addr} {kvs : List (Key × V)} {i0 j : Nat} {vs : List Nat} (f : Nat → Bool) (v : Nat → V) (hσ : σ[i0]? = some (some (.ref d))) (hd : H d = some (.dK kvs)) (hz : kvs.length ≤ 40000)
    (hw : ∀ x, wipe ((wipe σ vs).set j (some x)) vs = wipe σ vs) (ht : ∀ (i : Nat) (k : Key × V) H1, Rd H1 d (.dK kvs) → kvs[i]? = some k → EvT t ((wipe σ vs).set j (some (kV k.1))) H1 (f i))
    (he : ∀ (i : Nat) (k : Key × V) H1, Rd H1 d (.dK kvs) → kvs[i]? = some k → f i = true → Ev te ((wipe σ vs).set j (some (kV k.1))) H1 (v i)) :
    EvL (tLockE (tLc (iKeys (tVar i0)) (gName j) t te vs)) σ H (given kvs.length f v) := fun H0 e Q q => by
  have hd0 := e _ _ hd
  refine ⟨d, _, hd0, True.intro, fun o => ?_⟩
  obtain ⟨HL, hL⟩ : ∃ HL, HL = upd H0 d (.frz o (.dK kvs)) := ⟨_, rfl⟩
  rw [← hL]
  have fr : HL d = some (.frz o (.dK kvs)) := by rw [hL]; exact upd_same
  refine ⟨_, hσ, d, o, rfl, .inl ⟨kvs, fr, fun Dl hD => ?_⟩⟩
  refine lc_it (walk_keys (d := d) (o := o) (kvs := kvs)) (Cw HL f v Dl) ⟨hD, Ex.new hD, upd_same⟩ (fun i H' _ p => p.2.1 _ _ fr) (fun i z H2 H' hi p Y => ?_) fun H' p => ?_
  · obtain ⟨rfl, k, y, hk, rfl⟩ := Y
    have rd : ∀ H1, Ex HL H1 → Rd H1 d (.dK kvs) := fun H1 e1 => .inr ⟨o, e1 _ _ fr⟩
    exact ⟨hw _, cw_turn p (by omega) (ht i (k, y) HL (rd _ (Ex.refl _)) hk) fun hf => he i (k, y) HL (rd _ (Ex.refl _)) hk hf⟩
  · rw [hL] at hD
    obtain ⟨ne, nD⟩ := lock_new hD
    obtain ⟨u1, u2⟩ := unlock hd0 hL p.2.1
    exact ⟨u1, q Dl _ nD u2 (by rw [upd_ne ne]; exact p.2.2)⟩
/-- [(..) for k, v in d.items()] -/
theorem elt_lcItems {d : Addr} {kvs : List (Key × V)} {i0 j1 j2 : Nat} {vs : List Nat} (L : Nat → List V) (hσ : σ[i0]? = some (some (.ref d))) (hd : H d = some (.dK kvs)) (hz : kvs.length ≤ 40000)
    (hw : ∀ x y, wipe (((wipe σ vs).set j1 (some x)).set j2 (some y)) vs = wipe σ vs)
    (he : ∀ (i : Nat) (k : Key × V) H1, kvs[i]? = some k → EvU te (((wipe σ vs).set j1 (some (kV k.1))).set j2 (some k.2)) H1 (L i)) :
    EvLT (tLockE (tLc (iItems (tVar i0)) (gTup K 2 (gCons (gName j1) (gCons (gName j2) gNil))) tYes te vs)) σ H ((List.range kvs.length).map L) := fun H0 e Q q => by
  have hd0 := e _ _ hd
  refine ⟨d, _, hd0, True.intro, fun o => ?_⟩
  obtain ⟨HL, hL⟩ : ∃ HL, HL = upd H0 d (.frz o (.dK kvs)) := ⟨_, rfl⟩
  rw [← hL]
  have fr : HL d = some (.frz o (.dK kvs)) := by rw [hL]; exact upd_same
  refine ⟨_, hσ, d, o, kvs, rfl, fr, fun Dl hD => ?_⟩
  refine lc_it (walk_items (d := d) (o := o) (kvs := kvs)) (RwT HL L Dl) ⟨hD, Ex.new hD, [], upd_same, rfl, (fun i p l x => by simp at x)⟩ (fun i H' _ p => p.2.1 _ _ fr) (fun i z H2 H' hi p Y => ?_) fun H' p => ?_
  · obtain ⟨T, x, y, rfl, nT, rfl, h1, h2⟩ := Y
    obtain ⟨k, hk⟩ : ∃ k, kvs[i]? = some k := ⟨_, List.getElem?_eq_getElem hi⟩
    dsimp only at h1 h2
    rw [hk] at h1 h2
    cases h1
    cases h2
    refine ⟨T, _, rfl, .inl (.inl upd_same), rfl, _, _, rfl, _, _, rfl, rfl, hw _ _, ?_⟩
    have p2 : RwT HL L Dl i (upd H2 T (.tup [kV k.1, k.2])) := ⟨p.1, p.2.1.trans (Ex.new nT), p.2.2.on (Ex.new nT)⟩
    exact rwt_turn p2 (by omega) (he i k HL hk)
  · rw [hL] at hD
    obtain ⟨ne, nD⟩ := lock_new hD
    obtain ⟨u1, u2⟩ := unlock hd0 hL p.2.1
    refine ⟨u1, q Dl _ nD u2 ?_⟩
    obtain ⟨ps, a, b, c⟩ := p.2.2
    refine ⟨ps, by rw [upd_ne ne]; exact a, b, fun i p l x y => ?_⟩
    have z := c i p l x y
    rw [upd_ne (fun w => by rw [w, u1] at z; cases z)]
    exact z
end
end Vf
namespace Vf
open PySem PySem.Spec PyProof.Rows L2 Evl
/-- d[k] = e -/
theorem s_putD {σ : L2.St} {H : Hp} {te : TE} {D : Ends} {i0 i1 : Nat} {d : Addr} {k : Key} {v : V} {kvs : List (Key × V)} (h : Ev te σ H v) (h0 : σ[i0]? = some (some (.ref d))) (h1 : σ[i1]? = some (some (kV k))) (hd : H d = some (.dK kvs)) (hl : kvs.length < sizeLine)
    (q : ∀ H1, Ex H H1 → D.nx σ (upd H1 d (.dK (putK kvs k v)))) : tAsg te (gSub (tVar i0) (tVar i1) rSetD) D σ H := h H (Ex.refl H) _ fun H1 e1 => ⟨_, h0, _, h1, d, _, rfl, DPut.k (e1 _ _ hd) hl, q H1 e1⟩
theorem ev_gcd {σ : L2.St} {H : Hp} {ta : TA} {a b : Int} (h : EvA ta σ H [.int a, .int b]) : Ev (tCB rGcd ta) σ H (.int ((Nat.gcd a.natAbs b.natAbs : Nat) : Int)) := ev_cb h fun H1 _ Q q => ⟨a, b, rfl, q H1 (Ex.refl H1)⟩
/-- x = {} -/
theorem q_asgD {σ : L2.St} {H : Hp} {i : Nat} {tz : TS} {D : Ends} (k : ∀ d H1, H d = none → Ex H H1 → H1 d = some (.dK []) → tz D (σ.set i (some (.ref d))) H1) : tSeq (tAsg tDNewK (gName i)) tz D σ H := fun d nd => k d _ nd (Ex.new nd) upd_same
/-- for x in e, e a new list of new lists -/
theorem q_forLLn {K : PySem.W.Frag} {σ : L2.St} {H : Hp} {ls : List (List V)} {tl : TE} {j : Nat} {tb tz : TS} {D : Ends} (h : EvLL tl σ H ls) (Pv : Addr → List Addr → Nat → L2.St → Hp → Prop)
    (h0 : ∀ p ps H1, H p = none → Ex H H1 → H1 p = some (.lst (ps.map V.ref)) → ps.length = ls.length → (∀ (i : Nat) b l, ps[i]? = some b → ls[i]? = some l → H b = none ∧ H1 b = some (.lst l)) → Pv p ps 0 σ H1)
    (hl : ∀ p ps i σ' H', Pv p ps i σ' H' → SqL K H' p (ps.map V.ref))
    (hs : ∀ p (ps : List Addr) i b l σ' H', ps[i]? = some b → ls[i]? = some l → Pv p ps i σ' H' → tb { D with nx := Pv p ps (i + 1), ct := Pv p ps (i + 1), bk := tz D } (σ'.set j (some (.ref b))) H')
    (hd : ∀ p ps σ' H', Pv p ps ls.length σ' H' → tz D σ' H') : tSeq (tFor (iList K tl) (gName j) tb) tz D σ H := h H (Ex.refl H) _ fun p H1 np e1 hp => by
  obtain ⟨ps, a1, a2, _, a4⟩ := hp
  refine ⟨p, rfl, ⟨_, sq_of a1⟩, for_list (xs := ps.map V.ref) (D := { D with nx := tz D }) (Pv p ps) (h0 p ps H1 np e1 a1 a2 a4) (fun i σ' H' _ z => hl p ps i σ' H' z) (fun i x σ' H' hx z => ?_) fun σ' H' z => ?_⟩
  · obtain ⟨b, hb, rfl⟩ := map_at hx
    obtain ⟨l, hl2⟩ : ∃ l, ls[i]? = some l := ⟨_, List.getElem?_eq_getElem (by rw [← a2]; exact (List.getElem?_eq_some_iff.mp hb).1)⟩
    exact hs p ps i b l σ' H' hb hl2 z
  · rw [List.length_map, a2] at z
    exact hd p ps σ' H' z
/-- for x, y in e, e a new list of pairs -/
theorem q_forLT {K : PySem.W.Frag} {σ : L2.St} {H : Hp} {us : List (V × V)} {tl : TE} {j1 j2 : Nat} {tb tz : TS} {D : Ends} (h : EvLT tl σ H (us.map fun u => [u.1, u.2])) (Pv : Hp → Nat → L2.St → Hp → Prop) (h0 : ∀ Hb, Ex H Hb → Pv Hb 0 σ Hb)
    (he : ∀ Hb i σ' H', Pv Hb i σ' H' → Ex Hb H')
    (hs : ∀ Hb (i : Nat) u σ' H', us[i]? = some u → Pv Hb i σ' H' → tb { D with nx := Pv Hb (i + 1), ct := Pv Hb (i + 1), bk := tz D } ((σ'.set j1 (some u.1)).set j2 (some u.2)) H')
    (hd : ∀ Hb σ' H', Pv Hb us.length σ' H' → tz D σ' H') : tSeq (tFor (iList K tl) (gTup K 2 (gCons (gName j1) (gCons (gName j2) gNil))) tb) tz D σ H := h H (Ex.refl H) _ fun p H1 np e1 hp => by
  obtain ⟨ps, a1, a2, a3⟩ := hp
  rw [List.length_map] at a2
  refine ⟨p, rfl, ⟨_, sq_of a1⟩, for_list (xs := ps.map V.ref) (D := { D with nx := tz D }) (Pv H1) (h0 H1 e1) (fun i σ' H' _ z => sq_of (he H1 i σ' H' z _ _ a1)) (fun i x σ' H' hx z => ?_) fun σ' H' z => ?_⟩
  · obtain ⟨b, hb, rfl⟩ := map_at hx
    obtain ⟨u, hu⟩ : ∃ u, us[i]? = some u := ⟨_, List.getElem?_eq_getElem (by rw [← a2]; exact (List.getElem?_eq_some_iff.mp hb).1)⟩
    have t := he H1 i σ' H' z _ _ (a3 i b [u.1, u.2] hb (by rw [List.getElem?_map, hu]; rfl))
    exact ⟨b, _, rfl, .inl (.inl t), rfl, _, _, rfl, _, _, rfl, rfl, hs H1 i u σ' H' hu z⟩
  · rw [List.length_map, a2] at z
    exact hd H1 σ' H' z
/-- x, y = e, e a new pair -/
theorem q_asgT2 {K : PySem.W.Frag} {σ : L2.St} {H : Hp} {te : TE} {tz : TS} {D : Ends} {i j : Nat} {x y : V} (h : EvU te σ H [x, y]) (k : ∀ H1, Ex H H1 → tz D ((σ.set i (some x)).set j (some y)) H1) : tSeq (tAsg te (gTup K 2 (gCons (gName i) (gCons (gName j) gNil)))) tz D σ H :=
  h H (Ex.refl H) _ fun r H3 nr e3 hr3 => ⟨r, _, rfl, .inl (.inl hr3), rfl, _, _, rfl, _, _, rfl, rfl, k H3 e3⟩
theorem el_lrg2 {σ : L2.St} {H : Hp} {ta tb : TE} {i j : Int} (h : Ev ta σ H (.int i)) (k : Ev tb σ H (.int j)) (r : RgOk i j) : EvL (tLstRg (tRg2 ta tb)) σ H (rgV i j) := fun H1 e Q q =>
  h H1 e _ fun H2 e2 => k H2 (e.trans e2) _ fun H3 e3 => ⟨i, j, rfl, rfl, r, fun p np => q p _ (fresh_back (e2.trans e3) np) ((e2.trans e3).trans (Ex.new np)) upd_same⟩
theorem rgV_ints (i j : Int) : rgV i j = (((List.range (j - i).toNat).map fun k : Nat => i + (k : Int)).map V.int) := by
  unfold rgV
  rw [List.map_map]
  rfl
theorem el_revV {K : PySem.W.Frag} {σ : L2.St} {H : Hp} {te : TE} {p : Addr} {xs : List V} (h : Ev te σ H (.ref p)) (hp : SqL K H p xs) : EvL (tRevL K te) σ H xs.reverse := fun H1 e Q q =>
  h H1 e _ fun H2 e2 => ⟨p, xs, rfl, ex_l (e.trans e2) hp, fun r nr => q r _ (fresh_back e2 nr) (e2.trans (Ex.new nr)) upd_same⟩
end Vf

/-! Data that is evaluated, piece by piece; lists of tuples written out. -/
namespace Vf
open PySem PySem.Spec PyProof.Rows L2 Evl
section
variable {K : PySem.W.Frag} {σ : L2.St} {H : Hp} {ta : TA} {te tb : TE}
/-- the value of e stands for d -/
def EvDp (K : PySem.W.Frag) (te : TE) (σ : L2.St) (H : Hp) (d : PyData) : Prop := ∀ H1, Ex H H1 → ∀ Q : VK, (∀ v H2, Ex H1 H2 → Dp K H2 v d → Q v H2) → te σ H1 Q
def EaDp (K : PySem.W.Frag) (ta : TA) (σ : L2.St) (H : Hp) (ds : List PyData) : Prop := ∀ H1, Ex H H1 → ∀ Q : List V → Hp → Prop, (∀ vs H2, Ex H1 H2 → DpAll K H2 vs ds → vs.length = ds.length → Q vs H2) → ta σ H1 Q
theorem ed_int {i : Int} (h : Ev te σ H (.int i)) : EvDp K te σ H (.int i) := fun H1 e _ q => h H1 e _ fun H2 e2 => q _ H2 e2 (.int i)
theorem ed_ints {ns : List Int} (h : EvL te σ H (ns.map V.int)) : EvDp K te σ H (dInts ns) := fun H1 e _ q => h H1 e _ fun p H2 _ e2 hp => q _ H2 e2 (dp_ints (.inl (.inl hp)))
theorem ed_val {v : V} {d : PyData} (h : Ev te σ H v) (hd : Dp K H v d) : EvDp K te σ H d := fun H1 e _ q => h H1 e _ fun H2 e2 => q v H2 e2 (Dp.on (e.trans e2) _ _ hd)
theorem ed_nil : EaDp K tNil σ H [] := fun H1 _ _ q => q [] H1 (Ex.refl H1) .nil rfl
theorem ed_cons {d : PyData} {ds : List PyData} (h : EvDp K te σ H d) (k : EaDp K ta σ H ds) : EaDp K (tCons te ta) σ H (d :: ds) := fun H1 e _ q =>
  h H1 e _ fun v H2 e2 hd => k H2 (e.trans e2) _ fun vs H3 e3 ha hl => q (v :: vs) H3 (e2.trans e3) (.cons (Dp.on e3 _ _ hd) ha) (by rw [List.length_cons, hl]; rfl)
theorem er_lst {ds : List PyData} (h : EaDp K ta σ H ds) (hl : ds.length ≤ 1000) : EvDr K (tLst ta) σ H (.list ds) := fun H1 e _ q =>
  h H1 e _ fun vs H2 e2 ha hl2 => ⟨sz_of (by rw [hl2]; omega), fun p np => q _ _ (e2.trans (Ex.new np)) (.lst (.inl (.inl upd_same)) (DpAll.on (Ex.new np) _ _ ha))⟩
theorem ed_of {d : PyData} (h : EvDr K te σ H d) : EvDp K te σ H d := fun H1 e Q q => h H1 e Q fun a H2 e2 hd => q _ H2 e2 hd
/-- one text is not the other -/
theorem ev_neR {d d2 : PyData} {len dep len2 dep2 : Nat} (h : EvDr K te σ H d) (D : Dn d len dep) (hl : len ≤ 100000) (hp : dep ≤ 60) (h2 : EvDr K tb σ H d2) (D2 : Dn d2 len2 dep2) (hl2 : len2 ≤ 100000) (hp2 : dep2 ≤ 60) :
    Ev (tOp rNe (tCB (rRepr K) (tCons te tNil)) (tCB (rRepr K) (tCons tb tNil))) σ H (.bl (!decide (V.str d.shown = V.str d2.shown))) := ev_op (ev_repr h D hl hp) (ev_repr h2 D2 hl2 hp2) (rv_ne rfl)
/-! lists of tuples, written out -/
def EvAT (ta : TA) (σ : L2.St) (H : Hp) (us : List (List V)) : Prop := ∀ H1, Ex H H1 → ∀ Q : List V → Hp → Prop, (∀ (ps : List Addr) H2, Ex H1 H2 → ps.length = us.length → (∀ (i : Nat) p u, ps[i]? = some p → us[i]? = some u → H2 p = some (.tup u)) → Q (ps.map V.ref) H2) → ta σ H1 Q
theorem eat_nil : EvAT tNil σ H [] := fun H1 _ _ q => q [] H1 (Ex.refl H1) rfl fun i p u h => by cases i <;> cases h
theorem eat_cons {u : List V} {us : List (List V)} (h : EvU te σ H u) (k : EvAT ta σ H us) : EvAT (tCons te ta) σ H (u :: us) := fun H1 e _ q =>
  h H1 e _ fun p H2 np e2 hp => k H2 (e.trans e2) _ fun ps H3 e3 hl ha => q (p :: ps) H3 (e2.trans e3) (by rw [List.length_cons, List.length_cons, hl]) fun i p' u' x y => by
    match i, x, y with
    | 0, x, y =>
      cases x
      cases y
      exact e3 _ _ hp
    | i + 1, x, y => exact ha i p' u' x y
theorem elt_lst {us : List (List V)} (h : EvAT ta σ H us) (hl : us.length ≤ 1000) : EvLT (tLst ta) σ H us := fun H1 e Q q =>
  h H1 e _ fun ps H2 e2 hl2 ha => ⟨sz_of (by rw [List.length_map, hl2]; omega), fun D nD => q D _ (fresh_back e2 nD) (e2.trans (Ex.new nD)) ⟨ps, upd_same, hl2, fun i p u x y => (Ex.new nD) _ _ (ha i p u x y)⟩⟩
/-- a list, new or held -/
def EvSq (K : PySem.W.Frag) (te : TE) (σ : L2.St) (H : Hp) (xs : List V) : Prop := ∀ H1, Ex H H1 → ∀ Q : VK, (∀ p H2, Ex H1 H2 → SqL K H2 p xs → Q (.ref p) H2) → te σ H1 Q
theorem sq_new {xs : List V} (h : EvL te σ H xs) : EvSq K te σ H xs := fun H1 e Q q => h H1 e _ fun p H2 _ e2 hp => q p H2 e2 (.inl (.inl hp))
theorem sq_held {p : Addr} {xs : List V} (h : Ev te σ H (.ref p)) (hp : SqL K H p xs) : EvSq K te σ H xs := fun H1 e Q q => h H1 e _ fun H2 e2 => q p H2 e2 (ex_l (e.trans e2) hp)
/-- a list of tuples, new or held -/
def EvHT (te : TE) (σ : L2.St) (H : Hp) (us : List (List V)) : Prop := ∀ H1, Ex H H1 → ∀ Q : VK, (∀ p H2, Ex H1 H2 → TLAt H2 p us → Q (.ref p) H2) → te σ H1 Q
theorem ht_new {us : List (List V)} (h : EvLT te σ H us) : EvHT te σ H us := fun H1 e Q q => h H1 e _ fun p H2 _ e2 hp => q p H2 e2 hp
theorem ht_held {p : Addr} {us : List (List V)} (h : Ev te σ H (.ref p)) (hp : TLAt H p us) : EvHT te σ H us := fun H1 e Q q => h H1 e _ fun H2 e2 => q p H2 e2 (hp.on (e.trans e2))
theorem EvDr.held {us : List (Int × Int)} (h : EvHT te σ H (us.map fun u => [.int u.1, .int u.2])) : EvDr K te σ H (dPairs us) := fun H1 e Q q => h H1 e _ fun D H2 e2 hD => q D H2 e2 (dp_pairs hD)
/-- for x, y in e -/
theorem q_forHT {us : List (V × V)} {tl : TE} {j1 j2 : Nat} {tz tb : TS} {D : Ends} (h : EvHT tl σ H (us.map fun u => [u.1, u.2])) (Pv : Hp → Nat → L2.St → Hp → Prop) (h0 : ∀ Hb, Ex H Hb → Pv Hb 0 σ Hb)
    (he : ∀ Hb i σ' H', Pv Hb i σ' H' → Ex Hb H')
    (hs : ∀ Hb (i : Nat) u σ' H', us[i]? = some u → Pv Hb i σ' H' → tb { D with nx := Pv Hb (i + 1), ct := Pv Hb (i + 1), bk := tz D } ((σ'.set j1 (some u.1)).set j2 (some u.2)) H')
    (hd : ∀ Hb σ' H', Pv Hb us.length σ' H' → tz D σ' H') : tSeq (tFor (iList K tl) (gTup K 2 (gCons (gName j1) (gCons (gName j2) gNil))) tb) tz D σ H := h H (Ex.refl H) _ fun p H1 e1 hp => by
  obtain ⟨ps, a1, a2, a3⟩ := hp
  rw [List.length_map] at a2
  refine ⟨p, rfl, ⟨_, sq_of a1⟩, for_list (xs := ps.map V.ref) (D := { D with nx := tz D }) (Pv H1) (h0 H1 e1) (fun i σ' H' _ z => sq_of (he H1 i σ' H' z _ _ a1)) (fun i x σ' H' hx z => ?_) fun σ' H' z => ?_⟩
  · obtain ⟨b, hb, rfl⟩ := map_at hx
    obtain ⟨u, hu⟩ : ∃ u, us[i]? = some u := ⟨_, List.getElem?_eq_getElem (by rw [← a2]; exact (List.getElem?_eq_some_iff.mp hb).1)⟩
    have t := he H1 i σ' H' z _ _ (a3 i b [u.1, u.2] hb (by rw [List.getElem?_map, hu]; rfl))
    exact ⟨b, _, rfl, .inl (.inl t), rfl, _, _, rfl, _, _, rfl, rfl, hs H1 i u σ' H' hu z⟩
  · rw [List.length_map, a2] at z
    exact hd H1 σ' H' z
/-- [e for x, y in ts if t] -/
theorem el_lcHT {tl : TE} {t : TT} {us : List (V × V)} {j1 j2 : Nat} {vs : List Nat} (f : Nat → Bool) (v : Nat → V) (h : EvHT tl σ H (us.map fun u => [u.1, u.2])) (hz : us.length ≤ 40000)
    (hw : ∀ x y, wipe (((wipe σ vs).set j1 (some x)).set j2 (some y)) vs = wipe σ vs)
    (ht : ∀ (i : Nat) (u : V × V) H1, Ex H H1 → us[i]? = some u → EvT t (((wipe σ vs).set j1 (some u.1)).set j2 (some u.2)) H1 (f i))
    (he : ∀ (i : Nat) (u : V × V) H1, Ex H H1 → us[i]? = some u → f i = true → Ev te (((wipe σ vs).set j1 (some u.1)).set j2 (some u.2)) H1 (v i)) :
    EvL (tLc (iList K tl) (gTup K 2 (gCons (gName j1) (gCons (gName j2) gNil))) t te vs) σ H (given us.length f v) := fun H0 e Q q => h H0 e _ fun a H1 e1 hA => by
  obtain ⟨ps, hA1, hA2, hA3⟩ := hA
  rw [List.length_map] at hA2
  have hlen : (ps.map V.ref).length = us.length := by rw [List.length_map, hA2]
  refine ⟨a, rfl, ⟨_, .inl (.inl hA1)⟩, fun Dl hD => ?_⟩
  refine lc_it (walk_list (K := K) (a := a) (xs := ps.map V.ref)) (Cw H1 f v Dl) ⟨hD, Ex.new hD, upd_same⟩ (fun i H' _ p => .inl (.inl (p.2.1 _ _ hA1))) (fun i z H2 H' hi p Y => ?_) fun H' p => q Dl H' (fresh_back e1 p.1) (e1.trans p.2.1) (by rw [← hlen]; exact p.2.2)
  obtain ⟨rfl, hz2⟩ := Y
  obtain ⟨b, hb, rfl⟩ := map_at hz2
  obtain ⟨u, hu⟩ : ∃ u, us[i]? = some u := ⟨_, List.getElem?_eq_getElem (by rw [← hlen]; exact hi)⟩
  have hb2 := hA3 i b [u.1, u.2] hb (by rw [List.getElem?_map, hu]; rfl)
  refine ⟨b, _, rfl, .inl (.inl (p.2.1 _ _ hb2)), rfl, _, _, rfl, _, _, rfl, rfl, hw u.1 u.2, ?_⟩
  exact cw_turn p (by omega) (ht i u H1 (e.trans e1) hu) (fun hf => he i u H1 (e.trans e1) hu hf)
/-- [(..) for x in e], e a new list -/
theorem elt_lcNL {xs : List V} {tl : TE} {j : Nat} {vs : List Nat} (L : Nat → List V) (h : EvL tl σ H xs) (hz : xs.length ≤ 40000) (hw : ∀ x, wipe ((wipe σ vs).set j (some x)) vs = wipe σ vs)
    (he : ∀ (i : Nat) (x : V) H1, Ex H H1 → xs[i]? = some x → EvU te ((wipe σ vs).set j (some x)) H1 (L i)) :
    EvLT (tLc (iList K tl) (gName j) tYes te vs) σ H ((List.range xs.length).map L) := fun H0 e Q q => h H0 e _ fun p H1 np e1 hp =>
  ⟨p, rfl, ⟨xs, sq_of hp⟩, fun Dl hD => lc_list (xs := xs) (RwT H1 L Dl) ⟨hD, Ex.new hD, [], upd_same, rfl, (fun i p l x => by simp at x)⟩ (fun i H' _ pp => sq_of (pp.2.1 _ _ hp)) (fun i x H' hi pp => ⟨hw x, rwt_turn pp (by have := (List.getElem?_eq_some_iff.mp hi).1; omega) (he i x H1 (e.trans e1) hi)⟩)
    fun H' pp => q Dl H' (fresh_back e1 pp.1) (e1.trans pp.2.1) pp.2.2⟩
/-- sorted(set(e)) -/
theorem el_srtset {w : World} {p : Addr} {ns rs : List Int} (h : Ev te σ H (.ref p)) (hp : SqL K H p (ns.map V.int)) (hl : ns.length < 64) (u : ∀ ys : List Int, ys.Pairwise (· < ·) → (∀ k : Int, k ∈ ys ↔ k ∈ ns) → ys = rs) :
    EvL (tCB (rSortedSet w) (tCons (tCB (rSetOfI K w) (tCons te tNil)) tNil)) σ H (rs.map V.int) := fun H1 e Q q =>
  h H1 e _ fun H2 e2 => ⟨p, ns, rfl, ex_l (e.trans e2) hp, by omega, fun a c na hc => ⟨a, _, c, rfl, upd_same, by omega, fun ys p2 h1 h2 h3 np2 => by
    have e3 : Ex H2 (upd H2 a (SetO w a (fun j => decide (j ∈ ns)) c)) := Ex.new na
    rw [u ys h1 fun k => by rw [h2 k]; simp]
    exact q p2 _ (fresh_back (e2.trans e3) np2) ((e2.trans e3).trans (Ex.new np2)) upd_same⟩⟩
/-- e[i][0] -/
theorem ev_head {ti : TE} {p : Addr} {us : List (List V)} {i : Int} {j : Nat} {x : V} {r : List V} (h : Ev te σ H (.ref p)) (hp : TLAt H p us) (hi : Ev ti σ H (.int i)) (hij : L2.ixN us.length i = some j) (hu : us[j]? = some (x :: r)) : Ev (tOp (rIxT K) (tOp (rIxL K) te ti) (tC (.int 0))) σ H x := by
  obtain ⟨ps, a1, a2, a3⟩ := hp
  obtain ⟨b, hb⟩ : ∃ b, ps[j]? = some b := ⟨_, List.getElem?_eq_getElem (by rw [a2]; exact (List.getElem?_eq_some_iff.mp hu).1)⟩
  have hbt := a3 j b _ hb hu
  refine ev_op (ev_op h hi (rv_ixL (.inl (.inl a1)) (v := .ref b) ?_)) ev_c fun H1 e Q q => ⟨b, _, 0, x, rfl, rfl, .inl (.inl (e _ _ hbt)), atI_nat (j := 0) rfl, q H1 (Ex.refl H1)⟩
  unfold L2.atI
  rw [List.length_map, a2, hij]
  show (ps.map V.ref)[j]? = _
  rw [List.getElem?_map, hb]
  rfl
theorem q_asgLT {us : List (List V)} {i : Nat} {tz : TS} {D : Ends} (h : EvLT te σ H us) (k : ∀ p H1, H p = none → Ex H H1 → TLAt H1 p us → tz D (σ.set i (some (.ref p))) H1) : tSeq (tAsg te (gName i)) tz D σ H := h H (Ex.refl H) _ fun p H1 np e1 hp => k p H1 np e1 hp
theorem q_asg2LT {us vs : List (List V)} {i : Nat} {tz : TS} {D : Ends} (h : EvLT te σ H us) (h2 : EvLT tb σ H vs) (k : ∀ q1 q2 p H1, H q1 = none → Ex H H1 → TLAt H1 q1 us → TLAt H1 q2 vs → H1 p = some (.lst [.ref q1, .ref q2]) → tz D (σ.set i (some (.ref p))) H1) :
    tSeq (tAsg (tLst (tCons te (tCons tb tNil))) (gName i)) tz D σ H := h H (Ex.refl H) _ fun q1 H1 n1 e1 hq1 => h2 H1 e1 _ fun q2 H2 n2 e2 hq2 => ⟨(by show 2 ≤ sizeLine; decide), fun p np =>
  k q1 q2 p _ n1 ((e1.trans e2).trans (Ex.new np)) ((hq1.on e2).on (Ex.new np)) (hq2.on (Ex.new np)) upd_same⟩
end
end Vf

/-! Lists of tuples that grow; such lists made of such lists; tests of three. -/
namespace Vf
open PySem PySem.Spec PyProof.Rows L2 Evl
theorem TLAt.nil {H : Hp} {D : Addr} (h : H D = some (.lst [])) : TLAt H D [] := ⟨[], h, rfl, fun i p u x => by cases i <;> cases x⟩
/-- one more -/
theorem TLAt.push {H : Hp} {D : Addr} {us : List (List V)} (h : TLAt H D us) (u : List V) : ∃ as : List Addr, H D = some (.lst (as.map V.ref)) ∧ as.length = us.length ∧
    ∀ (q : Addr) (H1 : Hp), H q = none → Ex H H1 → H1 q = some (.tup u) → TLAt (upd H1 D (.lst (as.map V.ref ++ [.ref q]))) D (us ++ [u]) := by
  obtain ⟨ps, a, b, c⟩ := h
  refine ⟨ps, a, b, fun q H1 nq e hq => ?_⟩
  have neD : q ≠ D := fun z => by
    rw [← z, nq] at a
    cases a
  refine ⟨ps ++ [q], by rw [upd_same, List.map_append]; rfl, by rw [List.length_append, List.length_append, b]; rfl, fun k pp l hk hl => ?_⟩
  by_cases hk2 : k < ps.length
  · rw [List.getElem?_append_left hk2] at hk
    rw [List.getElem?_append_left (by rw [← b]; exact hk2)] at hl
    have d2 := c k pp l hk hl
    have nD : pp ≠ D := fun z => by
      rw [z, a] at d2
      cases d2
    rw [upd_ne nD]
    exact e _ _ d2
  · have ek : k = ps.length := by
      have z := (List.getElem?_eq_some_iff.mp hk).1
      rw [List.length_append, List.length_singleton] at z
      omega
    rw [ek, List.getElem?_append_right (Nat.le_refl _), Nat.sub_self] at hk
    rw [ek, b, List.getElem?_append_right (Nat.le_refl _), Nat.sub_self] at hl
    cases hk
    cases hl
    rw [upd_ne neD]
    exact hq
section
variable {K : PySem.W.Frag} {σ : L2.St} {H : Hp} {ta : TA} {te tb : TE}
/-- [(..) for x, y in ts if t], t always true -/
theorem elt_lcHT {tl : TE} {t : TT} {us : List (V × V)} {j1 j2 : Nat} {vs : List Nat} (L : Nat → List V) (h : EvHT tl σ H (us.map fun u => [u.1, u.2])) (hz : us.length ≤ 40000)
    (hw : ∀ x y, wipe (((wipe σ vs).set j1 (some x)).set j2 (some y)) vs = wipe σ vs)
    (ht : ∀ (i : Nat) (u : V × V) H1, Ex H H1 → us[i]? = some u → EvT t (((wipe σ vs).set j1 (some u.1)).set j2 (some u.2)) H1 true)
    (he : ∀ (i : Nat) (u : V × V) H1, Ex H H1 → us[i]? = some u → EvU te (((wipe σ vs).set j1 (some u.1)).set j2 (some u.2)) H1 (L i)) :
    EvLT (tLc (iList K tl) (gTup K 2 (gCons (gName j1) (gCons (gName j2) gNil))) t te vs) σ H ((List.range us.length).map L) := fun H0 e Q q => h H0 e _ fun a H1 e1 hA => by
  obtain ⟨ps, hA1, hA2, hA3⟩ := hA
  rw [List.length_map] at hA2
  have hlen : (ps.map V.ref).length = us.length := by rw [List.length_map, hA2]
  refine ⟨a, rfl, ⟨_, .inl (.inl hA1)⟩, fun Dl hD => ?_⟩
  refine lc_it (walk_list (K := K) (a := a) (xs := ps.map V.ref)) (RwT H1 L Dl) ⟨hD, Ex.new hD, [], upd_same, rfl, (fun i p l x => by simp at x)⟩ (fun i H' _ p => .inl (.inl (p.2.1 _ _ hA1))) (fun i z H2 H' hi p Y => ?_) fun H' p => q Dl H' (fresh_back e1 p.1) (e1.trans p.2.1) (by rw [← hlen]; exact p.2.2)
  obtain ⟨rfl, hz2⟩ := Y
  obtain ⟨b, hb, rfl⟩ := map_at hz2
  obtain ⟨u, hu⟩ : ∃ u, us[i]? = some u := ⟨_, List.getElem?_eq_getElem (by rw [← hlen]; exact hi)⟩
  have hb2 := hA3 i b [u.1, u.2] hb (by rw [List.getElem?_map, hu]; rfl)
  refine ⟨b, _, rfl, .inl (.inl (p.2.1 _ _ hb2)), rfl, _, _, rfl, _, _, rfl, rfl, hw u.1 u.2, ?_⟩
  refine ht i u H1 (e.trans e1) hu _ p.2.1 _ fun H3 e3 => ?_
  show te _ H3 _
  exact rwt_turn ⟨p.1, p.2.1.trans e3, p.2.2.on e3⟩ (by omega) (he i u H1 (e.trans e1) hu)
theorem ev_chain {r r' : R2} {ta tb tc : TE} {σ : L2.St} {H : Hp} {x y z : V} {k1 k2 : Bool} (ha : Ev ta σ H x) (hb : Ev tb σ H y) (h1 : RV r x y H (.bl k1)) (hc : Ev tc σ H z) (h2 : RV r' y z H (.bl k2)) : Ev (tChain r r' ta tb tc) σ H (.bl (k1 && k2)) := fun H1 e Q q =>
  ha H1 e _ fun H2 e2 => hb H2 (e.trans e2) _ fun H3 e3 => h1 H3 ((e.trans e2).trans e3) _ fun H4 e4 => ⟨k1, rfl, by
    have e14 := (e2.trans e3).trans e4
    cases k1 with
    | false => exact q H4 e14
    | true => exact hc H4 (e.trans e14) _ fun H5 e5 => h2 H5 ((e.trans e14).trans e5) _ fun H6 e6 => q H6 ((e14.trans e5).trans e6)⟩
end
end Vf

/-! Heaps of whole numbers: what is pushed and popped. -/
namespace M10
abbrev gI (xs : List Int) (i : Nat) : Int := xs.getD i 0
def hsw (xs : List Int) (i j : Nat) : List Int := (xs.set i (gI xs j)).set j (gI xs i)
theorem hsw_len (xs : List Int) (i j : Nat) : (hsw xs i j).length = xs.length := by simp [hsw]
theorem hsw_perm {xs : List Int} {i j : Nat} (hi : i < xs.length) (hj : j < xs.length) : (hsw xs i j).Perm xs := by
  have e1 : gI xs j = xs[j] := by simp [gI, List.getD_eq_getElem?_getD, hj]
  have e2 : gI xs i = xs[i] := by simp [gI, List.getD_eq_getElem?_getD, hi]
  unfold hsw
  rw [e1, e2]
  exact List.set_set_perm hi hj
theorem gI_set {xs : List Int} {i k : Nat} {v : Int} (h : i < xs.length) : gI (xs.set i v) k = if k = i then v else gI xs k := by
  unfold gI
  rw [List.getD_eq_getElem?_getD, List.getElem?_set]
  by_cases c : k = i
  · rw [if_pos c.symm, if_pos h, if_pos c]
    rfl
  · rw [if_neg (fun z => c z.symm), if_neg c, ← List.getD_eq_getElem?_getD]
theorem gI_hsw {xs : List Int} {i j k : Nat} (hi : i < xs.length) (hj : j < xs.length) : gI (hsw xs i j) k = if k = j then gI xs i else if k = i then gI xs j else gI xs k := by
  unfold hsw
  rw [gI_set (by rw [List.length_set]; exact hj)]
  by_cases c : k = j
  · rw [if_pos c, if_pos c]
  · rw [if_neg c, if_neg c, gI_set hi]
def kid (xs : List Int) (p : Nat) : Nat := if 2 * p + 2 < xs.length then (if gI xs (2 * p + 1) < gI xs (2 * p + 2) then 2 * p + 1 else 2 * p + 2) else 2 * p + 1
def sink : Nat → List Int → Nat → List Int × Nat
  | 0, xs, p => (xs, p)
  | f + 1, xs, p => if p < xs.length / 2 then sink f (hsw xs (kid xs p) p) (kid xs p) else (xs, p)
def rise : Nat → List Int → Nat → List Int
  | 0, xs, _ => xs
  | f + 1, xs, p => if 0 < p ∧ gI xs p < gI xs ((p - 1) / 2) then rise f (hsw xs ((p - 1) / 2) p) ((p - 1) / 2) else xs
def Hq (xs : List Int) : Prop := ∀ i, 0 < i → i < xs.length → gI xs ((i - 1) / 2) ≤ gI xs i
structure Dn' (xs : List Int) (p : Nat) : Prop where
  a : ∀ i, 0 < i → i < xs.length → i ≠ p → (i - 1) / 2 ≠ p → gI xs ((i - 1) / 2) ≤ gI xs i
  b : 0 < p → ∀ i, 0 < i → i < xs.length → (i - 1) / 2 = p → gI xs ((p - 1) / 2) ≤ gI xs i
structure Up' (xs : List Int) (p : Nat) : Prop where
  a : ∀ i, 0 < i → i < xs.length → i ≠ p → gI xs ((i - 1) / 2) ≤ gI xs i
  b : 0 < p → ∀ i, 0 < i → i < xs.length → (i - 1) / 2 = p → gI xs ((p - 1) / 2) ≤ gI xs i
theorem kid_is {xs : List Int} {p : Nat} (h : p < xs.length / 2) : kid xs p < xs.length ∧ (kid xs p - 1) / 2 = p ∧ p < kid xs p ∧ ∀ i, 0 < i → i < xs.length → (i - 1) / 2 = p → gI xs (kid xs p) ≤ gI xs i := by
  unfold kid
  by_cases c : 2 * p + 2 < xs.length
  · rw [if_pos c]
    by_cases d : gI xs (2 * p + 1) < gI xs (2 * p + 2)
    · rw [if_pos d]
      refine ⟨by omega, by omega, by omega, fun i h0 h1 h2 => ?_⟩
      have : i = 2 * p + 1 ∨ i = 2 * p + 2 := by omega
      rcases this with rfl | rfl
      · exact Int.le_refl _
      · exact Int.le_of_lt d
    · rw [if_neg d]
      refine ⟨by omega, by omega, by omega, fun i h0 h1 h2 => ?_⟩
      have : i = 2 * p + 1 ∨ i = 2 * p + 2 := by omega
      rcases this with rfl | rfl
      · exact Int.not_lt.mp d
      · exact Int.le_refl _
  · rw [if_neg c]
    refine ⟨by omega, by omega, by omega, fun i h0 h1 h2 => ?_⟩
    have : i = 2 * p + 1 := by omega
    rw [this]
    exact Int.le_refl _
theorem Dn'.step {xs : List Int} {p : Nat} (D : Dn' xs p) (h : p < xs.length / 2) : Dn' (hsw xs (kid xs p) p) (kid xs p) := by
  obtain ⟨k1, k2, k3, k4⟩ := kid_is h
  obtain ⟨c, hc⟩ : ∃ c, c = kid xs p := ⟨_, rfl⟩
  rw [← hc] at k1 k2 k3 k4 ⊢
  have hp : p < xs.length := by omega
  have g := fun k => gI_hsw (k := k) k1 hp
  refine ⟨fun i h0 h1 h2 h3 => ?_, fun hc0 i h0 h1 h2 => ?_⟩
  · rw [hsw_len] at h1
    rw [g, g]
    by_cases e : i = p
    · subst e
      rw [if_pos rfl, if_neg (show ¬ (i - 1) / 2 = i by omega), if_neg (show ¬ (i - 1) / 2 = c by omega)]
      exact D.b h0 c (by omega) k1 k2
    · rw [if_neg e, if_neg h2]
      by_cases f : (i - 1) / 2 = p
      · rw [if_pos f]
        exact k4 i h0 h1 f
      · rw [if_neg f, if_neg h3]
        exact D.a i h0 h1 e f
  · rw [hsw_len] at h1
    rw [g, g, k2, if_pos rfl, if_neg (show ¬ i = p by omega), if_neg (show ¬ i = c by omega)]
    have z := D.a i h0 h1 (by omega) (by omega)
    rw [h2] at z
    exact z
theorem sink_is : ∀ (f : Nat) {xs : List Int} {p : Nat}, Dn' xs p → p < xs.length → xs.length ≤ f + p → Up' (sink f xs p).1 (sink f xs p).2 ∧ (sink f xs p).1.Perm xs ∧ (sink f xs p).2 < xs.length
  | 0, xs, p, D, hp, hf => by omega
  | f + 1, xs, p, D, hp, hf => by
    unfold sink
    by_cases c : p < xs.length / 2
    · rw [if_pos c]
      obtain ⟨k1, k2, k3, k4⟩ := kid_is c
      obtain ⟨a, b, d⟩ := sink_is f (D.step c) (by rw [hsw_len]; exact k1) (by rw [hsw_len]; omega)
      rw [hsw_len] at d
      exact ⟨a, b.trans (hsw_perm k1 hp), d⟩
    · rw [if_neg c]
      exact ⟨⟨fun i h0 h1 h2 => by
        have h1 : i < xs.length := h1
        exact D.a i h0 h1 h2 (by omega), fun _ i h0 h1 h2 => by
        have h1 : i < xs.length := h1
        have h2 : (i - 1) / 2 = p := h2
        omega⟩, List.Perm.refl _, hp⟩
theorem Up'.step {xs : List Int} {p : Nat} (U : Up' xs p) (hp : p < xs.length) (h0 : 0 < p) (h : gI xs p < gI xs ((p - 1) / 2)) : Up' (hsw xs ((p - 1) / 2) p) ((p - 1) / 2) := by
  obtain ⟨q, hq⟩ : ∃ q, q = (p - 1) / 2 := ⟨_, rfl⟩
  rw [← hq] at h ⊢
  have hql : q < xs.length := by omega
  have g := fun k => gI_hsw (k := k) hql hp
  refine ⟨fun i i0 i1 i2 => ?_, fun q0 i i0 i1 i2 => ?_⟩
  · rw [hsw_len] at i1
    rw [g, g]
    by_cases e : i = p
    · subst e
      rw [if_pos rfl, ← hq, if_neg (show ¬ q = i by omega), if_pos rfl]
      exact Int.le_of_lt h
    · rw [if_neg e, if_neg i2]
      by_cases f : (i - 1) / 2 = p
      · rw [if_pos f]
        have z := U.b h0 i i0 i1 f
        rwa [← hq] at z
      · rw [if_neg f]
        by_cases d : (i - 1) / 2 = q
        · rw [if_pos d]
          have z := U.a i i0 i1 e
          rw [d] at z
          exact Int.le_trans (Int.le_of_lt h) z
        · rw [if_neg d]
          exact U.a i i0 i1 e
  · rw [hsw_len] at i1
    rw [g, g, if_neg (show ¬ (q - 1) / 2 = p by omega), if_neg (show ¬ (q - 1) / 2 = q by omega)]
    have zq := U.a q q0 hql (by omega)
    by_cases e : i = p
    · rw [if_pos e]
      exact zq
    · rw [if_neg e, if_neg (show ¬ i = q by omega)]
      have z := U.a i i0 i1 e
      rw [i2] at z
      exact Int.le_trans zq z
theorem rise_is : ∀ (f : Nat) {xs : List Int} {p : Nat}, Up' xs p → p < xs.length → p < f → Hq (rise f xs p) ∧ (rise f xs p).Perm xs
  | 0, _, _, _, _, h => absurd h (Nat.not_lt_zero _)
  | f + 1, xs, p, U, hp, hf => by
    unfold rise
    by_cases c : 0 < p ∧ gI xs p < gI xs ((p - 1) / 2)
    · rw [if_pos c]
      obtain ⟨a, b⟩ := rise_is f (U.step hp c.1 c.2) (by rw [hsw_len]; omega) (by omega)
      exact ⟨a, b.trans (hsw_perm (by omega) hp)⟩
    · rw [if_neg c]
      refine ⟨fun i i0 i1 => ?_, List.Perm.refl _⟩
      by_cases e : i = p
      · subst e
        exact Int.not_lt.mp fun z => c ⟨i0, z⟩
      · exact U.a i i0 i1 e
def pushF (xs : List Int) (x : Int) : List Int := rise (xs.length + 1) (xs ++ [x]) xs.length
/-- what is left when the first is taken -/
def popF (xs : List Int) : List Int :=
  if xs.length ≤ 1 then [] else
    let s := sink xs.length (xs.dropLast.set 0 (gI xs (xs.length - 1))) 0
    rise xs.length s.1 s.2
theorem Hq.least {xs : List Int} (h : Hq xs) : ∀ i, i < xs.length → gI xs 0 ≤ gI xs i := fun i => by
  induction i using Nat.strongRecOn with
  | _ i ih =>
    intro hi
    by_cases c : i = 0
    · rw [c]
      exact Int.le_refl _
    · exact Int.le_trans (ih ((i - 1) / 2) (by omega) (by omega)) (h i (by omega) hi)
theorem push_is {xs : List Int} (h : Hq xs) (x : Int) : Hq (pushF xs x) ∧ (pushF xs x).Perm (x :: xs) := by
  have g : ∀ i, i < xs.length → gI (xs ++ [x]) i = gI xs i := fun i hi => by
    unfold gI
    rw [List.getD_eq_getElem?_getD, List.getD_eq_getElem?_getD, List.getElem?_append_left hi]
  obtain ⟨a, b⟩ := rise_is (xs.length + 1) (xs := xs ++ [x]) (p := xs.length) ⟨fun i i0 i1 i2 => by
    rw [List.length_append, List.length_singleton] at i1
    rw [g _ (by omega), g _ (by omega)]
    exact h i i0 (by omega), fun _ i i0 i1 i2 => by
    rw [List.length_append, List.length_singleton] at i1
    omega⟩ (by rw [List.length_append, List.length_singleton]; omega) (Nat.lt_succ_self _)
  exact ⟨a, b.trans (List.perm_append_comm (l₂ := [x]))⟩
theorem pop_is {xs : List Int} (h : Hq xs) (ne : xs ≠ []) : Hq (popF xs) ∧ (gI xs 0 :: popF xs).Perm xs := by
  have pos := List.length_pos_iff.mpr ne
  unfold popF
  by_cases c : xs.length ≤ 1
  · rw [if_pos c]
    refine ⟨fun i i0 i1 => absurd i1 (Nat.not_lt_zero _), ?_⟩
    match xs, c, pos with
    | [x], _, _ => exact List.Perm.refl _
  · rw [if_neg c]
    have dl : xs.dropLast.length = xs.length - 1 := List.length_dropLast
    obtain ⟨last, hlast⟩ : ∃ last, last = gI xs (xs.length - 1) := ⟨_, rfl⟩
    rw [← hlast]
    obtain ⟨ys, hys⟩ : ∃ ys, ys = xs.dropLast.set 0 last := ⟨_, rfl⟩
    rw [← hys]
    have yl : ys.length = xs.length - 1 := by rw [hys, List.length_set, dl]
    have gy : ∀ i, 0 < i → i < ys.length → gI ys i = gI xs i := fun i h0 h1 => by
      rw [hys, gI_set (by omega), if_neg (by omega)]
      unfold gI
      rw [List.getD_eq_getElem?_getD, List.getD_eq_getElem?_getD, List.getElem?_dropLast, if_pos (by omega)]
    have D : Dn' ys 0 := ⟨fun i i0 i1 i2 i3 => by rw [gy _ (by omega) (by omega), gy i i0 i1]; exact h i i0 (by omega), fun z => absurd z (Nat.lt_irrefl _)⟩
    obtain ⟨a, b, d⟩ := sink_is xs.length D (by omega) (by omega)
    obtain ⟨e, f⟩ := rise_is xs.length a (by rw [b.length_eq]; exact d) (by omega)
    refine ⟨e, ?_⟩
    have p1 := f.trans b
    -- first :: (last :: middle) is all of them
    match xs, c, hys, hlast, p1 with
    | x :: y :: zs, _, hys, hlast, p1 =>
      have e1 : ys = last :: (y :: zs).dropLast := by rw [hys]; rfl
      have e2 : (y :: zs).dropLast ++ [last] = y :: zs := by
        have : last = (y :: zs).getLast (by simp) := by
          rw [hlast]
          unfold gI
          rw [List.getD_eq_getElem?_getD, show (x :: y :: zs).length - 1 = zs.length + 1 by simp, List.getElem?_cons_succ, List.getLast_eq_getElem]
          simp
        rw [this]
        exact List.dropLast_concat_getLast _
      refine List.Perm.cons x (p1.trans ?_)
      rw [e1]
      have z := List.perm_append_comm (l₁ := [last]) (l₂ := (y :: zs).dropLast)
      rw [e2] at z
      exact z
end M10

/-! heapq.heappush and heapq.heappop on lists of whole numbers. -/
namespace Vf
open PySem PySem.Spec PyProof.Rows L2 Evl
theorem owner_heapq : Manifest.owners.lookup (String.ofList "_heapq".toList.reverse.reverse) = some Manifest.sig__heapq := by kernel_rfl
theorem plain_sift : plainId "_heapq.heapify.sift" = true := by decide +kernel
theorem entry_sift : entryFor table "_heapq.heapify.sift" = some Builtin.«_heapq.heapify.sift» := entryFor_of_tree (by kernel_rfl)
theorem entry_push : entryFor table "_heapq.heappush" = some Builtin.«_heapq.heappush» := entryFor_of_tree (by kernel_rfl)
theorem entry_pop : entryFor table "_heapq.heappop" = some Builtin.«_heapq.heappop» := entryFor_of_tree (by kernel_rfl)
theorem plain_push : plainId "_heapq.heappush" = true := by decide +kernel
theorem plain_pop : plainId "_heapq.heappop" = true := by decide +kernel
theorem args_push (a b : Value) : argsOk "_heapq.heappush" ⟨[a, b], []⟩ := by
  unfold argsOk
  rw [signature?_of (id := "_heapq.heappush") (n := "heappush".toList.reverse) (o := "_heapq".toList.reverse) (by kernel_rfl) owner_heapq]
  kernel_rfl
theorem args_pop (a : Value) : argsOk "_heapq.heappop" ⟨[a], []⟩ := by
  unfold argsOk
  rw [signature?_of (id := "_heapq.heappop") (n := "heappop".toList.reverse) (o := "_heapq".toList.reverse) (by kernel_rfl) owner_heapq]
  kernel_rfl
section
variable {prog : Program} {w : World} {A : Around} {s : Shared} {R : Result → Shared → Prop}
/-- the values of a list of whole numbers -/
def IntsAre' (vs : Array Value) (xs : List Int) : Prop := vs.size = xs.length ∧ ∀ i, i < xs.length → ∃ t, vs[i]? = some (.int (M10.gI xs i) t)
theorem lt_ints {a b : Int} {t u : Tok} {E : Value → Shared → Prop} {Q : Value → Shared → Prop} (h : Q (.bool (decide (a < b))) s) : wpAny (model prog w) A (richCompare .Lt (.int a t) (.int b u)) Q E s := by
  refine wpAny_richCompare_same (T := "int") (id := "int.__lt__") (by exact rfl) (by exact rfl) F.slot_int_lt (call_int_lt ⟨(fun z => by cases z), h⟩)
theorem swapped {vs : Array Value} {xs : List Int} {i j : Nat} {x y : Value} (hv : IntsAre' vs xs) (hi : i < xs.length) (hj : j < xs.length) (hx : vs[i]? = some x) (hy : vs[j]? = some y) : IntsAre' ((vs.setIfInBounds i y).setIfInBounds j x) (M10.hsw xs i j) := by
  obtain ⟨z, g⟩ := hv
  refine ⟨by rw [Array.size_setIfInBounds, Array.size_setIfInBounds, M10.hsw_len, z], fun k hk => ?_⟩
  rw [M10.hsw_len] at hk
  rw [M10.gI_hsw hi hj, Array.getElem?_setIfInBounds, Array.getElem?_setIfInBounds, Array.size_setIfInBounds]
  by_cases c : k = j
  · rw [if_pos c.symm, if_pos (by omega), if_pos c]
    obtain ⟨t, ht⟩ := g i hi
    rw [hx] at ht
    exact ⟨t, ht⟩
  · rw [if_neg (fun z => c z.symm), if_neg c]
    by_cases d : k = i
    · rw [if_pos d.symm, if_pos (by omega), if_pos d]
      obtain ⟨t, ht⟩ := g j hj
      rw [hy] at ht
      exact ⟨t, ht⟩
    · rw [if_neg (fun z => d z.symm), if_neg d]
      exact g k hk
abbrev siftC (a : Addr) (down : Bool) (p : Nat) (res : Value) : Code := .builtin "_heapq.heapify.sift" ⟨[.ref a, .bool false, .bool down, rawInt p, rawInt 0, res, rawInt (-1)], []⟩
/-- one step up -/
theorem sift_up {a : Addr} {vs : Array Value} {xs : List Int} {c p : Nat} {res : Value}
    (hS : s.heap.get? a = some { cls := .type "list", dict := none, data := .seq vs c, slots := #[] }) (hv : IntsAre' vs xs) (hp : p < xs.length) (hz : xs.length ≤ 1000)
    (stop : ¬ (0 < p ∧ M10.gI xs p < M10.gI xs ((p - 1) / 2)) → R (.ok (.ret res)) s)
    (more : 0 < p → M10.gI xs p < M10.gI xs ((p - 1) / 2) → ∀ vs' c' h', IntsAre' vs' (M10.hsw xs ((p - 1) / 2) p) → h'.get? a = some { cls := .type "list", dict := none, data := .seq vs' c', slots := #[] } → (∀ b o, b ≠ a → s.heap.get? b = some o → h'.get? b = some o) → codeAny (model prog w) A (siftC a false ((p - 1) / 2) res) R { s with heap := h' }) :
    codeAny (model prog w) A (siftC a false p res) R s := by
  obtain ⟨z, g⟩ := id hv
  refine codeAny_builtin entry_sift ?_
  rw [Around.under_plainId plain_sift _]
  unfold Builtin.«_heapq.heapify.sift»
  refine wpAny_bind ?_
  wp_delta
  refine wpAny_bind (wpAny_seqItems hS rfl ?_)
  try dsimp only
  refine wpAny_pure ?_
  try dsimp only
  rw [if_neg Bool.false_ne_true]
  by_cases p0 : 0 < p
  · rw [if_pos (show ((p : Int)).toNat > Int.toNat 0 by rw [Int.toNat_natCast]; exact p0)]
    simp only [Int.toNat_natCast]
    obtain ⟨t, ht⟩ := g p hp
    obtain ⟨u, hu⟩ := g ((p - 1) / 2) (by omega)
    refine wpAny_bind ?_
    wp_delta
    rw [ht]
    refine wpAny_pure ?_
    try dsimp only
    refine wpAny_bind ?_
    wp_delta
    rw [hu]
    refine wpAny_pure ?_
    try dsimp only
    rw [if_neg Bool.false_ne_true]
    refine wpAny_bind ?_
    wp_delta
    refine wpAny_bind (wpAny_holding (wpAny_bind (lt_ints ?_)))
    refine wpAny_truthy_bool ?_
    refine wpAny_bind ?_
    wp_delta
    refine wpAny_bind (wpAny_seqItems hS rfl ?_)
    try dsimp only
    refine wpAny_pure ?_
    try dsimp only
    rw [if_neg (by simp)]
    refine wpAny_pure ?_
    by_cases lt : M10.gI xs p < M10.gI xs ((p - 1) / 2)
    · rw [decide_eq_true lt, if_pos rfl]
      refine wpAny_bind ?_
      wp_delta
      refine wpAny_bind ?_
      wp_delta
      refine wpAny_bind (wpAny_seqItems hS rfl ?_)
      try dsimp only
      refine wpAny_pure ?_
      try dsimp only
      refine wpAny_bind ?_
      wp_delta
      rw [hu]
      refine wpAny_pure ?_
      try dsimp only
      refine wpAny_bind ?_
      wp_delta
      rw [ht]
      refine wpAny_pure ?_
      try dsimp only
      refine wpAny_updateSeq hS rfl ?_ (by rw [sizeLine_eq]; omega) (by rw [Array.size_setIfInBounds, Array.size_setIfInBounds, sizeLine_eq]; omega)
      wp_delta
      refine wpAny_pure ⟨plainId_quiet plain_sift _, ?_⟩
      exact more p0 lt _ _ _ (swapped hv (by omega) hp hu ht) (Heap.get?_update_self _ hS rfl) fun b o hb e => (Heap.get?_update_other _ _ (Ne.symm hb)).trans e
    · rw [decide_eq_false lt, if_neg Bool.false_ne_true, if_pos (by decide)]
      exact wpAny_pure (stop fun z => lt z.2)
  · rw [if_neg (show ¬ ((p : Int)).toNat > Int.toNat 0 by rw [Int.toNat_natCast]; exact p0)]
    rw [if_pos (by decide)]
    exact wpAny_pure (stop fun z => p0 z.1)
/-- one step down -/
theorem sift_down {a : Addr} {vs : Array Value} {xs : List Int} {c p : Nat} {res : Value}
    (hS : s.heap.get? a = some { cls := .type "list", dict := none, data := .seq vs c, slots := #[] }) (hv : IntsAre' vs xs) (hp : p < xs.length) (hz : xs.length ≤ 1000)
    (stop : ¬ p < xs.length / 2 → codeAny (model prog w) A (siftC a false p res) R s)
    (more : p < xs.length / 2 → ∀ vs' c' h', IntsAre' vs' (M10.hsw xs (M10.kid xs p) p) → h'.get? a = some { cls := .type "list", dict := none, data := .seq vs' c', slots := #[] } → (∀ b o, b ≠ a → s.heap.get? b = some o → h'.get? b = some o) → codeAny (model prog w) A (siftC a true (M10.kid xs p) res) R { s with heap := h' }) :
    codeAny (model prog w) A (siftC a true p res) R s := by
  obtain ⟨z, g⟩ := id hv
  refine codeAny_builtin entry_sift ?_
  rw [Around.under_plainId plain_sift _]
  unfold Builtin.«_heapq.heapify.sift»
  refine wpAny_bind ?_
  wp_delta
  refine wpAny_bind (wpAny_seqItems hS rfl ?_)
  try dsimp only
  refine wpAny_pure ?_
  try dsimp only
  rw [if_pos rfl]
  simp only [Int.toNat_natCast]
  by_cases p0 : p < xs.length / 2
  · rw [if_pos (by rw [z]; exact p0)]
    obtain ⟨k1, k2, k3, _⟩ := M10.kid_is p0
    obtain ⟨t, ht⟩ := g p hp
    -- the change of the two
    have fin : ∀ (cc : Nat), cc = M10.kid xs p → ∀ (u : Tok), vs[cc]? = some (.int (M10.gI xs cc) u) →
        ∀ (m : Sem PySem.Fin), (wpAny (model prog w) A.in1 (updateSeq a fun vs => (vs.setIfInBounds cc (.int (M10.gI xs p) t)).setIfInBounds p (.int (M10.gI xs cc) u)) (fun _ s' => codeAny (model prog w) A (siftC a true cc res) R s') (fun e s' => R (.error e) s') s) := fun cc hc u hu m => by
      refine wpAny_updateSeq hS rfl ?_ (by rw [sizeLine_eq]; omega) (by rw [Array.size_setIfInBounds, Array.size_setIfInBounds, sizeLine_eq]; omega)
      subst hc
      exact more p0 _ _ _ (swapped hv k1 hp hu ht) (Heap.get?_update_self _ hS rfl) fun b o hb e => (Heap.get?_update_other _ _ (Ne.symm hb)).trans e
    by_cases two : 2 * p + 2 < xs.length
    · rw [if_pos (by rw [z]; omega)]
      obtain ⟨u, hu⟩ := g (2 * p + 1) (by omega)
      obtain ⟨v, hv2⟩ := g (2 * p + 1 + 1) (by omega)
      refine wpAny_bind ?_
      wp_delta
      rw [hu]
      refine wpAny_pure ?_
      try dsimp only
      refine wpAny_bind ?_
      wp_delta
      rw [hv2]
      refine wpAny_pure ?_
      try dsimp only
      rw [if_neg Bool.false_ne_true]
      refine wpAny_bind ?_
      wp_delta
      refine wpAny_bind (wpAny_holding (wpAny_bind (lt_ints ?_)))
      refine wpAny_truthy_bool ?_
      refine wpAny_bind ?_
      wp_delta
      refine wpAny_bind (wpAny_seqItems hS rfl ?_)
      try dsimp only
      refine wpAny_pure ?_
      try dsimp only
      rw [if_neg (by simp)]
      refine wpAny_pure ?_
      by_cases lt : M10.gI xs (2 * p + 1) < M10.gI xs (2 * p + 1 + 1)
      · have kk : M10.kid xs p = 2 * p + 1 := by unfold M10.kid; rw [if_pos two, if_pos lt]
        rw [decide_eq_true lt, if_neg (by decide)]
        refine wpAny_bind ?_
        wp_delta
        refine wpAny_bind ?_
        wp_delta
        refine wpAny_bind (wpAny_seqItems hS rfl ?_)
        try dsimp only
        refine wpAny_pure ?_
        try dsimp only
        refine wpAny_bind ?_
        wp_delta
        rw [hu]
        refine wpAny_pure ?_
        try dsimp only
        refine wpAny_bind ?_
        wp_delta
        rw [ht]
        refine wpAny_pure ?_
        try dsimp only
        refine wpAny_mono (fin _ kk.symm u hu (pure (.done (.ret res)))) (fun _ s' h => ?_) fun _ _ e => e
        wp_delta
        exact wpAny_pure ⟨plainId_quiet plain_sift _, h⟩
      · have kk : M10.kid xs p = 2 * p + 1 + 1 := by unfold M10.kid; rw [if_pos two, if_neg lt]
        rw [decide_eq_false lt, if_pos (by decide)]
        refine wpAny_bind ?_
        wp_delta
        refine wpAny_bind ?_
        wp_delta
        refine wpAny_bind (wpAny_seqItems hS rfl ?_)
        try dsimp only
        refine wpAny_pure ?_
        try dsimp only
        refine wpAny_bind ?_
        wp_delta
        rw [hv2]
        refine wpAny_pure ?_
        try dsimp only
        refine wpAny_bind ?_
        wp_delta
        rw [ht]
        refine wpAny_pure ?_
        try dsimp only
        refine wpAny_mono (fin _ kk.symm v hv2 (pure (.done (.ret res)))) (fun _ s' h => ?_) fun _ _ e => e
        wp_delta
        exact wpAny_pure ⟨plainId_quiet plain_sift _, h⟩
    · have kk : M10.kid xs p = 2 * p + 1 := by unfold M10.kid; rw [if_neg two]
      rw [if_neg (by rw [z]; omega)]
      obtain ⟨u, hu⟩ := g (2 * p + 1) (by omega)
      refine wpAny_bind ?_
      wp_delta
      refine wpAny_bind ?_
      wp_delta
      refine wpAny_bind (wpAny_seqItems hS rfl ?_)
      try dsimp only
      refine wpAny_pure ?_
      try dsimp only
      refine wpAny_bind ?_
      wp_delta
      rw [hu]
      refine wpAny_pure ?_
      try dsimp only
      refine wpAny_bind ?_
      wp_delta
      rw [ht]
      refine wpAny_pure ?_
      try dsimp only
      refine wpAny_mono (fin _ kk.symm u hu (pure (.done (.ret res)))) (fun _ s' h => ?_) fun _ _ e => e
      wp_delta
      exact wpAny_pure ⟨plainId_quiet plain_sift _, h⟩
  · rw [if_neg (by rw [z]; exact p0)]
    wp_delta
    exact wpAny_pure ⟨plainId_quiet plain_sift _, stop p0⟩
/-- the whole way up -/
theorem sift_rise {a : Addr} {res : Value} : ∀ (f : Nat) {s : Shared} {vs : Array Value} {xs : List Int} {c p : Nat},
    s.heap.get? a = some { cls := .type "list", dict := none, data := .seq vs c, slots := #[] } → IntsAre' vs xs → p < xs.length → xs.length ≤ 1000 → p < f →
    (∀ vs' c' h', IntsAre' vs' (M10.rise f xs p) → h'.get? a = some { cls := .type "list", dict := none, data := .seq vs' c', slots := #[] } → (∀ b o, b ≠ a → s.heap.get? b = some o → h'.get? b = some o) → R (.ok (.ret res)) { s with heap := h' }) →
    codeAny (model prog w) A (siftC a false p res) R s
  | 0, _, _, _, _, _, _, _, _, _, h, _ => absurd h (Nat.not_lt_zero _)
  | f + 1, s, vs, xs, c, p, hS, hv, hp, hz, hf, k => by
    refine sift_up hS hv hp hz (fun no => ?_) fun p0 lt vs' c' h' hv' hS' keep => ?_
    · have e : M10.rise (f + 1) xs p = xs := by
        show (if 0 < p ∧ M10.gI xs p < M10.gI xs ((p - 1) / 2) then _ else xs) = xs
        rw [if_neg no]
      rw [e] at k
      exact k vs c s.heap hv hS fun b o _ e => e
    · have e : M10.rise (f + 1) xs p = M10.rise f (M10.hsw xs ((p - 1) / 2) p) ((p - 1) / 2) := by
        show (if 0 < p ∧ M10.gI xs p < M10.gI xs ((p - 1) / 2) then _ else xs) = _
        rw [if_pos ⟨p0, lt⟩]
      rw [e] at k
      exact sift_rise f (s := { s with heap := h' }) hS' hv' (by rw [M10.hsw_len]; omega) (by rw [M10.hsw_len]; exact hz) (by omega) fun vs2 c2 h2 x y z => k vs2 c2 h2 x y fun b o hb e => z b o hb (keep b o hb e)
/-- the whole way down, and up again -/
theorem sift_sink {a : Addr} {res : Value} (m : Nat) : ∀ (f : Nat) {s : Shared} {vs : Array Value} {xs : List Int} {c p : Nat},
    s.heap.get? a = some { cls := .type "list", dict := none, data := .seq vs c, slots := #[] } → IntsAre' vs xs → p < xs.length → xs.length ≤ 1000 → xs.length ≤ f + p → xs.length ≤ m →
    (∀ vs' c' h', IntsAre' vs' (M10.rise m (M10.sink f xs p).1 (M10.sink f xs p).2) → h'.get? a = some { cls := .type "list", dict := none, data := .seq vs' c', slots := #[] } → (∀ b o, b ≠ a → s.heap.get? b = some o → h'.get? b = some o) → R (.ok (.ret res)) { s with heap := h' }) →
    codeAny (model prog w) A (siftC a true p res) R s
  | 0, _, _, _, _, _, _, _, hp, _, h, _, _ => by omega
  | f + 1, s, vs, xs, c, p, hS, hv, hp, hz, hf, hm, k => by
    refine sift_down hS hv hp hz (fun no => ?_) fun p0 vs' c' h' hv' hS' keep => ?_
    · have e : M10.sink (f + 1) xs p = (xs, p) := by
        show (if p < xs.length / 2 then _ else (xs, p)) = _
        rw [if_neg no]
      rw [e] at k
      exact sift_rise m hS hv hp hz (by omega) k
    · have e : M10.sink (f + 1) xs p = M10.sink f (M10.hsw xs (M10.kid xs p) p) (M10.kid xs p) := by
        show (if p < xs.length / 2 then _ else (xs, p)) = _
        rw [if_pos p0]
      rw [e] at k
      obtain ⟨k1, _, k3, _⟩ := M10.kid_is p0
      exact sift_sink m f (s := { s with heap := h' }) hS' hv' (by rw [M10.hsw_len]; exact k1) (by rw [M10.hsw_len]; exact hz) (by rw [M10.hsw_len]; omega) (by rw [M10.hsw_len]; exact hm) fun vs2 c2 h2 x y z => k vs2 c2 h2 x y fun b o hb e => z b o hb (keep b o hb e)
end
end Vf

/-! heapq.heappush and heapq.heappop as calls. -/
namespace Vf
open PySem PySem.Spec PyProof.Rows L2 Evl
theorem kind_push : builtinKind "_heapq.heappush" = none := by decide +kernel
theorem kind_pop : builtinKind "_heapq.heappop" = none := by decide +kernel
section
variable {prog : Program} {w : World} {A : Around} {E : Value → Shared → Prop} {s : Shared} {Q : Value → Shared → Prop}
theorem call_push {a : Addr} {vs : Array Value} {xs : List Int} {c : Nat} {x : Int} {t : Tok}
    (hS : s.heap.get? a = some { cls := .type "list", dict := none, data := .seq vs c, slots := #[] }) (hv : IntsAre' vs xs) (hz : xs.length < 1000)
    (k : ∀ vs' c' h', IntsAre' vs' (M10.pushF xs x) → h'.get? a = some { cls := .type "list", dict := none, data := .seq vs' c', slots := #[] } → (∀ b o, b ≠ a → s.heap.get? b = some o → h'.get? b = some o) → Q .none { s with heap := h' }) :
    wpAny (model prog w) A (call (.builtin "_heapq.heappush") [.ref a, .int x t]) Q E s := by
  obtain ⟨z, g⟩ := id hv
  have hT : s.TypeIs (.ref a) "list" := ⟨_, hS, rfl⟩
  refine call_function_tree kind_push plain_push entry_push (args_push _ _) ?_
  unfold Builtin.«_heapq.heappush»
  refine wpAny_bind ?_
  wp_delta
  refine wpAny_bind (wpAny_of_eq (a := ()) (by first | rfl | kernel_rfl) ?_)
  refine wpAny_bind (wpAny_of_eq (a := ()) (by first | rfl | kernel_rfl) ?_)
  try dsimp only
  refine wpAny_bind ?_
  wp_delta
  refine wpAny_bind (wpAny_isInstance (T := "list") (b := true) hT (by rw [isSubtype_type]; kernel_rfl) ?_)
  rw [if_pos rfl]
  try dsimp only
  refine wpAny_pure ?_
  refine wpAny_pure ?_
  try dsimp only
  refine wpAny_bind (wpAny_updateSeq hS rfl ?_ (by rw [sizeLine_eq]; omega) (by rw [Array.size_push, sizeLine_eq]; omega))
  have hS2 := Heap.get?_update_self (Obj.mapSeq (fun v => v.push (Value.int x t))) hS rfl
  have keep : ∀ b o, b ≠ a → s.heap.get? b = some o → (s.heap.update a (Obj.mapSeq (fun v => v.push (Value.int x t)))).get? b = some o := fun b o hb e => (Heap.get?_update_other _ _ (Ne.symm hb)).trans e
  have hv2 : IntsAre' (vs.push (Value.int x t)) (xs ++ [x]) := by
    refine ⟨by rw [Array.size_push, List.length_append, z]; rfl, fun i hi => ?_⟩
    rw [List.length_append, List.length_singleton] at hi
    by_cases d : i < xs.length
    · obtain ⟨u, hu⟩ := g i d
      have e : M10.gI (xs ++ [x]) i = M10.gI xs i := by
        unfold M10.gI
        rw [List.getD_eq_getElem?_getD, List.getD_eq_getElem?_getD, List.getElem?_append_left d]
      rw [e, Array.getElem?_push, if_neg (by omega)]
      exact ⟨u, hu⟩
    · have e : i = xs.length := by omega
      have e2 : M10.gI (xs ++ [x]) i = x := by
        unfold M10.gI
        rw [List.getD_eq_getElem?_getD, e, List.getElem?_append_right (Nat.le_refl _), Nat.sub_self]
        rfl
      rw [e2, Array.getElem?_push, if_pos (by omega)]
      exact ⟨t, rfl⟩
  refine wpAny_bind ?_
  wp_delta
  refine wpAny_bind (wpAny_seqItems hS2 rfl ?_)
  try dsimp only
  refine wpAny_pure ?_
  try dsimp only
  wp_delta
  refine wpAny_pure ⟨plainId_quiet plain_sift _, ?_⟩
  have sz : (vs.push (Value.int x t)).size - 1 = xs.length := by rw [Array.size_push, z]; rfl
  rw [sz]
  exact sift_rise (xs.length + 1) hS2 hv2 (by rw [List.length_append, List.length_singleton]; omega) (by rw [List.length_append, List.length_singleton]; omega) (Nat.lt_succ_self _) fun vs' c' h' x1 x2 x3 => k vs' c' h' x1 x2 fun b o hb e => x3 b o hb (keep b o hb e)
theorem call_pop {a : Addr} {vs : Array Value} {xs : List Int} {c : Nat}
    (hS : s.heap.get? a = some { cls := .type "list", dict := none, data := .seq vs c, slots := #[] }) (hv : IntsAre' vs xs) (hz : xs.length < 1000) (ne : xs ≠ [])
    (k : ∀ vs' c' h' t, IntsAre' vs' (M10.popF xs) → h'.get? a = some { cls := .type "list", dict := none, data := .seq vs' c', slots := #[] } → (∀ b o, b ≠ a → s.heap.get? b = some o → h'.get? b = some o) → Q (.int (M10.gI xs 0) t) { s with heap := h' }) :
    wpAny (model prog w) A (call (.builtin "_heapq.heappop") [.ref a]) Q E s := by
  obtain ⟨z, g⟩ := id hv
  have pos := List.length_pos_iff.mpr ne
  have hT : s.TypeIs (.ref a) "list" := ⟨_, hS, rfl⟩
  refine call_function_tree kind_pop plain_pop entry_pop (args_pop _) ?_
  unfold Builtin.«_heapq.heappop»
  wp_delta
  refine wpAny_bind ?_
  wp_delta
  refine wpAny_bind (wpAny_of_eq (a := Value.ref a) (by first | rfl | kernel_rfl) ?_)
  refine wpAny_bind ?_
  wp_delta
  refine wpAny_bind (wpAny_isInstance (T := "list") (b := true) hT (by rw [isSubtype_type]; kernel_rfl) ?_)
  rw [if_pos rfl]
  try dsimp only
  refine wpAny_pure ?_
  refine wpAny_pure ?_
  try dsimp only
  refine wpAny_bind ?_
  wp_delta
  refine wpAny_bind (wpAny_seqItems hS rfl ?_)
  try dsimp only
  refine wpAny_pure ?_
  try dsimp only
  obtain ⟨t, ht⟩ := g (xs.length - 1) (by omega)
  obtain ⟨t0, ht0⟩ := g 0 pos
  obtain ⟨last, hlast⟩ : ∃ last, last = M10.gI xs (xs.length - 1) := ⟨_, rfl⟩
  rw [← hlast] at ht
  have bk : vs.back? = some (.int last t) := by
    show vs[vs.size - 1]? = _
    rw [z]
    exact ht
  rw [bk]
  try dsimp only
  refine wpAny_bind (wpAny_updateSeq hS rfl ?_ (by rw [sizeLine_eq]; omega) (by rw [Array.size_pop, sizeLine_eq]; omega))
  have hS2 := Heap.get?_update_self (Obj.mapSeq (fun v : Array Value => v.pop)) hS rfl
  have keep : ∀ b o, b ≠ a → s.heap.get? b = some o → (s.heap.update a (Obj.mapSeq (fun v : Array Value => v.pop))).get? b = some o := fun b o hb e => (Heap.get?_update_other _ _ (Ne.symm hb)).trans e
  have hv2 : IntsAre' vs.pop xs.dropLast := by
    refine ⟨by rw [Array.size_pop, List.length_dropLast, z], fun i hi => ?_⟩
    rw [List.length_dropLast] at hi
    obtain ⟨u, hu⟩ := g i (by omega)
    have e : M10.gI xs.dropLast i = M10.gI xs i := by
      unfold M10.gI
      rw [List.getD_eq_getElem?_getD, List.getD_eq_getElem?_getD, List.getElem?_dropLast, if_pos (by omega)]
    rw [e, Array.getElem?_pop, if_pos (by omega)]
    exact ⟨u, hu⟩
  by_cases one : xs.length = 1
  · rw [if_pos (by rw [z, one]; rfl)]
    refine wpAny_pure ?_
    have e : last = M10.gI xs 0 := by rw [hlast, one]
    have pe : M10.popF xs = [] := by
      unfold M10.popF
      rw [if_pos (by omega)]
    have de : xs.dropLast = [] := List.eq_nil_of_length_eq_zero (by rw [List.length_dropLast]; omega)
    rw [de, ← pe] at hv2
    rw [e]
    exact k _ _ _ t hv2 hS2 keep
  · rw [if_neg (by rw [z]; simpa using one)]
    refine wpAny_bind ?_
    wp_delta
    rw [ht0]
    refine wpAny_pure ?_
    try dsimp only
    refine wpAny_bind (wpAny_updateSeq hS2 rfl ?_ (by rw [Array.size_pop, sizeLine_eq]; omega) (by rw [Array.size_setIfInBounds, Array.size_pop, sizeLine_eq]; omega))
    have hS3 := Heap.get?_update_self (Obj.mapSeq (fun v : Array Value => v.setIfInBounds 0 (Value.int last t))) hS2 rfl
    have dl : xs.dropLast.length = xs.length - 1 := List.length_dropLast
    have hv3 : IntsAre' (vs.pop.setIfInBounds 0 (Value.int last t)) (xs.dropLast.set 0 last) := by
      obtain ⟨z2, g2⟩ := hv2
      refine ⟨by rw [Array.size_setIfInBounds, List.length_set, z2], fun i hi => ?_⟩
      rw [List.length_set] at hi
      rw [M10.gI_set (by omega), Array.getElem?_setIfInBounds]
      by_cases d : i = 0
      · rw [if_pos d.symm, if_pos (by omega), if_pos d]
        exact ⟨t, rfl⟩
      · rw [if_neg (fun z => d z.symm), if_neg d]
        exact g2 i hi
    wp_delta
    refine wpAny_pure ⟨plainId_quiet plain_sift _, ?_⟩
    have pe : M10.popF xs = M10.rise xs.length (M10.sink xs.length (xs.dropLast.set 0 last) 0).1 (M10.sink xs.length (xs.dropLast.set 0 last) 0).2 := by
      unfold M10.popF
      rw [if_neg (by omega), ← hlast]
    rw [pe] at k
    exact sift_sink xs.length xs.length hS3 hv3 (by rw [List.length_set, dl]; omega) (by rw [List.length_set, dl]; omega) (by rw [List.length_set, dl]; omega) (by rw [List.length_set, dl]; omega)
      fun vs' c' h' x1 x2 x3 => k vs' c' h' t0 x1 x2 fun b o hb e => x3 b o hb ((Heap.get?_update_other _ _ (Ne.symm hb)).trans (keep b o hb e))
end
end Vf

/-! heappush and heappop: the rules. -/
namespace Vf
open PySem PySem.Spec PyProof.Rows L2 Evl
theorem ints_of {xs : List Int} {its : List Value} (r : Vals (xs.map V.int) its) : IntsAre' its.toArray xs := by
  have len := Vals.length r
  rw [List.length_map] at len
  refine ⟨by rw [List.size_toArray]; exact len.symm, fun i hi => ?_⟩
  have e : (xs.map V.int)[i]? = some (.int (M10.gI xs i)) := by
    rw [List.getElem?_map, List.getElem?_eq_getElem hi]
    unfold M10.gI
    rw [List.getD_eq_getElem?_getD, List.getElem?_eq_getElem hi]
    rfl
  obtain ⟨u, hu, ru⟩ := r.get e
  obtain ⟨t, rfl⟩ : ∃ t, u = Value.int (M10.gI xs i) t := ru
  exact ⟨t, by rw [List.getElem?_toArray]; exact hu⟩
theorem of_ints {xs : List Int} {vs : Array Value} (h : IntsAre' vs xs) : Vals (xs.map V.int) vs.toList := by
  obtain ⟨z, g⟩ := h
  refine vals_of_at (by rw [List.length_map, ← z]; exact (Array.length_toList (xs := vs)).symm) fun j x u h1 h2 => ?_
  rw [List.getElem?_map] at h1
  obtain ⟨i, hi, rfl⟩ := Option.map_eq_some_iff.mp h1
  have hj := (List.getElem?_eq_some_iff.mp hi).1
  obtain ⟨t, ht⟩ := g j hj
  rw [Array.getElem?_toList] at h2
  rw [ht] at h2
  cases h2
  have e : M10.gI xs j = i := by
    unfold M10.gI
    rw [List.getD_eq_getElem?_getD, hi]
    rfl
  exact ⟨t, by rw [e]⟩
section
variable {X : Cx}
def rPush : List V → Hp → VK → Prop := fun vs H Q => ∃ (a : Addr) (xs : List Int) (x : Int), vs = [.ref a, .int x] ∧ H a = some (.lst (xs.map V.int)) ∧ xs.length < 1000 ∧ M10.Hq xs ∧
  ∀ ys : List Int, M10.Hq ys → ys.Perm (x :: xs) → Q .non (upd H a (.lst (ys.map V.int)))
theorem cr_push : CallR X (.builtin "_heapq.heappush") rPush := by
  intro pins s σ H vs us Q I r h
  obtain ⟨a, xs, x, rfl, hH, hz, hq, q⟩ := h
  obtain ⟨z, its, n, rv, hl, e⟩ := I.lstM hH
  obtain ⟨u1, u2, rfl, r1, r2⟩ := vals2 r
  cases r1
  obtain ⟨t, rfl⟩ : ∃ t, u2 = Value.int x t := r2
  refine call_push e (ints_of rv) hz fun vs' c' h' hv' hS' keep => ?_
  obtain ⟨p1, p2⟩ := M10.push_is hq x
  refine ⟨.non, _, I.write (x := a) (e := a) (t' := s.toks) (o := .lst ((M10.pushF xs x).map V.int)) (by rw [hH]; exact True.intro) (.inl rfl) keep ⟨_, hS'⟩ ?_, rfl, q _ p1 p2⟩
  exact ⟨by rw [List.length_map, p2.length_eq, List.length_cons, sizeLine_eq]; omega, vs'.toList, c', of_ints hv', by rw [Array.toArray_toList]; exact hS'⟩
def rPop : List V → Hp → VK → Prop := fun vs H Q => ∃ (a : Addr) (xs : List Int), vs = [.ref a] ∧ H a = some (.lst (xs.map V.int)) ∧ xs.length < 1000 ∧ M10.Hq xs ∧ xs ≠ [] ∧
  ∀ (x : Int) (ys : List Int), M10.Hq ys → (x :: ys).Perm xs → (∀ y ∈ xs, x ≤ y) → Q (.int x) (upd H a (.lst (ys.map V.int)))
theorem cr_pop : CallR X (.builtin "_heapq.heappop") rPop := by
  intro pins s σ H vs us Q I r h
  obtain ⟨a, xs, rfl, hH, hz, hq, ne, q⟩ := h
  obtain ⟨z, its, n, rv, hl, e⟩ := I.lstM hH
  rw [Vals.ref1 r]
  refine call_pop e (ints_of rv) hz ne fun vs' c' h' t hv' hS' keep => ?_
  obtain ⟨p1, p2⟩ := M10.pop_is hq ne
  refine ⟨.int (M10.gI xs 0), _, I.write (x := a) (e := a) (t' := s.toks) (o := .lst ((M10.popF xs).map V.int)) (by rw [hH]; exact True.intro) (.inl rfl) keep ⟨_, hS'⟩ ?_, ⟨t, rfl⟩, q _ _ p1 p2 fun y hy => ?_⟩
  · have l := p2.length_eq
    rw [List.length_cons] at l
    exact ⟨by rw [List.length_map, sizeLine_eq]; omega, vs'.toList, c', of_ints hv', by rw [Array.toArray_toList]; exact hS'⟩
  · obtain ⟨i, hi, e⟩ := List.getElem_of_mem hy
    have z := hq.least i hi
    have e2 : M10.gI xs i = xs[i] := by
      unfold M10.gI
      rw [List.getD_eq_getElem?_getD, List.getElem?_eq_getElem hi]
      rfl
    rw [e2, e] at z
    exact z
end
end Vf

/-! One parameter, told by name. -/
namespace Vf
open PySem PySem.Spec PyProof.Rows L2 Evl
def rev1 {α : Type} : List α → List α → List α
  | [], [a] => [a]
  | _, _ => []
theorem rev1_len {α : Type} {us ws : List α} (h : (rev1 us ws).length = 1) : us = [] ∧ ∃ a, ws = [a] := by
  unfold rev1 at h
  split at h
  · exact ⟨rfl, _, rfl⟩
  · cases h
theorem rev1_rel {vs : List V} {us : List Value} {zs : List V} {ws : List Value} (r1 : Vals vs us) (r2 : Vals zs ws) : Vals (rev1 vs zs) (rev1 us ws) := by
  cases r1 with
  | cons _ _ => cases r2 <;> exact .nil
  | nil =>
    cases r2 with
    | nil => exact .nil
    | cons a r => cases r with
      | nil => exact .cons a .nil
      | cons b r => exact .nil
theorem rev1_binds {K : PySem.W.Frag} {fd : FuncData} {p1 : Str} (h : ∀ a : Value, bindArgs fd ⟨[], [(p1, a)]⟩ = pure [(p1, a)]) : KBinds K fd [p1] [p1] rev1 rev1 := by
  refine ⟨fun s us ws _ hl => ?_, rev1_rel⟩
  obtain ⟨rfl, a, rfl⟩ := rev1_len hl
  exact .of_eq (h a)
end Vf

/-! Lists of new lists, written; a new list turned about. -/
namespace Vf
open PySem PySem.Spec PyProof.Rows L2 Evl
section
variable {K : PySem.W.Frag} {σ : L2.St} {H : Hp} {te : TE} {ta : TA}
def EvAL (ta : TA) (σ : L2.St) (H : Hp) (ls : List (List V)) : Prop := ∀ H1, Ex H H1 → ∀ Q : List V → Hp → Prop, (∀ (ps : List Addr) H2, Ex H1 H2 → ps.length = ls.length → (∀ (i : Nat) p l, ps[i]? = some p → ls[i]? = some l → H1 p = none ∧ H2 p = some (.lst l)) → Q (ps.map V.ref) H2) → ta σ H1 Q
theorem eal_nil : EvAL tNil σ H [] := fun H1 _ _ q => q [] H1 (Ex.refl H1) rfl fun i p u h => by cases i <;> cases h
theorem eal_cons {l : List V} {ls : List (List V)} (h : EvL te σ H l) (k : EvAL ta σ H ls) : EvAL (tCons te ta) σ H (l :: ls) := fun H1 e _ q =>
  h H1 e _ fun p H2 np e2 hp => k H2 (e.trans e2) _ fun ps H3 e3 hl ha => q (p :: ps) H3 (e2.trans e3) (by rw [List.length_cons, List.length_cons, hl]) fun i p' u' x y => by
    match i, x, y with
    | 0, x, y =>
      cases x
      cases y
      exact ⟨np, e3 _ _ hp⟩
    | i + 1, x, y =>
      obtain ⟨z1, z2⟩ := ha i p' u' x y
      exact ⟨fresh_back e2 z1, z2⟩
theorem ell_lst {ls : List (List V)} (h : EvAL ta σ H ls) (hl : ls.length ≤ 1000) : EvLL (tLst ta) σ H ls := fun H1 e Q q =>
  h H1 e _ fun ps H2 e2 hl2 ha => by
    refine ⟨sz_of (by rw [List.length_map, hl2]; omega), fun D nD => q D _ (fresh_back e2 nD) (e2.trans (Ex.new nD)) ⟨ps, upd_same, hl2, fun z => ?_, fun i p u x y => ⟨(ha i p u x y).1, (Ex.new nD) _ _ (ha i p u x y).2⟩⟩⟩
    obtain ⟨i, hi, e⟩ := List.getElem_of_mem z
    have := (ha i D _ (by rw [List.getElem?_eq_getElem hi, e]) (List.getElem?_eq_getElem (by omega))).2
    rw [nD] at this
    cases this
theorem el_revN {xs : List V} (h : EvL te σ H xs) : EvL (tRevL K te) σ H xs.reverse := fun H1 e Q q =>
  h H1 e _ fun p H2 np e2 hp => ⟨p, xs, rfl, .inl (.inl hp), fun r nr => q r _ (fresh_back e2 nr) (e2.trans (Ex.new nr)) upd_same⟩
theorem q_asgLL {ls : List (List V)} {i : Nat} {tz : TS} {D : Ends} (h : EvLL te σ H ls) (k : ∀ p H1, H p = none → Ex H H1 → LLAt H H1 p ls → tz D (σ.set i (some (.ref p))) H1) : tSeq (tAsg te (gName i)) tz D σ H := h H (Ex.refl H) _ fun p H1 np e1 hp => k p H1 np e1 hp
end
end Vf

/-! comprehensions that make dicts: over any walk; over a range, over a dict's keys. -/
namespace Vf
open PySem PySem.Spec PyProof.Rows L2 Evl
theorem dc_it {J : It} {n : Nat} {G : Hp → Prop} {Y : Nat → Hp → V → Hp → Prop} (w : Walk J n G Y) {g : TG} {tt : TT} {tk tv : TE} {vs : List Nat} {σ : L2.St} {H1 : Hp} {D : Addr} {Qd : Hp → Prop} (Pv : Nat → Hp → Prop) (h0 : Pv 0 (upd H1 D (.dK []))) (hG : ∀ i H, i ≤ n → Pv i H → G H)
    (hs : ∀ i x H H', i < n → Pv i H → Y i H x H' → g x (wipe σ vs) H' fun σ2 H2 => wipe σ2 vs = wipe σ vs ∧ tt σ2 H2 fun b H3 =>
      if b = true then tk σ2 H3 fun y H4 => tv σ2 H4 fun z H5 => ∃ kvs k, y = kV k ∧ H5 D = some (.dK kvs) ∧ kvs.length < sizeLine ∧ Pv (i + 1) (upd H5 D (.dK (putK kvs k z))) else Pv (i + 1) H3) (hd : ∀ H, Pv n H → Qd H) :
    ∃ W : Nat → Nat → Hp → Prop, (∃ m, W 0 m (upd H1 D (.dK []))) ∧ ∀ i m H, W i m H →
      (J.stop i H ∧ Qd H) ∨ (J.go i H ∧ ∃ Nx : Hp → Prop, (∀ H', Nx H' → ∃ m', m' < m ∧ W (i + 1) m' H') ∧ ∀ x H', J.yld i H x H' → g x (wipe σ vs) H' fun σ2 H2 => wipe σ2 vs = wipe σ vs ∧ tt σ2 H2 fun b H3 =>
        if b = true then tk σ2 H3 fun y H4 => tv σ2 H4 fun z H5 => ∃ kvs k, y = kV k ∧ H5 D = some (.dK kvs) ∧ kvs.length < sizeLine ∧ Nx (upd H5 D (.dK (putK kvs k z))) else Nx H3) := by
  refine ⟨fun i m H => m = n - i ∧ i ≤ n ∧ Pv i H, ⟨n, by simp, Nat.zero_le _, h0⟩, ?_⟩
  rintro i m H ⟨rfl, hi, p⟩
  have q := hG i H hi p
  by_cases hlt : i < n
  · refine .inr ⟨w.goes i H hlt q, Pv (i + 1), fun H' p' => ⟨n - (i + 1), by omega, rfl, hlt, p'⟩, fun x H' y => hs i x H H' hlt p (w.yields i H x H' hlt q y)⟩
  · have e : i = n := by omega
    subst e
    exact .inl ⟨w.stops H q, hd H p⟩
/-- the calls from 1 on, with what stands at each of them -/
abbrev kvF (v : Nat → V) (n : Nat) : List (Key × V) := (List.range n).map fun i : Nat => (.inl (1 + (i : Int)), v i)
theorem kvF_len (v : Nat → V) (n : Nat) : (kvF v n).length = n := by rw [List.length_map, List.length_range]
theorem kvF_val (v : Nat → V) : ∀ n i : Nat, valV (kvF v n) (.inl (1 + (i : Int))) = if i < n then some (v i) else none
  | 0, i => by rw [if_neg (Nat.not_lt_zero _)]; rfl
  | n + 1, i => by
    have ih := kvF_val v n i
    have e : kvF v (n + 1) = kvF v n ++ [(.inl (1 + (n : Int)), v n)] := by
      unfold kvF
      rw [List.range_succ, List.map_append]
      rfl
    unfold valV at ih ⊢
    rw [e, List.find?_append]
    by_cases c : i < n
    · rw [if_pos c] at ih
      cases hf : (kvF v n).find? fun kv => decide (kv.1 = .inl (1 + (i : Int))) with
      | none => rw [hf] at ih; cases ih
      | some x =>
        rw [hf] at ih
        rw [if_pos (by omega)]
        exact ih
    · rw [if_neg c] at ih
      cases hf : (kvF v n).find? fun kv => decide (kv.1 = .inl (1 + (i : Int))) with
      | some x => rw [hf] at ih; cases ih
      | none =>
        by_cases d : i = n
        · subst d
          rw [if_pos (by omega)]
          simp
        · rw [if_neg (by omega)]
          have ne : ¬((.inl (1 + (n : Int)) : Key) = .inl (1 + (i : Int))) := fun z => by
            injection z with z
            omega
          simp [ne]
theorem kvF_put (v : Nat → V) (n : Nat) (z : V) : putK (kvF v n) (.inl (1 + (n : Int))) z = kvF (fun i => if i = n then z else v i) (n + 1) := by
  rw [putK_new z (by rw [kvF_val, if_neg (by omega)])]
  unfold kvF
  rw [List.range_succ, List.map_append]
  refine congr (congrArg _ (List.map_congr_left fun i hi => ?_)) ?_
  · have := List.mem_range.mp hi
    show (_, v i) = (_, if i = n then z else v i)
    rw [if_neg (by omega)]
  · show [(_, z)] = [(_, if n = n then z else v n)]
    rw [if_pos rfl]
theorem putK_len {kvs : List (Key × V)} {k : Key} {v w : V} (h : valV kvs k = some w) : (putK kvs k v).length = kvs.length := by
  unfold putK
  rw [valV_any, h, if_pos (by rfl), List.length_map]
theorem yes_ifW {σ : L2.St} {H : Hp} {A B : Hp → Prop} (h : A H) : tYes σ H fun b H3 => if b = true then A H3 else B H3 := iteT (B := B H) h
/-- a new dict -/
def EvD (te : TE) (σ : L2.St) (H : Hp) (kvs : List (Key × V)) : Prop := ∀ H1, Ex H H1 → ∀ Q : VK, (∀ p H2, H1 p = none → Ex H1 H2 → H2 p = some (.dK kvs) → Q (.ref p) H2) → te σ H1 Q
theorem q_asgDn {σ : L2.St} {H : Hp} {te : TE} {tz : TS} {D : Ends} {i : Nat} {kvs : List (Key × V)} (h : EvD te σ H kvs) (k : ∀ p H1, H p = none → Ex H H1 → H1 p = some (.dK kvs) → tz D (σ.set i (some (.ref p))) H1) : tSeq (tAsg te (gName i)) tz D σ H :=
  h H (Ex.refl H) _ fun p H1 np e hp => k p H1 np e hp
section
variable {K : PySem.W.Frag} {σ : L2.St} {H : Hp} {te tv : TE}
/-- {k: e for k in d}, the keys 1, 2, .. -/
theorem ed_dcKeys {d : Addr} {n : Nat} {u : Nat → V} {i0 j : Nat} {vs : List Nat} (v : Nat → V) (hσ : σ[i0]? = some (some (.ref d))) (hd : H d = some (.dK (kvF u n))) (hz : n ≤ 40000)
    (hw : ∀ x, wipe ((wipe σ vs).set j (some x)) vs = wipe σ vs) (hj : ∀ x, ((wipe σ vs).set j (some x))[j]? = some (some x))
    (he : ∀ (i : Nat) H1, i < n → (∀ a o, a ≠ d → H a = some o → H1 a = some o) → Rd H1 d (.dK (kvF u n)) → Ev tv ((wipe σ vs).set j (some (.int (1 + (i : Int))))) H1 (v i)) :
    EvD (tLockE (tDc (iKeys (tVar i0)) (gName j) tYes (tVar j) tv vs)) σ H (kvF v n) := fun H0 e Q q => by
  have hd0 := e _ _ hd
  refine ⟨d, _, hd0, True.intro, fun o => ?_⟩
  obtain ⟨HL, hL⟩ : ∃ HL, HL = upd H0 d (.frz o (.dK (kvF u n))) := ⟨_, rfl⟩
  rw [← hL]
  have fr : HL d = some (.frz o (.dK (kvF u n))) := by rw [hL]; exact upd_same
  have old : ∀ a o', a ≠ d → H a = some o' → HL a = some o' := fun a o' ne ha => by
    rw [hL, upd_ne ne]
    exact e _ _ ha
  refine ⟨_, hσ, d, o, rfl, .inl ⟨kvF u n, fr, fun Dl hD => ?_⟩⟩
  have w := walk_keys (d := d) (o := o) (kvs := kvF u n)
  rw [kvF_len] at w
  refine dc_it w (fun i H' => HL Dl = none ∧ Ex HL H' ∧ H' Dl = some (.dK (kvF v i))) ⟨hD, Ex.new hD, by rw [upd_same, kvF, List.range_zero, List.map_nil]⟩ (fun i H' _ p => p.2.1 _ _ fr) (fun i z H2 H' hi p Y => ?_) fun H' p => ?_
  · obtain ⟨rfl, k, y, hk, rfl⟩ := Y
    have rd : ∀ H1, Ex HL H1 → Rd H1 d (.dK (kvF u n)) := fun H1 e1 => .inr ⟨o, e1 _ _ fr⟩
    have ek : k = .inl (1 + (i : Int)) := by
      rw [List.getElem?_map, List.getElem?_range hi] at hk
      cases hk
      rfl
    subst ek
    refine ⟨hw _, yes_ifW ⟨_, hj _, ?_⟩⟩
    refine he i HL hi old (rd _ (Ex.refl _)) H' p.2.1 _ fun H3 e3 => ⟨kvF v i, .inl (1 + (i : Int)), rfl, e3 _ _ p.2.2, sz_lt (by rw [kvF_len]; omega), p.1, Ex.mut (p.2.1.trans e3) p.1, ?_⟩
    rw [upd_same, kvF_put]
    refine congrArg (fun l => some (HO.dK l)) (List.map_congr_left fun k hk => ?_)
    show (_, if k = i then v i else v k) = (_, v k)
    split
    · next c => rw [c]
    · rfl
  · rw [hL] at hD
    obtain ⟨ne, nD⟩ := lock_new hD
    obtain ⟨u1, u2⟩ := unlock hd0 hL p.2.1
    exact ⟨u1, q Dl _ nD u2 (by rw [upd_ne ne]; exact p.2.2)⟩
/-- {k: [] for k in range(1, n + 1)} -/
theorem dc_newR2 {ta : TA} {n j : Nat} {vs : List Nat} (h : EvA ta σ H [.int 1, .int ((n : Int) + 1)]) (hz : n ≤ 40000) (hw : ∀ x, wipe ((wipe σ vs).set j (some x)) vs = wipe σ vs) (hj : ∀ x, ((wipe σ vs).set j (some x))[j]? = some (some x)) :
    ∀ H0, Ex H H0 → ∀ Q : VK, (∀ (D : Addr) (H2 : Hp) (ps : Nat → Addr), H0 D = none → Ex H0 H2 → H2 D = some (.dK (kvF (fun i => .ref (ps i)) n)) → (∀ i, i < n → H0 (ps i) = none ∧ H2 (ps i) = some (.lst [])) → (∀ i j, i < n → j < n → ps i = ps j → i = j) → Q (.ref D) H2) →
    tDc (iRng2 ta) (gName j) tYes (tVar j) (tLst tNil) vs σ H0 Q := fun H0 e Q q =>
  h H0 e _ fun H1 e1 => ⟨1, (n : Int) + 1, rfl, ⟨by omega, by omega, by omega, by omega⟩, fun D hD => by
    rw [show ((n : Int) + 1 - 1).toNat = n by omega]
    refine dc_it (walk_range (lo := 1) (n := n)) (fun i H' => ∃ ps : Nat → Addr, Ex H1 H' ∧ H' D = some (.dK (kvF (fun i => .ref (ps i)) i)) ∧ (∀ k, k < i → H1 (ps k) = none ∧ H' (ps k) = some (.lst [])) ∧ ∀ k l, k < i → l < i → ps k = ps l → k = l)
      ⟨fun _ => D, Ex.new hD, by rw [upd_same, kvF, List.range_zero, List.map_nil], fun k hk => absurd hk (Nat.not_lt_zero _), fun k l hk => absurd hk (Nat.not_lt_zero _)⟩ (fun _ _ _ _ => trivial) (fun i x H2 H' hi p Y => ?_) fun H' p => ?_
    · obtain ⟨ps, e2, hD2, hp, inj⟩ := p
      obtain ⟨rfl, rfl⟩ := Y
      refine ⟨hw _, yes_ifW ⟨_, hj _, Nat.zero_le _, fun P nP => ⟨kvF (fun i => .ref (ps i)) i, .inl (1 + (i : Int)), rfl, Ex.new nP _ _ hD2, sz_lt (by rw [kvF_len]; omega), fun k => if k = i then P else ps k, Ex.mut (e2.trans (Ex.new nP)) hD, ?_, fun k hk => ?_, fun k l hk hl => ?_⟩⟩⟩
      · rw [upd_same, kvF_put]
        refine congrArg (fun l => some (HO.dK l)) (List.map_congr_left fun k _ => ?_)
        show (_, if k = i then V.ref P else .ref (ps k)) = (_, V.ref (if k = i then P else ps k))
        split <;> rfl
      · by_cases c : k = i
        · dsimp only
          rw [if_pos c]
          exact ⟨fresh_back e2 nP, by rw [upd_ne (fun z => by rw [z, hD2] at nP; cases nP)]; exact upd_same⟩
        · dsimp only
          rw [if_neg c]
          obtain ⟨a, b⟩ := hp k (by omega)
          exact ⟨a, by rw [upd_ne (fun z => by rw [z, hD2] at b; cases b)]; exact Ex.new nP _ _ b⟩
      · have far : ∀ m, m < i → ps m ≠ P := fun m hm z => by
          have b := (hp m hm).2
          rw [z, nP] at b
          cases b
        dsimp only
        by_cases ck : k = i <;> by_cases cl : l = i
        · rw [ck, cl]; exact fun _ => rfl
        · rw [if_pos ck, if_neg cl]; exact fun z => absurd z.symm (far l (by omega))
        · rw [if_neg ck, if_pos cl]; exact fun z => absurd z (far k (by omega))
        · rw [if_neg ck, if_neg cl]; exact inj k l (by omega) (by omega)
    · obtain ⟨ps, e2, hD2, hp, inj⟩ := p
      exact q D H' ps (fresh_back e1 hD) (e1.trans e2) hD2 (fun i hi => ⟨fresh_back e1 (hp i hi).1, (hp i hi).2⟩) inj⟩
end
end Vf

/-! name = {..} on one line, the name a local. -/
namespace Vf
open PySem PySem.Spec PyProof.Rows L2 Evl
section
variable {X : Cx}
theorem ps_setDc {i : Nat} {y : Str} {py : Pos} {kx vx tg iter : Expr} {ifs : List Expr} {scope : Scope} {own : List (Str × Nat)} {pos spos : Pos} {wi : TI} {g : TG} {tt : TT} {tk tv : TE} (hc : X.calm = true) (hN : X.N.Nodup) (hy : X.N[i]? = some y) (hyl : X.env.scope.names.lookup y = some .local)
    (hsw : swapsWith (.DictComp kx vx [⟨tg, iter, ifs, 0⟩] scope pos) (some (.Name y py)) spos.line X.env = pure true) (hi : PI X tg iter wi) (ok : BlkOk X.N X.env.scope scope own)
    (hg : ∀ (s : Shared) (H : Hp) (C : Addr) (cl : List (Str × Addr)) (fp : List Addr), PG (X.blk s H scope (compEnvC scope cl C X.env) fp) tg g) (ht : ∀ (s : Shared) (H : Hp) (C : Addr) (cl : List (Str × Addr)) (fp : List Addr), PTs (X.blk s H scope (compEnvC scope cl C X.env) fp) ifs tt)
    (hk : ∀ (s : Shared) (H : Hp) (C : Addr) (cl : List (Str × Addr)) (fp : List Addr), PE (X.blk s H scope (compEnvC scope cl C X.env) fp) kx tk)
    (he : ∀ (s : Shared) (H : Hp) (C : Addr) (cl : List (Str × Addr)) (fp : List Addr), PE (X.blk s H scope (compEnvC scope cl C X.env) fp) vx tv) (hs : ∀ x, foldedSetIterable iter X.env x = pure x := by intro _; rfl) :
    PS X (.Assign [.Name y py] (.DictComp kx vx [⟨tg, iter, ifs, 0⟩] scope pos) spos) (tAsg (tDc wi g tt tk tv (own.map (·.2))) (gName i)) := by
  refine ⟨fun pins s σ H D I h => ?_⟩
  rw [exec_Assign_Name_used _ _ _ _ hsw]
  refine wpAny_bind (wpAny_standAt (wpAny_bind ?_))
  show wpAny _ X.A (do let _ ← comprehension (.DictComp kx vx [⟨tg, iter, ifs, 0⟩] scope pos) scope X.env (firstIterPos [⟨tg, iter, ifs, 0⟩] pos) newDict false (eval iter X.env) (some (assign (.Name y py) X.env))) _ _ s
  have h : tDc wi g tt tk tv (own.map (·.2)) σ H (fun x H1 => gName i x σ H1 D.nx) := h
  refine wpAny_bind (thn (dc_core (Qf := fun _ s' => SP X pins D .next s') hc hN I hi ok hg ht hk he hs h fun L C s' m H' I' q hn f => ?_) fun _ s' hq => wpAny_pure (wpAny_pure hq))
  show wpAny _ _ (assign (.Name y py) X.env (.ref L)) _ _ _
  refine wpAny_assign_Name (store_ok2 (v := V.ref L) I' hN hy (.inl hyl) rfl (fun s2 I2 ⟨a, sb, ha⟩ => ?_) (.inr hyl))
  obtain ⟨f0, f1, f2, f3, f4, f5⟩ := f
  have haC : C ≠ a := by
    rcases ha with z | z
    · rw [z]; exact f1
    · exact fun e => f4 y a z e.symm
  refine ⟨m, hn.sameBut sb haC, fun h3 sb3 => ?_⟩
  exact ⟨_, H', I2.turned (t' := s2.toks) (fun b o hb e => (sb3.2 b hb).trans e) f0 f1 f3 f4 f5, q⟩
theorem sw_trueD {kx vx : Expr} {gs : List Comprehension} {scope : Scope} {pos py : Pos} {y : Str} {l : Nat} {env : Env} (hk : env.scope.kind = .function) (hy : env.scope.names.lookup y = some .local) (hl : (py.line == pos.line) = true)
    (ha : (scope.names.any fun (n, k) => n == y && (k == .local || k == .cell)) = false) : swapsWith (.DictComp kx vx gs scope pos) (some (.Name y py)) l env = pure true := by
  have ky : env.kindOf y = some .local := hy
  have hb : env.blockKind = .function := by unfold Env.blockKind; rw [hk]; rfl
  unfold swapsWith
  simp only [hb, ky, ha, Expr.pos, hl]
  rfl
end
theorem q_asgV {σ : L2.St} {H : Hp} {te : TE} {tz : TS} {D : Ends} {i : Nat} (h : te σ H fun v H' => tz D (σ.set i (some v)) H') : tSeq (tAsg te (gName i)) tz D σ H := h
/-- name = .. while a dict is locked -/
theorem q_lock {σ : L2.St} {H : Hp} {te : TE} {tz : TS} {D : Ends} {i : Nat} (h : tLockE te σ H fun v H' => tz D (σ.set i (some v)) H') : tSeq (tLock (tAsg te (gName i))) tz D σ H := h
/-- [e for k in d if t], the other things that stand being known -/
theorem el_lcKeysO {K : PySem.W.Frag} {σ : L2.St} {H : Hp} {te : TE} {t : TT} {d : Addr} {kvs : List (Key × V)} {i0 j : Nat} {vs : List Nat} (f : Nat → Bool) (v : Nat → V) (hσ : σ[i0]? = some (some (.ref d))) (hd : H d = some (.dK kvs)) (hz : kvs.length ≤ 40000)
    (hw : ∀ x, wipe ((wipe σ vs).set j (some x)) vs = wipe σ vs) (ht : ∀ (i : Nat) (k : Key × V) H1, (∀ a o, a ≠ d → H a = some o → H1 a = some o) → Rd H1 d (.dK kvs) → kvs[i]? = some k → EvT t ((wipe σ vs).set j (some (kV k.1))) H1 (f i))
    (he : ∀ (i : Nat) (k : Key × V) H1, (∀ a o, a ≠ d → H a = some o → H1 a = some o) → Rd H1 d (.dK kvs) → kvs[i]? = some k → f i = true → Ev te ((wipe σ vs).set j (some (kV k.1))) H1 (v i)) :
    EvL (tLockE (tLc (iKeys (tVar i0)) (gName j) t te vs)) σ H (given kvs.length f v) := fun H0 e Q q => by
  have hd0 := e _ _ hd
  refine ⟨d, _, hd0, True.intro, fun o => ?_⟩
  obtain ⟨HL, hL⟩ : ∃ HL, HL = upd H0 d (.frz o (.dK kvs)) := ⟨_, rfl⟩
  rw [← hL]
  have fr : HL d = some (.frz o (.dK kvs)) := by rw [hL]; exact upd_same
  have old : ∀ a o', a ≠ d → H a = some o' → HL a = some o' := fun a o' ne ha => by
    rw [hL, upd_ne ne]
    exact e _ _ ha
  refine ⟨_, hσ, d, o, rfl, .inl ⟨kvs, fr, fun Dl hD => ?_⟩⟩
  refine lc_it (walk_keys (d := d) (o := o) (kvs := kvs)) (Cw HL f v Dl) ⟨hD, Ex.new hD, upd_same⟩ (fun i H' _ p => p.2.1 _ _ fr) (fun i z H2 H' hi p Y => ?_) fun H' p => ?_
  · obtain ⟨rfl, k, y, hk, rfl⟩ := Y
    have rd : ∀ H1, Ex HL H1 → Rd H1 d (.dK kvs) := fun H1 e1 => .inr ⟨o, e1 _ _ fr⟩
    exact ⟨hw _, cw_turn p (by omega) (ht i (k, y) HL old (rd _ (Ex.refl _)) hk) fun hf => he i (k, y) HL old (rd _ (Ex.refl _)) hk hf⟩
  · rw [hL] at hD
    obtain ⟨ne, nD⟩ := lock_new hD
    obtain ⟨u1, u2⟩ := unlock hd0 hL p.2.1
    exact ⟨u1, q Dl _ nD u2 (by rw [upd_ne ne]; exact p.2.2)⟩
theorem q_lockL {σ : L2.St} {H : Hp} {te : TE} {tz : TS} {D : Ends} {i : Nat} {xs : List V} (h : EvL (tLockE te) σ H xs) (k : ∀ p H1, H p = none → Ex H H1 → H1 p = some (.lst xs) → tz D (σ.set i (some (.ref p))) H1) : tSeq (tLock (tAsg te (gName i))) tz D σ H :=
  q_lock (h H (Ex.refl H) _ fun p H1 np e hp => k p H1 np e hp)
end Vf

/-! sums of lists. -/
namespace Vf
open PySem PySem.Spec PyProof.Rows L2 Evl
theorem cr_sumK {X : Cx} {K : PySem.W.Frag} (hc : X.calm = true) (hK : X.K = K) : CallR X (.builtin "sum") (rSum K) := by
  subst hK
  exact cr_sum hc
theorem ev_sum {K : PySem.W.Frag} {σ : L2.St} {H : Hp} {te : TE} {p : Addr} {ns : List Int} (h : Ev te σ H (.ref p)) (hs : SqL K H p (ns.map V.int)) : Ev (tCB (rSum K) (tCons te tNil)) σ H (.int ns.sum) := fun H1 e Q q =>
  h H1 e _ fun H2 e2 => ⟨p, ns, rfl, ex_l (e.trans e2) hs, q H2 e2⟩
theorem ev_sumN {K : PySem.W.Frag} {σ : L2.St} {H : Hp} {te : TE} {ns : List Int} (h : EvL te σ H (ns.map V.int)) : Ev (tCB (rSum K) (tCons te tNil)) σ H (.int ns.sum) := fun H1 e Q q =>
  h H1 e _ fun p H2 np e2 hp => ⟨p, ns, rfl, .inl (.inl hp), q H2 e2⟩
end Vf

/-! Great numbers as data; an item of a new list. -/
namespace Vf
open PySem PySem.Spec PyProof.Rows L2 Evl
theorem Dn.intW {i : Int} (h0 : 0 ≤ i) (h1 : i < 10 ^ 100) : Dn (.int i) 100 0 := by
  refine ⟨toString_length_le h0 (by decide) h1, ?_, rfl, rfl, Nat.le_refl _⟩
  refine decide_eq_true ?_
  have h2 : i.natAbs < 2 ^ 340 := by omega
  by_cases c : i.natAbs = 0
  · rw [c]; decide
  · exact Nat.lt_of_lt_of_le ((Nat.log2_lt c).2 h2) (by decide)
theorem dn_intsW {ns : List Int} (h : ∀ x ∈ ns, 0 ≤ x ∧ x < 10 ^ 100) : Dn (dInts ns) (102 * ns.length + 2) 1 := by
  have z := Dn.list (ds := ns.map .int) (len := 100) (dep := 0) fun d hd => by
    obtain ⟨x, hx, rfl⟩ := List.mem_map.mp hd
    exact Dn.intW (h x hx).1 (h x hx).2
  rw [List.length_map] at z
  exact z
theorem ev_ixNew {K : PySem.W.Frag} {σ : L2.St} {H : Hp} {ta tb : TE} {xs : List V} {i : Int} {v : V} (ha : EvL ta σ H xs) (hb : Ev tb σ H (.int i)) (h : L2.atI xs i = some v) : Ev (tOp (rIxL K) ta tb) σ H v :=
  ev_opL1 ha (fun H1 e => hb.mono e) fun p H1 hp _ => rv_ixL (.inl (.inl hp)) h
end Vf

/-! for k in d, the keys tuples. -/
namespace Vf
open PySem PySem.Spec PyProof.Rows L2 Evl
theorem q_lockKT {σ : L2.St} {H : Hp} {d : Addr} {kvs : List (List Key × V)} {i0 j : Nat} {tb tz : TS} {D : Ends} (hσ : σ[i0]? = some (some (.ref d))) (hd : H d = some (.dT kvs)) (Pv : Obj → Nat → L2.St → Hp → Prop)
    (h0 : ∀ o, Pv o 0 σ (upd H d (.frz o (.dT kvs)))) (hG : ∀ o i σ' H', Pv o i σ' H' → H' d = some (.frz o (.dT kvs)))
    (hs : ∀ (o : Obj) (i : Nat) (k : List Key) (v : V) (q : Addr) (σ' : L2.St) (H' : Hp) (E : Ends), kvs[i]? = some (k, v) → H' q = some (.tup (k.map kV)) → Pv o i σ' H' → tb { E with nx := Pv o (i + 1), ct := Pv o (i + 1) } (σ'.set j (some (.ref q))) H')
    (hz : ∀ o σ' H', Pv o kvs.length σ' H' → tz D σ' (upd H' d (.dT kvs))) : tSeq (tLock (tFor (iKeys (tVar i0)) (gName j) tb)) tz D σ H := by
  refine ⟨d, .dT kvs, hd, True.intro, fun o => ⟨.ref d, hσ, d, o, rfl, .inr ⟨kvs, upd_same, ?_⟩⟩⟩
  refine for_it (walk_keysT (d := d) (o := o) (kvs := kvs)) (Pv o) (h0 o) (fun i σ' H' _ p => hG o i σ' H' p) (fun i x σ' H1 H' hi p Y => ?_) fun σ' H' p => ⟨hG o _ σ' H' p, hz o σ' H' p⟩
  obtain ⟨rfl, k, v, q, hk, rfl, hq⟩ := Y
  dsimp only [gName]
  exact hs o i k v q σ' _ ⟨fun _ _ => False, _, _, fun _ _ => False⟩ hk hq p
end Vf

/-! try: .. / except (A, B, C) as e: .. / ..; the rest of the def knows the exception that was caught. -/
namespace Vf
open PySem PySem.Spec PyProof.Rows L2 Evl
theorem fly_on {B h h' : Heap} {l : List Env} {a : Addr} {Z : Obj → Prop} (x : HandSPX.FlyingZ B l a Z h) (k : ∀ b o, h.get? b = some o → h'.get? b = some o) : HandSPX.FlyingZ B l a Z h' := by
  obtain ⟨x1, x2, x3, oe, vs, T, oT, ts, y1, y2, y3, y4, y5, y6, y7, y8, y9⟩ := x
  exact ⟨fun b o z => k b o (x1 b o z), x2, x3.of_keeps fun b o z _ => ⟨o, k b o z, rfl⟩, oe, vs, T, oT, ts, k _ _ y1, y2, y3, y4, y5, y6, k _ _ y7, y8, y9⟩
section
variable {X : Cx} {pins : List (Addr × Obj)} {σ : L2.St} {H : Hp} {s : Shared}
theorem up_on {h h' h'' : Heap} (u : h.UpToSlots h') (k : ∀ b o, h'.get? b = some o → h''.get? b = some o) : h.UpToSlots h'' := fun b o z nf => by
  obtain ⟨sl, y⟩ := u b o z nf
  exact ⟨sl, k b _ y⟩
theorem inv_ext (I : Inv X pins σ H s) {h' : Heap} (k : ∀ b o, s.heap.get? b = some o → h'.get? b = some o) : Inv X pins σ H { s with heap := h' } := I.kept (t' := s.toks) k
/-- from the suite back to the def, the exception pinned -/
theorem inv_keep {a : Addr} {oe : Obj} (I : Inv (X.suite a ((a, oe) :: (X.pn ++ pins))) [] σ H s) (ok : X.Ok) : Inv (X.tr ((a, oe) :: (X.pn ++ pins)) X.xe) [] σ H s :=
  ⟨ok.toTry _ _, I.os, I.bare, I.base, I.loc, I.cell, I.free, I.freeC, fun q hq => I.pin q hq, I.hok, I.len⟩
theorem inv_drop {q : Addr × Obj} {pn' : List (Addr × Obj)} (I : Inv (X.tr (q :: (X.pn ++ pins)) X.xe) pn' σ H s) (ok : X.Ok) : Inv X pins σ H s :=
  ⟨ok, I.os, I.bare, I.base, I.loc, I.cell, I.free, I.freeC, fun p hp => I.pin p (List.mem_append_left _ (List.mem_cons_of_mem _ hp)), I.hok, I.len⟩
theorem sp_drop {q : Addr × Obj} {D : Ends} {f : Flow} (h : SP (X.tr (q :: (X.pn ++ pins)) X.xe) [] D f s) (ok : X.Ok) : SP X pins D f s := by
  cases f with
  | next => obtain ⟨σ', H', J, z⟩ := h; exact ⟨σ', H', inv_drop J ok, z⟩
  | brk => obtain ⟨σ', H', J, z⟩ := h; exact ⟨σ', H', inv_drop J ok, z⟩
  | cont => obtain ⟨σ', H', J, z⟩ := h; exact ⟨σ', H', inv_drop J ok, z⟩
  | ret u => obtain ⟨v, σ', H', J, r, z⟩ := h; exact ⟨v, σ', H', inv_drop J ok, r, z⟩
end
/-- what a clause's classes say of an exception in the suite's state -/
def TestOk (X : Cx) (t : Expr) (cs : List Value) : Prop :=
  ∀ (a : Addr) (pn : List (Addr × Obj)) (σ : L2.St) (H : Hp) (s : Shared) (cls : Value) (b : Bool) (Q : Bool → Shared → Prop) (E : Value → Shared → Prop), Inv (X.suite a pn) [] σ H s → PySem.W.exmAny X.K cls cs = some b → PySem.W.Looks (model X.prog X.w) s.heap (typeOf (.ref a)) cls →
    (∀ h', (∀ q o, s.heap.get? q = some o → h'.get? q = some o) → Q b { s with heap := h' }) →
    wpAny (model X.prog X.w) (X.A.mark (some (.ref a))) (eval t X.env) (fun c s1 => wpAny (model X.prog X.w) (X.A.mark (some (.ref a))) (excMatches (.ref a) c) Q E s1) E s
section
variable {X : Cx}
theorem ld_names {x : Str} {c : Value} {np : Pos} {a : Addr} {pn : List (Addr × Obj)} {σ : L2.St} {H : Hp} {s : Shared} {Q : Value → Shared → Prop} {E : Value → Shared → Prop} (hc : Names X x c) (I : Inv (X.suite a pn) [] σ H s) (q : Q c s) :
    wpAny (model X.prog X.w) (X.A.mark (some (.ref a))) (eval (.Name x np) X.env) Q E s := by
  obtain ⟨hg, hdbg, hm | ⟨hm, hv, hnn⟩⟩ := hc
  · exact ld_glob (X := X.suite a pn) I hg hm q hdbg
  · exact ld_blt (X := X.suite a pn) I hg hm hv q hnn hdbg
theorem testOk_1 {x : Str} {c : Value} {np : Pos} (hc : Names X x c) : TestOk X (.Name x np) [c] := fun a pn σ H s cls b Q E I hx LT q => by
  obtain ⟨b1, d1, x1, y1, rfl⟩ := PySem.W.exmAny_cons hx
  have y2 : some false = some d1 := y1
  cases y2
  refine ld_names hc I ((PySem.W.exm_one (M := model X.prog X.w) I.kIn LT x1).here ?_)
  have z := q s.heap fun _ _ w => w
  rwa [Bool.or_false] at z
theorem testOk_3 {x1 x2 x3 : Str} {c1 c2 c3 : Value} {p1 p2 p3 tp : Pos} {kk : Nat} (h1 : Names X x1 c1) (h2 : Names X x2 c2) (h3 : Names X x3 c3) : TestOk X (.Tuple [.Name x1 p1, .Name x2 p2, .Name x3 p3] kk tp) [c1, c2, c3] := fun a pn σ H s cls b Q E I hx LT q => by
  refine wpAny_Tuple (wpAny_items_cons (ld_names h1 I (wpAny_items_cons (ld_names h2 I (wpAny_items_cons (ld_names h3 I (wpAny_items_nil ⟨by size_fits, ?_⟩)))))))
  have kp : ∀ q o, s.heap.get? q = some o → (s.heap.push { cls := .type "tuple", data := .seq [c1, c2, c3].toArray }).get? q = some o := fun _ _ z => Heap.get?_push_of_some _ z
  exact (PySem.W.exm_tup3 (I.kIn.keeps kp) (LT.keeps kp) (Heap.get?_push_size s.heap rfl) hx).here (q _ kp)
theorem testOk_2 {x1 x2 : Str} {c1 c2 : Value} {p1 p2 tp : Pos} {kk : Nat} (h1 : Names X x1 c1) (h2 : Names X x2 c2) : TestOk X (.Tuple [.Name x1 p1, .Name x2 p2] kk tp) [c1, c2] := fun a pn σ H s cls b Q E I hx LT q => by
  refine wpAny_Tuple (wpAny_items_cons (ld_names h1 I (wpAny_items_cons (ld_names h2 I (wpAny_items_nil ⟨by size_fits, ?_⟩)))))
  have kp : ∀ q o, s.heap.get? q = some o → (s.heap.push { cls := .type "tuple", data := .seq [c1, c2].toArray }).get? q = some o := fun _ _ z => Heap.get?_push_of_some _ z
  exact (PySem.W.exm_tup2 (I.kIn.keeps kp) (LT.keeps kp) (Heap.get?_push_size s.heap rfl) hx).here (q _ kp)
end
abbrev TExc := Addr → Value → Option Addr → TS
/-- what is wished of an exception of the body: clause by clause its classes and its suite; tr: the rest of the def behind a suite -/
def wCatch (K : PySem.W.Frag) (n : Nat) (tr : TExc) (Wout : WX) (D : Ends) : List (List Value × TExc) → WX
  | [] => Wout
  | (cs, ts) :: r => fun cls d σ H => ∃ b, PySem.W.exmAny K cls cs = some b ∧
      (b = true → ∀ a, H a = none → ts a cls d { nx := fun σ' H' => tr a cls d D (σ'.set n none) H', rt := fun _ _ => False } (σ.set n (some (.ref a))) H) ∧ (b = false → wCatch K n tr Wout D r cls d σ H)
inductive ClsOk (X : Cx) (nm : Str) : List ExceptHandler → List (List Value × TExc) → Prop
  | nil : ClsOk X nm [] []
  | cons {t : Expr} {cs : List Value} {ts : TExc} {b₀ : Stmt} {suite : List Stmt} {pos' : Pos} {hds : List ExceptHandler} {l : List (List Value × TExc)} (ht : TestOk X t cs)
      (hsu : ∀ (a : Addr) (oe : Obj) (cls : Value) (d : Option Addr) (pn : List (Addr × Obj)), Zc cls d oe → (∃ vs, oe.data = .fields vs) → PSs (X.suite a ((a, oe) :: pn)) (b₀ :: suite) (ts a cls d)) (r : ClsOk X nm hds l) :
      ClsOk X nm (.ExceptHandler (some t) (some nm) (b₀ :: suite) pos' :: hds) ((cs, ts) :: l)
section
variable {X : Cx} {body rest : List Stmt} {h₀ : ExceptHandler} {hds : List ExceptHandler} {l : List (List Value × TExc)} {pos : Pos} {tb : WX → TS} {Wout : WX} {nm : Str} {n : Nat} {t0 : TS} {tr : TExc}
theorem pss_catch (hs : X.stack = X.env :: X.outer) (hf : X.env.frame = some X.env.locals) (hN : X.N.Nodup) (hn : X.N[n]? = some nm) (hln : X.env.kindOf nm = some .local) (tk : Takes X Wout)
    (hb : ∀ (W : WX) (pn : List (Addr × Obj)) (xe : Value → Shared → Prop), Takes (X.tr pn xe) W → PassesOwn (model X.prog X.w) X.A X.env xe → PSs (X.tr pn xe) body (tb W))
    (hh : ClsOk X nm (h₀ :: hds) l) (r0 : PSs X rest t0) (r1 : ∀ (a : Addr) (oe : Obj) (cls : Value) (d : Option Addr) (pn : List (Addr × Obj)), Zc cls d oe → (∃ vs, oe.data = .fields vs) → PSs (X.tr ((a, oe) :: pn) X.xe) rest (tr a cls d)) :
    PSs X (.Try body (h₀ :: hds) [] [] pos :: rest) (fun D σ H => tb (wCatch X.K n tr Wout D l) { D with nx := t0 D } σ H) := by
  refine ⟨fun pins s σ H D I h => ?_⟩
  have ok := I.ok
  have hfr : X.A.frames = some (X.env :: X.outer) := by rw [ok.frames, hs]
  -- what is to hold behind the try statement
  let Post : Flow → Shared → Prop := fun f s' => match f with
    | .next => wpAny (model X.prog X.w) X.A (execs rest X.env) (SP X pins D) X.xe s'
    | f => SP X pins D f s'
  refine wpAny_execs_cons (wpAny_mono (?_ : wpAny (model X.prog X.w) X.A (exec (.Try body (h₀ :: hds) [] [] pos) X.env) Post X.xe s) (fun f s' z => by cases f <;> exact z) fun _ _ z => z)
  refine wpAny_Try_except ?_
  refine wpAny_mono ((hb (wCatch X.K n tr Wout D l) (X.pn ++ pins) (fun e s1 => wpAny (model X.prog X.w) X.A (noteFrame e X.env) (fun _ s2 => wpAny (model X.prog X.w) X.A (setFlight e none) (fun _ s3 =>
    wpAny (model X.prog X.w) X.A (handleBy e X.env (h₀ :: hds)) Post X.xe s3) X.xe s2) X.xe s1) (fun u s' xx => ?_) PassesOwn.looking).run [] s σ H { D with nx := t0 D } (I.toTry _) h) (fun f s1 hsp => ?_) (fun e s1 z => z)
  · obtain ⟨a, B, sI, pins', σ', H', cls, d, rfl, J', nb, up, sky, na, os, ag, wish⟩ := xx
    have J : Inv X pins σ' H' sI := J'.ofTry ok
    have sky' : Sky B (X.env :: X.outer) a (Zc cls d) X.env.locals s'.heap := by rw [← hs]; exact sky
    show wpAny (model X.prog X.w) X.A (noteFrame (.ref a) X.env) _ _ _
    refine Sky.land Zc.steady hfr hf sky' fun h3 fl3 up3 => ?_
    have alone : ∀ {h : Heap}, HandSPX.FlyingZ B (X.env :: X.outer) a (Zc cls d) h → a ∉ frs (X.env :: X.outer) := fun {h} fl hm => by
      obtain ⟨oe, vs, he, _, hd⟩ := fl.there
      obtain ⟨_, o', e', hnf⟩ := fl.2.2.1.mem hm
      rw [he] at e'
      cases e'
      exact hnf _ hd
    have nfr := alone fl3
    have nL : a ≠ X.env.locals := fun z => nfr (List.mem_filterMap.mpr ⟨X.env, List.mem_cons_self, by rw [hf, z]⟩)
    have nF : a ∉ X.fs := fun hm => by
      obtain ⟨e, he, q⟩ := List.mem_filterMap.mp hm
      exact nfr (List.mem_filterMap.mpr ⟨e, List.mem_cons_of_mem _ he, q⟩)
    -- clause by clause, the heap grown
    have go : ∀ {hds' : List ExceptHandler} {l' : List (List Value × TExc)}, ClsOk X nm hds' l' → ∀ h5 : Heap, HandSPX.FlyingZ B (X.env :: X.outer) a (Zc cls d) h5 → sI.heap.UpToSlots h5 → wCatch X.K n tr Wout D l' cls d σ' H' →
        wpAny (model X.prog X.w) X.A (handleBy (.ref a) X.env hds') Post X.xe { s' with heap := h5 } := by
      intro hds' l' hk
      induction hk with
      | nil =>
        intro h5 fl5 up5 wish
        refine wpAny_handleBy_nil ?_
        obtain ⟨k1, k2, k3, oe, vs, T, oT, ts', he, hz, hd, h1, hr⟩ := id fl5
        unfold PySem.passOn
        refine wpAny_bind (wpAny_field he hd h1 ?_)
        rw [if_neg (show ¬ ((Value.ref T == Value.none) = true) from by simp)]
        have last : wpAny (model X.prog X.w) X.A (setFlight (.ref a) X.env.frame) (fun _ s4 => wpAny (model X.prog X.w) X.A (throw (.ref a) : Sem Flow) Post X.xe s4) X.xe { s' with heap := h5 } := by
          rw [hf]
          exact HandSPX.setFlight_upZ fl5 fun h6 hh6 up6 => wpAny_throw (tk _ _ ⟨a, B, sI, pins, σ', H', cls, d, rfl, J, nb, up5.trans up6, .inr (.inr (by rw [hs]; exact hh6)), na, os, ag, wish⟩)
        first
          | exact wpAny_bind (wpAny_pure (wpAny_bind last))
          | exact wpAny_bind last
      | @cons t cs ts b₀ suite pos' hds2 l2 ht hsu r ih =>
        intro h5 fl5 up5 wish
        obtain ⟨b, hb1, yes, no⟩ := wish
        have J5 : Inv X pins σ' H' { s' with heap := h5 } := J.landed nb fl5.1 up5 os ag
        obtain ⟨oe5, vs5, he5, hz5, hd5⟩ := fl5.there
        have S5 := J5.suite he5 hd5 na nL nF
        have LT : PySem.W.Looks (model X.prog X.w) h5 (typeOf (.ref a)) cls := fun A Q E s k q => wpAny_typeOf_ref (k _ _ he5) (by rw [hz5.1]; exact q)
        refine wpAny_handleBy_cons (codeAny_handlers_test (ht a _ σ' H' { s' with heap := h5 } cls b _ _ S5 hb1 LT fun h6 kp => ?_)) (by intro q; cases q)
        have fl6 := fly_on fl5 kp
        have up6 := up_on up5 kp
        cases b with
        | false => exact ih h6 fl6 up6 (no rfl)
        | true =>
          refine codeAny_handlers_suite_as ?_
          refine HandSPX.lands_againZ fl6 fun h7 fl7 up7 => ?_
          have J7 : Inv X pins σ' H' { s' with heap := h7 } := J.landed nb fl7.1 (up6.trans up7) os ag
          obtain ⟨oe7, vs7, he7, hz7, hd7⟩ := fl7.there
          have S7 := J7.suite he7 hd7 na nL nF
          refine store_ok (X := X.suite a ((a, oe7) :: (X.pn ++ pins))) (v := .ref a) S7 hN hn (.inl hln) rfl (fun s8 S8 => ?_) (.inr hln)
          refine wpAny_mono ((hsu a oe7 cls d (X.pn ++ pins) hz7 ⟨_, hd7⟩).run [] s8 _ H' _ S8 (yes rfl a na)) (fun f s9 hsp => ?_) (fun _ _ z => False.elim z)
          cases f with
          | next =>
            obtain ⟨σ9, H9, S9, q9⟩ := hsp
            refine gone_ok (X := X.tr ((a, oe7) :: (X.pn ++ pins)) X.xe) (inv_keep S9 ok) hN hn hln fun s10 J10 => ?_
            exact wpAny_mono ((r1 a oe7 cls d (X.pn ++ pins) hz7 ⟨_, hd7⟩).run [] s10 _ H9 D J10 q9) (fun f s11 z => sp_drop z ok) fun _ _ z => z
          | brk => obtain ⟨_, _, _, q9⟩ := hsp; exact q9.elim
          | cont => obtain ⟨_, _, _, q9⟩ := hsp; exact q9.elim
          | ret u => obtain ⟨_, _, _, _, _, q9⟩ := hsp; exact q9.elim
    exact go hh h3 fl3 (up.trans up3) wish
  · cases f with
    | next =>
      obtain ⟨σ', H', J', q⟩ := hsp
      exact wpAny_execs_nil (r0.run pins s1 σ' H' D (J'.ofTry ok) q)
    | brk => obtain ⟨σ', H', J', q⟩ := hsp; exact ⟨σ', H', J'.ofTry ok, q⟩
    | cont => obtain ⟨σ', H', J', q⟩ := hsp; exact ⟨σ', H', J'.ofTry ok, q⟩
    | ret u => obtain ⟨v, σ', H', J', r, q⟩ := hsp; exact ⟨v, σ', H', J'.ofTry ok, r, q⟩
end
end Vf

/-! What an exception that is pinned is an instance of; its fields. -/
namespace PySem.W
open PySem PyProof.Rows
section
variable {prog : Program} {w : World} {A : Around} {E : Value → Shared → Prop} {s : Shared} {K : Frag} {x D : Addr} {ox : Obj} {od : Option Obj}
/-- the class of an exception, with or without a dict, asked by its name -/
theorem exc_cls {Q : Option Value → Shared → Prop} (C : L2.ExcC K D) (X : K.In s.heap) (I : InstAt s.heap x ox D od) (fnd : findObj K D od "__class__" = some (.bind (.builtin "getset_descriptor.__get__") (.builtin "object.__class__")))
    (q : Q (some (.ref D)) { s with toks := s.toks + 1 }) : wpAny (model prog w) A (getAttr? (.ref x) "__class__") Q E s := by
  obtain ⟨hq, gq, dq, tq, oq⟩ := s
  have M0 := I.type (M := model prog w)
  have M1 := looks_findIn (M := model prog w) X C.hg
  have M2 := looks_findIn (M := model prog w) X C.hk
  have M3 := looks_find (M := model prog w) X I fnd
  have base : Looks (model prog w) hq (isInstance (.ref x) (.type "BaseException")) true := M0.andThen (looks_subIn X C.hs)
  have n0 : (false && onTheHeap (Value.builtin "BaseException.__getattribute__")) = false := rfl
  have n2 : (Value.builtin "BaseException.__getattribute__" == Value.builtin "object.__getattribute__") = false := by decide +kernel
  have n1 : (onTheHeap (Value.ref D) && Value.builtin "BaseException.__getattribute__" == Value.builtin "object.__getattribute__") = false := by rw [n2]; rfl
  unfold getAttr? getAttrBy? getAttrBy
  refine wpAny_bind (wpAny_mkText (wpAny_bind (wpAny_attempt (wpAny_holding (wpAny_bind (M0.at (wpAny_bind (M1.at ?_))))))))
  show wpAny _ _ (if (onTheHeap (Value.ref D) && Value.builtin "BaseException.__getattribute__" == Value.builtin "object.__getattribute__") = true then _ else _) _ _ _
  rw [n1, if_neg Bool.false_ne_true]
  unfold getAttrByItsOwn hookBefore
  refine wpAny_bind ?_
  rw [if_pos (show onTheHeap (Value.ref D) = true from rfl)]
  refine M2.at (wpAny_bind (wpAny_attempt (wpAny_holding ?_)))
  unfold callGetattribute
  rw [n0, if_neg Bool.false_ne_true]
  unfold boundAndCalled
  rw [PySem.F.excAttr_ValueError.ga.bind (.ref x)]
  refine wpAny_bind (wpAny_pure ?_)
  show wpAny _ _ (call (.builtin "BaseException.__getattribute__") [.ref x, .str "__class__" tq]) _ _ _
  refine wpAny_call (codeAny_call_builtin PySem.F.excAttr_ValueError.ga.plain PySem.F.entry_bexc_ga (@check_slot (model prog w) _ _ ⟨hq, gq, dq, tq + 1, oq⟩ "BaseException.__getattribute__" "BaseException" "__getattribute__" (.ref x) [.str "__class__" tq] [] _ (by decide +kernel) (by decide +kernel) base (PySem.F.args_bexc_ga (.ref x) (.str "__class__" tq)) ?_))
  unfold Builtin.«object.__getattribute__»
  refine wpAny_bind (wpAny_of_eq (a := ((Value.ref x : Value), [Value.str "__class__" tq])) (by first | rfl | (simp only [slotArgs]; rfl)) (wpAny_bind (wpAny_pure (wpAny_bind (M0.at (wpAny_bind (M3.at ?_)))))))
  show wpAny _ _ (holding [Value.builtin "object.__class__"] (call (.builtin "getset_descriptor.__get__") [.builtin "object.__class__", .ref x, .ref D]) >>= ret) _ _ _
  refine wpAny_bind (wpAny_holding (wpAny_call (class_get (s := ⟨hq, gq, dq, tq + 1, oq⟩) (ox := ox) (od := od) X I C.hm (wpAny_pure ?_))))
  show wpAny _ _ (handedOut (.ref D)) _ _ _
  rw [handedOut_of (v := .ref D) rfl]
  first
    | exact wpAny_pure (wpAny_pure q)
    | exact wpAny_pure q
    | exact wpAny_pure (wpAny_bind (wpAny_pure (wpAny_pure q)))
theorem kit_exc (C : L2.ExcC K D) (fnd : findObj K D od "__class__" = some (.bind (.builtin "getset_descriptor.__get__") (.builtin "object.__class__"))) : KitX K (.ref x) (.ref D) (fun h => InstAt h x ox D od) where
  ty := fun _ _ _ I => I.type
  it := fun _ _ X _ => by
    obtain ⟨cd, hc, _⟩ := any_some C.hd
    unfold clsIn at hc
    split at hc
    · next ho =>
      intro A' Q' E' s' k q
      unfold isType loadHead
      exact wpAny_bind (wpAny_loadPart (k _ _ (X _ _ ho)) (wpAny_pure q))
    · cases hc
  ne := fun h tp dd its n sl X htp => by
    obtain ⟨cd, hc, _⟩ := any_some C.hd
    refine Bool.eq_false_iff.mpr fun q => ?_
    have e : D = tp := Value.ref.inj (beq_iff_eq.mp q)
    subst e
    unfold clsIn at hc
    split at hc
    · next ho => cases (X _ _ ho).symm.trans htp
    · cases hc
  ca := fun X I k => exc_cls C X I fnd k
end
end PySem.W
namespace Vf
open PySem PySem.Spec PyProof.Rows L2 Evl
/-- isinstance(e, c), e the exception at a, of the class cls -/
def rIsP (K : PySem.W.Frag) (cls : Value) (a : Addr) : List V → Hp → VK → Prop := fun xs H Q => ∃ (D : Addr) (c : V) (cv : Value) (b : Bool), cls = .ref D ∧ ExcC K D ∧ xs = [.ref a, c] ∧ (∀ u, RelV c u → u = cv) ∧ PySem.W.kitOne K (.ref D) cv = some b ∧ Q (.bl b) H
theorem inst_at {X : Cx} {a D : Addr} {oe : Obj} {d : Option Addr} {pn pins : List (Addr × Obj)} {xe : Value → Shared → Prop} {σ : L2.St} {H : Hp} {s : Shared} (I : Inv (X.tr ((a, oe) :: pn) xe) pins σ H s) (hz : Zc (.ref D) d oe) (hf : ∃ vs, oe.data = .fields vs)
    (hd : ∀ dd, d = some dd → ∃ od, s.heap.get? dd = some od) : ∃ od, PySem.W.InstAt s.heap a oe D od := by
  obtain ⟨ha, _⟩ := I.pin (a, oe) (List.mem_append_left _ List.mem_cons_self)
  obtain ⟨vs, hv⟩ := hf
  have nc : PySem.W.notCls oe := by unfold PySem.W.notCls; rw [hv] <;> exact True.intro
  cases d with
  | none => exact ⟨none, ha, hz.1, nc, by rw [hz.2]; exact True.intro⟩
  | some dd =>
    obtain ⟨od, ho⟩ := hd dd rfl
    exact ⟨some od, ha, hz.1, nc, by rw [hz.2]; exact ho⟩
/-- the dict of the exception stands -/
def XdAt (H : Hp) (d : Option Addr) : Prop := ∀ dd, d = some dd → ∃ fs, H dd = some (.xd fs)
theorem XdAt.there {P : Program} {w : World} {H : Hp} {h : Heap} {d : Option Addr} (x : XdAt H d) (hok : HOk P w H h) : ∀ dd, d = some dd → ∃ od, h.get? dd = some od := fun dd e => by
  obtain ⟨fs, hx⟩ := x dd e
  have z : ObjOk P w H h dd (.xd fs) := hok dd _ hx
  obtain ⟨mA, hns, _⟩ := z
  obtain ⟨od, ho, _⟩ := lookIn_ns hns
  exact ⟨od, ho⟩
theorem XdAt.on {H H' : Hp} {d : Option Addr} (x : XdAt H d) (e : Ex H H') : XdAt H' d := fun dd h => by
  obtain ⟨fs, z⟩ := x dd h
  exact ⟨fs, e _ _ z⟩
theorem fnd_cls {K : PySem.W.Frag} {D : Addr} {od : Option Obj} (C : ExcC K D) : PySem.W.findObj K D od "__class__" = some (.bind (.builtin "getset_descriptor.__get__") (.builtin "object.__class__")) := by
  have hc : (PySem.W.clsIn K D).isSome = true := by
    obtain ⟨cd, hc, _⟩ := PySem.W.any_some C.hd
    rw [hc]
    rfl
  cases od with
  | none => exact PySem.W.findObj_dataN hc C.ha C.hn C.ht
  | some od => exact PySem.W.findObj_data hc C.ha C.hn C.ht
theorem call_isP {X : Cx} {a : Addr} {oe : Obj} {cls : Value} {d : Option Addr} {pn : List (Addr × Obj)} {xe : Value → Shared → Prop} (hz : Zc cls d oe) (hf : ∃ vs, oe.data = .fields vs) :
    CallR (X.tr ((a, oe) :: pn) xe) (.builtin "isinstance") (fun xs H Q => XdAt H d ∧ rIsP X.K cls a xs H Q) := by
  intro pins s σ H xs us Q I r h
  obtain ⟨hx, D, c, cv, b, rfl, C, rfl, hcv, e, q⟩ := h
  match us, r with
  | [_, u2], .cons rx (.cons rt .nil) =>
    cases rx
    have ec := hcv _ rt
    subst ec
    obtain ⟨od, J⟩ := inst_at I hz hf (hx.there I.hok)
    exact PySem.W.kia_one (PySem.W.kit_exc C (fnd_cls C)) I.kIn J e (fun z => nomatch z) fun tk => ⟨.bl b, H, I.kept (t' := tk) fun _ _ z => z, rfl, q⟩
/-- e.f -/
def tXp (a : Addr) (cls : Value) (d : Option Addr) (f : Str) (K : PySem.W.Frag) (te : TE) : TE := fun σ H Q => te σ H fun x H1 => x = .ref a ∧ ∃ (C dd : Addr) (fs : List (Str × V)) (v : V), cls = .ref C ∧ XfC K C ∧ PySem.W.findIn K (.ref C) f = some none ∧ d = some dd ∧ H1 dd = some (.xd fs) ∧ fs.lookup f = some v ∧ Q v H1
theorem pe_xp {X : Cx} {a : Addr} {oe : Obj} {cls : Value} {d : Option Addr} {pn : List (Addr × Obj)} {xe : Value → Shared → Prop} {e : Expr} {te : TE} {pos : Pos} {n : Str} (hz : Zc cls d oe) (hf : ∃ vs, oe.data = .fields vs) (he : PE (X.tr ((a, oe) :: pn) xe) e te)
    (hb : attributeBase e n X.env (eval e X.env) = eval e X.env := by rfl) : PE (X.tr ((a, oe) :: pn) xe) (.Attribute e n pos) (tXp a cls d n X.K te) := by
  refine ⟨fun pins s σ H Q I h => ?_⟩
  refine attr_of hb (thn (he.run pins s σ H _ I h) fun u s1 ⟨x, H1, I1, rx, ex, C, dd, fs, v, ec, T, hno, ed, ea, l, q⟩ => ?_)
  subst ex ec ed
  obtain rfl : u = Value.ref a := rx
  have z : ObjOk X.prog X.w H1 s1.heap dd (.xd fs) := I1.hok dd _ ea
  obtain ⟨mA, hns, hr⟩ := z
  obtain ⟨od, ho, hl⟩ := lookIn_ns hns
  obtain ⟨u, hu, ru⟩ := RelO.some_of (v := v) (o := mA n) (by rw [← l]; exact hr n)
  obtain ⟨ha, _⟩ := I1.pin (a, oe) (List.mem_append_left _ List.mem_cons_self)
  obtain ⟨vs, hv⟩ := hf
  have J : PySem.W.InstAt s1.heap a oe C (some od) := ⟨ha, hz.1, by unfold PySem.W.notCls; rw [hv] <;> exact True.intro, by rw [hz.2]; exact ho⟩
  exact HandSPX.exc_get I1.kIn J T.ga T.gg T.exC (PySem.W.findObj_own T.hdC hno rfl (by rw [hl n, hu])) (handed_of ru) ⟨v, H1, I1.tok _, ru, q⟩
end Vf

/-! For defs that raise: what is handed in may be anything; an exception with one field. -/
namespace Vf
open PySem PySem.Spec PyProof.Rows L2 Evl
def clsBody : Stmt → List Stmt
  | .ClassDef _ _ _ b _ _ _ _ _ _ _ => b
  | _ => []
/-- classes that stand beside one another, each under ValueError -/
def tabB (K : PySem.W.Frag) (cs : List Addr) : Bool :=
  ((cs.all fun c => decide (PySem.W.kitOne K (.ref c) (.type "ValueError") = some true)) && decide cs.Nodup) && cs.all fun c => cs.all fun d => decide (PySem.W.exmOne K (.ref c) (.ref d) = some (decide (c = d))) && decide (PySem.W.kitOne K (.ref c) (.ref d) = some (decide (c = d)))
theorem tabB_ve {K : PySem.W.Frag} {cs : List Addr} (h : tabB K cs = true) {c : Addr} (hc : c ∈ cs) : PySem.W.kitOne K (.ref c) (.type "ValueError") = some true := of_decide_eq_true (List.all_eq_true.mp (Bool.and_eq_true_iff.mp (Bool.and_eq_true_iff.mp h).1).1 c hc)
theorem tabB_nd {K : PySem.W.Frag} {cs : List Addr} (h : tabB K cs = true) : cs.Nodup := of_decide_eq_true (Bool.and_eq_true_iff.mp (Bool.and_eq_true_iff.mp h).1).2
theorem tabB_ex {K : PySem.W.Frag} {cs : List Addr} (h : tabB K cs = true) {c d : Addr} (hc : c ∈ cs) (hd : d ∈ cs) : PySem.W.exmOne K (.ref c) (.ref d) = some (decide (c = d)) :=
  of_decide_eq_true (Bool.and_eq_true_iff.mp (List.all_eq_true.mp (List.all_eq_true.mp (Bool.and_eq_true_iff.mp h).2 c hc) d hd)).1
theorem tabB_is {K : PySem.W.Frag} {cs : List Addr} (h : tabB K cs = true) {c d : Addr} (hc : c ∈ cs) (hd : d ∈ cs) : PySem.W.kitOne K (.ref c) (.ref d) = some (decide (c = d)) :=
  of_decide_eq_true (Bool.and_eq_true_iff.mp (List.all_eq_true.mp (List.all_eq_true.mp (Bool.and_eq_true_iff.mp h).2 c hc) d hd)).2

/-! ### an exception with one field -/
/-- all is as it was; the exception of the class at C has the one field -/
def RaiseV (C : Addr) (fld : Str) (v : V) (H : Hp) (E : XK) : Prop := ∀ (H' : Hp) (d : Addr), Ex H H' → H d = none → H' d = some (.xd [(fld, v)]) → E (.ref C) (some d) H'
theorem RaiseV.on {C : Addr} {fld : Str} {v : V} {H H1 : Hp} {E : XK} (h : RaiseV C fld v H E) (e : Ex H H1) : RaiseV C fld v H1 E := fun H' d e1 n x => h H' d (e.trans e1) (by
  cases z : H d with
  | none => rfl
  | some o =>
    rw [e d o z] at n
    cases n) x
/-- __init__(self, v): one field -/
def spOi (C : Addr) (fld : Str) : Sp := fun vs H Q _ => ∃ (a : Addr) (v : V), vs = [.ref a, v] ∧ H a = some (exo a C none) ∧ ∀ dx, H dx = none → dx ≠ a → Q .non (upd (upd H dx (exd dx [(fld, v)])) a (exo a C (some dx)))
theorem raiseV_mk {C : Addr} {fld : Str} {v : V} {H : Hp} {E : XK} (h : RaiseV C fld v H E) : ∀ a, H a = none → spOi C fld (.ref a :: ([v] ++ [])) (upd H a (exo a C none))
    (fun v H2 => v = .non ∧ ∃ (d : Addr) (fs : List (Str × V)), H2 a = some (exo a C (some d)) ∧ H2 d = some (exd d fs) ∧ H d = none ∧ E (.ref C) (some d) (upd (del H2 a) d (.xd fs))) (fun _ _ _ => False) := by
  intro a na
  refine ⟨a, v, rfl, upd_same, fun dx nx ne => ⟨rfl, dx, [(fld, v)], upd_same, ?_, ?_, ?_⟩⟩
  · rw [upd_ne ne, upd_same]
  · rwa [upd_ne ne] at nx
  · have nx' : H dx = none := by rwa [upd_ne ne] at nx
    refine h _ dx (fun b o e => ?_) nx' upd_same
    have n1 : b ≠ a := ne_of_none e na
    have n2 : b ≠ dx := ne_of_none e nx'
    rw [upd_ne n2, del_ne n1, upd_ne n1, upd_ne n2, upd_ne n1]
    exact e

/-! ### what is handed in -/
/-- the types that stand beside int -/
def oddT (n : String) : Bool := n == "NoneType" || n == "bool" || n == "str" || n == "list" || n == "tuple" || n == "dict"
/-- some i: the whole number i; none: a thing that is no whole number -/
def Kd (K : PySem.W.Frag) (H : Hp) (v : V) : Option Int → Prop
  | some i => v = .int i
  | none => ∃ n, oddT n = true ∧ TyX K H v (.type n)
theorem oddT_cases {n : String} (h : oddT n = true) : n = "NoneType" ∨ n = "bool" ∨ n = "str" ∨ n = "list" ∨ n = "tuple" ∨ n = "dict" := by
  unfold oddT at h
  simp only [Bool.or_eq_true, beq_iff_eq] at h
  rcases h with ((((h | h) | h) | h) | h) | h
  · exact .inl h
  · exact .inr (.inl h)
  · exact .inr (.inr (.inl h))
  · exact .inr (.inr (.inr (.inl h)))
  · exact .inr (.inr (.inr (.inr (.inl h))))
  · exact .inr (.inr (.inr (.inr (.inr h))))
theorem tyOf_on {K : PySem.W.Frag} {H H' : Hp} (e : Ex H H') {v : V} {t : Value} (h : TyOf K H v t) : TyOf K H' v t := by
  cases h with
  | non => exact .non
  | bl x => exact .bl x
  | int i => exact .int i
  | str x => exact .str x
  | flt x => exact .flt x
  | lst h => exact .lst (e _ _ h)
  | frz h => exact .frz (e _ _ h)
  | tup h => exact .tup (e _ _ h)
  | dK h => exact .dK (e _ _ h)
  | dT h => exact .dT (e _ _ h)
  | ins h cl ha hn ht hm => exact .ins (e _ _ h) cl ha hn ht hm
theorem tyX_on {K : PySem.W.Frag} {H H' : Hp} (e : Ex H H') {v : V} {t : Value} (h : TyX K H v t) : TyX K H' v t := by
  cases h with
  | base h => exact .base (tyOf_on e h)
  | byt b => exact .byt b
  | set h => exact .set (e _ _ h)
  | kList h c => exact .kList h c
  | kTuple h c => exact .kTuple h c
  | kDict h c => exact .kDict h c
  | fTuple h => exact .fTuple (e _ _ h)
  | fDict h => exact .fDict (e _ _ h)
theorem Kd.on {K : PySem.W.Frag} {H H' : Hp} {v : V} {o : Option Int} (e : Ex H H') (h : Kd K H v o) : Kd K H' v o := by
  cases o with
  | some i => exact h
  | none =>
    obtain ⟨n, h1, h2⟩ := h
    exact ⟨n, h1, tyX_on e h2⟩
theorem tyx_sql {K : PySem.W.Frag} {H : Hp} {a : Addr} {xs : List V} (h : SqL K H a xs) : TyX K H (.ref a) (.type "list") := by
  rcases h with (h | ⟨o, h⟩) | ⟨o, its, n, h, c, _⟩
  · exact .base (.lst h)
  · exact .base (.frz h)
  · exact .kList h c
theorem tyx_sqt {K : PySem.W.Frag} {H : Hp} {a : Addr} {xs : List V} (h : SqT K H a xs) : TyX K H (.ref a) (.type "tuple") := by
  rcases h with (h | ⟨o, h⟩) | ⟨o, its, n, h, c, _⟩
  · exact .base (.tup h)
  · exact .fTuple h
  · exact .kTuple h c
/-- in bounds -/
def okI (m : Int) : Option Int → Bool
  | some i => decide (1 ≤ i ∧ i ≤ m)
  | none => false
/-- the first that is wrong; seen: the ones ahead -/
def fw (m : Int) : List (Option Int) → List Int → Nat → Option Nat
  | [], _, _ => none
  | none :: _, _, i => some i
  | some n :: r, seen, i => if 1 ≤ n ∧ n ≤ m ∧ n ∉ seen then fw m r (n :: seen) (i + 1) else some i
def optV : Option Nat → V
  | none => .non
  | some i => .int i
/-- a list of things, or no list -/
def KdL (K : PySem.W.Frag) (H : Hp) (v : V) : Option (List (Option Int)) → Prop
  | some os => ∃ (a : Addr) (xs : List V), v = .ref a ∧ SqL K H a xs ∧ xs.length ≤ 1000 ∧ Paired (Kd K H) xs os
  | none => ∃ n, (n = "int" ∨ oddT n = true) ∧ n ≠ "list" ∧ TyX K H v (.type n)
theorem paired_on {K : PySem.W.Frag} {H H' : Hp} (e : Ex H H') : ∀ {xs : List V} {os : List (Option Int)}, Paired (Kd K H) xs os → Paired (Kd K H') xs os
  | _, _, .nil => .nil
  | _, _, .cons h r => .cons (h.on e) (paired_on e r)
theorem KdL.on {K : PySem.W.Frag} {H H' : Hp} {v : V} {o : Option (List (Option Int))} (e : Ex H H') (h : KdL K H v o) : KdL K H' v o := by
  cases o with
  | some os =>
    obtain ⟨a, xs, h1, h2, h3, h4⟩ := h
    exact ⟨a, xs, h1, ex_l e h2, h3, paired_on e h4⟩
  | none =>
    obtain ⟨n, h1, h2, h3⟩ := h
    exact ⟨n, h1, h2, tyX_on e h3⟩
theorem paired_at {α β : Type} {R : α → β → Prop} : ∀ {xs : List α} {os : List β} {i : Nat} {x : α}, Paired R xs os → xs[i]? = some x → ∃ o, os[i]? = some o ∧ R x o
  | _, _, _, _, .nil, h => by simp at h
  | _, _, 0, _, .cons h r, e => by
    simp only [List.getElem?_cons_zero, Option.some.injEq] at e
    subst e
    exact ⟨_, rfl, h⟩
  | _, _, i + 1, _, .cons h r, e => by
    rw [List.getElem?_cons_succ] at e
    obtain ⟨o, h1, h2⟩ := paired_at r e
    exact ⟨o, by rw [List.getElem?_cons_succ]; exact h1, h2⟩
theorem drop_at {α : Type} {l : List α} {i : Nat} {x : α} (h : l[i]? = some x) : l.drop i = x :: l.drop (i + 1) := by
  have hi : i < l.length := (List.getElem?_eq_some_iff.mp h).1
  rw [List.drop_eq_getElem_cons hi]
  congr 1
  exact (List.getElem?_eq_some_iff.mp h).2
/-- isinstance of a thing: int? bool? list? -/
theorem kd_types {K : PySem.W.Frag} {H : Hp} {v : V} (h : Kd K H v none) : ∃ n, oddT n = true ∧ TyX K H v (.type n) ∧ PySem.W.kitOne K (.type n) (.type "int") = some (n == "bool") ∧ PySem.W.kitOne K (.type n) (.type "bool") = some (n == "bool") ∧ PySem.W.kitOne K (.type n) (.type "list") = some (n == "list") := by
  obtain ⟨n, h1, h2⟩ := h
  refine ⟨n, h1, h2, ?_⟩
  rcases oddT_cases h1 with rfl | rfl | rfl | rfl | rfl | rfl <;> exact ⟨kit_ty (by decide +kernel), kit_ty (by decide +kernel), kit_ty (by decide +kernel)⟩
end Vf
namespace Vf
open PySem PySem.Spec PyProof.Rows L2 Evl
/-- what is never reached -/
theorem pss_stop {X : Cx} {rest : List Stmt} : PSs X rest (fun _ _ _ => False) := ⟨fun _ _ _ _ _ _ h => h.elim⟩
end Vf

/-! repr of data of which an empty dict may be one, beside a text; repr of what is no object. -/
namespace Vf
open PySem PySem.Spec PyProof.Rows L2 Evl
theorem dict_empty {P : Program} {w : World} {H : Hp} {h : Heap} {b : Addr} (ok : HOk P w H h) (e : H b = some (.dK [])) : (b == sysModules) = false ∧ ∃ o n, h.get? b = some o ∧ o.cls = .type "dict" ∧ o.data = .dict #[] n := by
  obtain ⟨_, hs, vs, kv, o, es, ep, ho, hx, hd, _, pr, _⟩ := dk_of ok e
  cases kv
  obtain ⟨es⟩ := es
  have pr : Pairs _ es [] := pr
  cases pr
  exact ⟨hs, o, ep, ho, hx.1, hd⟩
/-- what repr shows of a value -/
def ShV (K : PySem.W.Frag) (H : Hp) (v : V) (d : PyData) : Prop :=
  (∃ a, v = .ref a ∧ Dp K H v d ∧ d.showable = true ∧ d.hasDict = false ∧ d.depth ≤ 60 ∧ d.shown.length ≤ sizeLine) ∨ (v = .non ∧ d = .none) ∨ (∃ b, v = .bl b ∧ d = .bool b) ∨ (∃ i : Int, v = .int i ∧ d = .int i ∧ i.natAbs.log2 < 1920) ∨
    (∃ x, v = .str x ∧ d = .str x ∧ (reprText x).length ≤ sizeLine) ∨ (∃ a, v = .ref a ∧ H a = some (.dK []) ∧ d = .dict []) ∨
    (∃ a x b, v = .ref a ∧ SqL K H a [.str x, .ref b] ∧ H b = some (.dK []) ∧ d = .list [.str x, .dict []] ∧ (reprText x).length ≤ 1000)
def rReprX (K : PySem.W.Frag) : List V → Hp → VK → Prop := fun xs H Q => ∃ v d, xs = [v] ∧ ShV K H v d ∧ Q (.str d.shown) H
section
variable {X : Cx}
theorem call_repr_X {k : Nat} (hgd : X.A.guards = some []) (hr : Room k X.A) : CallR X (.builtin "repr") (rReprX X.K) := by
  intro pins s σ H xs us Q I r h
  obtain ⟨v, d, rfl, hd, q⟩ := h
  have hu := hr.un
  rcases hd with ⟨a, rfl, h1, h2, h3, h4, h5⟩ | ⟨rfl, rfl⟩ | ⟨b, rfl, rfl⟩ | ⟨i, rfl, rfl, hi⟩ | ⟨x, rfl, rfl, hx⟩ | ⟨a, rfl, ha, rfl⟩ | ⟨a, x, b, rfl, hS, hb, rfl, hx⟩
  · exact call_repr_D hgd hr pins s σ H _ us Q I r ⟨a, d, rfl, h1, h2, h3, h4, h5, q⟩
  · obtain ⟨u, rfl, rfl⟩ := vals1 r
    exact PySem.P.repr_of_none ⟨.str _, H, I.tok _, ⟨_, rfl⟩, q⟩
  · obtain ⟨u, rfl, rfl⟩ := vals1 r
    refine PySem.P.repr_of_bool ⟨.str _, H, I.tok _, ⟨_, rfl⟩, ?_⟩
    cases b <;> exact q
  · obtain ⟨u, rfl, t, rfl⟩ := vals1 r
    exact PySem.P.repr_of_int hi ⟨.str _, H, I.tok _, ⟨_, rfl⟩, q⟩
  · obtain ⟨u, rfl, t, rfl⟩ := vals1 r
    exact PySem.P.repr_of_str ⟨.str _, H, I.tok _, ⟨_, rfl⟩, q⟩ hx
  · obtain ⟨u, rfl, ru⟩ := vals1 r
    cases (show u = Value.ref a from ru)
    obtain ⟨hs, o, n, ho, hc, hd⟩ := dict_empty I.hok ha
    refine PySem.call_repr_slot (by omega) ⟨o, ho, hc⟩ PySem.F.slot_dict_repr (PySem.call_dict_reprK (as := []) (h₀ := s.heap) (d := 0) (ps := []) ho hc hd hs (by simp) .nil hgd (fun b _ => PySem.Clear.nil b) (by show X.A.units + 1 + (0 + 1) < cLine; omega) (fun _ _ e => e) (fun h' u tk hk => ?_) (by size_fits))
    exact ⟨_, _, rfl, .str _, H, I.kept (t' := tk) hk, ⟨_, rfl⟩, q⟩
  · obtain ⟨u, rfl, ru⟩ := vals1 r
    cases (show u = Value.ref a from ru)
    obtain ⟨hs, ob, nb, hob, hcb, hdb⟩ := dict_empty I.hok hb
    obtain ⟨its, rv, ⟨o, n, ho, hc, _, hd⟩, _⟩ := I.list hS
    have two : ∃ (u1 u2 : Value), its = [u1, u2] ∧ RelV (.str x) u1 ∧ RelV (.ref b) u2 := by
      cases rv with
      | cons r1 rv =>
        cases rv with
        | cons r2 rv =>
          cases rv
          exact ⟨_, _, rfl, r1, r2⟩
    obtain ⟨u1, u2, e0, r1, r2⟩ := two
    subst e0
    obtain ⟨t1, e1⟩ : ∃ t, u1 = Value.str x t := r1
    subst e1
    obtain rfl : u2 = Value.ref b := r2
    have hab : a ∉ [b] := fun z => by
      rw [List.mem_singleton.mp z, hob] at ho
      cases ho
      rw [hcb] at hc
      exact absurd hc (by decide)
    have kb : PySem.ReprK X.prog X.w [b] s.heap 1 (.ref b) (PySem.dictText []) := PySem.ReprK.dict hob hcb hdb hs (by simp) .nil
    have kx : PySem.ReprK X.prog X.w [b] s.heap 1 (.str x t1) (reprText x) := .of_is (PySem.ReprIs.str x t1 (Nat.le_trans hx (by decide))) _ _ _
    refine PySem.call_repr_slot (by omega) ⟨o, ho, hc⟩ PySem.F.slot_list_repr.toG (PySem.call_list_reprK (ts := [reprText x, PySem.dictText []]) ho hc hd hab rfl (fun i y e => ?_) hgd (fun b _ => PySem.Clear.nil b) (by show X.A.units + 1 + (1 + 1) < cLine; omega) (fun _ _ e => e) (fun h' u tk hk => ?_) ?_)
    · match i, e with
      | 0, e =>
        cases e
        exact ⟨_, rfl, kx⟩
      | 1, e =>
        cases e
        exact ⟨_, rfl, kb⟩
      | n + 2, e => simp at e
    · exact ⟨_, _, rfl, .str _, H, I.kept (t' := tk) hk, ⟨_, rfl⟩, q⟩
    · show (textFrom 0 "[" [reprText x, PySem.dictText []] ++ "]").length ≤ _
      have z := textFrom_le [reprText x, PySem.dictText []] 0 "["
      rw [strLen_append]
      have e1 : (Str.ofString "[").length = 1 := by decide
      have e2 : (Str.ofString "]").length = 1 := by decide
      have e3 : (PySem.dictText []).length = 2 := by decide
      rw [e1, piled_cons, piled_cons, e3] at z
      have e4 : piled [] = 0 := rfl
      rw [e4] at z
      rw [e2, sizeLine_eq]
      omega
theorem call_repr_Y {k : Nat} {A0 : Around} (e : X.A = A0) (hgd : A0.guards = some []) (hr : Room k A0) : CallR X (.builtin "repr") (rReprX X.K) := by
  subst e
  exact call_repr_X hgd hr
/-- where an exception is pinned -/
theorem call_repr_T {k : Nat} {A0 : Around} {pn : List (Addr × Obj)} {xe : Value → Shared → Prop} (hgd : A0.guards = some []) (hr : Room k A0) (e : X.A = A0 := by rfl) : CallR (X.tr pn xe) (.builtin "repr") (rReprX X.K) := call_repr_Y (X := X.tr pn xe) e hgd hr
end
end Vf

/-! What a def makes of an exception that its argument raised; data with an empty dict. -/
namespace Vf
open PySem PySem.Spec PyProof.Rows L2 Evl
theorem takes_len {X : Cx} {W : WX} (tk : Takes X W) : Takes X (fun cls d σ H => σ.length = X.N.length → W cls d σ H) := fun u s' x => by
  obtain ⟨a, B, sI, pins, σ, H, cls, d, e, I, nb, up, sky, na, os, ag, w⟩ := x
  exact tk u s' ⟨a, B, sI, pins, σ, H, cls, d, e, I, nb, up, sky, na, os, ag, w I.len⟩
/-- small data, or an empty dict -/
def DvV (K : PySem.W.Frag) (H : Hp) (v : V) (d : PyData) : Prop := (Dp K H v d ∧ d.shown.length ≤ 1000 ∧ d.showable = true ∧ d.hasDict = false ∧ d.depth ≤ 10) ∨ (∃ b, v = .ref b ∧ H b = some (.dK []) ∧ d = .dict [])
theorem dpAll_on {K : PySem.W.Frag} {H H' : Hp} (e : Ex H H') : ∀ {vs : List V} {ds : List PyData}, DpAll K H vs ds → DpAll K H' vs ds := by
  intro vs ds h
  exact DpAll.rec (motive_1 := fun v d _ => Dp K H' v d) (motive_2 := fun vs ds _ => DpAll K H' vs ds) .non (fun b => .bl b) (fun i => .int i) (fun x => .str x) (fun s _ ih => .lst (ex_l e s) ih) (fun s _ ih => .tup (ex_t e s) ih) .nil (fun _ _ a b => .cons a b) h
theorem dp_on {K : PySem.W.Frag} {H H' : Hp} (e : Ex H H') {v : V} {d : PyData} (h : Dp K H v d) : Dp K H' v d := by
  have z := dpAll_on e (DpAll.cons h .nil)
  cases z with
  | cons a _ => exact a
theorem DvV.on {K : PySem.W.Frag} {H H' : Hp} {v : V} {d : PyData} (e : Ex H H') (h : DvV K H v d) : DvV K H' v d := by
  rcases h with ⟨h, n⟩ | ⟨b, h1, h2, h3⟩
  · exact .inl ⟨dp_on e h, n⟩
  · exact .inr ⟨b, h1, e _ _ h2, h3⟩
theorem shv_pair {K : PySem.W.Frag} {H : Hp} {p : Addr} {x : Str} {v : V} {d : PyData} (hp : SqL K H p [.str x, v]) (hx : (reprText x).length ≤ 1000) (h : DvV K H v d) : ShV K H (.ref p) (.list [.str x, d]) := by
  rcases h with ⟨h, n⟩ | ⟨b, rfl, h2, rfl⟩
  · obtain ⟨n1, n2, n3, n4⟩ := n
    refine .inl ⟨p, rfl, .lst hp (.cons (.str x) (.cons h .nil)), ?_, ?_, ?_, ?_⟩
    · show (true && (d.showable && true)) = true
      rw [n2]; rfl
    · show (false || (d.hasDict || false)) = false
      rw [n3]; rfl
    · show max (PyData.depth (.str x)) (max d.depth 0) + 1 ≤ 60
      have : PyData.depth (.str x) = 0 := rfl
      omega
    · show (textFrom 0 "[" [reprText x, d.shown] ++ "]").length ≤ _
      have z := textFrom_le [reprText x, d.shown] 0 "["
      rw [strLen_append]
      have e1 : (Str.ofString "[").length = 1 := by decide
      have e2 : (Str.ofString "]").length = 1 := by decide
      have e4 : piled [] = 0 := rfl
      rw [e1, piled_cons, piled_cons, e4] at z
      rw [e2, sizeLine_eq]
      omega
  · exact .inr (.inr (.inr (.inr (.inr (.inr ⟨p, x, b, rfl, hp, h2, rfl, hx⟩)))))
theorem exm3 {K : PySem.W.Frag} {C c1 c2 c3 : Addr} {b1 b2 b3 : Bool} (h1 : PySem.W.exmOne K (.ref C) (.ref c1) = some b1) (h2 : PySem.W.exmOne K (.ref C) (.ref c2) = some b2) (h3 : PySem.W.exmOne K (.ref C) (.ref c3) = some b3) : PySem.W.exmAny K (.ref C) [.ref c1, .ref c2, .ref c3] = some (b1 || (b2 || b3)) := by
  unfold PySem.W.exmAny
  rw [h1]
  unfold PySem.W.exmAny
  rw [h2]
  unfold PySem.W.exmAny
  rw [h3]
  show some (b1 || (b2 || (b3 || false))) = _
  rw [Bool.or_false]
theorem pe_mono {X : Cx} {e : Expr} {t : TE} (h : PE X e t) : PE X e (fun σ H Q => ∃ Qn : VK, t σ H Qn ∧ ∀ v H', Qn v H' → Q v H') := ⟨fun pins s σ H Q I ⟨Qn, h1, h2⟩ => wpAny_mono (h.run pins s σ H Qn I h1) (fun u s' ⟨v, H', J, r, q⟩ => ⟨v, H', J, r, h2 v H' q⟩) fun _ _ x => x⟩
/-- the try statement's body: the def's parameter is called -/
theorem hb_ask {Z : Cx} {W : WX} {a q : Str} {f c' : Addr} {pn : List (Addr × Obj)} {xe : Value → Shared → Prop} {tl : XK → Hp → VK → Prop} {p1 p2 p3 : Pos}
    (act : ∀ (W : WX) (pn : List (Addr × Obj)) (xe : Value → Shared → Prop) (E : XK) (p1 p2 : Pos), Takes (Z.tr pn xe) W → (∀ cls d σ' H', E cls d H' → W cls d σ' H') →
      PE (Z.tr pn xe) (.Call (.Name a p1) [] [] p2) (fun σZ HZ Q => σZ[0]? = some (some (.ref f)) ∧ HZ c' = some (LamX.CodeO c' q) ∧ tl E HZ Q)) (tk : Takes (Z.tr pn xe) W) :
    PSs (Z.tr pn xe) [.Expr (.Call (.Name a p1) [] [] p2) p3] (fun D σ H => ∃ Ech : XK, (∀ cls d σ' H', Ech cls d H' → σ'.length = Z.N.length → W cls d σ' H') ∧ ∃ Qn : VK, (σ[0]? = some (some (.ref f)) ∧ H c' = some (LamX.CodeO c' q) ∧ tl Ech H Qn) ∧ ∀ v H', Qn v H' → D.nx σ H') := by
  refine ⟨fun pins s' σ H' D I h => ?_⟩
  obtain ⟨Ech, hW, Qn, h1, h2⟩ := h
  have hp := act _ pn xe Ech p1 p2 (takes_len tk) hW
  exact (pss_one (ps_expr (pos := p3) (pe_mono hp))).run pins s' σ H' D I ⟨Qn, h1, h2⟩
end Vf

/-! All but the tables of code objects stays; defs whose code object is known. -/
namespace Vf
open PySem PySem.Spec PyProof.Rows L2 Evl LamX
theorem rdN {H H' : Hp} {a : Addr} {u : HO} (e : ExtN H H') (n : ∀ ps, u ≠ .tbl ps) (h : Rd H a u) : Rd H' a u := by
  rcases h with h | ⟨o, h⟩
  · exact .inl (e _ _ h n)
  · exact .inr ⟨o, e _ _ h fun ps z => nomatch z⟩
theorem exN_l {K : PySem.W.Frag} {H H' : Hp} {a : Addr} {xs : List V} (e : ExtN H H') (h : SqL K H a xs) : SqL K H' a xs := h.imp (rdN e fun _ z => nomatch z) id
theorem exN_t {K : PySem.W.Frag} {H H' : Hp} {a : Addr} {xs : List V} (e : ExtN H H') (h : SqT K H a xs) : SqT K H' a xs := h.imp (rdN e fun _ z => nomatch z) id
theorem tyOfN {K : PySem.W.Frag} {H H' : Hp} (e : ExtN H H') {v : V} {t : Value} (h : TyOf K H v t) : TyOf K H' v t := by
  cases h with
  | non => exact .non
  | bl x => exact .bl x
  | int i => exact .int i
  | str x => exact .str x
  | flt x => exact .flt x
  | lst h => exact .lst (e _ _ h fun _ z => nomatch z)
  | frz h => exact .frz (e _ _ h fun _ z => nomatch z)
  | tup h => exact .tup (e _ _ h fun _ z => nomatch z)
  | dK h => exact .dK (e _ _ h fun _ z => nomatch z)
  | dT h => exact .dT (e _ _ h fun _ z => nomatch z)
  | ins h cl ha hn ht hm => exact .ins (e _ _ h fun _ z => nomatch z) cl ha hn ht hm
theorem tyXN {K : PySem.W.Frag} {H H' : Hp} (e : ExtN H H') {v : V} {t : Value} (h : TyX K H v t) : TyX K H' v t := by
  cases h with
  | base h => exact .base (tyOfN e h)
  | byt b => exact .byt b
  | set h => exact .set (e _ _ h fun _ z => nomatch z)
  | kList h c => exact .kList h c
  | kTuple h c => exact .kTuple h c
  | kDict h c => exact .kDict h c
  | fTuple h => exact .fTuple (e _ _ h fun _ z => nomatch z)
  | fDict h => exact .fDict (e _ _ h fun _ z => nomatch z)
theorem Kd.onN {K : PySem.W.Frag} {H H' : Hp} {v : V} {o : Option Int} (e : ExtN H H') (h : Kd K H v o) : Kd K H' v o := by
  cases o with
  | some i => exact h
  | none =>
    obtain ⟨n, h1, h2⟩ := h
    exact ⟨n, h1, tyXN e h2⟩
theorem pairedN {K : PySem.W.Frag} {H H' : Hp} (e : ExtN H H') : ∀ {xs : List V} {os : List (Option Int)}, Paired (Kd K H) xs os → Paired (Kd K H') xs os
  | _, _, .nil => .nil
  | _, _, .cons h r => .cons (h.onN e) (pairedN e r)
theorem KdL.onN {K : PySem.W.Frag} {H H' : Hp} {v : V} {o : Option (List (Option Int))} (e : ExtN H H') (h : KdL K H v o) : KdL K H' v o := by
  cases o with
  | some os =>
    obtain ⟨a, xs, h1, h2, h3, h4⟩ := h
    exact ⟨a, xs, h1, exN_l e h2, h3, pairedN e h4⟩
  | none =>
    obtain ⟨n, h1, h2, h3⟩ := h
    exact ⟨n, h1, h2, tyXN e h3⟩
theorem dpN {K : PySem.W.Frag} {H H' : Hp} (e : ExtN H H') {v : V} {d : PyData} (h : Dp K H v d) : Dp K H' v d :=
  Dp.rec (motive_1 := fun v d _ => Dp K H' v d) (motive_2 := fun vs ds _ => DpAll K H' vs ds) .non (fun b => .bl b) (fun i => .int i) (fun x => .str x) (fun s _ ih => .lst (exN_l e s) ih) (fun s _ ih => .tup (exN_t e s) ih) .nil (fun _ _ a b => .cons a b) h
theorem DvV.onN {K : PySem.W.Frag} {H H' : Hp} {v : V} {d : PyData} (e : ExtN H H') (h : DvV K H v d) : DvV K H' v d := by
  rcases h with ⟨h, n⟩ | ⟨b, h1, h2, h3⟩
  · exact .inl ⟨dpN e h, n⟩
  · exact .inr ⟨b, h1, e _ _ h2 (fun _ z => nomatch z), h3⟩
theorem nodup_fst {α β : Type} : ∀ {l : List (α × β)} {p r : α × β}, (l.map (·.1)).Nodup → p ∈ l → r ∈ l → p.1 = r.1 → p = r
  | [], _, _, _, h, _, _ => by cases h
  | x :: l, p, r, nd, hp, hr, e => by
    have nd2 := List.nodup_cons.mp nd
    rcases List.mem_cons.mp hp with h1 | h1
    · rcases List.mem_cons.mp hr with h2 | h2
      · rw [h1, h2]
      · exact (nd2.1 (List.mem_map.mpr ⟨r, h2, by rw [← e, h1]⟩)).elim
    · rcases List.mem_cons.mp hr with h2 | h2
      · exact (nd2.1 (List.mem_map.mpr ⟨p, h1, by rw [e, h2]⟩)).elim
      · exact nodup_fst nd2.2 h1 h2 e
/-- as Fun; the def's code object is at c -/
structure FunC (K : PySem.W.Frag) (x qual : Str) (st : Stmt) (f : Addr) (fd : FuncData) (c : Addr) : Prop where
  exC : ∃ (oc : Value) (od : Option Addr) (kV doc pm : Value) (an : Option Addr) (ct : Value) (osl : Array (Option Value)),
    fd = PySem.W.fnOf x qual (defArgs st) (defBody st) (defScope st) .none kV doc pm an (.ref c) ct ∧ K.lookup f = some ⟨oc, od, .func fd, osl⟩ ∧ PySem.W.codeIn K (.ref c) qual = true
  kp : PySem.W.keepIn K (.ref f) = true
theorem FunC.toFun {K : PySem.W.Frag} {x qual : Str} {st : Stmt} {f c : Addr} {fd : FuncData} (F : FunC K x qual st f fd c) : Fun K x qual st f fd := by
  obtain ⟨oc, od, kV, doc, pm, an, ct, osl, h⟩ := F.exC
  exact ⟨⟨oc, od, kV, doc, pm, an, .ref c, ct, osl, h⟩, F.kp⟩
section
variable {P : Program} {w : World} {K : PySem.W.Frag} {mg : Str → Option Value} {base : Heap}
theorem okGC {x qual : Str} {st : Stmt} {f c : Addr} {fd : FuncData} {N ps : List Str} {k : Nat} {sp : Sp} (F : FunC K x qual st f fd c) (S : FnScope N ps (defScope st))
    (len : ∀ vs H Q E, sp vs H Q E → vs.length = ps.length)
    (hbody : ∀ (A : Around) (outer : List Env) (s : Shared) (H : Hp) (vs : List V) (Q : VK) (E : XK), A.guards = some [] →
      Room k (A.deeper (envOfC qual (defScope st) s.heap.objs.size f (.ref c))) → sp vs H Q E →
      ∃ t, PSs (cxOf CX0 P w K mg base N qual (defScope st) f (.ref c) A outer s H E).nox (defBody st) t ∧ t { nx := fun _ H' => Q .non H', rt := Q } (start N vs) H) :
    FnG P w K mg base CX0 (k + 1) f fd ps sp := by
  obtain ⟨oc, od, kV, doc, pm, an, ct, osl, rfl, lk, hcd⟩ := F.exC
  refine ⟨len, fun A outer s H args us vs Q E hg hr e0 hb r hsp => ?_⟩
  have KX : K.In s.heap := e0.mod.kin.keeps fun b o e => (e0.bs b o e).1
  have lim : s.heap.NoLimit := e0.mod.nolimit.keeps fun b o e => (e0.bs b o e).1
  have hkind : ∀ y ∈ ps.zip us, (defScope st).names.lookup y.1 = some .local ∨
      ((defScope st).names.lookup y.1 = some .cell ∧ ((cellsFrom (s.heap.objs.size + 1) (defScope st).names []).lookup y.1).isSome = true) := by
    rintro ⟨n, v⟩ hy
    rcases S.par n (List.of_mem_zip hy).1 with q | q
    · exact .inl q
    · exact .inr ⟨q, PySem.W.cellsFrom_some _ _ _ (.inl q)⟩
  refine codeAny_call_function hr.depth (KX _ _ lk) rfl S.co S.gen rfl (PySem.W.codeRec_of KX hcd)
    (hb _ _ _ _ (wpAny_newFunctionEnv_cells S.kind hkind fun env he s1 x => ?_))
  subst he
  refine ⟨lim.keeps x.toInCall.keep, codeAny_func ?_⟩
  obtain ⟨t, ht0, hq⟩ := hbody A outer s H vs Q E hg (hr.deeper _) hsp
  have ht := ht0.nox
  have I := inv_start (CX := CX0) (E := E) S hr.hd e0 (len _ _ _ _ hsp) r x
  refine wpAny_mono (ht.run [] s1 (start N vs) H _ I hq) ?_ (fun e s' hs => hs)
  intro fl s' hs
  cases fl with
  | ret u =>
    obtain ⟨v, σ', H', J, rv, q⟩ := hs
    exact ⟨v, H', J.os, J.bare, J.base, J.hok, rv, q⟩
  | next =>
    obtain ⟨σ', H', J, q⟩ := hs
    exact ⟨V.non, H', J.os, J.bare, J.base, J.hok, rfl, q⟩
  | brk =>
    obtain ⟨_, _, _, q⟩ := hs
    exact q.elim
  | cont =>
    obtain ⟨_, _, _, q⟩ := hs
    exact q.elim
end
/-! ### a name of the def that holds one of some defs -/
structure HeldX (P : Program) (w : World) (K : PySem.W.Frag) (mg : Str → Option Value) (base : Heap) (k : Nat) (f : Addr) (sp : Sp) : Prop where
  ex : ∃ (fd : FuncData) (ps : List Str), FnOk P w K mg base (L2.CX P w) k f fd ps sp ∧ PySem.W.keepIn K (.ref f) = true ∧ Binds K fd ps []
def tCallX (i : Nat) (S : List (Addr × Sp)) (E : XK) (t : TA) : TE := fun σ H Q => ∃ f sp, σ[i]? = some (some (.ref f)) ∧ (f, sp) ∈ S ∧ t σ H fun vs H1 => sp vs H1 Q E
theorem pe_callX {X : Cx} {k i : Nat} {S : List (Addr × Sp)} {E : XK} {x : Str} {p pos : Pos} {e : Expr} {es : List Expr} {t : TA} (HS : ∀ p ∈ S, HeldX X.prog X.w X.K X.mg X.base k p.1 p.2) (hr : Room k X.A) (hN : X.N[i]? = some x) (hv : Vis X.env.scope x) (hx : Passes (L2.CX X.prog X.w) X E) (ha : PA X (e :: es) t)
    (hdb : (x == ("__debug__" : Str)) = false := by decide) (hcd : (x == ("__classdict__" : Str)) = false := by decide)
    (he : starEach (e :: es) X.env = (false, eval e X.env) :: starEach es X.env := by rfl) (hpl : (backTo pos (starEach es X.env)).any (·.1) = false := by rfl) : PE X (.Call (.Name x p) (e :: es) [] pos) (tCallX i S E t) := by
  refine ⟨fun pins s σ H Q I h => ?_⟩
  obtain ⟨f, sp, hs, hS, ht⟩ := h
  obtain ⟨fd, ps, F, hk, hb⟩ := (HS (f, sp) hS).ex
  refine (pe_callL (i := i) (f := f) (sp := sp) (dvs := []) (E := E) F hr hN hv hk hb .nil hx ha hdb hcd he hpl).run pins s σ H Q I ⟨hs, ?_⟩
  have e0 : (fun (vs : List V) (H1 : Hp) => sp (vs ++ []) H1 Q E) = fun vs H1 => sp vs H1 Q E := by
    funext vs H1
    rw [List.append_nil]
  show t σ H (fun vs H1 => sp (vs ++ []) H1 Q E)
  rw [e0]
  exact ht
end Vf

/-! An own class over LookupError whose __init__ is walked as a def; one without an __init__. -/
namespace Vf
open PySem PySem.Spec PyProof.Rows L2 Evl
abbrev leTail : List Value := [.type "LookupError", .type "Exception", .type "BaseException", .type "object"]
/-- what is known of the class -/
structure OexL (K : PySem.W.Frag) (C : Addr) : Prop where
  cls : ∃ nm q N bs sn sub ab col dd k0 k1 k2 k3 k5, K.lookup C = some (excClassObj nm q C N bs leTail true sn sub ab col dd k0 k1 k2 k3 k5 "LookupError.__new__")
  ov : PySem.W.excOver K C leTail = true
  sa : PySem.W.findIn K (.ref C) "__setattr__" = some (some (.builtin "object.__setattr__"))
  exC : PySem.W.subIn K (.ref C) (.type "BaseException") = some true
  tyC : PySem.W.typeIn K (.ref C) = some (.type "type")
  kC : PySem.W.keepIn K (.ref C) = true
section
variable {X : Cx} {pins : List (Addr × Obj)} {σ : L2.St} {H : Hp} {s : Shared} {a C dx : Addr} {f : Str} {y : V} {u : Value} {A : Around} {E : Value → Shared → Prop}
/-- self.f = y -/
theorem ostL_new {Q : Unit → Shared → Prop} (T : OexL X.K C) (I : Inv X pins σ H s) (e : H a = some (exo a C none)) (hno : PySem.W.findIn X.K (.ref C) f = some none) (ry : RelV y u)
    (h : ∀ dx s', H dx = none → dx ≠ a → Inv X pins σ (upd (upd H dx (exd dx [(f, y)])) a (exo a C (some dx))) s' → Q () s') : wpAny (model X.prog X.w) A (setAttr (.ref a) f u) Q E s := by
  obtain ⟨nm, q, N, bs, sn, sub, ab, col, dd, k0, k1, k2, k3, k5, hC⟩ := T.cls
  have cl : PySem.W.clsIn X.K C = some { name := nm, bases := bs, mro := .ref C :: leTail, ns := N, qualname := q, hasDict := true, slotNames := sn, subclasses := sub, abstract := ab, collection := col, hasDel := false } := by
    unfold PySem.W.clsIn
    rw [hC]
  obtain ⟨t1, ho⟩ := exo_at I.hok e
  obtain ⟨hp, g, d, t, os⟩ := s
  have ax : a ≠ hp.objs.size := Nat.ne_of_lt (Heap.lt_size ho)
  have tkr : PySem.W.takerIn X.K C f = some none := by
    unfold PySem.W.takerIn
    rw [hno]
    rfl
  refine PySem.W.set_plain I.kIn (ox := { cls := .ref C, dict := none, data := .fields #[.ref t1, .none, .none, .none, .bool false, .none] }) (od := none) ⟨ho, rfl, rfl, trivial⟩ T.sa ?_
  refine PySem.W.osa_openX (od := none) PySem.F.store_LookupError I.kIn ⟨ho, rfl, rfl, trivial⟩ T.ov tkr fun b => ?_
  refine wpAny_bind (wpAny_pure (wpAny_bind (PySem.W.instanceDict_exc ho (PySem.W.looks_clsIn I.kIn cl) rfl ?_)))
  refine PySem.HandSPX.store_in_new (hp := (hp.push (PySem.W.dictOf [] 0)).update a fun o => { o with dict := some hp.objs.size }) ?_ fun h' tk' hn same => ?_
  · exact ⟨_, #[], _, (Heap.get?_update_ne _ _ _ _ ax.symm).trans (Heap.get?_push_at rfl rfl), rfl, fun e he => absurd he (by simp), fun _ => rfl⟩
  have fresh0 : H hp.objs.size = none := I.hok.fresh (Nat.le_refl _)
  have stays : ∀ b o, b ≠ a → hp.get? b = some o → h'.get? b = some o := fun b o nb hb => (same.2 b (Nat.ne_of_lt (Heap.lt_size hb))).trans ((Heap.get?_update_ne _ _ _ _ nb).trans (Heap.get?_push_of_some _ hb))
  have at_a : h'.get? a = some ({ cls := .ref C, dict := some hp.objs.size, data := .fields #[.ref t1, .none, .none, .none, .bool false, .none] } : Obj) := (same.2 a ax).trans (Heap.get?_update_self _ (Heap.get?_push_of_some _ ho) rfl)
  have offA : ∀ {b : Addr} {v : HO}, H b = some v → exo a C none ≠ v → b ≠ a := fun hb ne => at_ne e hb ne
  have offD : ∀ {b : Addr} {v : HO}, H b = some v → b ≠ hp.objs.size := fun hb => ne_of_none hb fresh0
  have same_at : ∀ {b : Addr} {v : HO}, H b = some v → exo a C none ≠ v → upd (upd H hp.objs.size (exd hp.objs.size [(f, y)])) a (exo a C (some hp.objs.size)) b = some v := fun hb ne => by
    rw [upd_ne (offA hb ne), upd_ne (offD hb)]
    exact hb
  have free_a : ∀ {b : Addr}, H b = none → b ≠ a := fun n z => by
    rw [z, e] at n
    exact nomatch n
  have U : Un X.fs [] H (upd (upd H hp.objs.size (exd hp.objs.size [(f, y)])) a (exo a C (some hp.objs.size))) hp h' :=
    ⟨fun b o hb n _ _ => stays b o (free_a n) hb, fun b o hb n _ _ => ⟨o.slots, stays b o (free_a n) hb⟩,
      fun b o hb n _ => by rw [upd_ne (free_a n), upd_ne (Nat.ne_of_lt (Heap.lt_size hb))]; exact n,
      fun b o hb _ => by
        by_cases z : b = a
        · exact ⟨_, z ▸ at_a⟩
        · exact ⟨o, stays b o z hb⟩,
      fun b xs hb => same_at hb exo_tup, fun b o v hb => same_at hb exo_frz, fun b ps hb => ⟨#[], by rw [same_at hb exo_tbl]; simp⟩⟩
  refine h hp.objs.size _ fresh0 ax.symm (I.un (t' := tk') U fun b o hb => ?_)
  by_cases z : b = a
  · subst z
    rw [upd_same] at hb
    cases hb
    exact exo_ok at_a
  rw [upd_ne z] at hb
  by_cases z2 : b = hp.objs.size
  · subst z2
    rw [upd_same] at hb
    cases hb
    exact exd_ok hn (relO_put (fs := []) ry fun g => True.intro)
  rw [upd_ne z2] at hb
  refine (I.hok b o hb).stay (fun c v hc w => stays c v ?_ w) (fun c hc => same_at hc exo_own) fun c xs hc => same_at hc exo_tup
  rcases hc with hc | hc
  · exact hc ▸ z
  · exact offA hc exo_own
/-- LookupError.__init__(self, ..): nothing of it is told -/
theorem oinitL_ok {us : List Value} {Q : Value → Shared → Prop} (T : OexL X.K C) (I : Inv X pins σ H s) (e : H a = some (exo a C none)) (hl : us.length ≤ sizeLine) (h : ∀ s', Inv X pins σ H s' → Q .none s') :
    wpAny (model X.prog X.w) A (call (.builtin "LookupError.__init__") (.ref a :: us)) Q E s := by
  obtain ⟨nm, q, N, bs, sn, sub, ab, col, dd, k0, k1, k2, k3, k5, hC⟩ := T.cls
  obtain ⟨t1, ho⟩ := exo_at I.hok e
  obtain ⟨hp, g, d, t, os⟩ := s
  refine wpAny_call (PySem.HandSPX.init_base F.excBase_LookupError (fun _ => rfl) (I.kIn _ _ hC) ho hl fun h' t2 k hx => ?_)
  have J := I.write (t' := t) (x := a) (e := a) (o := exo a C none) (by rw [e]; trivial) (.inl rfl) k ⟨_, hx⟩ (exo_ok hx)
  have eu : upd H a (exo a C none) = H := funext fun b => by
    by_cases hb : b = a
    · rw [hb, upd_same, e]
    · exact upd_ne hb
  rw [eu] at J
  exact h _ J
end
/-! ### rules -/
/-- LookupError.__init__(self, ..) -/
def tLeI (K : PySem.W.Frag) (ta : TA) : TE := fun σ H Q => ta σ H fun vs H1 => ∃ (a C : Addr) (ws : List V), vs = .ref a :: ws ∧ ws.length ≤ 1000 ∧ OexL K C ∧ H1 a = some (exo a C none) ∧ Q .non H1
/-- self.f = e, the only field -/
def tOstL (K : PySem.W.Frag) (f : Str) (to te : TE) : TS := fun D σ H => te σ H fun y H1 => to σ H1 fun x H2 => ∃ a C : Addr, x = .ref a ∧ OexL K C ∧ PySem.W.findIn K (.ref C) f = some none ∧ H2 a = some (exo a C none) ∧
  ∀ dx, H2 dx = none → dx ≠ a → D.nx σ (upd (upd H2 dx (exd dx [(f, y)])) a (exo a C (some dx)))
theorem typ_LE : typeOf (.type "LookupError") = pure (.type "type") := by kernel_rfl
section
variable {X : Cx} {o e : Expr} {es : List Expr} {to te : TE} {ta : TA} {f : Str} {p p' p1 p2 pos : Pos}
theorem pe_leinit {pl : Sem Bool} (hg : Gl X "LookupError") (hm : X.mg "LookupError" = none) (hv : bootBuiltins "LookupError" = some (.type "LookupError")) (vV : PySem.W.findCls X.K (.type "LookupError") (.type "type") "__init__" = some (.val (.builtin "LookupError.__init__"))) (ha : PA X (e :: es) ta)
    (hc : eval (.Call (.Attribute (.Name "LookupError" p1) "__init__" p2) (e :: es) [] pos) X.env = (do
      let ov ← eval (.Name "LookupError" p1) X.env
      standAt p2.atName
      let (f, first) ← holding [ov] (getMethod ov "__init__" pl)
      callWith pos f first (backTo pos (starEach (e :: es) X.env)) (backToKw pos (keywordEach [] X.env))) := by rfl)
    (he : starEach (e :: es) X.env = (false, eval e X.env) :: starEach es X.env := by rfl) (hpl : (backTo pos (starEach es X.env)).any (·.1) = false := by rfl) :
    PE X (.Call (.Attribute (.Name "LookupError" p1) "__init__" p2) (e :: es) [] pos) (tLeI X.K ta) := by
  refine ⟨fun pins s σ H Q I h => ?_⟩
  refine PySem.W.methodCall_KW (ld_blt I hg hm hv ?_ (by decide) (by decide)) hc
  obtain ⟨m, fr⟩ := I.fr
  refine PySem.W.method_type fr I.ok.mod.kin typ_LE (by decide +kernel) vV (by decide +kernel) ?_
  show wpAny _ _ (callWith pos (Value.builtin "LookupError.__init__") [] (backTo pos (starEach (e :: es) X.env)) []) _ _ _
  refine PyProof.Rows.callWith_method1 (thn (ha.run pos pins _ σ H _ (I.tok _) h) fun us s1 ⟨vs, H1, I1, r1, a, C, ws, ev, hl, T, ea, q⟩ => ?_) he hpl
  subst ev
  cases r1 with
  | @cons _ u0 _ ur ra rw' =>
    cases (show u0 = Value.ref a from ra)
    exact oinitL_ok T I1 ea (by rw [← Paired.length rw', sizeLine_eq]; omega) fun s' J => ⟨.non, H1, J, rfl, q⟩
theorem ps_ostL (ho : PE X o to) (he : PE X e te) (hs : swapsWith e (some (.Attribute o f p')) pos.line X.env = pure false := by rfl) : PS X (.Assign [.Attribute o f p'] e pos) (tOstL X.K f to te) := by
  refine ⟨fun pins s σ H D I h => ?_⟩
  refine plainObj_wpAny_Assign_Attribute (thn (he.run pins s σ H _ I h) fun v s1 ⟨y, H1, I1, r1, q1⟩ => thn (ho.run pins s1 σ H1 _ I1 q1) fun u s2 ⟨x, H2, I2, r2, a, C, ex, T, hno, ea, q⟩ => ?_) hs
  subst ex
  cases (show u = Value.ref a from r2)
  exact ostL_new T I2 ea hno r1 fun dx s' n ne J => ⟨σ, _, J, q dx n ne⟩
/-- C(e, ..), C over LookupError, its own __init__ keeping sp -/
theorem pmk_oexL {CX : CXT} {x : Str} {C fI : Addr} {k : Nat} {fd : FuncData} {ps : List Str} {sp : Sp} (T : OexL X.K C) (iC : PySem.W.findIn X.K (.ref C) "__init__" = some (some (.ref fI))) (tI : PySem.W.typeIn X.K (.ref fI) = some (.type "function"))
    (F1 : FnOk X.prog X.w X.K X.mg X.base CX k fI fd ps sp) (hr : Room (k + 1) X.A) (hb : Binds X.K fd ps []) (hx : Passes CX X (fun _ _ _ => False)) (hg : Gl X x) (hm : X.mg x = some (.ref C)) (ha : PA X (e :: es) ta)
    (hdb : (x == ("__debug__" : Str)) = false := by decide) (he : starEach (e :: es) X.env = (false, eval e X.env) :: starEach es X.env := by rfl) (hpl : (backTo pos (starEach es X.env)).any (·.1) = false := by rfl) :
    PMk X (.Call (.Name x p) (e :: es) [] pos) (tMkO C sp [] ta) := by
  intro pins s σ H Q I h
  obtain ⟨nm, q, N, bs, sn, sub, ab, col, dd, k0, k1, k2, k3, k5, hC⟩ := T.cls
  refine wpAny_Call_Name_kw (ld_glob I hg hm ?_ hdb)
  refine PySem.W.callWith_K (h₀ := X.base) I.ok.mod.kin T.kC (thn (ha.run pos pins s σ H _ I h) fun us s1 ⟨vs, H1, I1, r1, hz, q1⟩ => ⟨I1.kIn, ?_⟩) he hpl
  show wpAny _ _ (call (.ref C) us) _ _ _
  obtain ⟨hp, g, dr, tk, os⟩ := s1
  have up1 : hp.objs.size ≤ hp.objs.size + 1 := Nat.le_succ _
  have none1 : H1 (hp.objs.size + 1) = none := I1.hok.fresh up1
  have hq := q1 (hp.objs.size + 1) none1
  have keeps2 : ∀ b o, hp.get? b = some o → ((hp.push (PySem.W.kdv_tup us)).push (PySem.HandSPX.excO C hp.objs.size)).get? b = some o := fun b o z => Heap.get?_push_of_some _ (Heap.get?_push_of_some _ z)
  have got : ((hp.push (PySem.W.kdv_tup us)).push (PySem.HandSPX.excO C hp.objs.size)).get? (hp.objs.size + 1) = some (PySem.HandSPX.excO C hp.objs.size) := by heap_get
  have J : Inv X pins σ (upd H1 (hp.objs.size + 1) (exo (hp.objs.size + 1) C none)) ⟨(hp.push (PySem.W.kdv_tup us)).push (PySem.HandSPX.excO C hp.objs.size), g, dr, tk, os⟩ :=
    I1.laid (t' := tk) (a := hp.objs.size + 1) (o := exo (hp.objs.size + 1) C none) (h' := (hp.push (PySem.W.kdv_tup us)).push (PySem.HandSPX.excO C hp.objs.size)) keeps2 up1 (exo_ok got)
  have r2 : Vals (V.ref (hp.objs.size + 1) :: (vs ++ [])) (Value.ref (hp.objs.size + 1) :: (us ++ [])) := .cons rfl (r1.append .nil)
  have hl : (Value.ref (hp.objs.size + 1) :: (us ++ ([] : List Value))).length = ps.length := r2.length.symm.trans (F1.len _ _ _ _ hq)
  have hbb : BindsTo ⟨(hp.push (PySem.W.kdv_tup us)).push (PySem.HandSPX.excO C hp.objs.size), g, dr, tk, os⟩ fd ⟨Value.ref (hp.objs.size + 1) :: us, []⟩ (ps.zip (Value.ref (hp.objs.size + 1) :: (us ++ []))) := hb _ (Value.ref (hp.objs.size + 1) :: us) J.kIn hl
  have few : us.length ≤ sizeLine := by
    rw [← Paired.length r1, sizeLine_eq]
    omega
  refine wpAny_call (PySem.HandSPX.call_own F.excBase_LookupError (fun _ => rfl) (I1.kIn _ _ hC) (PySem.W.looks_findIn I1.kIn iC) (fun self => PySem.W.bind_fn I1.kIn self tI) few
    (codeAny_mono (F1.run _ X.stack _ _ ⟨Value.ref (hp.objs.size + 1) :: us, []⟩ (Value.ref (hp.objs.size + 1) :: (us ++ [])) _ _ (fun _ _ _ => False) (hr.make C us []) (J.env0.make C us []) hbb r2 hq) fun r s' z => ?_))
  cases r with
  | error er => exact hx pins σ _ _ er s' J z
  | ok fl =>
    cases fl with
    | ret u =>
      obtain ⟨v, H2, os2, bare2, un2, hok2, rv, ev, d, fs, ea, ed, hd1, q2⟩ := z
      subst ev
      obtain ⟨h2, g2, d2, t2, os'⟩ := s'
      exact ⟨rv, mk_end (raises_own T.exC T.tyC) I1 up1 keeps2 un2 hok2 os2 bare2 ea ed hd1 q2⟩
    | next => exact z.elim
    | brk => exact z.elim
    | cont => exact z.elim
/-- C(), C an own class without an __init__ -/
theorem pmk_own0 {C : Addr} {bmB : List Value} {B newId initId : String} {x : Str} (F : ExcBaseFacts B newId initId bmB) (q : PySem.W.excIn X.K C bmB newId = true) (gC : X.mg x = some (.ref C)) (kC : PySem.W.keepIn X.K (.ref C) = true) (r : Raises X (.ref C)) (hg : Gl X x)
    (hs : starEach [] X.env = [] := by rfl) (hdb : (x == ("__debug__" : Str)) = false := by decide) : PMk X (.Call (.Name x p) [] [] pos) (fun _ H Q => Q (.ref C) none H) := by
  intro pins s σ H Q I h
  refine wpAny_Call_Name_kw (ld_glob I hg gC ?_ hdb)
  refine PySem.W.callWith_K0 (first := []) I.kIn kC ?_
  obtain ⟨bm, N, nm, qn, bs, hdct, sn, sub, ab, col, dd, k0, k1, k2, k3, k5, mN, hC, hN, hni, T⟩ := exc_obj I.kIn q
  refine wpAny_call_exc_subT F T hC hN hni (fun h' e hm => ?_) (Nat.zero_le _)
  exact mk_of I hm r h (I.hok.gone hm.new)
end
end Vf

/-! len(o) of an own class; fields written from a tuple. -/
namespace Vf
open PySem PySem.Spec PyProof.Rows L2 Evl
section
variable {X : Cx} {k : Nat} {f C : Addr} {fd : FuncData} {sp : Sp}
/-- len(o): what o's own __len__ gives -/
def rLenO (C : Addr) (sp : Sp) : List V → Hp → VK → Prop := fun xs H Q => ∃ a dx fs, xs = [.ref a] ∧ H a = some (.ins C dx fs) ∧ sp [.ref a] H (fun v H' => ∃ n : Nat, v = .int (n : Int) ∧ n < 2 ^ 40 ∧ Q v H') E0
theorem call_lenO (F : FnOk X.prog X.w X.K X.mg X.base CX0 k f fd ["self"] sp) (hr : Room (k + 1) X.A) (hb : Binds X.K fd ["self"] []) (m : PySem.W.findIn X.K (.ref C) "__len__" = some (some (.ref f))) (tF : PySem.W.typeIn X.K (.ref f) = some (.type "function")) :
    CallR X (.builtin "len") (rLenO C sp) := by
  intro pins s σ H xs us Q I r h
  obtain ⟨a, dx, fs, rfl, ea, q⟩ := h
  obtain ⟨u, rfl, ru⟩ := vals1 r
  cases (show u = Value.ref a from ru)
  obtain ⟨mA, O, _, _, _, _⟩ := ins_get I.hok ea
  obtain ⟨od, J, _⟩ := O.look
  have sp1 : PySem.W.Looks (model X.prog X.w) s.heap (specialOf (.ref a) "__len__") (some (.ref f)) := J.type.andThen (PySem.W.looks_findIn I.kIn m)
  refine Calls.call_function_entry kind_len plain_len entry_len (args_len1 _) ?_
  unfold Builtin.«len»
  refine wpAny_bind (m := oneArg "len" _) (wpAny_pure ?_)
  have special : wpAny (model X.prog X.w) X.A.in1 (callSpecial? (.ref a) (PySem.Str.ofString "__len__")) (fun r s' => ∃ (n : Nat) (tk : Tok) (H' : Hp), r = some (.int (n : Int) tk) ∧ n < 2 ^ 40 ∧ Inv X pins σ H' s' ∧ Q (.int (n : Int)) H') X.xe s := by
    simp only [callSpecial?]
    refine wpAny_bind (sp1.here ?_)
    refine wpAny_holding (wpAny_bind ((PySem.W.bind_fn I.kIn (.ref a) tF).here ?_))
    refine wpAny_bind (wpAny_call (codeAny_mono (F.run X.A.in1 X.stack s H ⟨[.ref a], []⟩ [.ref a] [.ref a] _ E0 hr.in1 I.env0.in1 (hb s [.ref a] I.kIn rfl) (.cons rfl .nil) q) fun r s' hq => ?_))
    cases r with
    | error er => exact hq.elim
    | ok fl =>
      cases fl with
      | ret u =>
        obtain ⟨v, H', J', rv, n, rfl, hn, q'⟩ := I.after hq
        obtain ⟨tk, rfl⟩ := rv
        exact wpAny_pure ⟨n, tk, H', rfl, hn, J', q'⟩
      | next => exact hq.elim
      | brk => exact hq.elim
      | cont => exact hq.elim
  refine wpAny_bind (wpAny_mono special (fun r s' h => ?_) fun _ _ x => x)
  obtain ⟨n, tk, H', rfl, hn, J', q'⟩ := h
  refine wpAny_bind (wpAny_holding (wpAny_pure ?_))
  refine wpAny_bind (wpAny_letGo ?_)
  show wpAny _ _ (if (n : Int) < 0 then _ else _) _ _ _
  rw [if_neg (by omega)]
  show wpAny _ _ (if (n : Int) ≥ 2 ^ 63 then _ else _) _ _ _
  rw [if_neg (by omega)]
  exact wpAny_bind (wpAny_mkInt (wpAny_pure ⟨_, rfl, .int (n : Int), H', J'.tok _, ⟨_, rfl⟩, q'⟩))
end
end Vf
namespace Vf
open PySem PySem.Spec PyProof.Rows L2 Evl
section
variable {X : Cx} {o : Expr} {to : TE} {f : Str} {pos : Pos}
/-- o.f as a target -/
def gFld (K : PySem.W.Frag) (to : TE) (f : Str) : TG := fun v σ H Q => to σ H fun x H1 => ∃ a C dx fs, x = .ref a ∧ H1 a = some (.ins C dx fs) ∧ Cls K C ∧ NoAttr K C f ∧ fs.length < 1000 ∧ Q σ (upd H1 a (.ins C dx (putF f v fs)))
theorem pg_fld (ho : PE X o to) (ha : ∀ v, assign (.Attribute o f pos) X.env v = (do
      let ov ← holding [v] (eval o X.env)
      standAt pos.atName
      holding [v, ov] (setAttr ov f v)
      release [v, ov] []) := by intro _; rfl) : PG X (.Attribute o f pos) (gFld X.K to f) := by
  refine ⟨fun pins s σ H v u Q I r h => ?_⟩
  rw [ha]
  refine wpAny_bind (wpAny_holding (thn (ho.run pins s σ H _ I h) fun ov s1 ⟨x, H1, I1, r1, a, C, dx, fs, ex, ea, c, n, l, q⟩ => ?_))
  subst ex
  cases (show ov = Value.ref a from r1)
  refine wpAny_bind (wpAny_standAt (wpAny_bind (wpAny_holding (setattr_ok I1 ea c n l r fun s2 I2 => ?_))))
  exact wpAny_release ⟨σ, _, I2, q⟩
end
end Vf
namespace Vf
open PySem PySem.Spec PyProof.Rows L2 Evl
/-- classes that stand beside one another: vs under ValueError, ls under LookupError -/
def tabC (K : PySem.W.Frag) (vs ls : List Addr) : Bool :=
  ((vs.all fun c => decide (PySem.W.kitOne K (.ref c) (.type "ValueError") = some true)) && ((ls.all fun c => decide (PySem.W.kitOne K (.ref c) (.type "ValueError") = some false) && decide (PySem.W.kitOne K (.ref c) (.type "LookupError") = some true)) && decide (vs ++ ls).Nodup)) &&
    (vs ++ ls).all fun c => (vs ++ ls).all fun d => decide (PySem.W.exmOne K (.ref c) (.ref d) = some (decide (c = d))) && decide (PySem.W.kitOne K (.ref c) (.ref d) = some (decide (c = d)))
section
variable {K : PySem.W.Frag} {vs ls : List Addr} {c d : Addr}
theorem tabC_ve (h : tabC K vs ls = true) (hc : c ∈ vs) : PySem.W.kitOne K (.ref c) (.type "ValueError") = some true := of_decide_eq_true (List.all_eq_true.mp (Bool.and_eq_true_iff.mp (Bool.and_eq_true_iff.mp h).1).1 c hc)
theorem tabC_no (h : tabC K vs ls = true) (hc : c ∈ ls) : PySem.W.kitOne K (.ref c) (.type "ValueError") = some false := of_decide_eq_true (Bool.and_eq_true_iff.mp (List.all_eq_true.mp (Bool.and_eq_true_iff.mp (Bool.and_eq_true_iff.mp (Bool.and_eq_true_iff.mp h).1).2).1 c hc)).1
theorem tabC_le (h : tabC K vs ls = true) (hc : c ∈ ls) : PySem.W.kitOne K (.ref c) (.type "LookupError") = some true := of_decide_eq_true (Bool.and_eq_true_iff.mp (List.all_eq_true.mp (Bool.and_eq_true_iff.mp (Bool.and_eq_true_iff.mp (Bool.and_eq_true_iff.mp h).1).2).1 c hc)).2
theorem tabC_nd (h : tabC K vs ls = true) : (vs ++ ls).Nodup := of_decide_eq_true (Bool.and_eq_true_iff.mp (Bool.and_eq_true_iff.mp (Bool.and_eq_true_iff.mp h).1).2).2
theorem tabC_ex (h : tabC K vs ls = true) (hc : c ∈ vs ++ ls) (hd : d ∈ vs ++ ls) : PySem.W.exmOne K (.ref c) (.ref d) = some (decide (c = d)) := of_decide_eq_true (Bool.and_eq_true_iff.mp (List.all_eq_true.mp (List.all_eq_true.mp (Bool.and_eq_true_iff.mp h).2 c hc) d hd)).1
theorem tabC_is (h : tabC K vs ls = true) (hc : c ∈ vs ++ ls) (hd : d ∈ vs ++ ls) : PySem.W.kitOne K (.ref c) (.ref d) = some (decide (c = d)) := of_decide_eq_true (Bool.and_eq_true_iff.mp (List.all_eq_true.mp (List.all_eq_true.mp (Bool.and_eq_true_iff.mp h).2 c hc) d hd)).2
end
theorem vals_rev : ∀ {vs : List V} {us : List Value}, Vals vs us → Vals vs.reverse us.reverse
  | _, _, .nil => .nil
  | _, _, .cons h r => by
    rw [List.reverse_cons, List.reverse_cons]
    exact (vals_rev r).append (.cons h .nil)
/-- keywords told the other way about -/
theorem kbn_rev {K : PySem.W.Frag} {fd : FuncData} {ps : List Str} {n : Nat} {ks : List Str} (h : ∀ (s : Shared) (us ws : List Value), K.In s.heap → us.length = n → ws.length = ks.length → BindsTo s fd ⟨us, ks.zip ws⟩ (ps.zip (us ++ ws.reverse))) : KBn K fd ps n ks (fun us ws => us ++ ws.reverse) (fun vs zs => vs ++ zs.reverse) :=
  ⟨h, fun a b => a.append (vals_rev b)⟩
end Vf

namespace K41
open PySem PySem.Spec PyProof.Rows L2 Vf Evl
def topS (i : Nat) : Stmt := PySem.Challenge.pw_apartcalls_k41_what_rooms_refuse.main.body.getD i (.Pass ⟨0, 0, 0, 0⟩)
abbrev s_InvalidNumber_init : Stmt := (clsBody (topS 1)).getD 0 (.Pass ⟨0, 0, 0, 0⟩)
theorem sc_InvalidNumber_init : FnScope ["self", "number"] ["self", "number"] (defScope s_InvalidNumber_init) :=
  ⟨rfl, rfl, rfl, by decide +kernel, rfl, by decide +kernel, by decide +kernel⟩
abbrev s_InvalidTies_init : Stmt := (clsBody (topS 2)).getD 0 (.Pass ⟨0, 0, 0, 0⟩)
theorem sc_InvalidTies_init : FnScope ["self", "index"] ["self", "index"] (defScope s_InvalidTies_init) :=
  ⟨rfl, rfl, rfl, by decide +kernel, rfl, by decide +kernel, by decide +kernel⟩
abbrev s_InvalidStanding_init : Stmt := (clsBody (topS 3)).getD 0 (.Pass ⟨0, 0, 0, 0⟩)
theorem sc_InvalidStanding_init : FnScope ["self", "index"] ["self", "index"] (defScope s_InvalidStanding_init) :=
  ⟨rfl, rfl, rfl, by decide +kernel, rfl, by decide +kernel, by decide +kernel⟩
abbrev s_InvalidOrder_init : Stmt := (clsBody (topS 4)).getD 0 (.Pass ⟨0, 0, 0, 0⟩)
theorem sc_InvalidOrder_init : FnScope ["self", "index"] ["self", "index"] (defScope s_InvalidOrder_init) :=
  ⟨rfl, rfl, rfl, by decide +kernel, rfl, by decide +kernel, by decide +kernel⟩
abbrev s_UnknownCall_init : Stmt := (clsBody (topS 5)).getD 0 (.Pass ⟨0, 0, 0, 0⟩)
theorem sc_UnknownCall_init : FnScope ["self", "number"] ["self", "number"] (defScope s_UnknownCall_init) :=
  ⟨rfl, rfl, rfl, by decide +kernel, rfl, by decide +kernel, by decide +kernel⟩
abbrev s_is_from_one : Stmt := topS 10
theorem sc_is_from_one : FnScope ["thing", "most"] ["thing", "most"] (defScope s_is_from_one) :=
  ⟨rfl, rfl, rfl, by decide +kernel, rfl, by decide +kernel, by decide +kernel⟩
abbrev s_first_wrong : Stmt := topS 11
theorem sc_first_wrong : FnScope ["things", "most", "seen", "at", "thing"] ["things", "most"] (defScope s_first_wrong) :=
  ⟨rfl, rfl, rfl, by decide +kernel, rfl, by decide +kernel, by decide +kernel⟩
abbrev s_check_count : Stmt := topS 12
theorem sc_check_count : FnScope ["number"] ["number"] (defScope s_check_count) :=
  ⟨rfl, rfl, rfl, by decide +kernel, rfl, by decide +kernel, by decide +kernel⟩
abbrev s_is_tie : Stmt := topS 13
theorem sc_is_tie : FnScope ["thing", "seats"] ["thing", "seats"] (defScope s_is_tie) :=
  ⟨rfl, rfl, rfl, by decide +kernel, rfl, by decide +kernel, by decide +kernel⟩
abbrev s_check_ties : Stmt := topS 14
theorem sc_check_ties : FnScope ["ties", "seats", "tied", "at", "tie", "pair"] ["ties", "seats"] (defScope s_check_ties) :=
  ⟨rfl, rfl, rfl, by decide +kernel, rfl, by decide +kernel, by decide +kernel⟩
abbrev s_check_net : Stmt := topS 15
theorem sc_check_net : FnScope ["seats", "ties"] ["seats", "ties"] (defScope s_check_net) :=
  ⟨rfl, rfl, rfl, by decide +kernel, rfl, by decide +kernel, by decide +kernel⟩
abbrev s_check_standing : Stmt := topS 16
theorem sc_check_standing : FnScope ["standing", "seats", "wrong"] ["standing", "seats"] (defScope s_check_standing) :=
  ⟨rfl, rfl, rfl, by decide +kernel, rfl, by decide +kernel, by decide +kernel⟩
abbrev s_check_order_of : Stmt := topS 17
theorem sc_check_order_of : FnScope ["order", "count", "wrong"] ["order", "count"] (defScope s_check_order_of) :=
  ⟨rfl, rfl, rfl, by decide +kernel, rfl, by decide +kernel, by decide +kernel⟩
abbrev s_check_call : Stmt := topS 18
theorem sc_check_call : FnScope ["number", "count"] ["number", "count"] (defScope s_check_call) :=
  ⟨rfl, rfl, rfl, by decide +kernel, rfl, by decide +kernel, by decide +kernel⟩
abbrev s_next_call : Stmt := topS 20
theorem sc_next_call : FnScope ["call", "count"] ["call", "count"] (defScope s_next_call) :=
  ⟨rfl, rfl, rfl, by decide +kernel, rfl, by decide +kernel, by decide +kernel⟩
abbrev s_places_of : Stmt := topS 22
theorem sc_places_of : FnScope ["standing"] ["standing"] (defScope s_places_of) :=
  ⟨rfl, rfl, rfl, by decide +kernel, rfl, by decide +kernel, by decide +kernel⟩
abbrev s_standing_of : Stmt := topS 23
theorem sc_standing_of : FnScope ["places"] ["places"] (defScope s_standing_of) :=
  ⟨rfl, rfl, rfl, by decide +kernel, rfl, by decide +kernel, by decide +kernel⟩
abbrev s_turned_about : Stmt := topS 24
theorem sc_turned_about : FnScope ["row", "found", "at", "number"] ["row"] (defScope s_turned_about) :=
  ⟨rfl, rfl, rfl, by decide +kernel, rfl, by decide +kernel, by decide +kernel⟩
abbrev s_tied_seats : Stmt := topS 25
theorem sc_tied_seats : FnScope ["seats", "ties", "tied", "one", "two", "_"] ["seats", "ties"] (defScope s_tied_seats) :=
  ⟨rfl, rfl, rfl, by decide +kernel, rfl, by decide +kernel, by decide +kernel⟩
abbrev s_people_called : Stmt := topS 26
theorem sc_people_called : FnScope ["calls", "count", "call"] ["calls", "count"] (defScope s_people_called) :=
  ⟨rfl, rfl, rfl, by decide +kernel, rfl, by decide +kernel, by decide +kernel⟩
abbrev s_places_after : Stmt := topS 27
theorem sc_places_after : FnScope ["places", "pairs", "tied", "one", "two", "here", "there"] ["places", "pairs", "tied"] (defScope s_places_after) :=
  ⟨rfl, rfl, rfl, by decide +kernel, rfl, by decide +kernel, by decide +kernel⟩
abbrev s_Room_init : Stmt := (clsBody (topS 29)).getD 0 (.Pass ⟨0, 0, 0, 0⟩)
theorem sc_Room_init : FnScope ["self", "seats", "ties", "standing", "tie"] ["self", "seats", "ties", "standing"] (defScope s_Room_init) :=
  ⟨rfl, rfl, rfl, by decide +kernel, rfl, by decide +kernel, by decide +kernel⟩
abbrev s_Room_len : Stmt := (clsBody (topS 29)).getD 1 (.Pass ⟨0, 0, 0, 0⟩)
theorem sc_Room_len : FnScope ["self"] ["self"] (defScope s_Room_len) :=
  ⟨rfl, rfl, rfl, by decide +kernel, rfl, by decide +kernel, by decide +kernel⟩
abbrev s_Room_seats : Stmt := (clsBody (topS 29)).getD 2 (.Pass ⟨0, 0, 0, 0⟩)
theorem sc_Room_seats : FnScope ["self"] ["self"] (defScope s_Room_seats) :=
  ⟨rfl, rfl, rfl, by decide +kernel, rfl, by decide +kernel, by decide +kernel⟩
abbrev s_Room_ties : Stmt := (clsBody (topS 29)).getD 3 (.Pass ⟨0, 0, 0, 0⟩)
theorem sc_Room_ties : FnScope ["self", "tie"] ["self"] (defScope s_Room_ties) :=
  ⟨rfl, rfl, rfl, by decide +kernel, rfl, by decide +kernel, by decide +kernel⟩
abbrev s_Room_standing : Stmt := (clsBody (topS 29)).getD 4 (.Pass ⟨0, 0, 0, 0⟩)
theorem sc_Room_standing : FnScope ["self"] ["self"] (defScope s_Room_standing) :=
  ⟨rfl, rfl, rfl, by decide +kernel, rfl, by decide +kernel, by decide +kernel⟩
abbrev s_Room_changes : Stmt := (clsBody (topS 29)).getD 5 (.Pass ⟨0, 0, 0, 0⟩)
theorem sc_Room_changes : FnScope ["self"] ["self"] (defScope s_Room_changes) :=
  ⟨rfl, rfl, rfl, by decide +kernel, rfl, by decide +kernel, by decide +kernel⟩
abbrev s_Room_call : Stmt := (clsBody (topS 29)).getD 6 (.Pass ⟨0, 0, 0, 0⟩)
theorem sc_Room_call : FnScope ["self", "number"] ["self", "number"] (defScope s_Room_call) :=
  ⟨rfl, rfl, rfl, by decide +kernel, rfl, by decide +kernel, by decide +kernel⟩
abbrev s_Room_round : Stmt := (clsBody (topS 29)).getD 7 (.Pass ⟨0, 0, 0, 0⟩)
theorem sc_Room_round : FnScope ["self", "order"] ["self", "order"] (defScope s_Room_round) :=
  ⟨rfl, rfl, rfl, by decide +kernel, rfl, by decide +kernel, by decide +kernel⟩
abbrev s_Room_round_back : Stmt := (clsBody (topS 29)).getD 8 (.Pass ⟨0, 0, 0, 0⟩)
theorem sc_Room_round_back : FnScope ["self", "order"] ["self", "order"] (defScope s_Room_round_back) :=
  ⟨rfl, rfl, rfl, by decide +kernel, rfl, by decide +kernel, by decide +kernel⟩
abbrev s_Room_run : Stmt := (clsBody (topS 29)).getD 9 (.Pass ⟨0, 0, 0, 0⟩)
theorem sc_Room_run : GScope ["self", "calls", "at"] ["self", "calls"] (defScope s_Room_run) :=
  ⟨rfl, rfl, rfl, by decide +kernel, rfl, by decide +kernel, by decide +kernel⟩
abbrev s_Room_undo : Stmt := (clsBody (topS 29)).getD 10 (.Pass ⟨0, 0, 0, 0⟩)
theorem sc_Room_undo : FnScope ["self"] ["self"] (defScope s_Room_undo) :=
  ⟨rfl, rfl, rfl, by decide +kernel, rfl, by decide +kernel, by decide +kernel⟩
abbrev s_Room__make_calls : Stmt := (clsBody (topS 29)).getD 11 (.Pass ⟨0, 0, 0, 0⟩)
theorem sc_Room__make_calls : FnScope ["self", "calls", "places", "changed", "pair", "moved"] ["self", "calls"] (defScope s_Room__make_calls) :=
  ⟨rfl, rfl, rfl, by decide +kernel, rfl, by decide +kernel, by decide +kernel⟩
abbrev s_l_draws : Stmt := topS 31
theorem sc_l_draws : FnScope ["_law_cell"] ["_law_cell"] (defScope s_l_draws) :=
  ⟨rfl, rfl, rfl, by decide +kernel, rfl, by decide +kernel, by decide +kernel⟩
abbrev s_l_next : Stmt := topS 32
theorem sc_l_next : FnScope ["_law_draws_here", "_law_k", "_law_number"] ["_law_draws_here"] (defScope s_l_next) :=
  ⟨rfl, rfl, rfl, by decide +kernel, rfl, by decide +kernel, by decide +kernel⟩
abbrev s_l_mixed : Stmt := topS 33
theorem sc_l_mixed : FnScope ["_law_draws_here", "_law_some", "_law_left", "_law_told"] ["_law_draws_here", "_law_some"] (defScope s_l_mixed) :=
  ⟨rfl, rfl, rfl, by decide +kernel, rfl, by decide +kernel, by decide +kernel⟩
abbrev s_l_net : Stmt := topS 34
theorem sc_l_net : FnScope ["_law_draws_here", "_law_most", "_law_seats", "_law_kind", "_law_line", "_law_ties", "_law_at", "_law_pick", "_law_other"] ["_law_draws_here", "_law_most"] (defScope s_l_net) :=
  ⟨rfl, rfl, rfl, by decide +kernel, rfl, by decide +kernel, by decide +kernel⟩
abbrev s_l_caught : Stmt := topS 35
theorem sc_l_caught : FnScope ["_law_ask", "_law_error", "e", "_law_kinds"] ["_law_ask"] (defScope s_l_caught) :=
  ⟨rfl, rfl, rfl, by decide +kernel, rfl, by decide +kernel, by decide +kernel⟩
abbrev s_l_bent : Stmt := topS 36
theorem sc_l_bent : FnScope ["_law_row", "_law_many", "_law_lots", "_law_at", "_law_thing"] ["_law_row"] (defScope s_l_bent) :=
  ⟨rfl, rfl, rfl, by decide +kernel, rfl, by decide +kernel, by decide +kernel⟩
abbrev s_l_made_right : Stmt := topS 37
theorem sc_l_made_right : FnScope ["_law_seats", "_law_ties", "_law_standing", "_law_bad", "_law_thing", "_law_at"] ["_law_seats", "_law_ties", "_law_standing"] (defScope s_l_made_right) :=
  ⟨rfl, rfl, rfl, by decide +kernel, rfl, by decide +kernel, by decide +kernel⟩
abbrev s_l_shown : Stmt := topS 38
theorem sc_l_shown : FnScope ["_law_room"] ["_law_room"] (defScope s_l_shown) :=
  ⟨rfl, rfl, rfl, by decide +kernel, rfl, by decide +kernel, by decide +kernel⟩
abbrev s_l_deeds_right : Stmt := topS 39
theorem sc_l_deeds_right : FnScope ["_law_room", "_law_order", "_law_before", "_law_bad", "_law_changes", "_law_deeds", "_law_at"] ["_law_room", "_law_order"] (defScope s_l_deeds_right) :=
  ⟨rfl, rfl, rfl, by decide +kernel, rfl, by decide +kernel, by decide +kernel⟩
abbrev s_l_right : Stmt := topS 40
theorem sc_l_right : FnScope ["_law_seats", "_law_ties", "_law_standing", "_law_order", "_law_room", "_law_first"] ["_law_seats", "_law_ties", "_law_standing", "_law_order"] (defScope s_l_right) :=
  ⟨rfl, rfl, rfl, by decide +kernel, rfl, by decide +kernel, by decide +kernel⟩
abbrev s_law : Stmt := topS 41
theorem sc_law : FnScope ["_law_script", "_law_draws_here", "_law_seats", "_law_ties", "_law_standing", "_law_order", "_law_before", "_law_cell"] ["_law_script"] (defScope s_law) :=
  ⟨rfl, rfl, rfl, by decide +kernel, rfl, by decide +kernel, by decide +kernel⟩
structure Ad where
  (f_InvalidNumber_init f_InvalidTies_init f_InvalidStanding_init f_InvalidOrder_init f_UnknownCall_init f_is_from_one f_first_wrong f_check_count f_is_tie f_check_ties f_check_net f_check_standing f_check_order_of f_check_call f_next_call f_places_of f_standing_of f_turned_about f_tied_seats f_people_called f_places_after f_Room_init f_Room_len f_Room_seats f_Room_ties f_Room_standing f_Room_changes f_Room_call f_Room_round f_Room_round_back f_Room_run f_Room_undo f_Room__make_calls f_l_draws f_l_next f_l_mixed f_l_net f_l_caught f_l_bent f_l_made_right f_l_shown f_l_deeds_right f_l_right f_law : Addr)
  (d_InvalidNumber_init d_InvalidTies_init d_InvalidStanding_init d_InvalidOrder_init d_UnknownCall_init d_is_from_one d_first_wrong d_check_count d_is_tie d_check_ties d_check_net d_check_standing d_check_order_of d_check_call d_next_call d_places_of d_standing_of d_turned_about d_tied_seats d_people_called d_places_after d_Room_init d_Room_len d_Room_seats d_Room_ties d_Room_standing d_Room_changes d_Room_call d_Room_round d_Room_round_back d_Room_run d_Room_undo d_Room__make_calls d_l_draws d_l_next d_l_mixed d_l_net d_l_caught d_l_bent d_l_made_right d_l_shown d_l_deeds_right d_l_right d_law : FuncData)
  (t_LEAST_COUNT t_MOST_COUNT : Tok)
  (c_InvalidNumber c_InvalidTies c_InvalidStanding c_InvalidOrder c_UnknownCall c_NothingToUndo c_Room : Addr)
  (pp_seats pp_ties pp_standing pp_changes : Addr)
  (k_l_made_right p_l_made_right k_l_deeds_right p_l_deeds_right k_l_right p_l_right : Addr)
/-- what a lambda of the def is called -/
def lamQ (x : Str) : Str := (envOfC x { kind := .function, names := [], isGenerator := false, isCoroutine := false } 0 0 .none).qual ++ "<lambda>"
def tabs (A : Ad) : List (Addr × Str) := [(A.p_l_made_right, lamQ "_law_made_right"), (A.p_l_deeds_right, lamQ "_law_deeds_right"), (A.p_l_right, lamQ "_law_right")]
theorem tab_one {A : Ad} {P : Addr} {q : Str} (h : ((tabs A).map (·.1)).Nodup) (m : (P, q) ∈ tabs A) : ∀ p ∈ tabs A, p.1 = P → p.2 = q := fun p hp e => by
  have z : p = (P, q) := Vf.nodup_fst h hp m e
  rw [z]
theorem mem_l_made_right (A : Ad) : (A.p_l_made_right, lamQ "_law_made_right") ∈ tabs A := by simp [tabs]
theorem mem_l_deeds_right (A : Ad) : (A.p_l_deeds_right, lamQ "_law_deeds_right") ∈ tabs A := by simp [tabs]
theorem mem_l_right (A : Ad) : (A.p_l_right, lamQ "_law_right") ∈ tabs A := by simp [tabs]
/-- the code objects of the defs that make lambdas, and their tables -/
structure Tab (base : Heap) (mg : Str → Option Value) (A : Ad) : Prop where
  t_l_made_right : LamX.TabB base mg A.k_l_made_right A.p_l_made_right
  u_l_made_right : ∀ p ∈ tabs A, p.1 = A.p_l_made_right → p.2 = lamQ "_law_made_right"
  t_l_deeds_right : LamX.TabB base mg A.k_l_deeds_right A.p_l_deeds_right
  u_l_deeds_right : ∀ p ∈ tabs A, p.1 = A.p_l_deeds_right → p.2 = lamQ "_law_deeds_right"
  t_l_right : LamX.TabB base mg A.k_l_right A.p_l_right
  u_l_right : ∀ p ∈ tabs A, p.1 = A.p_l_right → p.2 = lamQ "_law_right"
structure Txt (K : PySem.W.Frag) (mg : Str → Option Value) (A : Ad) : Prop where
  F_InvalidNumber_init : Fun K "__init__" "InvalidNumber.__init__" s_InvalidNumber_init A.f_InvalidNumber_init A.d_InvalidNumber_init
  b_InvalidNumber_init : Binds K A.d_InvalidNumber_init ["self", "number"] []
  F_InvalidTies_init : Fun K "__init__" "InvalidTies.__init__" s_InvalidTies_init A.f_InvalidTies_init A.d_InvalidTies_init
  b_InvalidTies_init : Binds K A.d_InvalidTies_init ["self", "index"] []
  F_InvalidStanding_init : Fun K "__init__" "InvalidStanding.__init__" s_InvalidStanding_init A.f_InvalidStanding_init A.d_InvalidStanding_init
  b_InvalidStanding_init : Binds K A.d_InvalidStanding_init ["self", "index"] []
  F_InvalidOrder_init : Fun K "__init__" "InvalidOrder.__init__" s_InvalidOrder_init A.f_InvalidOrder_init A.d_InvalidOrder_init
  b_InvalidOrder_init : Binds K A.d_InvalidOrder_init ["self", "index"] []
  F_UnknownCall_init : Fun K "__init__" "UnknownCall.__init__" s_UnknownCall_init A.f_UnknownCall_init A.d_UnknownCall_init
  b_UnknownCall_init : Binds K A.d_UnknownCall_init ["self", "number"] []
  F_is_from_one : Fun K "is_from_one" "is_from_one" s_is_from_one A.f_is_from_one A.d_is_from_one
  g_is_from_one : mg "is_from_one" = some (.ref A.f_is_from_one)
  b_is_from_one : Binds K A.d_is_from_one ["thing", "most"] []
  F_first_wrong : Fun K "first_wrong" "first_wrong" s_first_wrong A.f_first_wrong A.d_first_wrong
  g_first_wrong : mg "first_wrong" = some (.ref A.f_first_wrong)
  b_first_wrong : Binds K A.d_first_wrong ["things", "most"] []
  F_check_count : Fun K "check_count" "check_count" s_check_count A.f_check_count A.d_check_count
  g_check_count : mg "check_count" = some (.ref A.f_check_count)
  b_check_count : Binds K A.d_check_count ["number"] []
  F_is_tie : Fun K "is_tie" "is_tie" s_is_tie A.f_is_tie A.d_is_tie
  g_is_tie : mg "is_tie" = some (.ref A.f_is_tie)
  b_is_tie : Binds K A.d_is_tie ["thing", "seats"] []
  F_check_ties : Fun K "check_ties" "check_ties" s_check_ties A.f_check_ties A.d_check_ties
  g_check_ties : mg "check_ties" = some (.ref A.f_check_ties)
  b_check_ties : Binds K A.d_check_ties ["ties", "seats"] []
  F_check_net : Fun K "check_net" "check_net" s_check_net A.f_check_net A.d_check_net
  g_check_net : mg "check_net" = some (.ref A.f_check_net)
  b_check_net : Binds K A.d_check_net ["seats", "ties"] []
  F_check_standing : Fun K "check_standing" "check_standing" s_check_standing A.f_check_standing A.d_check_standing
  g_check_standing : mg "check_standing" = some (.ref A.f_check_standing)
  b_check_standing : Binds K A.d_check_standing ["standing", "seats"] []
  F_check_order_of : Fun K "check_order_of" "check_order_of" s_check_order_of A.f_check_order_of A.d_check_order_of
  g_check_order_of : mg "check_order_of" = some (.ref A.f_check_order_of)
  b_check_order_of : Binds K A.d_check_order_of ["order", "count"] []
  F_check_call : Fun K "check_call" "check_call" s_check_call A.f_check_call A.d_check_call
  g_check_call : mg "check_call" = some (.ref A.f_check_call)
  b_check_call : Binds K A.d_check_call ["number", "count"] []
  F_next_call : Fun K "next_call" "next_call" s_next_call A.f_next_call A.d_next_call
  g_next_call : mg "next_call" = some (.ref A.f_next_call)
  b_next_call : Binds K A.d_next_call ["call", "count"] []
  F_places_of : Fun K "places_of" "places_of" s_places_of A.f_places_of A.d_places_of
  g_places_of : mg "places_of" = some (.ref A.f_places_of)
  b_places_of : Binds K A.d_places_of ["standing"] []
  F_standing_of : Fun K "standing_of" "standing_of" s_standing_of A.f_standing_of A.d_standing_of
  g_standing_of : mg "standing_of" = some (.ref A.f_standing_of)
  b_standing_of : Binds K A.d_standing_of ["places"] []
  F_turned_about : Fun K "turned_about" "turned_about" s_turned_about A.f_turned_about A.d_turned_about
  g_turned_about : mg "turned_about" = some (.ref A.f_turned_about)
  b_turned_about : Binds K A.d_turned_about ["row"] []
  F_tied_seats : Fun K "tied_seats" "tied_seats" s_tied_seats A.f_tied_seats A.d_tied_seats
  g_tied_seats : mg "tied_seats" = some (.ref A.f_tied_seats)
  b_tied_seats : Binds K A.d_tied_seats ["seats", "ties"] []
  F_people_called : Fun K "people_called" "people_called" s_people_called A.f_people_called A.d_people_called
  g_people_called : mg "people_called" = some (.ref A.f_people_called)
  b_people_called : Binds K A.d_people_called ["calls", "count"] []
  F_places_after : Fun K "places_after" "places_after" s_places_after A.f_places_after A.d_places_after
  g_places_after : mg "places_after" = some (.ref A.f_places_after)
  b_places_after : Binds K A.d_places_after ["places", "pairs", "tied"] []
  F_Room_init : Fun K "__init__" "Room.__init__" s_Room_init A.f_Room_init A.d_Room_init
  b_Room_init : Binds K A.d_Room_init ["self", "seats", "ties", "standing"] []
  F_Room_len : Fun K "__len__" "Room.__len__" s_Room_len A.f_Room_len A.d_Room_len
  b_Room_len : Binds K A.d_Room_len ["self"] []
  F_Room_seats : Fun K "seats" "Room.seats" s_Room_seats A.f_Room_seats A.d_Room_seats
  b_Room_seats : Binds K A.d_Room_seats ["self"] []
  F_Room_ties : Fun K "ties" "Room.ties" s_Room_ties A.f_Room_ties A.d_Room_ties
  b_Room_ties : Binds K A.d_Room_ties ["self"] []
  F_Room_standing : Fun K "standing" "Room.standing" s_Room_standing A.f_Room_standing A.d_Room_standing
  b_Room_standing : Binds K A.d_Room_standing ["self"] []
  F_Room_changes : Fun K "changes" "Room.changes" s_Room_changes A.f_Room_changes A.d_Room_changes
  b_Room_changes : Binds K A.d_Room_changes ["self"] []
  F_Room_call : Fun K "call" "Room.call" s_Room_call A.f_Room_call A.d_Room_call
  b_Room_call : Binds K A.d_Room_call ["self", "number"] []
  F_Room_round : Fun K "round" "Room.round" s_Room_round A.f_Room_round A.d_Room_round
  b_Room_round : Binds K A.d_Room_round ["self", "order"] []
  F_Room_round_back : Fun K "round_back" "Room.round_back" s_Room_round_back A.f_Room_round_back A.d_Room_round_back
  b_Room_round_back : Binds K A.d_Room_round_back ["self", "order"] []
  F_Room_run : Fun K "run" "Room.run" s_Room_run A.f_Room_run A.d_Room_run
  b_Room_run : Binds K A.d_Room_run ["self", "calls"] []
  F_Room_undo : Fun K "undo" "Room.undo" s_Room_undo A.f_Room_undo A.d_Room_undo
  b_Room_undo : Binds K A.d_Room_undo ["self"] []
  F_Room__make_calls : Fun K "_make_calls" "Room._make_calls" s_Room__make_calls A.f_Room__make_calls A.d_Room__make_calls
  b_Room__make_calls : Binds K A.d_Room__make_calls ["self", "calls"] []
  F_l_draws : Fun K "_law_draws" "_law_draws" s_l_draws A.f_l_draws A.d_l_draws
  g_l_draws : mg "_law_draws" = some (.ref A.f_l_draws)
  b_l_draws : Binds K A.d_l_draws ["_law_cell"] []
  F_l_next : Fun K "_law_next" "_law_next" s_l_next A.f_l_next A.d_l_next
  g_l_next : mg "_law_next" = some (.ref A.f_l_next)
  b_l_next : Binds K A.d_l_next ["_law_draws_here"] []
  F_l_mixed : Fun K "_law_mixed" "_law_mixed" s_l_mixed A.f_l_mixed A.d_l_mixed
  g_l_mixed : mg "_law_mixed" = some (.ref A.f_l_mixed)
  b_l_mixed : Binds K A.d_l_mixed ["_law_draws_here", "_law_some"] []
  F_l_net : Fun K "_law_net" "_law_net" s_l_net A.f_l_net A.d_l_net
  g_l_net : mg "_law_net" = some (.ref A.f_l_net)
  b_l_net : Binds K A.d_l_net ["_law_draws_here", "_law_most"] []
  F_l_caught : Fun K "_law_caught" "_law_caught" s_l_caught A.f_l_caught A.d_l_caught
  g_l_caught : mg "_law_caught" = some (.ref A.f_l_caught)
  b_l_caught : Binds K A.d_l_caught ["_law_ask"] []
  F_l_bent : Fun K "_law_bent" "_law_bent" s_l_bent A.f_l_bent A.d_l_bent
  g_l_bent : mg "_law_bent" = some (.ref A.f_l_bent)
  b_l_bent : Binds K A.d_l_bent ["_law_row"] []
  F_l_made_right : FunC K "_law_made_right" "_law_made_right" s_l_made_right A.f_l_made_right A.d_l_made_right A.k_l_made_right
  g_l_made_right : mg "_law_made_right" = some (.ref A.f_l_made_right)
  b_l_made_right : Binds K A.d_l_made_right ["_law_seats", "_law_ties", "_law_standing"] []
  F_l_shown : Fun K "_law_shown" "_law_shown" s_l_shown A.f_l_shown A.d_l_shown
  g_l_shown : mg "_law_shown" = some (.ref A.f_l_shown)
  b_l_shown : Binds K A.d_l_shown ["_law_room"] []
  F_l_deeds_right : FunC K "_law_deeds_right" "_law_deeds_right" s_l_deeds_right A.f_l_deeds_right A.d_l_deeds_right A.k_l_deeds_right
  g_l_deeds_right : mg "_law_deeds_right" = some (.ref A.f_l_deeds_right)
  b_l_deeds_right : Binds K A.d_l_deeds_right ["_law_room", "_law_order"] []
  F_l_right : FunC K "_law_right" "_law_right" s_l_right A.f_l_right A.d_l_right A.k_l_right
  g_l_right : mg "_law_right" = some (.ref A.f_l_right)
  b_l_right : Binds K A.d_l_right ["_law_seats", "_law_ties", "_law_standing", "_law_order"] []
  F_law : Fun K "law" "law" s_law A.f_law A.d_law
  g_law : mg "law" = some (.ref A.f_law)
  b_law : Binds K A.d_law ["_law_script"] []
  g_LEAST_COUNT : mg "LEAST_COUNT" = some (.int 3 A.t_LEAST_COUNT)
  g_MOST_COUNT : mg "MOST_COUNT" = some (.int 40 A.t_MOST_COUNT)
  c_InvalidNumber : mg "InvalidNumber" = some (.ref A.c_InvalidNumber)
  x_InvalidNumber : OexC K A.c_InvalidNumber
  e_InvalidNumber : ExcC K A.c_InvalidNumber
  y_InvalidNumber : XfC K A.c_InvalidNumber
  i_InvalidNumber : PySem.W.findIn K (.ref A.c_InvalidNumber) "__init__" = some (some (.ref A.f_InvalidNumber_init))
  t_InvalidNumber : PySem.W.typeIn K (.ref A.f_InvalidNumber_init) = some (.type "function")
  n_InvalidNumber : PySem.W.findIn K (.ref A.c_InvalidNumber) "number" = some none
  c_InvalidTies : mg "InvalidTies" = some (.ref A.c_InvalidTies)
  x_InvalidTies : OexC K A.c_InvalidTies
  e_InvalidTies : ExcC K A.c_InvalidTies
  y_InvalidTies : XfC K A.c_InvalidTies
  i_InvalidTies : PySem.W.findIn K (.ref A.c_InvalidTies) "__init__" = some (some (.ref A.f_InvalidTies_init))
  t_InvalidTies : PySem.W.typeIn K (.ref A.f_InvalidTies_init) = some (.type "function")
  n_InvalidTies : PySem.W.findIn K (.ref A.c_InvalidTies) "index" = some none
  c_InvalidStanding : mg "InvalidStanding" = some (.ref A.c_InvalidStanding)
  x_InvalidStanding : OexC K A.c_InvalidStanding
  e_InvalidStanding : ExcC K A.c_InvalidStanding
  y_InvalidStanding : XfC K A.c_InvalidStanding
  i_InvalidStanding : PySem.W.findIn K (.ref A.c_InvalidStanding) "__init__" = some (some (.ref A.f_InvalidStanding_init))
  t_InvalidStanding : PySem.W.typeIn K (.ref A.f_InvalidStanding_init) = some (.type "function")
  n_InvalidStanding : PySem.W.findIn K (.ref A.c_InvalidStanding) "index" = some none
  c_InvalidOrder : mg "InvalidOrder" = some (.ref A.c_InvalidOrder)
  x_InvalidOrder : OexC K A.c_InvalidOrder
  e_InvalidOrder : ExcC K A.c_InvalidOrder
  y_InvalidOrder : XfC K A.c_InvalidOrder
  i_InvalidOrder : PySem.W.findIn K (.ref A.c_InvalidOrder) "__init__" = some (some (.ref A.f_InvalidOrder_init))
  t_InvalidOrder : PySem.W.typeIn K (.ref A.f_InvalidOrder_init) = some (.type "function")
  n_InvalidOrder : PySem.W.findIn K (.ref A.c_InvalidOrder) "index" = some none
  c_UnknownCall : mg "UnknownCall" = some (.ref A.c_UnknownCall)
  x_UnknownCall : OexL K A.c_UnknownCall
  e_UnknownCall : ExcC K A.c_UnknownCall
  y_UnknownCall : XfC K A.c_UnknownCall
  i_UnknownCall : PySem.W.findIn K (.ref A.c_UnknownCall) "__init__" = some (some (.ref A.f_UnknownCall_init))
  t_UnknownCall : PySem.W.typeIn K (.ref A.f_UnknownCall_init) = some (.type "function")
  n_UnknownCall : PySem.W.findIn K (.ref A.c_UnknownCall) "number" = some none
  c_NothingToUndo : mg "NothingToUndo" = some (.ref A.c_NothingToUndo)
  x_NothingToUndo : PySem.W.excIn K A.c_NothingToUndo leTail "LookupError.__new__" = true
  k_NothingToUndo : PySem.W.keepIn K (.ref A.c_NothingToUndo) = true
  s_NothingToUndo : PySem.W.subIn K (.ref A.c_NothingToUndo) (.type "BaseException") = some true
  t_NothingToUndo : PySem.W.typeIn K (.ref A.c_NothingToUndo) = some (.type "type")
  e_NothingToUndo : ExcC K A.c_NothingToUndo
  r_Room : mg "Room" = some (.ref A.c_Room)
  cl_Room : Cls K A.c_Room
  mk_Room : Mk K A.c_Room A.f_Room_init
  me_call : Meth K A.c_Room "call" A.f_Room_call
  me_round : Meth K A.c_Room "round" A.f_Room_round
  me_round_back : Meth K A.c_Room "round_back" A.f_Room_round_back
  me_run : Meth K A.c_Room "run" A.f_Room_run
  me_undo : Meth K A.c_Room "undo" A.f_Room_undo
  me__make_calls : Meth K A.c_Room "_make_calls" A.f_Room__make_calls
  pr_seats : PropOf K A.c_Room "seats" A.pp_seats A.f_Room_seats
  pr_ties : PropOf K A.c_Room "ties" A.pp_ties A.f_Room_ties
  pr_standing : PropOf K A.c_Room "standing" A.pp_standing A.f_Room_standing
  pr_changes : PropOf K A.c_Room "changes" A.pp_changes A.f_Room_changes
  na__changes : NoAttr K A.c_Room "_changes"
  na__earlier : NoAttr K A.c_Room "_earlier"
  na__places : NoAttr K A.c_Room "_places"
  na__seats : NoAttr K A.c_Room "_seats"
  na__tied : NoAttr K A.c_Room "_tied"
  na__ties : NoAttr K A.c_Room "_ties"
  lm_Room : PySem.W.findIn K (.ref A.c_Room) "__len__" = some (some (.ref A.f_Room_len))
  lt_Room : PySem.W.typeIn K (.ref A.f_Room_len) = some (.type "function")
  kb_Room_init : KBn K A.d_Room_init ["self", "seats", "ties", "standing"] 1 ["standing", "ties", "seats"] (fun us ws => us ++ ws.reverse) (fun vs zs => vs ++ zs.reverse)
  v_LookupError : PySem.W.findCls K (.type "LookupError") (.type "type") "__init__" = some (.val (.builtin "LookupError.__init__"))
  v_ValueError : PySem.W.findCls K (.type "ValueError") (.type "type") "__init__" = some (.val (.builtin "ValueError.__init__"))
  tb : tabC K [A.c_InvalidNumber, A.c_InvalidTies, A.c_InvalidStanding, A.c_InvalidOrder] [A.c_UnknownCall, A.c_NothingToUndo] = true
  z_ValueError : mg "ValueError" = none
  z_LookupError : mg "LookupError" = none
  z_isinstance : mg "isinstance" = none
  z_int : mg "int" = none
  z_bool : mg "bool" = none
  z_set : mg "set" = none
  z_enumerate : mg "enumerate" = none
  z_list : mg "list" = none
  z_len : mg "len" = none
  z_tuple : mg "tuple" = none
  z_sorted : mg "sorted" = none
  z_range : mg "range" = none
  z_property : mg "property" = none
  z_repr : mg "repr" = none
  z_zip : mg "zip" = none
section
variable {P : Program} {w : World} {K : PySem.W.Frag} {mg : Str → Option Value} {base : Heap} {A : Ad}
theorem ok_InvalidNumber_init (T : Txt K mg A) : FnOk P w K mg base CX0 1 A.f_InvalidNumber_init A.d_InvalidNumber_init ["self", "number"] (spOi A.c_InvalidNumber "number") := by
  refine T.F_InvalidNumber_init.ok sc_InvalidNumber_init (fun vs H Q E h => ?_) (fun cdv A' outer s H vs Q E hr h => ?_)
  · obtain ⟨a, v, rfl, _⟩ := h
    rfl
  · obtain ⟨a, v, rfl, ha, q⟩ := h
    refine ⟨_, (pss_cons (ps_expr (pe_veinit (by rfl) T.z_ValueError T.v_ValueError (pa_cons (pv 0) (pa_cons pe_str pa_nil))))
      (pss_one (ps_ost (pv 0) (pv 1)))), ?_⟩
    refine ⟨_, rfl, a, A.c_InvalidNumber, _, rfl, Nat.le_of_ble_eq_true rfl, T.x_InvalidNumber, ha, ?_⟩
    exact ⟨_, rfl, _, rfl, a, A.c_InvalidNumber, rfl, T.x_InvalidNumber, T.n_InvalidNumber, .inl ⟨ha, q⟩⟩
theorem ok_InvalidTies_init (T : Txt K mg A) : FnOk P w K mg base CX0 1 A.f_InvalidTies_init A.d_InvalidTies_init ["self", "index"] (spOi A.c_InvalidTies "index") := by
  refine T.F_InvalidTies_init.ok sc_InvalidTies_init (fun vs H Q E h => ?_) (fun cdv A' outer s H vs Q E hr h => ?_)
  · obtain ⟨a, v, rfl, _⟩ := h
    rfl
  · obtain ⟨a, v, rfl, ha, q⟩ := h
    refine ⟨_, (pss_cons (ps_expr (pe_veinit (by rfl) T.z_ValueError T.v_ValueError (pa_cons (pv 0) (pa_cons pe_str pa_nil))))
      (pss_one (ps_ost (pv 0) (pv 1)))), ?_⟩
    refine ⟨_, rfl, a, A.c_InvalidTies, _, rfl, Nat.le_of_ble_eq_true rfl, T.x_InvalidTies, ha, ?_⟩
    exact ⟨_, rfl, _, rfl, a, A.c_InvalidTies, rfl, T.x_InvalidTies, T.n_InvalidTies, .inl ⟨ha, q⟩⟩
theorem ok_InvalidStanding_init (T : Txt K mg A) : FnOk P w K mg base CX0 1 A.f_InvalidStanding_init A.d_InvalidStanding_init ["self", "index"] (spOi A.c_InvalidStanding "index") := by
  refine T.F_InvalidStanding_init.ok sc_InvalidStanding_init (fun vs H Q E h => ?_) (fun cdv A' outer s H vs Q E hr h => ?_)
  · obtain ⟨a, v, rfl, _⟩ := h
    rfl
  · obtain ⟨a, v, rfl, ha, q⟩ := h
    refine ⟨_, (pss_cons (ps_expr (pe_veinit (by rfl) T.z_ValueError T.v_ValueError (pa_cons (pv 0) (pa_cons pe_str pa_nil))))
      (pss_one (ps_ost (pv 0) (pv 1)))), ?_⟩
    refine ⟨_, rfl, a, A.c_InvalidStanding, _, rfl, Nat.le_of_ble_eq_true rfl, T.x_InvalidStanding, ha, ?_⟩
    exact ⟨_, rfl, _, rfl, a, A.c_InvalidStanding, rfl, T.x_InvalidStanding, T.n_InvalidStanding, .inl ⟨ha, q⟩⟩
theorem ok_InvalidOrder_init (T : Txt K mg A) : FnOk P w K mg base CX0 1 A.f_InvalidOrder_init A.d_InvalidOrder_init ["self", "index"] (spOi A.c_InvalidOrder "index") := by
  refine T.F_InvalidOrder_init.ok sc_InvalidOrder_init (fun vs H Q E h => ?_) (fun cdv A' outer s H vs Q E hr h => ?_)
  · obtain ⟨a, v, rfl, _⟩ := h
    rfl
  · obtain ⟨a, v, rfl, ha, q⟩ := h
    refine ⟨_, (pss_cons (ps_expr (pe_veinit (by rfl) T.z_ValueError T.v_ValueError (pa_cons (pv 0) (pa_cons pe_str pa_nil))))
      (pss_one (ps_ost (pv 0) (pv 1)))), ?_⟩
    refine ⟨_, rfl, a, A.c_InvalidOrder, _, rfl, Nat.le_of_ble_eq_true rfl, T.x_InvalidOrder, ha, ?_⟩
    exact ⟨_, rfl, _, rfl, a, A.c_InvalidOrder, rfl, T.x_InvalidOrder, T.n_InvalidOrder, .inl ⟨ha, q⟩⟩
theorem ok_UnknownCall_init (T : Txt K mg A) : FnOk P w K mg base CX0 1 A.f_UnknownCall_init A.d_UnknownCall_init ["self", "number"] (spOi A.c_UnknownCall "number") := by
  refine T.F_UnknownCall_init.ok sc_UnknownCall_init (fun vs H Q E h => ?_) (fun cdv A' outer s H vs Q E hr h => ?_)
  · obtain ⟨a, v, rfl, _⟩ := h
    rfl
  · obtain ⟨a, v, rfl, ha, q⟩ := h
    refine ⟨_, (pss_cons (ps_expr (pe_leinit (by rfl) T.z_LookupError (by decide +kernel) T.v_LookupError (pa_cons (pv 0) (pa_cons pe_str pa_nil))))
      (pss_one (ps_ostL (pv 0) (pv 1)))), ?_⟩
    refine ⟨_, rfl, a, A.c_UnknownCall, _, rfl, Nat.le_of_ble_eq_true rfl, T.x_UnknownCall, ha, ?_⟩
    exact ⟨_, rfl, _, rfl, a, A.c_UnknownCall, rfl, T.x_UnknownCall, T.n_UnknownCall, ha, q⟩
end
end K41

namespace K41
open PySem PySem.Spec PyProof.Rows L2 Vf Evl

section
variable {P : Program} {w : World} {K : PySem.W.Frag} {mg : Str → Option Value} {base : Heap} {A : Ad}
def sp_is_from_one (K : PySem.W.Frag) : Sp := fun vs H Q _ => ∃ (v : V) (o : Option Int) (m : Int), vs = [v, .int m] ∧ Kd K H v o ∧ RetV (.bl (okI m o)) H Q
theorem ok_is_from_one (T : Txt K mg A) : FnOk P w K mg base CX0 1 A.f_is_from_one A.d_is_from_one ["thing", "most"] (sp_is_from_one K) := by
  refine T.F_is_from_one.ok sc_is_from_one (fun vs H Q E h => ?_) (fun cdv A' outer s H vs Q E hr h => ?_)
  · obtain ⟨v, o, m, rfl, _⟩ := h
    rfl
  · obtain ⟨v, o, m, rfl, k, q⟩ := h
    refine ⟨_, (pss_one (ps_ret (pe_and (pe_callB call_isi (by rfl) T.z_isinstance (by decide +kernel) (pa_cons (pv 0) (pa_cons (pe_bltn (v := .ty "int") (by rfl) T.z_int (by decide +kernel) rfl) pa_nil))) (pe_and (pe_not (pe_callB call_isi (by rfl) T.z_isinstance (by decide +kernel) (pa_cons (pv 0) (pa_cons (pe_bltn (v := .ty "bool") (by rfl) T.z_bool (by decide +kernel) rfl) pa_nil)))) (pe_one (pe_chain op_le op_le pe_int (pv 0) (pv 1))))))), ?_⟩
    cases o with
    | some i =>
      cases k
      refine ⟨_, rfl, _, _, .type "int", .type "int", true, rfl, .ty _, .base (.int i), kit_ty (by decide +kernel), true, rfl, iteT ?_⟩
      refine ⟨_, rfl, _, _, .type "int", .type "bool", false, rfl, .ty _, .base (.int i), kit_ty (by decide +kernel), false, rfl, true, rfl, iteT ?_⟩
      refine ⟨_, rfl, _, _, rfl, rfl, _, rfl, ?_⟩
      have e : okI m (some i) = (decide (1 ≤ i) && decide (i ≤ m)) := by
        show decide (1 ≤ i ∧ i ≤ m) = _
        by_cases c : 1 ≤ i <;> by_cases d : i ≤ m <;> simp [c, d]
      rw [e] at q
      by_cases c : 1 ≤ i
      · rw [decide_eq_true c] at q ⊢
        exact iteT ⟨_, rfl, _, _, rfl, rfl, q H (Ex.refl H)⟩
      · rw [decide_eq_false c] at q ⊢
        exact iteF (q H (Ex.refl H))
    | none =>
      obtain ⟨n, _, ty, k1, k2, _⟩ := kd_types k
      refine ⟨_, rfl, _, _, .type n, .type "int", _, rfl, .ty _, ty, k1, _, rfl, ?_⟩
      cases e : n == "bool" with
      | false => exact iteF (q H (Ex.refl H))
      | true => exact iteT ⟨_, rfl, _, _, .type n, .type "bool", _, rfl, .ty _, ty, k2, _, rfl, _, rfl, by rw [e]; exact iteF (q H (Ex.refl H))⟩
def sp_first_wrong (K : PySem.W.Frag) : Sp := fun vs H Q _ => ∃ (a : Addr) (xs : List V) (os : List (Option Int)) (m : Int), vs = [.ref a, .int m] ∧ SqL K H a xs ∧ Paired (Kd K H) xs os ∧ xs.length ≤ 1000 ∧ RetV (optV (fw m os [] 0)) H Q
theorem ok_first_wrong (T : Txt K mg A) : FnOk P w K mg base CX0 2 A.f_first_wrong A.d_first_wrong ["things", "most"] (sp_first_wrong K) := by
  have G_is_from_one : FnOk P w K mg base CX0 1 A.f_is_from_one A.d_is_from_one ["thing", "most"] (sp_is_from_one K) := ok_is_from_one T
  refine T.F_first_wrong.ok sc_first_wrong (fun vs H Q E h => ?_) (fun cdv A' outer s H vs Q E hr h => ?_)
  · obtain ⟨a, xs, os, m, rfl, _⟩ := h
    rfl
  · obtain ⟨a, xs, os, m, rfl, hS, hp, hl, q⟩ := h
    refine ⟨_, (pss_cons (ps_set (i := 2) sc_first_wrong.nd rfl (by first | exact .inl rfl | exact .inr rfl) (pe_callTy0 cr_set0 (by rfl) T.z_set (by decide +kernel)))
      (pss_cons (ps_for PassesOwn.never rfl (pi_enum (by rfl) T.z_enumerate (pa_cons (pv 0) pa_nil)) (pg_tupK (n := 2) (K := K) rfl rfl (pgs_cons (pg_name (i := 3) sc_first_wrong.nd rfl (by first | exact .inl rfl | exact .inr rfl)) (pgs_cons (pg_name (i := 4) sc_first_wrong.nd rfl (by first | exact .inl rfl | exact .inr rfl)) pgs_nil))) (pss_cons (ps_if (PW.pt (pw_or (pt_not (pt_val (pe_call G_is_from_one (hr.mono (by decide)) (by rfl) T.g_is_from_one T.F_is_from_one.kp T.b_is_from_one .nil pass0 (pa_cons (pv 4) (pa_cons (pv 1) pa_nil))))) (pw_or1 (pt_cmpR or_sin (pv 4) (pv 2) (by rfl))))) (pss_one (ps_ret (pv 3))) pss_nil)
      (pss_one (ps_expr (pe_sadd (pv 2) (pa_cons (pv 4) pa_nil))))))
      (pss_one (ps_ret pe_non)))), ?_⟩
    -- seen = set()
    refine ⟨rfl, fun p np => ?_⟩
    have e0 : Ex H (upd H p (SetO w p (fun _ => false) 0)) := Ex.new np
    -- for at, thing in enumerate(things)
    refine ⟨.ref a, rfl, a, xs, rfl, ex_l e0 hS, ?_⟩
    refine for_enumL (xs := xs) (fun i σ' H' => (∃ y3 y4, σ' = [some (.ref a), some (.int m), some (.ref p), y3, y4]) ∧ Ex H H' ∧
        ∃ S c ns, H' p = some (SetO w p S c) ∧ c ≤ i ∧ (∀ k, S k = true ↔ k ∈ ns) ∧ fw m os [] 0 = fw m (os.drop i) ns i)
      ⟨⟨none, none, rfl⟩, e0, _, _, [], upd_same, Nat.le_refl _, fun k => ⟨(fun z => nomatch z), (fun z => nomatch z)⟩, rfl⟩ (fun i σ' H' z => ex_l z.2.1 hS) ?_ ?_
    · rintro i x Tt σ' H' hx ⟨⟨y3, y4, rfl⟩, e1, S, c, ns, hp1, hc, hSk, ef⟩ nT
      obtain ⟨o, ho, kx⟩ := paired_at hp hx
      rw [drop_at ho] at ef
      have e2 : Ex H' (upd H' Tt (.tup [.int (i : Nat), x])) := Ex.new nT
      have kx2 := kx.on (e1.trans e2)
      -- at, thing = the pair
      refine ⟨Tt, _, rfl, .inl (.inl upd_same), rfl, _, _, rfl, _, _, rfl, rfl, ?_⟩
      -- if not is_from_one(thing, most) or thing in seen
      refine ⟨_, rfl, _, rfl, x, o, m, rfl, kx2, fun H3 e3 => ?_⟩
      have hp3 : H3 p = some (SetO w p S c) := e3 _ _ (e2 _ _ hp1)
      have hi : i < xs.length := (List.getElem?_eq_some_iff.mp hx).1
      have E3 : Ex H H3 := (e1.trans e2).trans e3
      cases o with
      | none =>
        refine ⟨false, rfl, iteT ?_⟩
        refine ⟨_, rfl, ?_⟩
        rw [ef] at q
        exact q H3 E3
      | some n =>
        cases kx
        show ∃ b, V.bl (decide (1 ≤ n ∧ n ≤ m)) = _ ∧ _
        by_cases hb : 1 ≤ n ∧ n ≤ m
        · rw [decide_eq_true hb]
          refine ⟨true, rfl, iteF ⟨_, rfl, _, rfl, n, p, S, c, rfl, rfl, hp3, ?_⟩⟩
          cases hs : S n with
          | true =>
            refine ⟨true, rfl, iteT ?_⟩
            refine ⟨_, rfl, ?_⟩
            have e4 : fw m os [] 0 = some i := by
              rw [ef]
              exact if_neg fun z => z.2.2 ((hSk n).mp hs)
            rw [e4] at q
            exact q H3 E3
          | false =>
            refine ⟨false, rfl, iteF ?_⟩
            -- seen.add(thing)
            refine ⟨_, rfl, ⟨p, S, c, rfl, hp3⟩, _, rfl, p, n, S, c, rfl, rfl, hp3, by unfold scanBound; omega, ?_⟩
            rw [hs]
            have nm : n ∉ ns := fun z => by
              rw [(hSk n).mpr z] at hs
              cases hs
            refine ⟨⟨_, _, rfl⟩, Ex.mut E3 np, _, c + 1, n :: ns, upd_same, by omega, fun k => ?_, ?_⟩
            · rw [Bool.or_eq_true, hSk k, decide_eq_true_iff, List.mem_cons, or_comm]
            · rw [ef]
              exact if_pos ⟨hb.1, hb.2, nm⟩
        · rw [decide_eq_false hb]
          refine ⟨false, rfl, iteT ?_⟩
          refine ⟨_, rfl, ?_⟩
          have e4 : fw m os [] 0 = some i := by
            rw [ef]
            exact if_neg fun z => hb ⟨z.1, z.2.1⟩
          rw [e4] at q
          exact q H3 E3
    · rintro σ' H' ⟨_, e1, S, c, ns, _, _, _, ef⟩
      have hlen : os.drop xs.length = [] := List.drop_eq_nil_of_le (Nat.le_of_eq (Paired.length hp).symm)
      rw [ef, hlen] at q
      exact q H' e1
end
end K41

namespace K41
open PySem PySem.Spec PyProof.Rows L2 Vf Evl

section
variable {P : Program} {w : World} {K : PySem.W.Frag} {mg : Str → Option Value} {base : Heap} {A : Ad}
/-- a number of seats or calls -/
def okC : Option Int → Bool
  | some i => decide (3 ≤ i ∧ i ≤ 40)
  | none => false
def sp_check_count (K : PySem.W.Frag) (A : Ad) : Sp := fun vs H Q E => ∃ (v : V) (o : Option Int), vs = [v] ∧ Kd K H v o ∧ (okC o = true → RetV .non H Q) ∧ (okC o = false → RaiseV A.c_InvalidNumber "number" v H E)
theorem ok_check_count (T : Txt K mg A) : FnOk P w K mg base (L2.CX P w) 3 A.f_check_count A.d_check_count ["number"] (sp_check_count K A) := by
  have G_is_from_one : FnOk P w K mg base CX0 1 A.f_is_from_one A.d_is_from_one ["thing", "most"] (sp_is_from_one K) := ok_is_from_one T
  have G_InvalidNumber_init : FnOk P w K mg base CX0 1 A.f_InvalidNumber_init A.d_InvalidNumber_init ["self", "number"] (spOi A.c_InvalidNumber "number") := ok_InvalidNumber_init T
  refine T.F_check_count.okX sc_check_count (fun vs H Q E h => ?_) (fun cdv A' outer s H vs Q E hr h => ?_)
  · obtain ⟨v, o, rfl, _⟩ := h
    rfl
  · obtain ⟨v, o, rfl, k, q1, q2⟩ := h
    refine ⟨_, (pss_one (ps_if (PW.pt (pw_or (pt_not (pt_val (pe_call G_is_from_one (hr.mono (by decide)) (by rfl) T.g_is_from_one T.F_is_from_one.kp T.b_is_from_one .nil pass0 (pa_cons (pv 0) (pa_cons (pe_glob (v := .int 40) (by rfl) T.g_MOST_COUNT ⟨_, rfl⟩) pa_nil))))) (pw_or1 (pt_cmpR op_lt (pv 0) (pe_glob (v := .int 3) (by rfl) T.g_LEAST_COUNT ⟨_, rfl⟩) (nomark _))))) (pss_one (ps_raise rfl (takes_of rfl rfl rfl rfl) (pmk_oex T.x_InvalidNumber T.i_InvalidNumber T.t_InvalidNumber G_InvalidNumber_init (hr.mono (by decide)) T.b_InvalidNumber_init .nil pass0 (by rfl) T.c_InvalidNumber (pa_cons (pv 0) pa_nil)))) pss_nil)), ?_⟩
    refine ⟨_, rfl, v, o, 40, rfl, k, fun H1 e1 => ?_⟩
    have raise : okC o = false → ∀ H', Ex H H' → RaiseV A.c_InvalidNumber "number" v H' E := fun z H' e => (q2 z).on e
    cases o with
    | none => exact ⟨false, rfl, iteT ⟨_, rfl, Nat.le_of_ble_eq_true rfl, raiseV_mk (raise rfl H1 e1)⟩⟩
    | some i =>
      cases k
      by_cases hb : 1 ≤ i ∧ i ≤ 40
      · refine ⟨true, congrArg V.bl (decide_eq_true hb), iteF ⟨_, rfl, _, _, rfl, rfl, ?_⟩⟩
        by_cases h3 : i < 3
        · refine ⟨true, congrArg V.bl (decide_eq_true h3), iteT ⟨_, rfl, Nat.le_of_ble_eq_true rfl, raiseV_mk (raise (decide_eq_false fun z => absurd z.1 (by omega)) H1 e1)⟩⟩
        · refine ⟨false, congrArg V.bl (decide_eq_false h3), iteF (q1 (decide_eq_true ⟨by omega, hb.2⟩) H1 e1)⟩
      · refine ⟨false, congrArg V.bl (decide_eq_false hb), iteT ⟨_, rfl, Nat.le_of_ble_eq_true rfl, raiseV_mk (raise (decide_eq_false fun z => hb ⟨by omega, z.2⟩) H1 e1)⟩⟩
end
end K41

namespace K41
open PySem PySem.Spec PyProof.Rows L2 Vf Evl

/-- the field of the error that is due, if one is -/
def seE (n : Int) : Option (List (Option Int)) → Option V
  | none => some .non
  | some os => if (os.length : Int) = n then (fw n os [] 0).map fun (i : Nat) => V.int (i : Int) else some .non
def oE : Option (List (Option Int)) → Option V
  | none => some .non
  | some os => if 3 ≤ os.length ∧ os.length ≤ 40 then (fw os.length os [] 0).map fun (i : Nat) => V.int (i : Int) else some .non
def bE (n : Int) : Option (List (Option Int)) → Option V
  | none => some .non
  | some os => if 1 ≤ os.length ∧ (os.length : Int) < n then (fw n os [] 0).map fun (i : Nat) => V.int (i : Int) else some .non
def fc (n : Int) : List (Option Int) → Nat → Option Nat
  | [], _ => none
  | o :: r, i => if okI n o = true then fc n r (i + 1) else some i
def cE (n : Int) : Option (List (Option Int)) → Option V
  | none => some .non
  | some os => (fc n os 0).map fun (i : Nat) => V.int (i : Int)
/-- a check: quiet, or the error of the class at C with the field x -/
def Chk (r : Option V) (C : Addr) (fld : Str) (H : Hp) (Q : VK) (E : XK) : Prop := (r = none → RetV .non H Q) ∧ ∀ x, r = some x → RaiseV C fld x H E
theorem kdl_ty {K : PySem.W.Frag} {H : Hp} {v : V} (h : KdL K H v none) : ∃ n, TyX K H v (.type n) ∧ PySem.W.kitOne K (.type n) (.type "list") = some false := by
  obtain ⟨n, h1, h2, h3⟩ := h
  refine ⟨n, h3, ?_⟩
  rcases h1 with rfl | h1
  · exact kit_ty (by decide +kernel)
  · rcases oddT_cases h1 with rfl | rfl | rfl | rfl | rfl | rfl
    · exact kit_ty (by decide +kernel)
    · exact kit_ty (by decide +kernel)
    · exact kit_ty (by decide +kernel)
    · exact absurd rfl h2
    · exact kit_ty (by decide +kernel)
    · exact kit_ty (by decide +kernel)
section
variable {P : Program} {w : World} {K : PySem.W.Frag} {mg : Str → Option Value} {base : Heap} {A : Ad}
def sp_check_len (K : PySem.W.Frag) (C : Addr) (err : Int → Option (List (Option Int)) → Option V) : Sp := fun vs H Q E => ∃ (v : V) (t : Option (List (Option Int))) (n : Int), vs = [v, .int n] ∧ KdL K H v t ∧ Chk (err n t) C "index" H Q E
theorem ok_check_standing (T : Txt K mg A) : FnOk P w K mg base (L2.CX P w) 4 A.f_check_standing A.d_check_standing ["standing", "seats"] (sp_check_len K A.c_InvalidStanding seE) := by
  have G_first_wrong : FnOk P w K mg base CX0 2 A.f_first_wrong A.d_first_wrong ["things", "most"] (sp_first_wrong K) := ok_first_wrong T
  have G_InvalidStanding_init : FnOk P w K mg base CX0 1 A.f_InvalidStanding_init A.d_InvalidStanding_init ["self", "index"] (spOi A.c_InvalidStanding "index") := ok_InvalidStanding_init T
  refine T.F_check_standing.okX sc_check_standing (fun vs H Q E h => ?_) (fun cdv A' outer s H vs Q E hr h => ?_)
  · obtain ⟨v, t, n, rfl, _⟩ := h
    rfl
  · obtain ⟨v, t, n, rfl, k, q1, q2⟩ := h
    refine ⟨_, (pss_cons (ps_if (PW.pt (pw_or (pt_not (pt_val (pe_callB call_isi (by rfl) T.z_isinstance (by decide +kernel) (pa_cons (pv 0) (pa_cons (pe_bltn (v := .ty "list") (by rfl) T.z_list (by decide +kernel) rfl) pa_nil))))) (pw_or1 (pt_cmpR op_ne (pe_callB (call_lenK (K := K) rfl) (by rfl) T.z_len PySem.boot_len (pa_cons (pv 0) pa_nil)) (pv 1) (nomark _))))) (pss_one (ps_raise rfl (takes_of rfl rfl rfl rfl) (pmk_oex T.x_InvalidStanding T.i_InvalidStanding T.t_InvalidStanding G_InvalidStanding_init (hr.mono (by decide)) T.b_InvalidStanding_init .nil pass0 (by rfl) T.c_InvalidStanding (pa_cons pe_non pa_nil)))) pss_nil)
      (pss_cons (ps_set (i := 2) sc_check_standing.nd rfl (by first | exact .inl rfl | exact .inr rfl) (pe_call G_first_wrong (hr.mono (by decide)) (by rfl) T.g_first_wrong T.F_first_wrong.kp T.b_first_wrong .nil pass0 (pa_cons (pv 0) (pa_cons (pv 1) pa_nil))))
      (pss_one (ps_if (pt_cmp (pc_notN (pv 2))) (pss_one (ps_raise rfl (takes_of rfl rfl rfl rfl) (pmk_oex T.x_InvalidStanding T.i_InvalidStanding T.t_InvalidStanding G_InvalidStanding_init (hr.mono (by decide)) T.b_InvalidStanding_init .nil pass0 (by rfl) T.c_InvalidStanding (pa_cons (pv 2) pa_nil)))) pss_nil)))), ?_⟩
    cases t with
    | none =>
      obtain ⟨nm, ty, kl⟩ := kdl_ty k
      refine ⟨_, rfl, _, _, .type nm, .type "list", false, rfl, .ty _, ty, kl, false, rfl, iteT ?_⟩
      exact ⟨Nat.le_of_ble_eq_true rfl, raiseV_mk (q2 _ rfl)⟩
    | some os =>
      obtain ⟨a, xs, rfl, hS, hl, hp⟩ := k
      refine ⟨_, rfl, _, _, .type "list", .type "list", true, rfl, .ty _, tyx_sql hS, kit_ty (by decide +kernel), true, rfl, iteF ?_⟩
      refine ⟨_, rfl, a, xs, rfl, .inl hS, _, rfl, rfl, _, rfl, ?_⟩
      have hlen : xs.length = os.length := Paired.length hp
      by_cases hn : (os.length : Int) = n
      · rw [show seE n (some os) = (fw n os [] 0).map fun (i : Nat) => V.int (i : Int) from if_pos hn] at q1 q2
        rw [decide_eq_true (show V.int (xs.length : Int) = V.int n by rw [hlen, hn])]
        refine iteF ?_
        refine ⟨_, rfl, _, rfl, a, xs, os, n, rfl, hS, hp, hl, fun H1 e1 => ?_⟩
        refine ⟨_, rfl, _, rfl, ?_⟩
        cases ef : fw n os [] 0 with
        | none =>
          rw [ef] at q1
          exact iteF (q1 rfl H1 e1)
        | some i =>
          rw [ef] at q2
          exact iteT ⟨_, rfl, Nat.le_of_ble_eq_true rfl, raiseV_mk ((q2 _ rfl).on e1)⟩
      · rw [show seE n (some os) = some .non from if_neg hn] at q2
        rw [decide_eq_false (show ¬ V.int (xs.length : Int) = V.int n from fun z => hn (by rw [← hlen]; exact V.int.inj z))]
        refine iteT ?_
        exact ⟨Nat.le_of_ble_eq_true rfl, raiseV_mk (q2 _ rfl)⟩
end
end K41

namespace K41
open PySem PySem.Spec PyProof.Rows L2 Vf Evl

section
variable {P : Program} {w : World} {K : PySem.W.Frag} {mg : Str → Option Value} {base : Heap} {A : Ad}
theorem ok_check_order_of (T : Txt K mg A) : FnOk P w K mg base (L2.CX P w) 4 A.f_check_order_of A.d_check_order_of ["order", "count"] (sp_check_len K A.c_InvalidOrder seE) := by
  have G_first_wrong : FnOk P w K mg base CX0 2 A.f_first_wrong A.d_first_wrong ["things", "most"] (sp_first_wrong K) := ok_first_wrong T
  have G_InvalidOrder_init : FnOk P w K mg base CX0 1 A.f_InvalidOrder_init A.d_InvalidOrder_init ["self", "index"] (spOi A.c_InvalidOrder "index") := ok_InvalidOrder_init T
  refine T.F_check_order_of.okX sc_check_order_of (fun vs H Q E h => ?_) (fun cdv A' outer s H vs Q E hr h => ?_)
  · obtain ⟨v, t, n, rfl, _⟩ := h
    rfl
  · obtain ⟨v, t, n, rfl, k, q1, q2⟩ := h
    refine ⟨_, (pss_cons (ps_if (PW.pt (pw_or (pt_not (pt_val (pe_callB call_isi (by rfl) T.z_isinstance (by decide +kernel) (pa_cons (pv 0) (pa_cons (pe_bltn (v := .ty "list") (by rfl) T.z_list (by decide +kernel) rfl) pa_nil))))) (pw_or1 (pt_cmpR op_ne (pe_callB (call_lenK (K := K) rfl) (by rfl) T.z_len PySem.boot_len (pa_cons (pv 0) pa_nil)) (pv 1) (nomark _))))) (pss_one (ps_raise rfl (takes_of rfl rfl rfl rfl) (pmk_oex T.x_InvalidOrder T.i_InvalidOrder T.t_InvalidOrder G_InvalidOrder_init (hr.mono (by decide)) T.b_InvalidOrder_init .nil pass0 (by rfl) T.c_InvalidOrder (pa_cons pe_non pa_nil)))) pss_nil)
      (pss_cons (ps_set (i := 2) sc_check_order_of.nd rfl (by first | exact .inl rfl | exact .inr rfl) (pe_call G_first_wrong (hr.mono (by decide)) (by rfl) T.g_first_wrong T.F_first_wrong.kp T.b_first_wrong .nil pass0 (pa_cons (pv 0) (pa_cons (pv 1) pa_nil))))
      (pss_one (ps_if (pt_cmp (pc_notN (pv 2))) (pss_one (ps_raise rfl (takes_of rfl rfl rfl rfl) (pmk_oex T.x_InvalidOrder T.i_InvalidOrder T.t_InvalidOrder G_InvalidOrder_init (hr.mono (by decide)) T.b_InvalidOrder_init .nil pass0 (by rfl) T.c_InvalidOrder (pa_cons (pv 2) pa_nil)))) pss_nil)))), ?_⟩
    cases t with
    | none =>
      obtain ⟨nm, ty, kl⟩ := kdl_ty k
      refine ⟨_, rfl, _, _, .type nm, .type "list", false, rfl, .ty _, ty, kl, false, rfl, iteT ?_⟩
      exact ⟨Nat.le_of_ble_eq_true rfl, raiseV_mk (q2 _ rfl)⟩
    | some os =>
      obtain ⟨a, xs, rfl, hS, hl, hp⟩ := k
      refine ⟨_, rfl, _, _, .type "list", .type "list", true, rfl, .ty _, tyx_sql hS, kit_ty (by decide +kernel), true, rfl, iteF ?_⟩
      refine ⟨_, rfl, a, xs, rfl, .inl hS, _, rfl, rfl, _, rfl, ?_⟩
      have hlen : xs.length = os.length := Paired.length hp
      by_cases hn : (os.length : Int) = n
      · rw [show seE n (some os) = (fw n os [] 0).map fun (i : Nat) => V.int (i : Int) from if_pos hn] at q1 q2
        rw [decide_eq_true (show V.int (xs.length : Int) = V.int n by rw [hlen, hn])]
        refine iteF ?_
        refine ⟨_, rfl, _, rfl, a, xs, os, n, rfl, hS, hp, hl, fun H1 e1 => ?_⟩
        refine ⟨_, rfl, _, rfl, ?_⟩
        cases ef : fw n os [] 0 with
        | none =>
          rw [ef] at q1
          exact iteF (q1 rfl H1 e1)
        | some i =>
          rw [ef] at q2
          exact iteT ⟨_, rfl, Nat.le_of_ble_eq_true rfl, raiseV_mk ((q2 _ rfl).on e1)⟩
      · rw [show seE n (some os) = some .non from if_neg hn] at q2
        rw [decide_eq_false (show ¬ V.int (xs.length : Int) = V.int n from fun z => hn (by rw [← hlen]; exact V.int.inj z))]
        refine iteT ?_
        exact ⟨Nat.le_of_ble_eq_true rfl, raiseV_mk (q2 _ rfl)⟩
end
end K41

namespace K41
open PySem PySem.Spec PyProof.Rows L2 Vf Evl

/-! ### ties -/
def nrm (t : Int × Int) : Int × Int := if t.1 ≤ t.2 then t else (t.2, t.1)
def key2 (t : Int × Int) : List Int := [(nrm t).1, (nrm t).2]
theorem sorted_two {ns : List Int} {x y : Int} (h : ns.Perm [x, y]) (hs : ns.Pairwise (· ≤ ·)) : ns = key2 (x, y) := by
  have hl := h.length_eq
  match ns, hl with
  | [a, b], _ =>
    have hab : a ≤ b := by simpa using hs
    have ha : a ∈ [x, y] := h.mem_iff.mp (by simp)
    have hb : b ∈ [x, y] := h.mem_iff.mp (by simp)
    have hx : x ∈ [a, b] := h.mem_iff.mpr (by simp)
    have hy : y ∈ [a, b] := h.mem_iff.mpr (by simp)
    simp only [List.mem_cons, List.not_mem_nil, or_false] at ha hb hx hy
    unfold key2 nrm
    by_cases c : x ≤ y
    · simp only [c, if_true]
      have : a = x ∧ b = y := by omega
      rw [this.1, this.2]
    · simp only [c, if_false]
      have : a = y ∧ b = x := by omega
      rw [this.1, this.2]
/-- a thing that is a tie -/
def okT (n : Int) : Option (List (Option Int)) → Option (Int × Int)
  | some [some a, some b] => if (1 ≤ a ∧ a ≤ n) ∧ (1 ≤ b ∧ b ≤ n) ∧ a ≠ b then some (a, b) else none
  | _ => none
theorem okT_fw {n : Int} {os : List (Option Int)} (hl : os.length = 2) : (okT n (some os)).isSome = (fw n os [] 0).isNone := by
  match os, hl with
  | [none, _], _ => rfl
  | [some a, none], _ =>
    show false = _
    unfold fw
    by_cases h : 1 ≤ a ∧ a ≤ n ∧ a ∉ []
    · rw [if_pos h]; rfl
    · rw [if_neg h]; rfl
  | [some a, some b], _ =>
    show (if _ then _ else _ : Option (Int × Int)).isSome = _
    unfold fw
    by_cases h : 1 ≤ a ∧ a ≤ n ∧ a ∉ []
    · rw [if_pos h]
      unfold fw
      by_cases h2 : 1 ≤ b ∧ b ≤ n ∧ b ∉ [a]
      · rw [if_pos h2]
        have ne : a ≠ b := fun z => h2.2.2 (by rw [z]; simp)
        rw [if_pos ⟨⟨h.1, h.2.1⟩, ⟨h2.1, h2.2.1⟩, ne⟩]
        rfl
      · rw [if_neg h2]
        by_cases c : (1 ≤ a ∧ a ≤ n) ∧ (1 ≤ b ∧ b ≤ n) ∧ a ≠ b
        · exact absurd ⟨c.2.1.1, c.2.1.2, by simpa using fun z => c.2.2 z.symm⟩ h2
        · rw [if_neg c]; rfl
    · rw [if_neg h]
      by_cases c : (1 ≤ a ∧ a ≤ n) ∧ (1 ≤ b ∧ b ≤ n) ∧ a ≠ b
      · exact absurd ⟨c.1.1, c.1.2, by simp⟩ h
      · rw [if_neg c]; rfl
theorem okT_two {n : Int} {t : Option (List (Option Int))} {p : Int × Int} (h : okT n t = some p) : t = some [some p.1, some p.2] := by
  unfold okT at h
  split at h
  · rename_i a b
    split at h
    · cases h
      rfl
    · cases h
  · cases h
/-- the first that is no tie, or stands ahead -/
def ft (n : Int) : List (Option (List (Option Int))) → List (List Int) → Nat → Option Nat
  | [], _, _ => none
  | t :: r, seen, i => match okT n t with
    | none => some i
    | some p => if key2 p ∈ seen then some i else ft n r (key2 p :: seen) (i + 1)
def KdTs (K : PySem.W.Frag) (H : Hp) (v : V) : Option (List (Option (List (Option Int)))) → Prop
  | some ts => ∃ (a : Addr) (xs : List V), v = .ref a ∧ SqL K H a xs ∧ xs.length ≤ 1000 ∧ Paired (KdL K H) xs ts
  | none => KdL K H v none
theorem pairedL_on {K : PySem.W.Frag} {H H' : Hp} (e : Ex H H') : ∀ {xs : List V} {os : List (Option (List (Option Int)))}, Paired (KdL K H) xs os → Paired (KdL K H') xs os
  | _, _, .nil => .nil
  | _, _, .cons h r => .cons (h.on e) (pairedL_on e r)
theorem KdTs.on {K : PySem.W.Frag} {H H' : Hp} {v : V} {o : Option (List (Option (List (Option Int))))} (e : Ex H H') (h : KdTs K H v o) : KdTs K H' v o := by
  cases o with
  | some os =>
    obtain ⟨a, xs, h1, h2, h3, h4⟩ := h
    exact ⟨a, xs, h1, ex_l e h2, h3, pairedL_on e h4⟩
  | none => exact KdL.on (o := none) e h
def tE (n : Int) : Option (List (Option (List (Option Int)))) → Option V
  | none => some .non
  | some ts => (ft n ts [] 0).map fun (i : Nat) => V.int (i : Int)
section
variable {P : Program} {w : World} {K : PySem.W.Frag} {mg : Str → Option Value} {base : Heap} {A : Ad}
def sp_is_tie (K : PySem.W.Frag) : Sp := fun vs H Q _ => ∃ (v : V) (t : Option (List (Option Int))) (n : Int), vs = [v, .int n] ∧ KdL K H v t ∧ RetV (.bl (okT n t).isSome) H Q
theorem ok_is_tie (T : Txt K mg A) : FnOk P w K mg base CX0 3 A.f_is_tie A.d_is_tie ["thing", "seats"] (sp_is_tie K) := by
  have G_first_wrong : FnOk P w K mg base CX0 2 A.f_first_wrong A.d_first_wrong ["things", "most"] (sp_first_wrong K) := ok_first_wrong T
  refine T.F_is_tie.ok sc_is_tie (fun vs H Q E h => ?_) (fun cdv A' outer s H vs Q E hr h => ?_)
  · obtain ⟨v, t, n, rfl, _⟩ := h
    rfl
  · obtain ⟨v, t, n, rfl, k, q⟩ := h
    refine ⟨_, (pss_one (ps_ret (pe_and (pe_callB call_isi (by rfl) T.z_isinstance (by decide +kernel) (pa_cons (pv 0) (pa_cons (pe_bltn (v := .ty "list") (by rfl) T.z_list (by decide +kernel) rfl) pa_nil))) (pe_and (pe_cmpR op_eq (pe_callB (call_lenK (K := K) rfl) (by rfl) T.z_len PySem.boot_len (pa_cons (pv 0) pa_nil)) pe_int (nomark _)) (pe_one (pe_cmp (pc_isN (pe_call G_first_wrong (hr.mono (by decide)) (by rfl) T.g_first_wrong T.F_first_wrong.kp T.b_first_wrong .nil pass0 (pa_cons (pv 0) (pa_cons (pv 1) pa_nil)))))))))), ?_⟩
    cases t with
    | none =>
      obtain ⟨nm, ty, kl⟩ := kdl_ty k
      exact ⟨_, rfl, _, _, .type nm, .type "list", false, rfl, .ty _, ty, kl, false, rfl, iteF (q H (Ex.refl H))⟩
    | some os =>
      obtain ⟨a, xs, rfl, hS, hl, hp⟩ := k
      have hlen : xs.length = os.length := Paired.length hp
      refine ⟨_, rfl, _, _, .type "list", .type "list", true, rfl, .ty _, tyx_sql hS, kit_ty (by decide +kernel), true, rfl, iteT ?_⟩
      refine ⟨_, rfl, a, xs, rfl, .inl hS, rfl, _, rfl, ?_⟩
      by_cases h2 : os.length = 2
      · rw [decide_eq_true (show V.int (xs.length : Int) = V.int 2 by rw [hlen, h2]; rfl)]
        refine iteT ?_
        refine ⟨_, rfl, _, rfl, a, xs, os, n, rfl, hS, hp, hl, fun H1 e1 => ?_⟩
        rw [okT_fw h2] at q
        cases ef : fw n os [] 0 with
        | none =>
          rw [ef] at q
          exact q H1 e1
        | some i =>
          rw [ef] at q
          exact q H1 e1
      · rw [decide_eq_false (show ¬ V.int (xs.length : Int) = V.int 2 from fun z => h2 (by have z := V.int.inj z; omega))]
        refine iteF ?_
        have e : (okT n (some os)).isSome = false := by
          cases ek : okT n (some os) with
          | none => rfl
          | some p =>
            have z := Option.some.inj (okT_two ek)
            exact absurd (by rw [z]; rfl) h2
        rw [e] at q
        exact q H (Ex.refl H)
def sp_check_ties (K : PySem.W.Frag) (A : Ad) : Sp := fun vs H Q E => ∃ (v : V) (t : Option (List (Option (List (Option Int))))) (n : Int), vs = [v, .int n] ∧ KdTs K H v t ∧ Chk (tE n t) A.c_InvalidTies "index" H Q E
theorem ok_check_ties (T : Txt K mg A) : FnOk P w K mg base (L2.CX P w) 5 A.f_check_ties A.d_check_ties ["ties", "seats"] (sp_check_ties K A) := by
  have G_is_tie : FnOk P w K mg base CX0 3 A.f_is_tie A.d_is_tie ["thing", "seats"] (sp_is_tie K) := ok_is_tie T
  have G_InvalidTies_init : FnOk P w K mg base CX0 1 A.f_InvalidTies_init A.d_InvalidTies_init ["self", "index"] (spOi A.c_InvalidTies "index") := ok_InvalidTies_init T
  refine T.F_check_ties.okX sc_check_ties (fun vs H Q E h => ?_) (fun cdv A' outer s H vs Q E hr h => ?_)
  · obtain ⟨v, t, n, rfl, _⟩ := h
    rfl
  · obtain ⟨v, t, n, rfl, k, q1, q2⟩ := h
    refine ⟨_, (pss_cons (ps_if (pt_not (pt_val (pe_callB call_isi (by rfl) T.z_isinstance (by decide +kernel) (pa_cons (pv 0) (pa_cons (pe_bltn (v := .ty "list") (by rfl) T.z_list (by decide +kernel) rfl) pa_nil))))) (pss_one (ps_raise rfl (takes_of rfl rfl rfl rfl) (pmk_oex T.x_InvalidTies T.i_InvalidTies T.t_InvalidTies G_InvalidTies_init (hr.mono (by decide)) T.b_InvalidTies_init .nil pass0 (by rfl) T.c_InvalidTies (pa_cons pe_non pa_nil)))) pss_nil)
      (pss_cons (ps_set (i := 2) sc_check_ties.nd rfl (by first | exact .inl rfl | exact .inr rfl) (pe_callTy0 cr_set0W (by rfl) T.z_set (by decide +kernel)))
      (pss_one (ps_for (passes_of rfl) rfl (pi_enum (by rfl) T.z_enumerate (pa_cons (pv 0) pa_nil)) (pg_tupK (n := 2) (K := K) rfl rfl (pgs_cons (pg_name (i := 3) sc_check_ties.nd rfl (by first | exact .inl rfl | exact .inr rfl)) (pgs_cons (pg_name (i := 4) sc_check_ties.nd rfl (by first | exact .inl rfl | exact .inr rfl)) pgs_nil))) (pss_cons (ps_if (pt_not (pt_val (pe_call G_is_tie (hr.mono (by decide)) (by rfl) T.g_is_tie T.F_is_tie.kp T.b_is_tie .nil pass0 (pa_cons (pv 4) (pa_cons (pv 1) pa_nil))))) (pss_one (ps_raise rfl (takes_of rfl rfl rfl rfl) (pmk_oex T.x_InvalidTies T.i_InvalidTies T.t_InvalidTies G_InvalidTies_init (hr.mono (by decide)) T.b_InvalidTies_init .nil pass0 (by rfl) T.c_InvalidTies (pa_cons (pv 3) pa_nil)))) pss_nil)
      (pss_cons (ps_set (i := 5) sc_check_ties.nd rfl (by first | exact .inl rfl | exact .inr rfl) (pe_callTy call_tuple_of (by rfl) T.z_tuple (by decide +kernel) (pa_cons (pe_callB (cr_sortedK (K := K) rfl) (by rfl) T.z_sorted (by decide +kernel) (pa_cons (pv 4) pa_nil)) pa_nil)))
      (pss_cons (ps_if (pt_cmpR (op_inW (hu10 hr)) (pv 5) (pv 2) (by rfl)) (pss_one (ps_raise rfl (takes_of rfl rfl rfl rfl) (pmk_oex T.x_InvalidTies T.i_InvalidTies T.t_InvalidTies G_InvalidTies_init (hr.mono (by decide)) T.b_InvalidTies_init .nil pass0 (by rfl) T.c_InvalidTies (pa_cons (pv 3) pa_nil)))) pss_nil)
      (pss_one (ps_expr (pe_saddW (hu10 hr) (pv 2) (pa_cons (pv 5) pa_nil))))))))))), ?_⟩
    cases t with
    | none =>
      obtain ⟨nm, ty, kl⟩ := kdl_ty k
      refine ⟨_, rfl, _, _, .type nm, .type "list", false, rfl, .ty _, ty, kl, false, rfl, iteT ?_⟩
      exact ⟨Nat.le_of_ble_eq_true rfl, raiseV_mk (q2 _ rfl)⟩
    | some ts =>
      obtain ⟨a, xs, rfl, hS, hl, hp⟩ := k
      refine ⟨_, rfl, _, _, .type "list", .type "list", true, rfl, .ty _, tyx_sql hS, kit_ty (by decide +kernel), true, rfl, iteF ?_⟩
      refine ⟨rfl, fun p np => ?_⟩
      have e0 : Ex H (upd H p (SetWO P w p [])) := Ex.new np
      refine ⟨.ref a, rfl, a, xs, rfl, ex_l e0 hS, ?_⟩
      refine for_enumL (xs := xs) (fun i σ' H' => (∃ y3 y4 y5, σ' = [some (.ref a), some (.int n), some (.ref p), y3, y4, y5]) ∧ Ex H H' ∧
          ∃ L seen, H' p = some (SetWO P w p L) ∧ L.length ≤ i ∧ (∀ x ∈ L, SqT K H' x.1 (x.2.map V.int)) ∧ (∀ k, k ∈ L.map (·.2) ↔ k ∈ seen) ∧ ft n ts [] 0 = ft n (ts.drop i) seen i)
        ⟨⟨none, none, none, rfl⟩, e0, [], [], upd_same, Nat.le_refl _, (fun x hx => by cases hx), (fun k => ⟨(fun z => by cases z), (fun z => by cases z)⟩), rfl⟩ (fun i σ' H' z => ex_l z.2.1 hS) ?_ ?_
      · rintro i x Tt σ' H' hx ⟨⟨y3, y4, y5, rfl⟩, e1, L, seen, hp1, hLi, hLt, hLk, ef⟩ nT
        obtain ⟨t, ht, kx⟩ := paired_at hp hx
        have hi : i < xs.length := (List.getElem?_eq_some_iff.mp hx).1
        rw [drop_at ht] at ef
        have e2 : Ex H' (upd H' Tt (.tup [.int (i : Nat), x])) := Ex.new nT
        refine ⟨Tt, _, rfl, .inl (.inl upd_same), rfl, _, _, rfl, _, _, rfl, rfl, ?_⟩
        -- if not is_tie(tie, seats)
        have kx2 := kx.on (e1.trans e2)
        refine ⟨_, rfl, _, rfl, x, t, n, rfl, kx2, fun H3 e3 => ?_⟩
        have E3 : Ex H H3 := (e1.trans e2).trans e3
        have raise : ft n ts [] 0 = some i → ∀ H', Ex H H' → RaiseV A.c_InvalidTies "index" (.int (i : Int)) H' E := fun z H' e => (q2 _ (by show (ft n ts [] 0).map _ = _; rw [z]; rfl)).on e
        cases et : okT n t with
        | none =>
          refine ⟨false, rfl, iteT ⟨_, rfl, Nat.le_of_ble_eq_true rfl, raiseV_mk (raise ?_ H3 E3)⟩⟩
          rw [ef]
          unfold ft
          rw [et]
        | some pr =>
          refine ⟨true, rfl, iteF ?_⟩
          have et2 := okT_two et
          subst et2
          obtain ⟨b, bs, rfl, hB, _, hpB⟩ := kx2.on e3
          obtain rfl : bs = [.int pr.1, .int pr.2] := by
            cases hpB with
            | cons h1 r => cases r with
              | cons h2 r => cases r with
                | nil => rw [show _ = V.int pr.1 from h1, show _ = V.int pr.2 from h2]
          -- pair = tuple(sorted(tie))
          refine ⟨_, rfl, b, [pr.1, pr.2], rfl, hB, (by show 2 < 64; decide), fun ns' p4 pm sr np4 => ?_⟩
          obtain rfl := sorted_two pm sr
          have e4 : Ex H3 (upd H3 p4 (.lst ((key2 pr).map V.int))) := Ex.new np4
          refine ⟨p4, _, rfl, .inl ⟨.inl (.inl upd_same), fun tp ntp => ?_⟩⟩
          have e5 : Ex (upd H3 p4 (.lst ((key2 pr).map V.int))) (upd (upd H3 p4 (.lst ((key2 pr).map V.int))) tp (.tup ((key2 pr).map V.int))) := Ex.new ntp
          have eall := (e2.trans e3).trans (e4.trans e5)
          have tpat : SqT K (upd (upd H3 p4 (.lst ((key2 pr).map V.int))) tp (.tup ((key2 pr).map V.int))) tp ((key2 pr).map V.int) := .inl (.inl upd_same)
          generalize upd (upd H3 p4 (.lst ((key2 pr).map V.int))) tp (.tup ((key2 pr).map V.int)) = H5 at e5 eall tpat
          have hp5 := eall _ _ hp1
          have hL5 : ∀ x ∈ L, SqT K H5 x.1 (x.2.map V.int) := fun x hx => ex_t eall (hLt x hx)
          have ef2 : ft n ts [] 0 = if key2 pr ∈ seen then some i else ft n (ts.drop (i + 1)) (key2 pr :: seen) (i + 1) := by
            rw [ef]
            conv => lhs; unfold ft
            rw [et]
          -- if pair in tied
          refine ⟨_, rfl, _, rfl, p, tp, key2 pr, L, rfl, rfl, hp5, tpat, hL5, ?_⟩
          by_cases fresh : key2 pr ∈ L.map (·.2)
          · rw [decide_eq_true fresh]
            refine ⟨true, rfl, iteT ⟨_, rfl, Nat.le_of_ble_eq_true rfl, raiseV_mk (raise ?_ H5 (e1.trans eall))⟩⟩
            rw [ef2]
            exact if_pos ((hLk _).mp fresh)
          · rw [decide_eq_false fresh]
            refine ⟨false, rfl, iteF ?_⟩
            -- tied.add(pair)
            refine ⟨_, rfl, ⟨p, L, rfl, hp5⟩, _, rfl, p, tp, key2 pr, L, rfl, rfl, hp5, tpat, hL5, by omega, fun L' _ hL' => ?_⟩
            have pm := hL' fresh
            refine ⟨⟨_, _, _, rfl⟩, Ex.mut (e1.trans eall) np, L', key2 pr :: seen, upd_same, by rw [pm.length_eq]; simp; omega, fun x hx => ?_, fun k => ?_, ?_⟩
            · have e6 : SqT K H5 x.1 (x.2.map V.int) := by
                rcases List.mem_cons.mp (pm.mem_iff.mp hx) with rfl | hx
                · exact tpat
                · exact hL5 x hx
              exact sqT_upd e6 hp5 (fun ys z => by cases z) (fun ob u z => by cases z)
            · rw [(pm.map (·.2)).mem_iff, List.map_cons, List.mem_cons, List.mem_cons, hLk k]
            · rw [ef2]
              exact if_neg fun z => fresh ((hLk _).mpr z)
      · rintro σ' H' ⟨_, e1, L, seen, _, _, _, _, ef⟩
        refine q1 ?_ H' e1
        show (ft n ts [] 0).map _ = none
        rw [ef, List.drop_eq_nil_of_le (Nat.le_of_eq (Paired.length hp).symm)]
        rfl
def sp_check_net (K : PySem.W.Frag) (A : Ad) : Sp := fun vs H Q E => ∃ (u v : V) (o : Option Int) (t : Option (List (Option (List (Option Int))))), vs = [u, v] ∧ Kd K H u o ∧ (okC o = false → RaiseV A.c_InvalidNumber "number" u H E) ∧
  (okC o = true → KdTs K H v t ∧ ∀ n, o = some n → Chk (tE n t) A.c_InvalidTies "index" H Q E)
theorem ok_check_net (T : Txt K mg A) : FnOk P w K mg base (L2.CX P w) 6 A.f_check_net A.d_check_net ["seats", "ties"] (sp_check_net K A) := by
  have G_check_count : FnOk P w K mg base (L2.CX P w) 3 A.f_check_count A.d_check_count ["number"] (sp_check_count K A) := ok_check_count T
  have G_check_ties : FnOk P w K mg base (L2.CX P w) 5 A.f_check_ties A.d_check_ties ["ties", "seats"] (sp_check_ties K A) := ok_check_ties T
  refine T.F_check_net.okX sc_check_net (fun vs H Q E h => ?_) (fun cdv A' outer s H vs Q E hr h => ?_)
  · obtain ⟨u, v, o, t, rfl, _⟩ := h
    rfl
  · obtain ⟨u, v, o, t, rfl, ku, q1, q2⟩ := h
    refine ⟨_, (pss_cons (ps_expr (pe_call G_check_count (hr.mono (by decide)) (by rfl) T.g_check_count T.F_check_count.kp T.b_check_count .nil (passes_call (takes_of rfl rfl rfl rfl) (fun _ _ _ _ h => h)) (pa_cons (pv 0) pa_nil)))
      (pss_one (ps_expr (pe_call G_check_ties (hr.mono (by decide)) (by rfl) T.g_check_ties T.F_check_ties.kp T.b_check_ties .nil (passes_call (takes_of rfl rfl rfl rfl) (fun _ _ _ _ h => h)) (pa_cons (pv 1) (pa_cons (pv 0) pa_nil)))))), ?_⟩
    refine ⟨_, rfl, u, o, rfl, ku, fun z H1 e1 => ?_, q1⟩
    obtain ⟨kt, q3⟩ := q2 z
    cases o with
    | none => cases z
    | some n =>
      cases ku
      obtain ⟨q4, q5⟩ := q3 n rfl
      exact ⟨_, rfl, _, rfl, v, t, n, rfl, kt.on e1, fun z H2 e2 => q4 z H2 (e1.trans e2), fun x hx => (q5 x hx).on e1⟩
end
end K41

namespace K41
open PySem PySem.Spec PyProof.Rows L2 Vf Evl
section
variable {P : Program} {w : World} {K : PySem.W.Frag} {mg : Str → Option Value} {base : Heap} {A : Ad}
def sp_check_call (K : PySem.W.Frag) (A : Ad) : Sp := fun vs H Q E => ∃ (v : V) (o : Option Int) (n : Int), vs = [v, .int n] ∧ Kd K H v o ∧ (okI n o = true → RetV .non H Q) ∧ (okI n o = false → RaiseV A.c_UnknownCall "number" v H E)
theorem ok_check_call (T : Txt K mg A) : FnOk P w K mg base (L2.CX P w) 3 A.f_check_call A.d_check_call ["number", "count"] (sp_check_call K A) := by
  have G_is_from_one : FnOk P w K mg base CX0 1 A.f_is_from_one A.d_is_from_one ["thing", "most"] (sp_is_from_one K) := ok_is_from_one T
  have G_UnknownCall_init : FnOk P w K mg base CX0 1 A.f_UnknownCall_init A.d_UnknownCall_init ["self", "number"] (spOi A.c_UnknownCall "number") := ok_UnknownCall_init T
  refine T.F_check_call.okX sc_check_call (fun vs H Q E h => ?_) (fun cdv A' outer s H vs Q E hr h => ?_)
  · obtain ⟨v, o, n, rfl, _⟩ := h
    rfl
  · obtain ⟨v, o, n, rfl, k, q1, q2⟩ := h
    refine ⟨_, (pss_one (ps_if (pt_not (pt_val (pe_call G_is_from_one (hr.mono (by decide)) (by rfl) T.g_is_from_one T.F_is_from_one.kp T.b_is_from_one .nil pass0 (pa_cons (pv 0) (pa_cons (pv 1) pa_nil))))) (pss_one (ps_raise rfl (takes_of rfl rfl rfl rfl) (pmk_oexL T.x_UnknownCall T.i_UnknownCall T.t_UnknownCall G_UnknownCall_init (hr.mono (by decide)) T.b_UnknownCall_init pass0 (by rfl) T.c_UnknownCall (pa_cons (pv 0) pa_nil)))) pss_nil)), ?_⟩
    refine ⟨_, rfl, _, rfl, v, o, n, rfl, k, fun H1 e1 => ?_⟩
    cases z : okI n o with
    | true => exact ⟨true, rfl, iteF (q1 z H1 e1)⟩
    | false => exact ⟨false, rfl, iteT ⟨_, rfl, Nat.le_of_ble_eq_true rfl, raiseV_mk ((q2 z).on e1)⟩⟩
end
end K41

namespace K41
open PySem PySem.Spec PyProof.Rows L2 Vf Evl

/-! ### what is due, check by check -/
def CountR (K : PySem.W.Frag) (A : Ad) (u : V) (H : Hp) (E : XK) (next : Int → Prop) : Prop := ∃ o, Kd K H u o ∧ ((okC o = false ∧ RaiseV A.c_InvalidNumber "number" u H E) ∨ (∃ n, o = some n ∧ okC o = true ∧ next n))
def NetR (K : PySem.W.Frag) (A : Ad) (u v : V) (H : Hp) (E : XK) (next : Int → Prop) : Prop := CountR K A u H E fun n => ∃ t, KdTs K H v t ∧ ((∃ x, tE n t = some x ∧ RaiseV A.c_InvalidTies "index" x H E) ∨ (tE n t = none ∧ next n))
def LenR (K : PySem.W.Frag) (C : Addr) (err : Int → Option (List (Option Int)) → Option V) (v : V) (n : Int) (H : Hp) (E : XK) (next : Prop) : Prop := ∃ t, KdL K H v t ∧ ((∃ x, err n t = some x ∧ RaiseV C "index" x H E) ∨ (err n t = none ∧ next))
theorem chk_quiet {r : Option V} {C : Addr} {fld : Str} {H : Hp} {Q : VK} {E : XK} (h : r = none) (q : RetV .non H Q) : Chk r C fld H Q E := ⟨fun _ => q, fun x z => by rw [h] at z; cases z⟩
theorem chk_raise {r : Option V} {C : Addr} {fld : Str} {x : V} {H : Hp} {Q : VK} {E : XK} (h : r = some x) (q : RaiseV C fld x H E) : Chk r C fld H Q E := ⟨fun z => (by rw [h] at z; cases z), fun y z => by rw [h] at z; cases z; exact q⟩
theorem Chk.on {r : Option V} {C : Addr} {fld : Str} {H H1 : Hp} {Q : VK} {E : XK} (h : Chk r C fld H Q E) (e : Ex H H1) : Chk r C fld H1 Q E := ⟨fun z H' e' => h.1 z H' (e.trans e'), fun x z => (h.2 x z).on e⟩
section
variable {K : PySem.W.Frag} {A : Ad} {u v : V} {n : Int} {H H1 : Hp} {E : XK} {Q : VK} {C : Addr} {err : Int → Option (List (Option Int)) → Option V}
theorem count_step {next : Int → Prop} (h : CountR K A u H E next) (e : Ex H H1) (q : ∀ n, u = .int n → next n → RetV .non H1 Q) : sp_check_count K A [u] H1 Q E := by
  obtain ⟨o, k, r⟩ := h
  refine ⟨u, o, rfl, k.on e, fun z => ?_, fun z => ?_⟩
  · rcases r with ⟨z', _⟩ | ⟨n, rfl, _, m⟩
    · rw [z] at z'; cases z'
    · exact q n k m
  · rcases r with ⟨_, m⟩ | ⟨n, rfl, z', _⟩
    · exact m.on e
    · rw [z] at z'; cases z'
theorem net_step {next : Int → Prop} (h : NetR K A u v H E next) (e : Ex H H1) (q : ∀ n, u = .int n → next n → RetV .non H1 Q) : sp_check_net K A [u, v] H1 Q E := by
  obtain ⟨o, k, r⟩ := h
  rcases r with ⟨z', m⟩ | ⟨n, rfl, z', t, kt, r⟩
  · exact ⟨u, v, o, none, rfl, k.on e, fun _ => m.on e, fun z => by rw [z] at z'; cases z'⟩
  · refine ⟨u, v, some n, t, rfl, k.on e, fun z => (by rw [z] at z'; cases z'), fun _ => ⟨kt.on e, fun n' en => ?_⟩⟩
    cases en
    rcases r with ⟨x, ex, m⟩ | ⟨ex, m⟩
    · exact chk_raise ex (m.on e)
    · exact chk_quiet ex (q n k m)
theorem len_step {next : Prop} (h : LenR K C err v n H E next) (e : Ex H H1) (q : next → RetV .non H1 Q) : sp_check_len K C err [v, .int n] H1 Q E := by
  obtain ⟨t, k, r⟩ := h
  refine ⟨v, t, n, rfl, k.on e, ?_⟩
  rcases r with ⟨x, ex, m⟩ | ⟨ex, m⟩
  · exact chk_raise ex (m.on e)
  · exact chk_quiet ex (q m)
end
section
variable {P : Program} {w : World} {K : PySem.W.Frag} {mg : Str → Option Value} {base : Heap} {A : Ad}
end
end K41

/-! A text times a number. -/
namespace Vf
open PySem PySem.Spec PyProof.Rows L2 Evl
def rMulS : R2 := fun x y H Q => ∃ (a : Str) (n : Int), x = .str a ∧ y = .int n ∧ MulOk a n ∧ Q (.str (Txt.mul a n)) H
theorem op_repS {X : Cx} : OpR X (binaryOp .Mult) rMulS := by
  intro pins s σ H x y v u Q I rx ry h
  obtain ⟨a, n, rfl, rfl, hk, q⟩ := h
  obtain ⟨t, rfl⟩ := rx
  obtain ⟨t2, rfl⟩ := ry
  exact PySem.SB.mul hk fun t' k => ⟨.str _, H, I.tok _, ⟨_, rfl⟩, q⟩
/-- repr within a block, too -/
theorem call_repr_K {X : Cx} {K : PySem.W.Frag} {A0 : Around} {k : Nat} (hgd : A0.guards = some []) (hr : Room k X.A) (hK : X.K = K := by rfl) (hA : X.A.guards = A0.guards := by rfl) : CallR X (.builtin "repr") (rReprX K) := by
  subst hK
  rw [← hA] at hgd
  exact call_repr_X hgd hr
theorem op_neK {X : Cx} {K : PySem.W.Frag} (hu : X.A.units + 64 < cLine) (hK : X.K = K := by rfl) : OpR X (compareOp .NotEq) (rNeD K) := by
  subst hK
  exact op_neD hu
end Vf

namespace K41
open PySem PySem.Spec PyProof.Rows L2 Vf Evl
theorem two_fits (x y : V) : [x, y].length ≤ sizeLine := by
  show 2 ≤ _
  rw [sizeLine_eq]
  decide
theorem three_fits (x y z : V) : [x, y, z].length ≤ sizeLine := by
  show 3 ≤ _
  rw [sizeLine_eq]
  decide
theorem few_le {n : Nat} (h : n < 10) : n ≤ sizeLine := by
  rw [sizeLine_eq]
  omega
theorem few_lt {n : Nat} (h : n < 10) : n < sizeLine := by
  rw [sizeLine_eq]
  omega
/-- where an error's index points -/
def IxV (v : V) : Prop := v = .non ∨ ∃ i : Nat, i < 100 ∧ v = .int (i : Int)

/-! ### lots of wrong rows -/
/-- a wrong row, and where -/
def Lot (K : PySem.W.Frag) (n : Int) (H : Hp) (b : Addr) : Prop := ∃ (bad v : V) (t : Option (List (Option Int))), H b = some (.tup [bad, v]) ∧ KdL K H bad t ∧ seE n t = some v ∧ IxV v
section
variable {P : Program} {w : World} {K : PySem.W.Frag} {mg : Str → Option Value} {base : Heap} {A : Ad}
theorem Lot.on {n : Int} {H H' : Hp} {b : Addr} (h : Lot K n H b) (e : Ex H H') : Lot K n H' b := by
  obtain ⟨bad, v, t, h1, h2, h3, h4⟩ := h
  exact ⟨bad, v, t, e _ _ h1, h2.on e, h3, h4⟩
def LotsAt (K : PySem.W.Frag) (n : Int) (H : Hp) (p : Addr) : Prop := ∃ ps : List Addr, H p = some (.lst (ps.map V.ref)) ∧ ps.length ≤ 1000 ∧ ∀ b ∈ ps, Lot K n H b
theorem fw_pre {m : Int} : ∀ (pre seen : List Int) (rest : List (Option Int)) (i : Nat), (∀ x ∈ pre, 1 ≤ x ∧ x ≤ m) → pre.Nodup → (∀ x ∈ pre, x ∉ seen) → fw m (pre.map some ++ rest) seen i = fw m rest (pre.reverse ++ seen) (i + pre.length)
  | [], seen, rest, i, _, _, _ => rfl
  | x :: pre, seen, rest, i, hb, nd, hs => by
    have h1 := hb x List.mem_cons_self
    show (if 1 ≤ x ∧ x ≤ m ∧ x ∉ seen then fw m (pre.map some ++ rest) (x :: seen) (i + 1) else some i) = _
    rw [if_pos ⟨h1.1, h1.2, hs x List.mem_cons_self⟩, fw_pre pre (x :: seen) rest (i + 1) (fun y hy => hb y (List.mem_cons_of_mem _ hy)) (List.nodup_cons.mp nd).2 (fun y hy z => ?_)]
    · rw [List.reverse_cons, List.append_assoc]
      show fw m rest (pre.reverse ++ (x :: seen)) (i + 1 + pre.length) = fw m rest (pre.reverse ++ ([x] ++ seen)) (i + (pre.length + 1))
      rw [show i + 1 + pre.length = i + (pre.length + 1) by omega]
      rfl
    · rcases List.mem_cons.mp z with z | z
      · exact (List.nodup_cons.mp nd).1 (z ▸ hy)
      · exact hs y (List.mem_cons_of_mem _ hy) z
/-- what may not stand behind pre -/
def badO (m : Int) (pre : List Int) : Option Int → Prop
  | none => True
  | some i => ¬ (1 ≤ i ∧ i ≤ m) ∨ i ∈ pre
theorem fw_bad {m : Int} {pre : List Int} {o : Option Int} {rest : List (Option Int)} (hb : ∀ x ∈ pre, 1 ≤ x ∧ x ≤ m) (nd : pre.Nodup) (h : badO m pre o) : fw m (pre.map some ++ o :: rest) [] 0 = some pre.length := by
  rw [fw_pre pre [] (o :: rest) 0 hb nd (fun x _ z => by cases z), List.append_nil, Nat.zero_add]
  cases o with
  | none => rfl
  | some i =>
    refine if_neg fun z => ?_
    rcases h with h | h
    · exact h ⟨z.1, z.2.1⟩
    · exact z.2.2 (List.mem_reverse.mpr h)
theorem paired_app {α β : Type} {R : α → β → Prop} : ∀ {xs ys : List α} {os ps : List β}, Paired R xs os → Paired R ys ps → Paired R (xs ++ ys) (os ++ ps)
  | _, _, _, _, .nil, h => h
  | _, _, _, _, .cons a r, h => .cons a (paired_app r h)
theorem paired_ints {K : PySem.W.Frag} {H : Hp} : ∀ (ns : List Int), Paired (Kd K H) (ns.map V.int) (ns.map some)
  | [] => .nil
  | _ :: r => .cons rfl (paired_ints r)
theorem paired_non {K : PySem.W.Frag} {H : Hp} : ∀ (k : Nat), Paired (Kd K H) (List.replicate k V.non) (List.replicate k none)
  | 0 => .nil
  | k + 1 => .cons ⟨"NoneType", rfl, .base .non⟩ (paired_non k)
/-- a row with one wrong thing behind pre -/
theorem lot_row {K : PySem.W.Frag} {H : Hp} {lp tp : Addr} {pre : List Int} {x : V} {o : Option Int} {k n : Nat} (hl : H lp = some (.lst (pre.map V.int ++ [x] ++ List.replicate k V.non))) (ht : H tp = some (.tup [.ref lp, .int (pre.length : Int)])) (hn : pre.length + 1 + k = n) (h3 : 3 ≤ n) (h40 : n ≤ 40)
    (hb : ∀ y ∈ pre, 1 ≤ y ∧ y ≤ (n : Int)) (nd : pre.Nodup) (hx : Kd K H x o) (bo : badO n pre o) : Lot K n H tp := by
  have len : (pre.map some ++ [o] ++ List.replicate k none).length = n := by simp only [List.length_append, List.length_map, List.length_singleton, List.length_replicate]; exact hn
  have ef : fw n (pre.map some ++ [o] ++ List.replicate k none) [] 0 = some pre.length := by
    rw [List.append_assoc]
    exact fw_bad hb nd bo
  refine ⟨.ref lp, .int (pre.length : Int), some (pre.map some ++ [o] ++ List.replicate k none), ht, ⟨lp, _, rfl, .inl (.inl hl), ?_, paired_app (paired_app (paired_ints pre) (.cons hx .nil)) (paired_non k)⟩, ?_, ?_⟩
  · simp only [List.length_append, List.length_map, List.length_singleton, List.length_replicate]
    omega
  · show (if _ then _ else _) = _
    rw [if_pos (by rw [len]), ef]
    rfl
  · exact .inr ⟨pre.length, by omega, rfl⟩
/-- a thing that is no list -/
theorem lot_thing {K : PySem.W.Frag} {H : Hp} {tp : Addr} {x : V} {n : Int} {ty : String} (ht : H tp = some (.tup [x, .non])) (h1 : ty = "int" ∨ oddT ty = true) (h2 : ty ≠ "list") (h3 : TyX K H x (.type ty)) : Lot K n H tp := ⟨x, .non, none, ht, ⟨ty, h1, h2, h3⟩, rfl, .inl rfl⟩
theorem ex_del {H H' : Hp} {D : Addr} (e : Ex H H') : Ex (del H D) (del H' D) := fun b o z => by
  by_cases hb : b = D
  · rw [hb, del_same] at z
    cases z
  · rw [del_ne hb] at z ⊢
    exact e b o z
theorem del_upd {H : Hp} {D : Addr} {o : HO} : del (upd H D o) D = del H D := by
  funext b
  by_cases hb : b = D
  · rw [hb, del_same, del_same]
  · rw [del_ne hb, del_ne hb, upd_ne hb]
theorem ex_to_del {H H' : Hp} {D : Addr} (e : Ex H H') (n : H D = none) : Ex H (del H' D) := fun b o z => by
  rw [del_ne (ne_of_none z n)]
  exact e b o z
theorem del_ex {H : Hp} {D : Addr} : Ex (del H D) H := fun b o z => by
  by_cases hb : b = D
  · rw [hb, del_same] at z
    cases z
  · rwa [del_ne hb] at z
def LotsB (K : PySem.W.Frag) (n : Int) (H : Hp) (p : Addr) (m : Nat) : Prop := ∃ ps : List Addr, H p = some (.lst (ps.map V.ref)) ∧ ps.length ≤ m ∧ ∀ b ∈ ps, Lot K n (del H p) b
/-- one lot more -/
theorem LotsB.app {K : PySem.W.Frag} {n : Int} {H' H6 : Hp} {p tp : Addr} {m : Nat} {ps : List Addr} (h1 : H' p = some (.lst (ps.map V.ref))) (h2 : ps.length ≤ m) (h3 : ∀ b ∈ ps, Lot K n (del H' p) b) (e : Ex H' H6) (h : Lot K n (del H6 p) tp) : LotsB K n (upd H6 p (.lst (ps.map V.ref ++ [.ref tp]))) p (m + 1) := by
  refine ⟨ps ++ [tp], ?_, ?_, fun b hb => ?_⟩
  · rw [upd_same, List.map_append]
    rfl
  · rw [List.length_append]
    exact Nat.succ_le_succ h2
  · rw [del_upd]
    rcases List.mem_append.mp hb with y | y
    · exact (h3 b y).on (ex_del e)
    · rw [List.mem_singleton.mp y]
      exact h
/-- lots.append((row[:at] + [x] + [None] * (many - 1 - at), at)) -/
theorem s_lot {σ : L2.St} {D : Ends} {H' : Hp} {a Dl : Addr} {ns : List Int} {x : V} {o : Option Int} {i m : Nat} {tx : TE} (h3 : 3 ≤ ns.length) (h8 : ns.length ≤ 8) (hb : ∀ x ∈ ns, 1 ≤ x ∧ x ≤ ns.length) (nd : ns.Nodup) (hi : i < ns.length)
    (s0 : σ[0]? = some (some (.ref a))) (s1 : σ[1]? = some (some (.int (ns.length : Int)))) (s2 : σ[2]? = some (some (.ref Dl))) (s3 : σ[3]? = some (some (.int (i : Int)))) (hS : SqL K H' a (ns.map V.int)) (hx : Ev tx σ H' x) (kx : Kd K (del H' Dl) x o) (bo : badO ns.length (ns.take i) o)
    (L : LotsB K ns.length H' Dl m) (hm : m < 500) (k : ∀ H2, Ex (del H' Dl) (del H2 Dl) → LotsB K ns.length H2 Dl (m + 1) → D.nx σ H2) :
    tDrop (tBM K "list" rAppend (tVar 2) (tCons (tTup (tCons (tOp rCat (tOp rCat (tSl (rSlL K) (tVar 0) tNoPart (tPart (tVar 3))) (tLst (tCons tx tNil)))
      (tOp rRep (tLst (tCons (tC V.non) tNil)) (tOp (rI0 fun i j => V.int (i - j)) (tOp (rI0 fun i j => V.int (i - j)) (tVar 1) (tC (V.int 1))) (tVar 3)))) (tCons (tVar 3) tNil))) tNil)) D σ H' := by
  obtain ⟨ps, z2, z3, z4⟩ := L
  have hl : EvL (tOp rCat (tOp rCat (tSl (rSlL K) (tVar 0) tNoPart (tPart (tVar 3))) (tLst (tCons tx tNil)))
      (tOp rRep (tLst (tCons (tC V.non) tNil)) (tOp (rI0 fun i j => V.int (i - j)) (tOp (rI0 fun i j => V.int (i - j)) (tVar 1) (tC (V.int 1))) (tVar 3)))) σ H' (((ns.take i).map V.int ++ [x]) ++ List.replicate (ns.length - 1 - i) V.non) := by
    have e1 : EvL (tSl (rSlL K) (tVar 0) tNoPart (tPart (tVar 3))) σ H' ((ns.take i).map V.int) := by
      have z := el_sl (K := K) (ev_var (H := H') s0) eo_none (eo_some (ev_var s3)) hS
      rw [cut_to, ← List.map_take] at z
      exact z
    have e2 : EvL (tOp rRep (tLst (tCons (tC V.non) tNil)) (tOp (rI0 fun i j => V.int (i - j)) (tOp (rI0 fun i j => V.int (i - j)) (tVar 1) (tC (V.int 1))) (tVar 3))) σ H' (List.replicate (ns.length - 1 - i) V.non) := by
      have m1 : Ev (tOp (rI0 fun i j => V.int (i - j)) (tVar 1) (tC (V.int 1))) σ H' (.int ((ns.length : Int) - 1)) := ev_op (ev_var s1) ev_c rv_I0
      have m2 : Ev (tOp (rI0 fun i j => V.int (i - j)) (tOp (rI0 fun i j => V.int (i - j)) (tVar 1) (tC (V.int 1))) (tVar 3)) σ H' (.int ((ns.length : Int) - 1 - (i : Int))) := ev_op m1 (ev_var s3) rv_I0
      have z := el_rep (el_lst (σ := σ) (H := H') (ea_cons (ev_c (v := V.non)) ea_nil) (by show 1 ≤ 100000; decide)) m2 (by omega) (by show 1 * _ ≤ 100000; omega)
      rw [rep_flat, show ((ns.length : Int) - 1 - (i : Int)).toNat = ns.length - 1 - i by omega] at z
      exact z
    exact el_cat (el_cat e1 (el_lst (ea_cons hx ea_nil) (by show 1 ≤ 100000; decide)) (by simp only [List.length_map, List.length_take, List.length_singleton]; omega)) e2 (by simp only [List.length_append, List.length_map, List.length_take, List.length_singleton, List.length_replicate]; omega)
  refine ⟨_, s2, .inl ⟨rfl, _, .inl (.inl z2)⟩, hl H' (Ex.refl H') _ fun lp H7 nlp e7 hlp => ⟨_, s3, two_fits _ _, fun tp ntp => ?_⟩⟩
  have e8 : Ex H7 (upd H7 tp (.tup [.ref lp, .int (i : Int)])) := Ex.new ntp
  have htp : upd H7 tp (.tup [.ref lp, .int (i : Int)]) tp = some (.tup [.ref lp, .int (i : Int)]) := upd_same
  have neT : tp ≠ Dl := fun y => by rw [y, e7 _ _ z2] at ntp; cases ntp
  have neL : lp ≠ Dl := fun y => by rw [y, z2] at nlp; cases nlp
  generalize upd H7 tp (.tup [.ref lp, .int (i : Int)]) = H8 at e8 htp
  have e18 : Ex H' H8 := e7.trans e8
  refine ⟨Dl, _, _, rfl, rfl, e18 _ _ z2, by rw [List.length_map]; exact sz_lt (by omega), ?_⟩
  have tk : (ns.take i).length = i := by rw [List.length_take]; omega
  refine k _ (by rw [del_upd]; exact ex_del e18) (LotsB.app z2 z3 z4 e18 (lot_row (lp := lp) (pre := ns.take i) (x := x) (o := o) (k := ns.length - 1 - i) (by rw [del_ne neL]; exact e8 _ _ hlp) (by rw [del_ne neT, tk]; exact htp) (by rw [tk]; omega) h3 (by omega) (fun y hy => hb y (List.mem_of_mem_take hy)) (nd.sublist (List.take_sublist _ _)) (kx.on (ex_del e18)) bo))
end
end K41

/-! Rounds: where the people sit (places), calls, rounds, when all sit as at first. -/
namespace MR
abbrev g0 (l : List Int) (i : Int) : Int := l.getD i.toNat 0
def nxt (n c : Int) : Int := c % n + 1
def stepP (td : Int → Int → Bool) (pl : List Int) (c : Int × Int) : List Int :=
  if td (g0 pl c.1) (g0 pl c.2) = true then pl else (pl.set c.1.toNat (g0 pl c.2)).set c.2.toNat (g0 pl c.1)
def runP (td : Int → Int → Bool) (pl : List Int) (cs : List (Int × Int)) : List Int := cs.foldl (stepP td) pl
def pairsF (n : Int) (cs : List Int) : List (Int × Int) := cs.map fun c => (c, nxt n c)
def tdF (ts : List (Int × Int)) (a b : Int) : Bool := decide ((a, b) ∈ ts ∨ (b, a) ∈ ts)
theorem tdF_sym (ts : List (Int × Int)) (a b : Int) : tdF ts a b = tdF ts b a := by
  unfold tdF
  by_cases h : (a, b) ∈ ts ∨ (b, a) ∈ ts
  · rw [decide_eq_true h, decide_eq_true h.symm]
  · rw [decide_eq_false h, decide_eq_false fun z => h z.symm]
/-! ### lists of so many numbers, each once -/
theorem nodup_len : ∀ (N : Nat) (l : List Nat), l.Nodup → (∀ x ∈ l, x < N) → l.length ≤ N
  | 0, l, _, h => by
    cases l with
    | nil => exact Nat.le_refl _
    | cons x l => exact absurd (h x List.mem_cons_self) (Nat.not_lt_zero _)
  | N + 1, l, nd, h => by
    have e := nodup_len N (l.filter fun x => decide (x ≠ N)) (nd.filter _) fun x hx => by
      have a := List.mem_filter.mp hx
      have b := h x a.1
      have c := of_decide_eq_true a.2
      omega
    have f : l.length ≤ (l.filter fun x => decide (x ≠ N)).length + 1 := by
      clear e h
      induction l with
      | nil => exact Nat.zero_le _
      | cons x l ih =>
        have nd := List.nodup_cons.mp nd
        by_cases c : x = N
        · rw [List.filter_cons_of_neg (by simp [c])]
          have e : l.filter (fun x => decide (x ≠ N)) = l := List.filter_eq_self.mpr fun y hy => decide_eq_true fun e => nd.1 (by rw [c, ← e]; exact hy)
          rw [e]
          exact Nat.le_refl _
        · rw [List.filter_cons_of_pos (by simp [c])]
          have := ih nd.2
          simp only [List.length_cons]
          omega
    omega
theorem nodup_all {N : Nat} {l : List Nat} (nd : l.Nodup) (h : ∀ x ∈ l, x < N) (hl : l.length = N) : ∀ i, i < N → i ∈ l := by
  intro i hi
  refine Decidable.byContradiction fun c => ?_
  have := nodup_len N (i :: l) (List.nodup_cons.mpr ⟨c, nd⟩) fun x hx => by
    rcases List.mem_cons.mp hx with rfl | hx
    · exact hi
    · exact h x hx
  rw [List.length_cons] at this
  omega
/-- a row of the numbers 0 .. N - 1, each once -/
structure Row (N : Nat) (r : List Int) : Prop where
  len : r.length = N
  lo : ∀ x ∈ r, 0 ≤ x ∧ x < N
  nd : r.Nodup
theorem Row.nat {N : Nat} {r : List Int} (h : Row N r) : (r.map Int.toNat).Nodup ∧ ∀ x ∈ r.map Int.toNat, x < N := by
  constructor
  · have nd := h.nd
    have lo := h.lo
    clear h
    induction r with
    | nil => exact List.nodup_nil
    | cons x r ih =>
      have nd := List.nodup_cons.mp nd
      refine List.nodup_cons.mpr ⟨fun z => ?_, ih nd.2 fun y hy => lo y (List.mem_cons_of_mem _ hy)⟩
      obtain ⟨y, hy, e⟩ := List.mem_map.mp z
      have a := lo x List.mem_cons_self
      have b := lo y (List.mem_cons_of_mem _ hy)
      have : y = x := by omega
      exact nd.1 (this ▸ hy)
  · intro x hx
    obtain ⟨y, hy, rfl⟩ := List.mem_map.mp hx
    have := h.lo y hy
    omega
theorem Row.all {N : Nat} {r : List Int} (h : Row N r) {i : Int} (h0 : 0 ≤ i) (h1 : i < N) : i ∈ r := by
  have := nodup_all h.nat.1 h.nat.2 (by rw [List.length_map, h.len]) i.toNat (by omega)
  obtain ⟨y, hy, e⟩ := List.mem_map.mp this
  have := h.lo y hy
  have : y = i := by omega
  exact this ▸ hy
theorem Row.at_ {N : Nat} {r : List Int} (h : Row N r) {i : Nat} (hi : i < N) : ∃ x, r[i]? = some x ∧ 0 ≤ x ∧ x < N := by
  have : i < r.length := by rw [h.len]; exact hi
  exact ⟨_, List.getElem?_eq_getElem this, h.lo _ (List.getElem_mem this)⟩
theorem Row.inj {N : Nat} {r : List Int} (h : Row N r) {i j : Nat} {x : Int} (a : r[i]? = some x) (b : r[j]? = some x) : i = j := by
  obtain ⟨h1, e1⟩ := List.getElem?_eq_some_iff.mp a
  obtain ⟨h2, e2⟩ := List.getElem?_eq_some_iff.mp b
  have z := List.pairwise_iff_getElem.mp (List.nodup_iff_pairwise_ne.mp h.nd)
  refine Decidable.byContradiction fun c => ?_
  rcases Nat.lt_or_gt_of_ne c with d | d
  · exact z i j h1 h2 d (e1.trans e2.symm)
  · exact z j i h2 h1 d (e2.trans e1.symm)
/-! ### turned about -/
def turnS (r f : List Int) (k : Nat) : List Int := (List.range k).foldl (fun f i => f.set (r.getD i 0).toNat (i : Int)) f
def turnF (r : List Int) : List Int := turnS r r r.length
theorem turnS_succ (r f : List Int) (k : Nat) : turnS r f (k + 1) = (turnS r f k).set (r.getD k 0).toNat (k : Int) := by
  unfold turnS
  rw [List.range_succ, List.foldl_append]
  rfl
theorem turnS_len (r f : List Int) : ∀ k, (turnS r f k).length = f.length
  | 0 => rfl
  | k + 1 => by rw [turnS_succ, List.length_set, turnS_len r f k]
theorem turnS_at {N : Nat} {r f : List Int} (h : Row N r) (hf : f.length = N) : ∀ k, k ≤ N → ∀ i x, i < k → r[i]? = some x → (turnS r f k)[x.toNat]? = some (i : Int)
  | 0, _, i, x, hi, _ => absurd hi (Nat.not_lt_zero _)
  | k + 1, hk, i, x, hi, hx => by
    rw [turnS_succ]
    obtain ⟨y, hy, y0, y1⟩ := h.at_ (i := k) (by omega)
    rw [List.getD_eq_getElem?_getD, hy, Option.getD_some]
    have lx := h.lo x (List.mem_of_getElem? hx)
    by_cases c : i = k
    · subst c
      have : x = y := Option.some.inj (hx.symm.trans hy)
      subst this
      rw [List.getElem?_set_self (by rw [turnS_len, hf]; omega)]
    · rw [List.getElem?_set_ne]
      · exact turnS_at h hf k (by omega) i x (by omega) hx
      · intro e
        have : x = y := by omega
        subst this
        exact c (h.inj hx hy)
theorem turn_at {N : Nat} {r : List Int} (h : Row N r) {i : Nat} {x : Int} (hx : r[i]? = some x) : (turnF r)[x.toNat]? = some (i : Int) := by
  have : i < N := by rw [← h.len]; exact (List.getElem?_eq_some_iff.mp hx).1
  unfold turnF
  rw [h.len]
  exact turnS_at h h.len N (Nat.le_refl _) i x this hx
theorem turn_len (r : List Int) : (turnF r).length = r.length := turnS_len r r _
theorem turn_row {N : Nat} {r : List Int} (h : Row N r) : Row N (turnF r) := by
  have key : ∀ j, j < N → ∃ i : Nat, i < N ∧ (turnF r)[j]? = some (i : Int) ∧ r[i]? = some (j : Int) := by
    intro j hj
    obtain ⟨i, hi, e⟩ := List.mem_iff_getElem.mp (h.all (i := (j : Int)) (by omega) (by omega))
    have hr : r[i]? = some (j : Int) := by rw [List.getElem?_eq_getElem hi, e]
    exact ⟨i, by rw [← h.len]; exact hi, turn_at h hr, hr⟩
  refine ⟨by rw [turn_len, h.len], fun x hx => ?_, ?_⟩
  · obtain ⟨j, hj, e⟩ := List.mem_iff_getElem.mp hx
    rw [turn_len, h.len] at hj
    obtain ⟨i, hi, e2, _⟩ := key j hj
    rw [List.getElem?_eq_getElem (by rw [turn_len, h.len]; exact hj), e] at e2
    have := Option.some.inj e2
    omega
  · rw [List.nodup_iff_pairwise_ne, List.pairwise_iff_getElem]
    intro i j hi hj hij e
    rw [turn_len, h.len] at hi hj
    obtain ⟨a, _, a2, a3⟩ := key i hi
    obtain ⟨b, _, b2, b3⟩ := key j hj
    rw [List.getElem?_eq_getElem (by rw [turn_len, h.len]; exact hi)] at a2
    rw [List.getElem?_eq_getElem (by rw [turn_len, h.len]; exact hj)] at b2
    have e1 := Option.some.inj a2
    have e2 := Option.some.inj b2
    have : a = b := by omega
    subst this
    have := Option.some.inj (a3.symm.trans b3)
    omega
theorem turn_turn {N : Nat} {r : List Int} (h : Row N r) : turnF (turnF r) = r := by
  refine List.ext_getElem? fun i => ?_
  by_cases hi : i < N
  · obtain ⟨x, hx, x0, x1⟩ := h.at_ hi
    have := turn_at (turn_row h) (turn_at h hx)
    rw [Int.toNat_natCast] at this
    rw [this, hx]
    exact congrArg some (by omega)
  · rw [List.getElem?_eq_none (by rw [turn_len, turn_len, h.len]; omega), List.getElem?_eq_none (by rw [h.len]; omega)]
/-! ### standings -/
structure Stn (n : Nat) (s : List Int) : Prop where
  len : s.length = n
  lo : ∀ x ∈ s, 1 ≤ x ∧ x ≤ n
  nd : s.Nodup
def plOf (s : List Int) : List Int := turnF (0 :: s)
def stOf (p : List Int) : List Int := (turnF p).tail
/-- places: the seat of each person, at index 0 the number 0 -/
structure Plc (n : Nat) (p : List Int) : Prop where
  row : Row (n + 1) p
  zero : p[0]? = some 0
theorem Stn.row {n : Nat} {s : List Int} (h : Stn n s) : Row (n + 1) (0 :: s) := by
  refine ⟨by rw [List.length_cons, h.len], fun x hx => ?_, List.nodup_cons.mpr ⟨fun z => ?_, h.nd⟩⟩
  · rcases List.mem_cons.mp hx with rfl | hx
    · omega
    · have := h.lo x hx
      omega
  · have := h.lo 0 z
    omega
theorem Stn.plc {n : Nat} {s : List Int} (h : Stn n s) : Plc n (plOf s) := ⟨turn_row h.row, turn_at h.row (i := 0) (x := 0) rfl⟩
theorem cons_tail {l : List Int} (h : l[0]? = some 0) : l = 0 :: l.tail := by
  cases l with
  | nil => cases h
  | cons x l => rw [List.getElem?_cons_zero] at h; rw [Option.some.inj h]; rfl
theorem Plc.turn {n : Nat} {p : List Int} (h : Plc n p) : turnF p = 0 :: stOf p := cons_tail (turn_at h.row h.zero)
theorem Plc.stn {n : Nat} {p : List Int} (h : Plc n p) : Stn n (stOf p) := by
  have r := turn_row h.row
  rw [h.turn] at r
  have nd := List.nodup_cons.mp r.nd
  refine ⟨by have := r.len; rw [List.length_cons] at this; omega, fun x hx => ?_, nd.2⟩
  have a := r.lo x (List.mem_cons_of_mem _ hx)
  have : x ≠ 0 := fun e => nd.1 (e ▸ hx)
  omega
theorem Plc.back {n : Nat} {p : List Int} (h : Plc n p) : plOf (stOf p) = p := by
  unfold plOf
  rw [← h.turn, turn_turn h.row]
theorem Stn.back {n : Nat} {s : List Int} (h : Stn n s) : stOf (plOf s) = s := by
  unfold stOf plOf
  rw [turn_turn h.row]
  rfl
theorem Plc.of {n : Nat} {p : List Int} (h : Plc n p) {i : Int} (h0 : 1 ≤ i) (h1 : i ≤ n) : 1 ≤ g0 p i ∧ g0 p i ≤ n ∧ p[i.toNat]? = some (g0 p i) := by
  obtain ⟨x, hx, x0, x1⟩ := h.row.at_ (i := i.toNat) (by omega)
  have e : g0 p i = x := by unfold g0; rw [List.getD_eq_getElem?_getD, hx]; rfl
  rw [e]
  refine ⟨?_, by omega, hx⟩
  have : x ≠ 0 := fun z => by
    have := h.row.inj (hx.trans (by rw [z])) h.zero
    omega
  omega
theorem Plc.inj {n : Nat} {p : List Int} (h : Plc n p) {i j : Int} (h0 : 1 ≤ i) (h1 : i ≤ n) (j0 : 1 ≤ j) (j1 : j ≤ n) (e : g0 p i = g0 p j) : i = j := by
  have a := (h.of h0 h1).2.2
  have b := (h.of j0 j1).2.2
  rw [e] at a
  have := h.row.inj a b
  omega
/-! ### calls -/
def CallOk (n : Nat) (c : Int × Int) : Prop := (1 ≤ c.1 ∧ c.1 ≤ n) ∧ (1 ≤ c.2 ∧ c.2 ≤ n) ∧ c.1 ≠ c.2
theorem g0_set {l : List Int} {i j : Nat} {v : Int} (hi : i < l.length) : (l.set i v).getD j 0 = if j = i then v else l.getD j 0 := by
  rw [List.getD_eq_getElem?_getD, List.getD_eq_getElem?_getD]
  by_cases c : j = i
  · subst c
    rw [if_pos rfl, List.getElem?_set_self hi]
    rfl
  · rw [if_neg c, List.getElem?_set_ne (fun z => c z.symm)]
theorem plc_ext {n : Nat} {p q : List Int} (hp : p.length = n + 1) (hq : q.length = n + 1) (h : ∀ i : Nat, i ≤ n → p.getD i 0 = q.getD i 0) : p = q := by
  refine List.ext_getElem? fun i => ?_
  by_cases c : i ≤ n
  · have := h i c
    rw [List.getD_eq_getElem?_getD, List.getD_eq_getElem?_getD, List.getElem?_eq_getElem (by omega), List.getElem?_eq_getElem (by omega)] at this
    rw [List.getElem?_eq_getElem (by omega), List.getElem?_eq_getElem (by omega)]
    exact congrArg some this
  · rw [List.getElem?_eq_none (by omega), List.getElem?_eq_none (by omega)]
theorem step_len (td : Int → Int → Bool) (p : List Int) (c : Int × Int) : (stepP td p c).length = p.length := by
  unfold stepP
  split
  · rfl
  · rw [List.length_set, List.length_set]
theorem swap_at {n : Nat} {p : List Int} (hp : p.length = n + 1) {c : Int × Int} (hc : CallOk n c) (i : Nat) :
    ((p.set c.1.toNat (g0 p c.2)).set c.2.toNat (g0 p c.1)).getD i 0 = if i = c.2.toNat then g0 p c.1 else if i = c.1.toNat then g0 p c.2 else p.getD i 0 := by
  obtain ⟨a, b, d⟩ := hc
  rw [g0_set (by rw [List.length_set]; omega), g0_set (by omega)]
theorem step_plc {td : Int → Int → Bool} {n : Nat} {p : List Int} (h : Plc n p) {c : Int × Int} (hc : CallOk n c) : Plc n (stepP td p c) := by
  unfold stepP
  split
  · exact h
  · have sw := swap_at h.row.len hc
    obtain ⟨a, b, d⟩ := hc
    have A := h.of a.1 a.2
    have B := h.of b.1 b.2
    have len : ((p.set c.1.toNat (g0 p c.2)).set c.2.toNat (g0 p c.1)).length = n + 1 := by rw [List.length_set, List.length_set, h.row.len]
    have val : ∀ i : Nat, i ≤ n → ∀ x, ((p.set c.1.toNat (g0 p c.2)).set c.2.toNat (g0 p c.1))[i]? = some x → x = if i = c.2.toNat then g0 p c.1 else if i = c.1.toNat then g0 p c.2 else p.getD i 0 := by
      intro i hi x hx
      rw [← sw i, List.getD_eq_getElem?_getD, hx]
      rfl
    have old : ∀ i : Nat, i ≤ n → p[i]? = some (p.getD i 0) := fun i hi => by
      rw [List.getD_eq_getElem?_getD, List.getElem?_eq_getElem (by rw [h.row.len]; omega)]
      rfl
    refine ⟨⟨len, fun x hx => ?_, ?_⟩, ?_⟩
    · obtain ⟨i, hi, e⟩ := List.mem_iff_getElem.mp hx
      have v := val i (by omega) x (by rw [List.getElem?_eq_getElem hi, e])
      rw [v]
      split
      · omega
      · split
        · omega
        · exact h.row.lo _ (List.mem_of_getElem? (old i (by omega)))
    · rw [List.nodup_iff_pairwise_ne, List.pairwise_iff_getElem]
      intro i j hi hj hij e
      have v := val i (by omega) _ (List.getElem?_eq_getElem hi)
      have u := val j (by omega) _ (List.getElem?_eq_getElem hj)
      rw [e] at v
      have z := v.symm.trans u
      -- where each stood before
      have key : ∀ k : Nat, k ≤ n → (if k = c.2.toNat then g0 p c.1 else if k = c.1.toNat then g0 p c.2 else p.getD k 0) = p.getD (if k = c.2.toNat then c.1.toNat else if k = c.1.toNat then c.2.toNat else k) 0 := by
        intro k hk
        split
        · rfl
        · split
          · rfl
          · rfl
      rw [key i (by omega), key j (by omega)] at z
      have li : i ≤ n := by omega
      have lj : j ≤ n := by omega
      have le3 : ∀ {k : Nat}, k ≤ n → (if k = c.2.toNat then c.1.toNat else if k = c.1.toNat then c.2.toNat else k) ≤ n := by
        intro k hk
        split
        · omega
        · split
          · omega
          · exact hk
      have inj := h.row.inj (i := if i = c.2.toNat then c.1.toNat else if i = c.1.toNat then c.2.toNat else i) (j := if j = c.2.toNat then c.1.toNat else if j = c.1.toNat then c.2.toNat else j) (old _ (le3 li)) ((old _ (le3 lj)).trans (by rw [z]))
      clear z key u v old val sw e le3
      split at inj <;> split at inj <;> (try split at inj) <;> (try split at inj) <;> omega
    · have e := sw 0
      rw [if_neg (by omega), if_neg (by omega)] at e
      have o := old 0 (by omega)
      rw [h.zero] at o
      rw [← Option.some.inj o, List.getD_eq_getElem?_getD, List.getElem?_eq_getElem (by omega)] at e
      rw [List.getElem?_eq_getElem (by omega)]
      exact congrArg some e
/-- a call made twice does nothing -/
theorem step_step {td : Int → Int → Bool} (sym : ∀ a b, td a b = td b a) {n : Nat} {p : List Int} (hp : p.length = n + 1) {c : Int × Int} (hc : CallOk n c) : stepP td (stepP td p c) c = p := by
  by_cases t : td (g0 p c.1) (g0 p c.2) = true
  · have e : stepP td p c = p := by unfold stepP; rw [if_pos t]
    rw [e, e]
  · have e : stepP td p c = (p.set c.1.toNat (g0 p c.2)).set c.2.toNat (g0 p c.1) := by unfold stepP; rw [if_neg t]
    have sw := swap_at hp hc
    have hl : (stepP td p c).length = n + 1 := by rw [step_len, hp]
    have g1 : g0 (stepP td p c) c.1 = g0 p c.2 := by
      rw [e]
      show ((p.set c.1.toNat (g0 p c.2)).set c.2.toNat (g0 p c.1)).getD c.1.toNat 0 = _
      obtain ⟨a, b, d⟩ := hc
      rw [sw, if_neg (by omega), if_pos rfl]
    have g2 : g0 (stepP td p c) c.2 = g0 p c.1 := by
      rw [e]
      show ((p.set c.1.toNat (g0 p c.2)).set c.2.toNat (g0 p c.1)).getD c.2.toNat 0 = _
      rw [sw, if_pos rfl]
    have e2 : stepP td (stepP td p c) c = ((stepP td p c).set c.1.toNat (g0 (stepP td p c) c.2)).set c.2.toNat (g0 (stepP td p c) c.1) := by
      conv => lhs; unfold stepP
      rw [if_neg]
      · show ((stepP td p c).set _ _).set _ _ = _
        rfl
      · show ¬ td (g0 (stepP td p c) c.1) (g0 (stepP td p c) c.2) = true
        rw [g1, g2, sym]
        exact t
    have sw2 := swap_at hl hc
    refine plc_ext (n := n) (by rw [step_len, hl]) hp fun i hi => ?_
    rw [e2, sw2, g1, g2]
    split
    · rename_i z
      rw [z]
    · split
      · rename_i z
        rw [z]
      · rename_i z1 z2
        rw [e, sw, if_neg z1, if_neg z2]
theorem run_plc {td : Int → Int → Bool} {n : Nat} : ∀ {cs : List (Int × Int)} {p : List Int}, Plc n p → (∀ c ∈ cs, CallOk n c) → Plc n (runP td p cs)
  | [], p, h, _ => h
  | c :: cs, p, h, hc => run_plc (cs := cs) (step_plc h (hc c List.mem_cons_self)) fun d hd => hc d (List.mem_cons_of_mem _ hd)
theorem run_append (td : Int → Int → Bool) (p : List Int) (a b : List (Int × Int)) : runP td p (a ++ b) = runP td (runP td p a) b := List.foldl_append
theorem run_back {td : Int → Int → Bool} (sym : ∀ a b, td a b = td b a) {n : Nat} : ∀ {cs : List (Int × Int)} {p : List Int}, Plc n p → (∀ c ∈ cs, CallOk n c) → runP td (runP td p cs) cs.reverse = p
  | [], p, _, _ => rfl
  | c :: cs, p, h, hc => by
    have h1 := step_plc (td := td) h (hc c List.mem_cons_self)
    have ih := run_back sym (cs := cs) h1 fun d hd => hc d (List.mem_cons_of_mem _ hd)
    rw [List.reverse_cons, run_append]
    show stepP td (runP td (runP td (stepP td p c) cs) cs.reverse) c = p
    rw [ih]
    exact step_step sym h.row.len (hc c List.mem_cons_self)
theorem pairs_ok {n : Nat} (hn : 2 ≤ n) {cs : List Int} (h : ∀ c ∈ cs, 1 ≤ c ∧ c ≤ n) : ∀ c ∈ pairsF n cs, CallOk n c := by
  intro c hc
  obtain ⟨x, hx, rfl⟩ := List.mem_map.mp hc
  have a := h x hx
  have b := Int.emod_nonneg x (show (n : Int) ≠ 0 by omega)
  have d := Int.emod_lt_of_pos x (show (0 : Int) < n by omega)
  refine ⟨a, ⟨?_, ?_⟩, ?_⟩
  · show 1 ≤ x % n + 1
    omega
  · show x % n + 1 ≤ n
    omega
  · show x ≠ x % n + 1
    by_cases e : x = n
    · subst e
      rw [Int.emod_self]
      omega
    · rw [Int.emod_eq_of_lt (by omega) (by omega)]
      omega
theorem pairs_rev (n : Int) (cs : List Int) : pairsF n cs.reverse = (pairsF n cs).reverse := List.map_reverse
/-! ### rounds -/
def it (f : List Int → List Int) : Nat → List Int → List Int
  | 0, x => x
  | k + 1, x => it f k (f x)
theorem it_add (f : List Int → List Int) : ∀ (a b : Nat) (x : List Int), it f (a + b) x = it f b (it f a x)
  | 0, b, x => by rw [Nat.zero_add]; rfl
  | a + 1, b, x => by
    rw [Nat.add_right_comm]
    exact it_add f a b (f x)
theorem it_succ (f : List Int → List Int) (k : Nat) (x : List Int) : it f (k + 1) x = f (it f k x) := by
  rw [it_add]
  rfl
theorem it_mul (f : List Int → List Int) {L : Nat} {x : List Int} (h : it f L x = x) : ∀ q, it f (L * q) x = x
  | 0 => rfl
  | q + 1 => by rw [Nat.mul_succ, it_add, it_mul f h q, h]
theorem it_mod (f : List Int → List Int) {L : Nat} {x : List Int} (h : it f L x = x) (k : Nat) : it f (k % L) x = it f k x := by
  conv => rhs; rw [← Nat.div_add_mod k L, it_add, it_mul f h]
def roundP (td : Int → Int → Bool) (cs : List (Int × Int)) (p : List Int) : List Int := runP td p cs
theorem it_plc {td : Int → Int → Bool} {n : Nat} {cs : List (Int × Int)} (hc : ∀ c ∈ cs, CallOk n c) : ∀ (k : Nat) {p : List Int}, Plc n p → Plc n (it (roundP td cs) k p)
  | 0, p, h => h
  | k + 1, p, h => it_plc hc k (p := roundP td cs p) (run_plc h hc)
theorem run_rep (td : Int → Int → Bool) (cs : List (Int × Int)) : ∀ (k : Nat) (p : List Int), runP td p (List.replicate k cs).flatten = it (roundP td cs) k p
  | 0, p => rfl
  | k + 1, p => by
    rw [List.replicate_succ, List.flatten_cons, run_append]
    exact run_rep td cs k _
theorem it_undo {td : Int → Int → Bool} (sym : ∀ a b, td a b = td b a) {n : Nat} {cs : List (Int × Int)} (hc : ∀ c ∈ cs, CallOk n c) : ∀ (k : Nat) {p : List Int}, Plc n p → it (roundP td cs.reverse) k (it (roundP td cs) k p) = p
  | 0, p, _ => rfl
  | k + 1, p, h => by
    rw [it_succ (roundP td cs)]
    show it (roundP td cs.reverse) k (roundP td cs.reverse (roundP td cs (it (roundP td cs) k p))) = p
    have : roundP td cs.reverse (roundP td cs (it (roundP td cs) k p)) = it (roundP td cs) k p := run_back sym (it_plc hc k h) hc
    rw [this]
    exact it_undo sym hc k h
/-- what comes back behind L rounds comes back behind L rounds backwards -/
theorem back_rev {td : Int → Int → Bool} (sym : ∀ a b, td a b = td b a) {n : Nat} {cs : List (Int × Int)} (hc : ∀ c ∈ cs, CallOk n c) {p : List Int} (hp : Plc n p) {L : Nat} (h : it (roundP td cs) L p = p) : it (roundP td cs.reverse) L p = p := by
  have := it_undo (cs := cs) sym hc L hp
  rw [h] at this
  exact this
/-- k rounds backwards are L - k % L rounds forwards -/
theorem rev_mod {td : Int → Int → Bool} (sym : ∀ a b, td a b = td b a) {n : Nat} {cs : List (Int × Int)} (hc : ∀ c ∈ cs, CallOk n c) {p : List Int} (hp : Plc n p) {L : Nat} (hL : 0 < L) (h : it (roundP td cs) L p = p) (k : Nat) {j : Nat} (hj : (j + k) % L = 0) : it (roundP td cs.reverse) k p = it (roundP td cs) j p := by
  have e : it (roundP td cs) (j + k) p = p := by rw [← it_mod _ h, hj]; rfl
  rw [it_add] at e
  have z := it_undo (cs := cs) sym hc k (it_plc (td := td) hc j hp)
  rw [e] at z
  exact z
end MR

namespace MR
/-! ### all sit again as at first -/
theorem not_nodup : ∀ {l : List Nat}, ¬ l.Nodup → ∃ i j : Nat, i < j ∧ j < l.length ∧ l[i]? = l[j]?
  | [], h => absurd List.nodup_nil h
  | x :: l, h => by
    by_cases hx : x ∈ l
    · obtain ⟨j, hj, e⟩ := List.mem_iff_getElem.mp hx
      exact ⟨0, j + 1, by omega, by rw [List.length_cons]; omega, by rw [List.getElem?_cons_zero, List.getElem?_cons_succ, List.getElem?_eq_getElem hj, e]⟩
    · obtain ⟨i, j, h1, h2, e⟩ := not_nodup (l := l) fun z => h (List.nodup_cons.mpr ⟨hx, z⟩)
      exact ⟨i + 1, j + 1, by omega, by rw [List.length_cons]; omega, by rw [List.getElem?_cons_succ, List.getElem?_cons_succ, e]⟩
def code (b : Nat) (l : List Int) : Nat := l.foldl (fun a x => a * b + x.toNat) 0
theorem code_go (b : Nat) : ∀ (l m : List Int) (a c : Nat), l.length = m.length → (∀ x ∈ l, 0 ≤ x ∧ x < b) → (∀ x ∈ m, 0 ≤ x ∧ x < b) → l.foldl (fun a x => a * b + x.toNat) a = m.foldl (fun a x => a * b + x.toNat) c → a = c ∧ l = m
  | [], [], a, c, _, _, _, e => ⟨e, rfl⟩
  | [], _ :: _, _, _, h, _, _, _ => by cases h
  | _ :: _, [], _, _, h, _, _, _ => by cases h
  | x :: l, y :: m, a, c, h, h1, h2, e => by
    obtain ⟨e1, e2⟩ := code_go b l m _ _ (Nat.succ.inj h) (fun z hz => h1 z (List.mem_cons_of_mem _ hz)) (fun z hz => h2 z (List.mem_cons_of_mem _ hz)) e
    have a1 := h1 x List.mem_cons_self
    have a2 := h2 y List.mem_cons_self
    have b1 : x.toNat < b := by omega
    have b2 : y.toNat < b := by omega
    have d1 := congrArg (· / b) e1
    have d2 := congrArg (· % b) e1
    simp only [Nat.mul_add_mod_of_lt b1, Nat.mul_add_mod_of_lt b2, Nat.mul_comm a, Nat.mul_comm c, Nat.mul_add_mod, Nat.mod_eq_of_lt b1, Nat.mod_eq_of_lt b2] at d2
    simp only [Nat.mul_comm a, Nat.mul_comm c, Nat.mul_add_div (show 0 < b by omega), Nat.div_eq_of_lt b1, Nat.div_eq_of_lt b2, Nat.add_zero] at d1
    refine ⟨d1, ?_⟩
    rw [e2, show x = y by omega]
theorem code_lt (b : Nat) : ∀ (l : List Int) (a : Nat), (∀ x ∈ l, 0 ≤ x ∧ x < b) → l.foldl (fun a x => a * b + x.toNat) a < (a + 1) * b ^ l.length
  | [], a, _ => by simp
  | x :: l, a, h => by
    have ih := code_lt b l (a * b + x.toNat) fun z hz => h z (List.mem_cons_of_mem _ hz)
    have hx := h x List.mem_cons_self
    refine Nat.lt_of_lt_of_le ih ?_
    rw [List.length_cons, Nat.pow_succ, Nat.mul_comm (b ^ l.length) b, ← Nat.mul_assoc]
    refine Nat.mul_le_mul_right _ ?_
    rw [Nat.add_mul, Nat.one_mul]
    omega
theorem code_inj {b : Nat} {l m : List Int} (h : l.length = m.length) (h1 : ∀ x ∈ l, 0 ≤ x ∧ x < b) (h2 : ∀ x ∈ m, 0 ≤ x ∧ x < b) (e : code b l = code b m) : l = m := (code_go b l m 0 0 h h1 h2 e).2
section
variable {td : Int → Int → Bool} {n : Nat} {cs : List (Int × Int)}
/-- how soon all sit as at first -/
structure Per (td : Int → Int → Bool) (cs : List (Int × Int)) (p : List Int) (L : Nat) : Prop where
  pos : 0 < L
  back : it (roundP td cs) L p = p
  least : ∀ k, 0 < k → k < L → it (roundP td cs) k p ≠ p
theorem per_of {p : List Int} : ∀ (N : Nat), 0 < N → it (roundP td cs) N p = p → ∃ L, L ≤ N ∧ Per td cs p L := by
  intro N
  induction N using Nat.strongRecOn with
  | ind N ih =>
    intro h0 hb
    by_cases c : ∃ k, 0 < k ∧ k < N ∧ it (roundP td cs) k p = p
    · obtain ⟨k, k0, k1, kb⟩ := c
      obtain ⟨L, hL, P⟩ := ih k k1 k0 kb
      exact ⟨L, by omega, P⟩
    · exact ⟨N, Nat.le_refl _, h0, hb, fun k k0 k1 e => c ⟨k, k0, k1, e⟩⟩
theorem it_cancel (sym : ∀ a b, td a b = td b a) (hc : ∀ c ∈ cs, CallOk n c) {p : List Int} (hp : Plc n p) {i j : Nat} (h : i < j) (e : it (roundP td cs) i p = it (roundP td cs) j p) : it (roundP td cs) (j - i) p = p := by
  have e2 : it (roundP td cs) j p = it (roundP td cs) i (it (roundP td cs) (j - i) p) := by rw [← it_add, show j - i + i = j by omega]
  have u1 := it_undo (cs := cs) sym hc i hp
  have u2 := it_undo (cs := cs) sym hc i (it_plc (td := td) hc (j - i) hp)
  rw [← e2, ← e, u1] at u2
  exact u2.symm
/-- on few seats all sit soon as at first -/
theorem back_soon (sym : ∀ a b, td a b = td b a) (hc : ∀ c ∈ cs, CallOk n c) {p : List Int} (hp : Plc n p) : ∃ L, L ≤ (n + 1) ^ (n + 1) ∧ Per td cs p L := by
  have bound : ∀ k, code (n + 1) (it (roundP td cs) k p) < (n + 1) ^ (n + 1) := fun k => by
    have q := (it_plc (td := td) hc k hp).row
    have := code_lt (n + 1) (it (roundP td cs) k p) 0 q.lo
    rw [q.len] at this
    unfold code
    omega
  have nn : ¬ ((List.range ((n + 1) ^ (n + 1) + 1)).map fun k => code (n + 1) (it (roundP td cs) k p)).Nodup := fun nd => by
    have := nodup_len ((n + 1) ^ (n + 1)) _ nd fun x hx => by
      obtain ⟨k, _, rfl⟩ := List.mem_map.mp hx
      exact bound k
    rw [List.length_map, List.length_range] at this
    omega
  obtain ⟨i, j, hij, hj, e⟩ := not_nodup nn
  rw [List.length_map, List.length_range] at hj
  rw [List.getElem?_map, List.getElem?_map, List.getElem?_range hj, List.getElem?_range (by omega)] at e
  have e := Option.some.inj e
  have q1 := (it_plc (td := td) hc i hp).row
  have q2 := (it_plc (td := td) hc j hp).row
  have e := code_inj (by rw [q1.len, q2.len]) q1.lo q2.lo e
  have b := it_cancel sym hc hp hij e
  obtain ⟨L, hL, P⟩ := per_of (td := td) (cs := cs) (j - i) (by omega) b
  exact ⟨L, by omega, P⟩
theorem Per.dvd {p : List Int} {L : Nat} (P : Per td cs p L) (k : Nat) : it (roundP td cs) k p = p ↔ k % L = 0 := by
  constructor
  · intro h
    rw [← it_mod _ P.back] at h
    exact Decidable.byContradiction fun c => P.least (k % L) (Nat.pos_of_ne_zero c) (Nat.mod_lt _ P.pos) h
  · intro h
    rw [← it_mod _ P.back, h]
    rfl
theorem Per.rev (sym : ∀ a b, td a b = td b a) (hc : ∀ c ∈ cs, CallOk n c) {p : List Int} (hp : Plc n p) {L : Nat} (P : Per td cs p L) : Per td cs.reverse p L := by
  refine ⟨P.pos, back_rev sym hc hp P.back, fun k k0 k1 e => ?_⟩
  have hc' : ∀ c ∈ cs.reverse, CallOk n c := fun c h => hc c (List.mem_reverse.mp h)
  have := back_rev (cs := cs.reverse) sym hc' hp e
  rw [List.reverse_reverse] at this
  exact P.least k k0 k1 this
/-- the rounds as the program counts them: what is left is taken anew whenever all sit as at first -/
theorem left_mod {p : List Int} {k left many : Nat} (h : it (roundP td cs) left (it (roundP td cs) k p) = it (roundP td cs) many p) (b : it (roundP td cs) k p = p) : it (roundP td cs) (left % k) (it (roundP td cs) k p) = it (roundP td cs) many p := by
  rw [b] at h ⊢
  rw [it_mod _ b, h]
end
end MR

namespace K41
open PySem PySem.Spec PyProof.Rows L2 Vf Evl

/-! ### promises put together; right uses -/
def sOr (a b : Sp) : Sp := fun vs H Q E => a vs H Q E ∨ b vs H Q E
theorem fn_or {P : Program} {w : World} {K : PySem.W.Frag} {mg : Str → Option Value} {base : Heap} {CX : CXT} {k : Nat} {f : Addr} {fd : FuncData} {ps : List Str} {a b : Sp} (F : FnOk P w K mg base CX k f fd ps a) (G : FnOk P w K mg base CX k f fd ps b) : FnOk P w K mg base CX k f fd ps (sOr a b) :=
  ⟨fun vs H Q E h => h.elim (F.len vs H Q E) (G.len vs H Q E), fun A outer s H args us vs Q E hr e0 hb r h => h.elim (F.run A outer s H args us vs Q E hr e0 hb r) (G.run A outer s H args us vs Q E hr e0 hb r)⟩
/-- what lets nothing out keeps a promise of what it may let out -/
theorem fn_loud {P : Program} {w : World} {K : PySem.W.Frag} {mg : Str → Option Value} {base : Heap} {k : Nat} {f : Addr} {fd : FuncData} {ps : List Str} {a : Sp} (F : FnOk P w K mg base CX0 k f fd ps a) : FnOk P w K mg base (L2.CX P w) k f fd ps a :=
  ⟨F.len, fun A outer s H args us vs Q E hr e0 hb r h => codeAny_mono (F.run A outer s H args us vs Q E hr e0 hb r h) fun r s' z => by
    cases r with
    | error e => exact z.elim
    | ok fl => cases fl <;> exact z⟩
/-- and the other way, if nothing is let out -/
theorem fn_quiet {P : Program} {w : World} {K : PySem.W.Frag} {mg : Str → Option Value} {base : Heap} {k : Nat} {f : Addr} {fd : FuncData} {ps : List Str} {a : Sp} (F : FnOk P w K mg base (L2.CX P w) k f fd ps a) : FnOk P w K mg base CX0 k f fd ps (fun vs H Q _ => a vs H Q E0) :=
  ⟨fun vs H Q E h => F.len vs H Q E0 h, fun A outer s H args us vs Q E hr e0 hb r h => codeAny_mono (F.run A outer s H args us vs Q E0 hr e0 hb r h) fun r s' z => by
    cases r with
    | error e =>
      obtain ⟨_, _, _, _, _, _, _, _, _, _, _, _, y⟩ := z
      exact y.elim
    | ok fl => cases fl <;> exact z⟩
structure NetOk (n : Int) (ts : List (Int × Int)) : Prop where
  lo : 3 ≤ n
  hi : n ≤ 40
  ok : ∀ t ∈ ts, (1 ≤ t.1 ∧ t.1 ≤ n) ∧ (1 ≤ t.2 ∧ t.2 ≤ n) ∧ t.1 ≠ t.2
  nd : (ts.map nrm).Nodup
  few : ts.length ≤ 1000
def TiesAt (K : PySem.W.Frag) (H : Hp) (a : Addr) (ts : List (Int × Int)) : Prop :=
  ∃ as : List Addr, SqL K H a (as.map V.ref) ∧ as.length = ts.length ∧ ∀ (i : Nat) (b : Addr) (t : Int × Int), as[i]? = some b → ts[i]? = some t → SqL K H b [.int t.1, .int t.2]
/-- an order of so many calls -/
structure OrdOk (n : Nat) (ns : List Int) : Prop where
  len : ns.length = n
  lo : 3 ≤ n
  hi : n ≤ 40
  ok : ∀ x ∈ ns, 1 ≤ x ∧ x ≤ n
  nd : ns.Nodup
section
variable {P : Program} {w : World} {K : PySem.W.Frag} {mg : Str → Option Value} {base : Heap} {A : Ad}
end
end K41

namespace K41.Q
open PySem PySem.Spec PyProof.Rows L2 Vf Evl

/-! ### the checks where all is right: nothing is let out -/
theorem key2_inj {s t : Int × Int} (h : key2 s = key2 t) : nrm s = nrm t := by
  unfold key2 at h
  injection h with h1 h2
  injection h2 with h2 _
  exact Prod.ext h1 h2
theorem ft_none {n : Int} : ∀ (ts : List (Int × Int)) (seen : List (List Int)) (i : Nat), (∀ t ∈ ts, (1 ≤ t.1 ∧ t.1 ≤ n) ∧ (1 ≤ t.2 ∧ t.2 ≤ n) ∧ t.1 ≠ t.2) → (ts.map nrm).Nodup → (∀ t ∈ ts, key2 t ∉ seen) → ft n (ts.map fun t => some [some t.1, some t.2]) seen i = none
  | [], _, _, _, _, _ => rfl
  | t :: r, seen, i, hb, nd, hs => by
    have e : okT n (some [some t.1, some t.2]) = some (t.1, t.2) := if_pos (hb t List.mem_cons_self)
    show (match okT n (some [some t.1, some t.2]) with | none => some i | some p => if key2 p ∈ seen then some i else ft n (r.map fun t => some [some t.1, some t.2]) (key2 p :: seen) (i + 1)) = none
    rw [e]
    show (if key2 t ∈ seen then some i else ft n (r.map fun t => some [some t.1, some t.2]) (key2 t :: seen) (i + 1)) = none
    rw [if_neg (hs t List.mem_cons_self)]
    have nd2 := List.nodup_cons.mp nd
    refine ft_none r _ _ (fun y hy => hb y (List.mem_cons_of_mem _ hy)) nd2.2 fun y hy z => ?_
    rcases List.mem_cons.mp z with z | z
    · exact nd2.1 (List.mem_map.mpr ⟨y, hy, key2_inj z⟩)
    · exact hs y (List.mem_cons_of_mem _ hy) z
theorem paired_get {α β : Type} {R : α → β → Prop} : ∀ {xs : List α} {ys : List β}, xs.length = ys.length → (∀ (i : Nat) (x : α) (y : β), xs[i]? = some x → ys[i]? = some y → R x y) → Paired R xs ys
  | [], [], _, _ => .nil
  | x :: xs, y :: ys, hl, h => .cons (h 0 x y rfl rfl) (paired_get (Nat.succ.inj hl) fun i a b h1 h2 => h (i + 1) a b (by rw [List.getElem?_cons_succ]; exact h1) (by rw [List.getElem?_cons_succ]; exact h2))
section
variable {P : Program} {w : World} {K : PySem.W.Frag} {mg : Str → Option Value} {base : Heap} {A : Ad}
theorem _root_.K41.TiesAt.mono {H H' : Hp} {a : Addr} {ts : List (Int × Int)} (e : Ex H H') (h : TiesAt K H a ts) : TiesAt K H' a ts := by
  obtain ⟨as, h1, h2, h3⟩ := h
  exact ⟨as, ex_l e h1, h2, fun i b t x y => ex_l e (h3 i b t x y)⟩
def sp_check_net (K : PySem.W.Frag) : Sp := fun vs H Q _ => ∃ (a : Addr) (ts : List (Int × Int)) (n : Int), vs = [.int n, .ref a] ∧ TiesAt K H a ts ∧ NetOk n ts ∧ RetV .non H Q
theorem ok_check_net (T : Txt K mg A) : FnOk P w K mg base CX0 6 A.f_check_net A.d_check_net ["seats", "ties"] (sp_check_net K) :=
  (fn_quiet (K41.ok_check_net T)).imp fun vs H Q E h => by
    obtain ⟨a, ts, n, rfl, ⟨as, h1, h2, h3⟩, N, q⟩ := h
    have hc : okC (some n) = true := decide_eq_true ⟨N.lo, N.hi⟩
    refine ⟨.int n, .ref a, some n, some (ts.map fun t => some [some t.1, some t.2]), rfl, rfl, (fun z => by rw [hc] at z; cases z), fun _ => ⟨⟨a, _, rfl, h1, by rw [List.length_map, h2]; exact N.few, paired_get (by rw [List.length_map, List.length_map, h2]) fun i x y hx hy => ?_⟩, fun n' e => ?_⟩⟩
    · obtain ⟨b, hb, rfl⟩ := map_at hx
      rw [List.getElem?_map] at hy
      cases et : ts[i]? with
      | none => rw [et] at hy; cases hy
      | some t =>
        rw [et] at hy
        cases hy
        exact ⟨b, _, rfl, h3 i b t hb et, by show 2 ≤ 1000; decide, .cons (b := some t.1) rfl (.cons (b := some t.2) rfl .nil)⟩
    · cases e
      refine chk_quiet ?_ q
      show (ft n _ [] 0).map _ = none
      rw [ft_none ts [] 0 N.ok N.nd fun _ _ z => by cases z]
      rfl
theorem fw_none' {m : Int} {ns : List Int} (hb : ∀ x ∈ ns, 1 ≤ x ∧ x ≤ m) (nd : ns.Nodup) : fw m (ns.map some) [] 0 = none := by
  have z := fw_pre (m := m) ns [] [] 0 hb nd (fun x _ z => by cases z)
  rw [List.append_nil] at z
  rw [z]
  rfl
theorem kdl_ints {H : Hp} {a : Addr} {ns : List Int} (hS : SqL K H a (ns.map V.int)) (hl : ns.length ≤ 1000) : KdL K H (.ref a) (some (ns.map some)) := ⟨a, _, rfl, hS, by rw [List.length_map]; exact hl, paired_ints ns⟩
def sp_check_standing (K : PySem.W.Frag) : Sp := fun vs H Q _ => ∃ (a : Addr) (st : List Int) (n : Nat), vs = [.ref a, .int (n : Int)] ∧ SqL K H a (st.map V.int) ∧ MR.Stn n st ∧ n ≤ 1000 ∧ RetV .non H Q
theorem se_none {n : Nat} {st : List Int} (S : MR.Stn n st) : seE (n : Int) (some (st.map some)) = none := by
  show (if _ then _ else _) = _
  rw [List.length_map, S.len, if_pos rfl, fw_none' S.lo S.nd]
  rfl
theorem ok_check_standing (T : Txt K mg A) : FnOk P w K mg base CX0 4 A.f_check_standing A.d_check_standing ["standing", "seats"] (sp_check_standing K) :=
  (fn_quiet (K41.ok_check_standing T)).imp fun vs H Q E h => by
    obtain ⟨a, st, n, rfl, hS, S, hn, q⟩ := h
    exact ⟨.ref a, _, n, rfl, kdl_ints hS (by rw [S.len]; exact hn), chk_quiet (se_none S) q⟩
def sp_check_order_of (K : PySem.W.Frag) : Sp := sp_check_standing K
theorem ok_check_order_of (T : Txt K mg A) : FnOk P w K mg base CX0 4 A.f_check_order_of A.d_check_order_of ["order", "count"] (sp_check_order_of K) :=
  (fn_quiet (K41.ok_check_order_of T)).imp fun vs H Q E h => by
    obtain ⟨a, st, n, rfl, hS, S, hn, q⟩ := h
    exact ⟨.ref a, _, n, rfl, kdl_ints hS (by rw [S.len]; exact hn), chk_quiet (se_none S) q⟩
def sp_check_count : Sp := fun vs H Q _ => ∃ n : Int, vs = [.int n] ∧ 3 ≤ n ∧ n ≤ 40 ∧ RetV .non H Q
theorem ok_check_count (T : Txt K mg A) : FnOk P w K mg base CX0 3 A.f_check_count A.d_check_count ["number"] sp_check_count :=
  (fn_quiet (K41.ok_check_count T)).imp fun vs H Q E h => by
    obtain ⟨n, rfl, h3, h40, q⟩ := h
    have hc : okC (some n) = true := decide_eq_true ⟨h3, h40⟩
    exact ⟨.int n, some n, rfl, rfl, fun _ => q, fun z => by rw [hc] at z; cases z⟩
end
end K41.Q

namespace K41.Q
open PySem PySem.Spec PyProof.Rows L2 Vf Evl
 StX
/-! ### places and calls -/
theorem fm (c : Int) {n : Int} (h : 0 < n) : c.fmod n = c % n := Int.fmod_eq_emod_of_nonneg c (by omega)
/-- which seats are tied, as the program keeps it -/
def tdRow (td : Int → Int → Bool) (n i : Nat) : List V := (List.range (n + 1)).map fun j : Nat => V.bl (td (i : Int) (j : Int))
def tdM (td : Int → Int → Bool) (n : Nat) : List (List V) := (List.range (n + 1)).map (tdRow td n)
theorem tdM_at {td : Int → Int → Bool} {n i : Nat} (h : i ≤ n) : (tdM td n)[i]? = some (tdRow td n i) := by
  unfold tdM
  rw [List.getElem?_map, List.getElem?_range (by omega)]
  rfl
theorem tdRow_at {td : Int → Int → Bool} {n i j : Nat} (h : j ≤ n) : (tdRow td n i)[j]? = some (V.bl (td (i : Int) (j : Int))) := by
  unfold tdRow
  rw [List.getElem?_map, List.getElem?_range (by omega)]
  rfl
/-- one tie more, one way about -/
def td1 (td : Int → Int → Bool) (a b : Int) : Int → Int → Bool := fun x y => td x y || (decide (x = a) && decide (y = b))
theorem tdM_put {td : Int → Int → Bool} {n : Nat} {a b : Nat} (ha : a ≤ n) (hb : b ≤ n) : (tdM td n).set a ((tdRow td n a).set b (.bl true)) = tdM (td1 td (a : Int) (b : Int)) n := by
  refine List.ext_getElem? fun i => ?_
  by_cases hi : i ≤ n
  · by_cases e : i = a
    · subst e
      rw [List.getElem?_set_self (by unfold tdM; rw [List.length_map, List.length_range]; omega), tdM_at hi]
      refine congrArg some (List.ext_getElem? fun j => ?_)
      by_cases hj : j ≤ n
      · rw [tdRow_at hj]
        by_cases e2 : j = b
        · subst e2
          rw [List.getElem?_set_self (by unfold tdRow; rw [List.length_map, List.length_range]; omega)]
          unfold td1
          simp
        · rw [List.getElem?_set_ne (fun z => e2 z.symm), tdRow_at hj]
          unfold td1
          rw [decide_eq_false (show ¬ ((j : Int) = (b : Int)) by omega), Bool.and_false, Bool.or_false]
      · rw [List.getElem?_eq_none (by rw [List.length_set]; unfold tdRow; rw [List.length_map, List.length_range]; omega), List.getElem?_eq_none (by unfold tdRow; rw [List.length_map, List.length_range]; omega)]
    · rw [List.getElem?_set_ne (fun z => e z.symm), tdM_at hi, tdM_at hi]
      refine congrArg some (List.map_congr_left fun j _ => ?_)
      unfold td1
      rw [decide_eq_false (show ¬ ((i : Int) = (a : Int)) by omega), Bool.false_and, Bool.or_false]
  · rw [List.getElem?_eq_none (by rw [List.length_set]; unfold tdM; rw [List.length_map, List.length_range]; omega), List.getElem?_eq_none (by unfold tdM; rw [List.length_map, List.length_range]; omega)]
theorem tdF_nil : MR.tdF [] = fun _ _ => false := by
  funext a b
  simp [MR.tdF]
theorem tdF_snoc (ts : List (Int × Int)) (t : Int × Int) : MR.tdF (ts ++ [t]) = td1 (td1 (MR.tdF ts) t.1 t.2) t.2 t.1 := by
  funext a b
  obtain ⟨x, y⟩ := t
  unfold MR.tdF td1
  rw [Bool.eq_iff_iff]
  simp only [Bool.or_eq_true, Bool.and_eq_true, decide_eq_true_eq, List.mem_append, List.mem_singleton, Prod.mk.injEq]
  grind
/-- the table of ties, seen from H -/
def TdAt (K : PySem.W.Frag) (H2 : Hp) (D : Addr) (n : Nat) (td : Int → Int → Bool) : Prop := ∃ ps : List Addr, SqL K H2 D (ps.map V.ref) ∧ ps.length = n + 1 ∧ ∀ (i : Nat) (p : Addr), ps[i]? = some p → SqL K H2 p (tdRow td n i)
theorem TdAt.on {K : PySem.W.Frag} {H H' : Hp} {D : Addr} {n : Nat} {td : Int → Int → Bool} (h : TdAt K H D n td) (e : Ex H H') : TdAt K H' D n td := by
  obtain ⟨ps, a, b, c⟩ := h
  exact ⟨ps, ex_l e a, b, fun i p x => ex_l e (c i p x)⟩
theorem td_of {K : PySem.W.Frag} {H H2 : Hp} {D : Addr} {n : Nat} {td : Int → Int → Bool} (h : LLN H H2 D (tdM td n)) : TdAt K H2 D n td := by
  obtain ⟨ps, a, b, c, d, e⟩ := h
  have hl : ps.length = n + 1 := by rw [b]; unfold tdM; rw [List.length_map, List.length_range]
  refine ⟨ps, .inl (.inl a), hl, fun i p x => .inl (.inl (e i p _ x (tdM_at ?_)).2)⟩
  have := (List.getElem?_eq_some_iff.mp x).1
  omega
/-- a list of pairs of people -/
def PairsAt (K : PySem.W.Frag) (H : Hp) (a : Addr) (cs : List (Int × Int)) : Prop := ∃ as : List Addr, SqL K H a (as.map V.ref) ∧ as.length = cs.length ∧ ∀ (i : Nat) (b : Addr) (c : Int × Int), as[i]? = some b → cs[i]? = some c → SqT K H b [.int c.1, .int c.2]
theorem PairsAt.on {K : PySem.W.Frag} {H H' : Hp} {a : Addr} {cs : List (Int × Int)} (h : PairsAt K H a cs) (e : Ex H H') : PairsAt K H' a cs := by
  obtain ⟨as, x, y, z⟩ := h
  exact ⟨as, ex_l e x, y, fun i b c p q => ex_t e (z i b c p q)⟩
section
variable {P : Program} {w : World} {K : PySem.W.Frag} {mg : Str → Option Value} {base : Heap} {A : Ad}
def sp_next_call : Sp := fun vs H Q _ => ∃ c n : Int, vs = [.int c, .int n] ∧ 0 < n ∧ RetV (.int (MR.nxt n c)) H Q
theorem ok_next_call (T : Txt K mg A) : FnOk P w K mg base CX0 1 A.f_next_call A.d_next_call ["call", "count"] sp_next_call := by
  refine T.F_next_call.ok sc_next_call (fun vs H Q E h => ?_) (fun cdv A' outer s H vs Q E hr h => ?_)
  · obtain ⟨c, n, rfl, _⟩ := h
    rfl
  · obtain ⟨c, n, rfl, hn, q⟩ := h
    refine ⟨_, (pss_one (ps_ret (pe_op op_add (pe_op op_modN (pv 0) (pv 1)) pe_int))), ?_⟩
    refine ⟨_, rfl, _, rfl, _, _, rfl, rfl, (by show n ≠ 0; omega), _, _, rfl, rfl, ?_⟩
    have z := q H (Ex.refl H)
    unfold MR.nxt at z
    rw [fm c hn]
    exact z
def sp_turned_about (K : PySem.W.Frag) : Sp := fun vs H Q _ => ∃ (a : Addr) (r : List Int) (N : Nat), vs = [.ref a] ∧ SqL K H a (r.map V.int) ∧ MR.Row N r ∧ N ≤ 1000 ∧ RetL ((MR.turnF r).map V.int) H Q
theorem ok_turned_about (T : Txt K mg A) : FnOk P w K mg base CX0 1 A.f_turned_about A.d_turned_about ["row"] (sp_turned_about K) := by
  refine T.F_turned_about.ok sc_turned_about (fun vs H Q E h => ?_) (fun cdv A' outer s H vs Q E hr h => ?_)
  · obtain ⟨a, r, N, rfl, _⟩ := h
    rfl
  · obtain ⟨a, r, N, rfl, hS, R, hN, q⟩ := h
    refine ⟨_, (pss_cons (ps_set (i := 1) sc_turned_about.nd rfl (by first | exact .inl rfl | exact .inr rfl) (pe_callTy (call_listK (K := K) rfl) (by rfl) T.z_list (by decide +kernel) (pa_cons (pv 0) pa_nil)))
      (pss_cons (ps_for PassesOwn.never rfl (pi_enum (by rfl) T.z_enumerate (pa_cons (pv 0) pa_nil)) (pg_tupK (n := 2) (K := K) rfl rfl (pgs_cons (pg_name (i := 2) sc_turned_about.nd rfl (by first | exact .inl rfl | exact .inr rfl)) (pgs_cons (pg_name (i := 3) sc_turned_about.nd rfl (by first | exact .inl rfl | exact .inr rfl)) pgs_nil))) (pss_one (ps_asg (pv 2) (pg_sub (pv 1) (pv 3) set_list))))
      (pss_one (ps_ret (pv 1))))), ?_⟩
    refine ⟨_, rfl, a, _, rfl, .inl hS, fun f nf => ?_⟩
    have e0 : Ex H (upd H f (.lst (r.map V.int))) := Ex.new nf
    refine ⟨.ref a, rfl, a, r.map V.int, rfl, ex_l e0 hS, ?_⟩
    refine for_enumL (xs := r.map V.int) (fun i σ' H' => (∃ y2 y3, σ' = [some (.ref a), some (.ref f), y2, y3]) ∧ Ex H H' ∧ H' f = some (.lst ((MR.turnS r r i).map V.int)))
      ⟨⟨none, none, rfl⟩, e0, upd_same⟩ (fun i σ' H' z => ex_l z.2.1 hS) ?_ ?_
    · rintro i x Tt σ' H' hx ⟨⟨y2, y3, rfl⟩, e1, hf⟩ nT
      obtain ⟨c, hc, rfl⟩ := map_at hx
      have mem := List.mem_of_getElem? hc
      have b := R.lo c mem
      have e2 : Ex H' (upd H' Tt (.tup [.int (i : Nat), .int c])) := Ex.new nT
      refine ⟨Tt, _, rfl, .inl (.inl upd_same), rfl, _, _, rfl, _, _, rfl, rfl, ?_⟩
      have hf2 := e2 _ _ hf
      have hl : (MR.turnS r r i).length = N := by rw [MR.turnS_len, R.len]
      refine ⟨_, rfl, _, rfl, _, rfl, f, _, c, c.toNat, rfl, rfl, hf2, ?_, ?_⟩
      · rw [List.length_map, hl]
        have := ixN_nat (n := N) (j := c.toNat) (by omega)
        rw [show ((c.toNat : Nat) : Int) = c by omega] at this
        exact this
      · refine ⟨⟨_, _, rfl⟩, Ex.mut (e1.trans e2) nf, ?_⟩
        rw [upd_same, MR.turnS_succ, List.getD_eq_getElem?_getD, hc, Option.getD_some, List.map_set]
    · rintro σ' H' ⟨⟨y2, y3, rfl⟩, e1, hf⟩
      rw [List.length_map] at hf
      exact ⟨_, rfl, q f H' nf e1 hf⟩
def sp_places_of (K : PySem.W.Frag) : Sp := fun vs H Q _ => ∃ (a : Addr) (st : List Int) (n : Nat), vs = [.ref a] ∧ SqL K H a (st.map V.int) ∧ MR.Stn n st ∧ n ≤ 900 ∧ RetL ((MR.plOf st).map V.int) H Q
theorem ok_places_of (T : Txt K mg A) : FnOk P w K mg base CX0 2 A.f_places_of A.d_places_of ["standing"] (sp_places_of K) := by
  have G_turned_about : FnOk P w K mg base CX0 1 A.f_turned_about A.d_turned_about ["row"] (sp_turned_about K) := ok_turned_about T
  refine T.F_places_of.ok sc_places_of (fun vs H Q E h => ?_) (fun cdv A' outer s H vs Q E hr h => ?_)
  · obtain ⟨a, st, n, rfl, _⟩ := h
    rfl
  · obtain ⟨a, st, n, rfl, hS, S, hn, q⟩ := h
    refine ⟨_, (pss_one (ps_ret (pe_call G_turned_about (hr.mono (by decide)) (by rfl) T.g_turned_about T.F_turned_about.kp T.b_turned_about .nil pass0 (pa_cons (pe_lst (pa_cons pe_int (pa_star (pv 0) pa_nil))) pa_nil)))), ?_⟩
    refine ⟨_, rfl, a, st.map V.int, rfl, .inr hS, ?_⟩
    refine ⟨sz_of (by simp [S.len]; omega), fun p np => ?_⟩
    have e1 : Ex H (upd H p (.lst (V.int 0 :: (st.map V.int ++ [])))) := Ex.new np
    refine ⟨p, 0 :: st, n + 1, rfl, .inl (.inl ?_), S.row, by omega, fun p2 H2 np2 e2 h2 => q p2 H2 (fresh_back e1 np2) (e1.trans e2) h2⟩
    rw [List.append_nil]
    exact upd_same
def sp_standing_of (K : PySem.W.Frag) : Sp := fun vs H Q _ => ∃ (a : Addr) (pl : List Int) (n : Nat), vs = [.ref a] ∧ SqL K H a (pl.map V.int) ∧ MR.Plc n pl ∧ n ≤ 900 ∧ RetL ((MR.stOf pl).map V.int) H Q
theorem ok_standing_of (T : Txt K mg A) : FnOk P w K mg base CX0 2 A.f_standing_of A.d_standing_of ["places"] (sp_standing_of K) := by
  have G_turned_about : FnOk P w K mg base CX0 1 A.f_turned_about A.d_turned_about ["row"] (sp_turned_about K) := ok_turned_about T
  refine T.F_standing_of.ok sc_standing_of (fun vs H Q E h => ?_) (fun cdv A' outer s H vs Q E hr h => ?_)
  · obtain ⟨a, pl, n, rfl, _⟩ := h
    rfl
  · obtain ⟨a, pl, n, rfl, hS, Pl, hn, q⟩ := h
    refine ⟨_, (pss_one (ps_ret (pe_slice (sl_listK (K := K) rfl) (pe_call G_turned_about (hr.mono (by decide)) (by rfl) T.g_turned_about T.F_turned_about.kp T.b_turned_about .nil pass0 (pa_cons (pv 0) pa_nil)) (po_some pe_int) po_none))), ?_⟩
    refine ⟨_, rfl, a, pl, n + 1, rfl, hS, Pl.row, by omega, fun p H2 np e2 h2 => ?_⟩
    refine ⟨1, rfl, p, _, rfl, .inl (.inl h2), fun p3 np3 => ?_⟩
    have e : cutV ((MR.turnF pl).map V.int) (some 1) none = (MR.stOf pl).map V.int := by
      rw [Pl.turn]
      unfold cutV
      rw [HT.sIx_none]
      have z : HT.sIx ((0 :: MR.stOf pl).map V.int).length 0 (some ((1 : Nat) : Int)) = 1 := by
        rw [HT.sIx_nat]
        simp only [List.length_map, List.length_cons]
        omega
      rw [show (1 : Int) = ((1 : Nat) : Int) from rfl, z]
      simp [List.take_of_length_le]
    rw [e]
    exact q p3 _ (fresh_back e2 np3) (e2.trans (Ex.new np3)) upd_same
end
end K41.Q

namespace K41.Q
open PySem PySem.Spec PyProof.Rows L2 Vf Evl
 StX
theorem atI_refs {ps : List Addr} {i : Nat} {p : Addr} (h : ps[i]? = some p) : atI (ps.map V.ref) (i : Int) = some (.ref p) := atI_nat (by rw [List.getElem?_map, h]; rfl)
/-- a place of the table written -/
theorem td_put {H H2 : Hp} {D : Addr} {n : Nat} {td : Int → Int → Bool} (h : LLN H H2 D (tdM td n)) (e : Ex H H2) {a b : Int} (ha : 1 ≤ a ∧ a ≤ n) (hb : 1 ≤ b ∧ b ≤ n) :
    ∃ (ps : List Addr) (p : Addr), H2 D = some (.lst (ps.map V.ref)) ∧ atI (ps.map V.ref) a = some (.ref p) ∧ H2 p = some (.lst (tdRow td n a.toNat)) ∧ ixN (tdRow td n a.toNat).length b = some b.toNat ∧
      LLN H (upd H2 p (.lst ((tdRow td n a.toNat).set b.toNat (.bl true)))) D (tdM (td1 td a b) n) ∧ Ex H (upd H2 p (.lst ((tdRow td n a.toNat).set b.toNat (.bl true)))) := by
  obtain ⟨ps, p, h1, h2, h3, h4, h5⟩ := h.put (tdM_at (i := a.toNat) (by omega))
  refine ⟨ps, p, h1, ?_, h4, ?_, ?_, Ex.mut e h3⟩
  · have := atI_refs h2
    rwa [show ((a.toNat : Nat) : Int) = a by omega] at this
  · have : (tdRow td n a.toNat).length = n + 1 := by unfold tdRow; rw [List.length_map, List.length_range]
    rw [this]
    have z := ixN_nat (n := n + 1) (j := b.toNat) (by omega)
    rwa [show ((b.toNat : Nat) : Int) = b by omega] at z
  · have := h5 ((tdRow td n a.toNat).set b.toNat (.bl true))
    rw [tdM_put (a := a.toNat) (b := b.toNat) (by omega) (by omega)] at this
    rwa [show ((a.toNat : Nat) : Int) = a by omega, show ((b.toNat : Nat) : Int) = b by omega] at this
section
variable {P : Program} {w : World} {K : PySem.W.Frag} {mg : Str → Option Value} {base : Heap} {A : Ad}
def sp_tied_seats (K : PySem.W.Frag) : Sp := fun vs H Q _ => ∃ (a : Addr) (ts : List (Int × Int)) (n : Nat), vs = [.int (n : Int), .ref a] ∧ TiesAt K H a ts ∧ NetOk (n : Int) ts ∧
  ∀ D H2, H D = none → Ex H H2 → TdAt K H2 D n (MR.tdF ts) → Q (.ref D) H2
theorem ok_tied_seats (T : Txt K mg A) : FnOk P w K mg base CX0 1 A.f_tied_seats A.d_tied_seats ["seats", "ties"] (sp_tied_seats K) := by
  refine T.F_tied_seats.ok sc_tied_seats (fun vs H Q E h => ?_) (fun cdv A' outer s H vs Q E hr h => ?_)
  · obtain ⟨a, ts, n, rfl, _⟩ := h
    rfl
  · obtain ⟨a, ts, n, rfl, hT, N, q⟩ := h
    obtain ⟨as, hS, hlen, hat⟩ := hT
    have n1 := N.lo
    have n2 := N.hi
    refine ⟨_, (pss_cons (ps_setLc (i := 2) (own := [("_", 5)]) rfl sc_tied_seats.nd rfl rfl (sw_true rfl rfl rfl (by decide +kernel)) (pi_range1 (by rfl) T.z_range (pa_cons (pe_op op_add (pv 0) pe_int) pa_nil)) (blkOk_by (by kernel_rfl)) (fun _ _ _ _ _ => (pg_name (i := 5) sc_tied_seats.nd rfl (by first | exact .inl rfl | exact .inr rfl))) (fun _ _ _ _ _ => pts_nil) (fun _ _ _ _ _ => (pe_op op_rep (pe_lst (pa_cons pe_bl pa_nil)) (pe_op op_add (pv 0) pe_int))))
      (pss_cons (ps_for PassesOwn.never rfl (pi_listK (K := K) rfl (pv 1)) (pg_unlK (n := 2) (K := K) rfl rfl (pgs_cons (pg_name (i := 3) sc_tied_seats.nd rfl (by first | exact .inl rfl | exact .inr rfl)) (pgs_cons (pg_name (i := 4) sc_tied_seats.nd rfl (by first | exact .inl rfl | exact .inr rfl)) pgs_nil))) (pss_cons (ps_asg pe_bl (pg_sub (pe_ix (ix_listK (K := K) rfl) (pv 2) (pv 3) (fun _ _ => rfl)) (pv 4) set_list))
      (pss_one (ps_asg pe_bl (pg_sub (pe_ix (ix_listK (K := K) rfl) (pv 2) (pv 4) (fun _ _ => rfl)) (pv 3) set_list)))))
      (pss_one (ps_ret (pv 2))))), ?_⟩
    refine q_asgLN (eln_lcR1 (n := (n : Int) + 1) (fun _ => (List.replicate ((n : Int) + 1).toNat [V.bl false]).flatten) ?_ ?_ ?_ ?_) fun D H1 nD e1 hD => ?_
    · exact ea_cons (ev_op (ev_var rfl) ev_c rv_I0) ea_nil
    · omega
    · exact fun x => rfl
    · exact fun i H1 e1 hi => el_rep (el_lst (ea_cons ev_c ea_nil) (by show 1 ≤ 100000; decide)) (ev_op (ev_var rfl) ev_c rv_I0) (by omega) (by show 1 * _ ≤ _; omega)
    have e0 : (List.replicate ((n : Int) + 1).toNat [V.bl false]).flatten = tdRow (fun _ _ => false) n 0 := by
      unfold tdRow
      rw [show ((n : Int) + 1).toNat = n + 1 by omega]
      refine List.ext_getElem? fun i => ?_
      have er : (List.replicate (n + 1) [V.bl false]).flatten = List.replicate (n + 1) (V.bl false) := by simp
      rw [er, List.getElem?_replicate, List.getElem?_map]
      by_cases c : i < n + 1
      · rw [if_pos c, List.getElem?_range c]
        rfl
      · rw [if_neg c, List.getElem?_eq_none (by rw [List.length_range]; omega)]
        rfl
    have eM : (List.range ((n : Int) + 1).toNat).map (fun _ => (List.replicate ((n : Int) + 1).toNat [V.bl false]).flatten) = tdM (MR.tdF []) n := by
      unfold tdM
      rw [e0, show ((n : Int) + 1).toNat = n + 1 by omega, tdF_nil]
      exact List.map_congr_left fun i _ => rfl
    rw [eM] at hD
    -- for one, two in ties
    refine ⟨.ref a, rfl, a, rfl, ⟨_, ex_l e1 hS⟩, ?_⟩
    refine for_list (xs := as.map V.ref) (fun i σ' H' => (∃ y3 y4, σ' = [some (.int (n : Int)), some (.ref a), some (.ref D), y3, y4, none]) ∧ Ex H H' ∧ LLN H H' D (tdM (MR.tdF (ts.take i)) n))
      ⟨⟨none, none, rfl⟩, e1, hD⟩ (fun i σ' H' _ z => ex_l z.2.1 hS) ?_ ?_
    · rintro i x σ' H' hx ⟨⟨y3, y4, rfl⟩, e2, hL⟩
      obtain ⟨b, hb, rfl⟩ := map_at hx
      have hi : i < ts.length := by rw [← hlen]; exact (List.getElem?_eq_some_iff.mp hb).1
      obtain ⟨t, ht⟩ : ∃ t, ts[i]? = some t := ⟨_, List.getElem?_eq_getElem hi⟩
      obtain ⟨k1, k2, k3⟩ := N.ok t (List.mem_of_getElem? ht)
      refine ⟨b, _, rfl, ex_l e2 (hat i b t hb ht), rfl, _, _, rfl, _, _, rfl, rfl, ?_⟩
      obtain ⟨ps, p, h1, h2, h3, h4, h5, h6⟩ := td_put hL e2 k1 k2
      refine ⟨_, rfl, _, rfl, D, _, _, _, rfl, rfl, .inl (.inl h1), h2, _, rfl, p, _, _, _, rfl, rfl, h3, h4, ?_⟩
      obtain ⟨ps', p', g1, g2, g3, g4, g5, g6⟩ := td_put h5 h6 k2 k1
      refine ⟨_, rfl, _, rfl, D, _, _, _, rfl, rfl, .inl (.inl g1), g2, _, rfl, p', _, _, _, rfl, rfl, g3, g4, ?_⟩
      refine ⟨⟨_, _, rfl⟩, g6, ?_⟩
      rw [take_snoc ht, tdF_snoc]
      exact g5
    · rintro σ' H' ⟨⟨y3, y4, rfl⟩, e2, hL⟩
      rw [List.length_map, hlen, List.take_length] at hL
      exact ⟨_, rfl, q D H' nD e2 (td_of hL)⟩
def sp_people_called (K : PySem.W.Frag) : Sp := fun vs H Q _ => ∃ (a : Addr) (cs : List Int) (n : Int), vs = [.ref a, .int n] ∧ SqL K H a (cs.map V.int) ∧ 0 < n ∧ cs.length ≤ 10000 ∧
  ∀ D H2, H D = none → Ex H H2 → PairsAt K H2 D (MR.pairsF n cs) → Q (.ref D) H2
theorem ok_people_called (T : Txt K mg A) : FnOk P w K mg base CX0 2 A.f_people_called A.d_people_called ["calls", "count"] (sp_people_called K) := by
  have G_next_call : FnOk P w K mg base CX0 1 A.f_next_call A.d_next_call ["call", "count"] sp_next_call := ok_next_call T
  refine T.F_people_called.ok sc_people_called (fun vs H Q E h => ?_) (fun cdv A' outer s H vs Q E hr h => ?_)
  · obtain ⟨a, cs, n, rfl, _⟩ := h
    rfl
  · obtain ⟨a, cs, n, rfl, hS, hn, hl, q⟩ := h
    refine ⟨_, (pss_one (ps_ret (pe_lc (own := [("call", 2)]) rfl sc_people_called.nd (pi_listK (K := K) rfl (pv 0)) (blkOk_by (by kernel_rfl)) (fun _ _ _ _ _ => (pg_name (i := 2) sc_people_called.nd rfl (by first | exact .inl rfl | exact .inr rfl))) (fun _ _ _ _ _ => pts_nil) (fun _ _ _ _ _ => (pe_tup (pa_cons (pv 2) (pa_cons (pe_call G_next_call (hr.mono (by decide)) (by rfl) T.g_next_call T.F_next_call.kp T.b_next_call .nil pass0 (pa_cons (pv 2) (pa_cons (pv 1) pa_nil))) pa_nil))))))), ?_⟩
    refine s_retLT (elt_lcL (K := K) (xs := cs.map V.int) (fun i => [V.int (cs.getD i 0), V.int (MR.nxt n (cs.getD i 0))]) (ev_var rfl) hS (by rw [List.length_map]; omega) (fun x => rfl) (fun i x H1 e1 hx => ?_)) fun D H1 nD e1 hD => ?_
    · obtain ⟨c, hc, rfl⟩ := map_at hx
      have ec : cs.getD i 0 = c := by rw [List.getD_eq_getElem?_getD, hc]; rfl
      rw [ec]
      exact eu_tup (ea_cons (ev_var rfl) (ea_cons (ev_call (ea_cons (ev_var rfl) (ea_cons (ev_var rfl) ea_nil)) fun H2 e2 Q q E => ⟨c, n, rfl, hn, q⟩) ea_nil)) (by show 2 ≤ 100000; decide)
    · refine q D H1 nD e1 ?_
      obtain ⟨ps, h1, h2, h3⟩ := hD
      rw [List.length_map, List.length_map, List.length_range] at h2
      refine ⟨ps, .inl (.inl h1), by rw [h2]; unfold MR.pairsF; rw [List.length_map], fun i b c x y => .inl (.inl ?_)⟩
      unfold MR.pairsF at y
      rw [List.getElem?_map, Option.map_eq_some_iff] at y
      obtain ⟨c0, hc, rfl⟩ := y
      have hi := (List.getElem?_eq_some_iff.mp hc).1
      refine h3 i b _ x ?_
      rw [List.length_map, List.getElem?_map, List.getElem?_range hi]
      show some [V.int (cs.getD i 0), _] = _
      rw [List.getD_eq_getElem?_getD, hc]
      rfl
def sp_places_after (K : PySem.W.Frag) : Sp := fun vs H Q _ => ∃ (a b t : Addr) (pl : List Int) (cs : List (Int × Int)) (n : Nat) (td : Int → Int → Bool), vs = [.ref a, .ref b, .ref t] ∧ SqL K H a (pl.map V.int) ∧ PairsAt K H b cs ∧ TdAt K H t n td ∧
  MR.Plc n pl ∧ (∀ c ∈ cs, MR.CallOk n c) ∧ RetL ((MR.runP td pl cs).map V.int) H Q
theorem run_more {td : Int → Int → Bool} {pl : List Int} {cs : List (Int × Int)} {i : Nat} {c : Int × Int} (h : cs[i]? = some c) : MR.runP td pl (cs.take (i + 1)) = MR.stepP td (MR.runP td pl (cs.take i)) c := by
  rw [take_snoc h, MR.run_append]
  rfl
theorem ok_places_after (T : Txt K mg A) : FnOk P w K mg base CX0 1 A.f_places_after A.d_places_after ["places", "pairs", "tied"] (sp_places_after K) := by
  refine T.F_places_after.ok sc_places_after (fun vs H Q E h => ?_) (fun cdv A' outer s H vs Q E hr h => ?_)
  · obtain ⟨a, b, t, pl, cs, n, td, rfl, _⟩ := h
    rfl
  · obtain ⟨a, b, t, pl, cs, n, td, rfl, hS, hP, hT, Pl, hC, q⟩ := h
    refine ⟨_, (pss_cons (ps_set (i := 0) sc_places_after.nd rfl (by first | exact .inl rfl | exact .inr rfl) (pe_callTy (call_listK (K := K) rfl) (by rfl) T.z_list (by decide +kernel) (pa_cons (pv 0) pa_nil)))
      (pss_cons (ps_for PassesOwn.never rfl (pi_listK (K := K) rfl (pv 1)) (pg_tupK (n := 2) (K := K) rfl rfl (pgs_cons (pg_name (i := 3) sc_places_after.nd rfl (by first | exact .inl rfl | exact .inr rfl)) (pgs_cons (pg_name (i := 4) sc_places_after.nd rfl (by first | exact .inl rfl | exact .inr rfl)) pgs_nil))) (pss_cons (ps_set (i := 5) sc_places_after.nd rfl (by first | exact .inl rfl | exact .inr rfl) (pe_ix (ix_listK (K := K) rfl) (pv 0) (pv 3) (fun _ _ => rfl)))
      (pss_cons (ps_set (i := 6) sc_places_after.nd rfl (by first | exact .inl rfl | exact .inr rfl) (pe_ix (ix_listK (K := K) rfl) (pv 0) (pv 4) (fun _ _ => rfl)))
      (pss_one (ps_if (pt_not (pt_val (pe_ix (ix_listK (K := K) rfl) (pe_ix (ix_listK (K := K) rfl) (pv 2) (pv 5) (fun _ _ => rfl)) (pv 6) (fun _ _ => rfl)))) (pss_cons (ps_asg (pv 6) (pg_sub (pv 0) (pv 3) set_list))
      (pss_one (ps_asg (pv 5) (pg_sub (pv 0) (pv 4) set_list)))) pss_nil)))))
      (pss_one (ps_ret (pv 0))))), ?_⟩
    refine ⟨_, rfl, a, _, rfl, .inl hS, fun p np => ?_⟩
    have e0 : Ex H (upd H p (.lst (pl.map V.int))) := Ex.new np
    obtain ⟨as, hA, hlen, hat⟩ := hP
    refine ⟨.ref b, rfl, b, rfl, ⟨_, ex_l e0 hA⟩, ?_⟩
    refine for_list (xs := as.map V.ref) (fun i σ' H' => (∃ y3 y4 y5 y6, σ' = [some (.ref p), some (.ref b), some (.ref t), y3, y4, y5, y6]) ∧ Ex H H' ∧ H' p = some (.lst ((MR.runP td pl (cs.take i)).map V.int)))
      ⟨⟨none, none, none, none, rfl⟩, e0, upd_same⟩ (fun i σ' H' _ z => ex_l z.2.1 hA) ?_ ?_
    · rintro i x σ' H' hx ⟨⟨y3, y4, y5, y6, rfl⟩, e1, hp⟩
      obtain ⟨r, hr0, rfl⟩ := map_at hx
      have hi : i < cs.length := by rw [← hlen]; exact (List.getElem?_eq_some_iff.mp hr0).1
      obtain ⟨c, hc⟩ : ∃ c, cs[i]? = some c := ⟨_, List.getElem?_eq_getElem hi⟩
      have ok := hC c (List.mem_of_getElem? hc)
      have Pi : MR.Plc n (MR.runP td pl (cs.take i)) := MR.run_plc Pl fun d hd => hC d (List.mem_of_mem_take hd)
      have hrm := run_more (td := td) (pl := pl) hc
      generalize MR.runP td pl (cs.take i) = m at hp Pi hrm
      obtain ⟨k1, k2, k3⟩ := ok
      have A1 := Pi.of k1.1 k1.2
      have A2 := Pi.of k2.1 k2.2
      have ml := Pi.row.len
      refine ⟨r, _, rfl, ex_t e1 (hat i r c hr0 hc), rfl, _, _, rfl, _, _, rfl, rfl, ?_⟩
      refine ⟨_, rfl, _, rfl, p, _, c.1, _, rfl, rfl, .inl (.inl hp), atI_int (by omega) (by omega), ?_⟩
      refine ⟨_, rfl, _, rfl, p, _, c.2, _, rfl, rfl, .inl (.inl hp), atI_int (by omega) (by omega), ?_⟩
      -- if not tied[here][there]
      obtain ⟨ps, t1, t2, t3⟩ := hT.on e1
      have hx1 : (MR.g0 m c.1).toNat < ps.length := by omega
      have hps : ps[(MR.g0 m c.1).toNat]? = some ps[(MR.g0 m c.1).toNat] := List.getElem?_eq_getElem hx1
      have a1 := atI_refs hps
      rw [show (((MR.g0 m c.1).toNat : Nat) : Int) = MR.g0 m c.1 by omega] at a1
      have a2 : atI (tdRow td n (MR.g0 m c.1).toNat) (MR.g0 m c.2) = some (V.bl (td (MR.g0 m c.1) (MR.g0 m c.2))) := by
        have z := atI_nat (tdRow_at (td := td) (n := n) (i := (MR.g0 m c.1).toNat) (j := (MR.g0 m c.2).toNat) (by omega))
        rwa [show (((MR.g0 m c.1).toNat : Nat) : Int) = MR.g0 m c.1 by omega, show (((MR.g0 m c.2).toNat : Nat) : Int) = MR.g0 m c.2 by omega] at z
      refine ⟨_, rfl, _, rfl, t, _, _, _, rfl, rfl, t1, a1, _, rfl, _, _, _, _, rfl, rfl, t3 _ _ hps, a2, ?_⟩
      by_cases tt : td (MR.g0 m c.1) (MR.g0 m c.2) = true
      · have es : MR.stepP td m c = m := by unfold MR.stepP; rw [if_pos tt]
        rw [tt]
        refine ⟨true, rfl, iteF ⟨⟨_, _, _, _, rfl⟩, e1, ?_⟩⟩
        rw [hrm, es]
        exact hp
      · have es : MR.stepP td m c = (m.set c.1.toNat (MR.g0 m c.2)).set c.2.toNat (MR.g0 m c.1) := by unfold MR.stepP; rw [if_neg tt]
        rw [Bool.eq_false_iff.mpr tt]
        have i1 : ∀ {l : List V} {k : Int}, l.length = n + 1 → 1 ≤ k → k ≤ n → ixN l.length k = some k.toNat := fun {l k} hl h1 h2 => by
          have z := ixN_nat (n := n + 1) (j := k.toNat) (by omega)
          rw [hl]
          rwa [show ((k.toNat : Nat) : Int) = k by omega] at z
        refine ⟨false, rfl, iteT ?_⟩
        refine ⟨_, rfl, _, rfl, _, rfl, p, _, c.1, _, rfl, rfl, hp, i1 (by rw [List.length_map, ml]) k1.1 k1.2, ?_⟩
        refine ⟨_, rfl, _, rfl, _, rfl, p, _, c.2, _, rfl, rfl, upd_same, i1 (by rw [List.length_set, List.length_map, ml]) k2.1 k2.2, ?_⟩
        refine ⟨⟨_, _, _, _, rfl⟩, Ex.mut (Ex.mut e1 np) np, ?_⟩
        rw [upd_same, hrm, es, List.map_set, List.map_set]
    · rintro σ' H' ⟨⟨y3, y4, y5, y6, rfl⟩, e1, hp⟩
      rw [List.length_map, hlen, List.take_length] at hp
      exact ⟨_, rfl, q p H' np e1 hp⟩
end
end K41.Q

namespace K41.Q
open PySem PySem.Spec PyProof.Rows L2 Vf Evl

/-! ### the law's draws -/
/-- all but the object at a is as it was -/
def ExA (a : Addr) (H H' : Hp) : Prop := ∀ b o, b ≠ a → H b = some o → H' b = some o
theorem ExA.trans {a : Addr} {H H1 H2 : Hp} (x : ExA a H H1) (y : ExA a H1 H2) : ExA a H H2 := fun b o ne h => y b o ne (x b o ne h)
theorem ExA.of {a : Addr} {H H' : Hp} (e : Ex H H') : ExA a H H' := fun b o _ h => e b o h
theorem ExA.upd (a : Addr) (H : Hp) (o : HO) : ExA a H (upd H a o) := fun b u ne h => by rw [upd_ne ne]; exact h
theorem ExA.list {K : PySem.W.Frag} {a b : Addr} {H H' : Hp} {xs : List V} (e : ExA a H H') (ne : b ≠ a) (h : SqL K H b xs) : SqL K H' b xs := by
  rcases h with (h | ⟨o, h⟩) | h
  · exact .inl (.inl (e _ _ ne h))
  · exact .inl (.inr ⟨o, e _ _ ne h⟩)
  · exact .inr h
/-- a list of draws at a, k of them made -/
def Dr (H : Hp) (a : Addr) (k : Int) : Prop := ∃ (x : Int) (b : Bool), H a = some (.lst [.int x, .int k, .bl b])
theorem Dr.on {H H' : Hp} {a : Addr} {k : Int} (e : Ex H H') (d : Dr H a k) : Dr H' a k := by
  obtain ⟨x, b, h⟩ := d
  exact ⟨x, b, e _ _ h⟩
theorem fmod_at {i j : Int} (h : 0 < j) : 0 ≤ i.fmod j ∧ i.fmod j < j := by
  rw [Int.fmod_eq_emod_of_nonneg i (by omega)]
  exact ⟨Int.emod_nonneg _ (by omega), Int.emod_lt_of_pos _ h⟩
theorem fdiv_at {i j : Int} (h : 0 ≤ i) (hj : 0 ≤ j) : 0 ≤ i.fdiv j := by
  rw [Int.fdiv_eq_ediv_of_nonneg i hj]
  exact Int.ediv_nonneg h hj
section
variable {P : Program} {w : World} {K : PySem.W.Frag} {mg : Str → Option Value} {base : Heap} {A : Ad}
def DrX (H : Hp) (a : Addr) (x k : Int) (b : Bool) : Prop := H a = some (.lst [.int x, .int k, .bl b])
theorem DrX.dr {H : Hp} {a : Addr} {x k : Int} {b : Bool} (h : DrX H a x k b) : Dr H a k := ⟨x, b, h⟩
theorem DrX.on {H H' : Hp} {a : Addr} {x k : Int} {b : Bool} (e : Ex H H') (h : DrX H a x k b) : DrX H' a x k b := e _ _ h
def cellX (c : Int) : Int := c.fmod (((10 ^ 60) ^ 60) ^ 4)
def nextV (x k : Int) (b : Bool) : Int :=
  if b then x.fmod 1000000 else
    let y := ((x.fmod 1000003 + k * k * 7919 + k) * 48271).fmod 2147483629
    let z := (y * y).fmod 2147483587
    (((z * (z + 2)).fmod 2147483579)).fdiv 7
def nextX (x : Int) (b : Bool) : Int := if b then x.fdiv 1000000 else x
theorem nextV_nn (x k : Int) (b : Bool) : 0 ≤ nextV x k b := by
  unfold nextV
  split
  · exact (fmod_at (by decide)).1
  · exact fdiv_at (fmod_at (by decide)).1 (by decide)
def sp_l_draws : Sp := fun vs H Q _ => ∃ c : Int, vs = [.int c] ∧ ∀ (x : Int) (b : Bool) (p : Addr) (H2 : Hp), H p = none → Ex H H2 → H2 p = some (.lst [.int x, .int 0, .bl b]) → Q (.ref p) H2
theorem ok_l_draws (T : Txt K mg A) : FnOk P w K mg base CX0 1 A.f_l_draws A.d_l_draws ["_law_cell"] sp_l_draws := by
  refine T.F_l_draws.ok sc_l_draws (fun vs H Q E h => ?_) (fun cdv A' outer s H vs Q E hr h => ?_)
  · obtain ⟨c, rfl, _⟩ := h
    rfl
  · obtain ⟨c, rfl, q⟩ := h
    refine ⟨_, (pss_one (ps_ret (pe_lst (pa_cons (pe_op op_modN (pe_callTy call_int1 (by rfl) T.z_int (by decide +kernel) (pa_cons (pv 0) pa_nil)) (pe_op op_powW (pe_op op_powW (pe_op op_powW pe_int pe_int) pe_int) pe_int)) (pa_cons pe_int (pa_cons (pe_cmpR op_ge (pv 0) (pe_op op_powW pe_int pe_int) (nomark _)) pa_nil)))))), ?_⟩
    refine ⟨_, rfl, .inl ⟨c, rfl, ?_⟩⟩
    refine ⟨_, _, rfl, rfl, ⟨by decide, by decide +kernel⟩, _, _, rfl, rfl, ⟨by decide, by decide +kernel⟩, _, _, rfl, rfl, ⟨by decide, by decide +kernel⟩, ?_⟩
    refine ⟨_, _, rfl, rfl, (by show (_ : Int) ≠ 0; decide +kernel), ?_⟩
    refine ⟨_, rfl, _, _, rfl, rfl, ⟨by decide, by decide +kernel⟩, _, _, rfl, rfl, ?_⟩
    refine ⟨(by show 3 ≤ sizeLine; decide), fun p np => ?_⟩
    exact q _ _ p _ np (Ex.new np) upd_same
def sp_l_next : Sp := fun vs H Q _ => ∃ (a : Addr) (k : Int), vs = [.ref a] ∧ Dr H a k ∧ (0 ≤ k ∧ k < 2 ^ 40) ∧ ∀ (r : Int) (H2 : Hp), 0 ≤ r → ExA a H H2 → Dr H2 a (k + 1) → Q (.int r) H2
theorem ok_l_next (T : Txt K mg A) : FnOk P w K mg base CX0 1 A.f_l_next A.d_l_next ["_law_draws_here"] sp_l_next := by
  refine T.F_l_next.ok sc_l_next (fun vs H Q E h => ?_) (fun cdv A' outer s H vs Q E hr h => ?_)
  · obtain ⟨a, k, rfl, _⟩ := h
    rfl
  · obtain ⟨a, k, rfl, ⟨x, b, hd⟩, hk, q⟩ := h
    refine ⟨_, (pss_cons (ps_asg (pe_op op_add (pe_ix (ix_listK (K := K) rfl) (pv 0) pe_int (fun _ _ => rfl)) pe_int) (pg_sub (pv 0) pe_int set_list))
      (pss_cons (ps_set (i := 1) sc_l_next.nd rfl (by first | exact .inl rfl | exact .inr rfl) (pe_ix (ix_listK (K := K) rfl) (pv 0) pe_int (fun _ _ => rfl)))
      (pss_cons (ps_if (pt_val (pe_ix (ix_listK (K := K) rfl) (pv 0) pe_int (fun _ _ => rfl))) (pss_cons (ps_set (i := 2) sc_l_next.nd rfl (by first | exact .inl rfl | exact .inr rfl) (pe_op op_modN (pe_callTy call_int1 (by rfl) T.z_int (by decide +kernel) (pa_cons (pe_ix (ix_listK (K := K) rfl) (pv 0) pe_int (fun _ _ => rfl)) pa_nil)) (pe_op op_powW pe_int pe_int)))
      (pss_cons (ps_asg (pe_op op_fdivN (pe_ix (ix_listK (K := K) rfl) (pv 0) pe_int (fun _ _ => rfl)) (pe_op op_powW pe_int pe_int)) (pg_sub (pv 0) pe_int set_list))
      (pss_one (ps_ret (pv 2))))) pss_nil)
      (pss_cons (ps_set (i := 2) sc_l_next.nd rfl (by first | exact .inl rfl | exact .inr rfl) (pe_op op_modN (pe_callTy call_int1 (by rfl) T.z_int (by decide +kernel) (pa_cons (pe_op op_mul (pe_op op_add (pe_op op_add (pe_op op_modN (pe_callTy call_int1 (by rfl) T.z_int (by decide +kernel) (pa_cons (pe_ix (ix_listK (K := K) rfl) (pv 0) pe_int (fun _ _ => rfl)) pa_nil)) pe_int) (pe_op op_mul (pe_op op_mul (pv 1) (pv 1)) pe_int)) (pv 1)) pe_int) pa_nil)) pe_int))
      (pss_cons (ps_set (i := 2) sc_l_next.nd rfl (by first | exact .inl rfl | exact .inr rfl) (pe_op op_modN (pe_callTy call_int1 (by rfl) T.z_int (by decide +kernel) (pa_cons (pe_op op_mul (pv 2) (pv 2)) pa_nil)) pe_int))
      (pss_one (ps_ret (pe_op op_fdivN (pe_op op_modN (pe_callTy call_int1 (by rfl) T.z_int (by decide +kernel) (pa_cons (pe_op op_mul (pv 2) (pe_op op_add (pv 2) pe_int)) pa_nil)) pe_int) pe_int)))))))), ?_⟩
    -- d[1] = d[1] + 1
    refine ⟨_, rfl, a, _, _, _, rfl, rfl, .inl (.inl hd), atI_nat (j := 1) rfl, _, _, rfl, rfl, ?_⟩
    refine ⟨_, rfl, a, _, 1, 1, rfl, rfl, hd, rfl, ?_⟩
    have h1 : upd H a (.lst [.int x, .int (k + 1), .bl b]) a = some (.lst [.int x, .int (k + 1), .bl b]) := upd_same
    have e1 := ExA.upd a H (.lst [.int x, .int (k + 1), .bl b])
    show _
    generalize hH1 : upd H a (.lst [.int x, .int (k + 1), .bl b]) = H1 at h1 e1
    have hH1' : upd H a (.lst ([V.int x, .int k, .bl b].set 1 (.int (k + 1)))) = H1 := hH1
    rw [hH1']
    -- k = d[1]
    refine ⟨_, rfl, a, _, _, _, rfl, rfl, .inl (.inl h1), atI_nat (j := 1) rfl, ?_⟩
    -- if d[2]
    refine ⟨_, rfl, a, _, _, _, rfl, rfl, .inl (.inl h1), atI_nat (j := 2) rfl, b, rfl, ?_⟩
    cases b with
    | true =>
      refine iteT ?_
      refine ⟨_, rfl, a, _, _, _, rfl, rfl, .inl (.inl h1), atI_nat (j := 0) rfl, .inl ⟨x, rfl, _, _, rfl, rfl, ⟨by decide, by decide +kernel⟩, _, _, rfl, rfl, (by show (_ : Int) ≠ 0; decide +kernel), ?_⟩⟩
      refine ⟨_, rfl, a, _, _, _, rfl, rfl, .inl (.inl h1), atI_nat (j := 0) rfl, _, _, rfl, rfl, ⟨by decide, by decide +kernel⟩, _, _, rfl, rfl, ⟨by decide +kernel, by decide +kernel⟩, ?_⟩
      refine ⟨_, rfl, a, _, 0, 0, rfl, rfl, h1, rfl, ?_⟩
      refine ⟨_, rfl, q _ _ (fmod_at (by decide +kernel)).1 (e1.trans (ExA.upd a H1 _)) ⟨_, _, upd_same⟩⟩
    | false =>
      refine iteF ?_
      have ne1 : (1000003 : Int) ≠ 0 := by decide
      have ne2 : (2147483629 : Int) ≠ 0 := by decide
      have ne3 : (2147483587 : Int) ≠ 0 := by decide
      have ne4 : (2147483579 : Int) ≠ 0 := by decide
      -- number = int((int(d[0]) % 1000003 + k * k * 7919 + k) * 48271) % 2147483629
      refine ⟨_, rfl, a, _, _, _, rfl, rfl, .inl (.inl h1), atI_nat (j := 0) rfl, .inl ⟨x, rfl, _, _, rfl, rfl, ne1, ?_⟩⟩
      refine ⟨_, rfl, _, rfl, _, _, rfl, rfl, .inl ⟨by omega, by omega⟩, _, _, rfl, rfl, .inr ⟨by decide, by decide⟩, _, _, rfl, rfl, ?_⟩
      refine ⟨_, rfl, _, _, rfl, rfl, _, _, rfl, rfl, .inr ⟨by decide, by decide⟩, .inl ⟨_, rfl, _, _, rfl, rfl, ne2, ?_⟩⟩
      generalize (x.fmod 1000003 + (k + 1) * (k + 1) * 7919 + (k + 1)) * 48271 = y
      have y0 := fmod_at (i := y) (j := 2147483629) (by decide)
      -- number = int(number * number) % 2147483587
      refine ⟨_, rfl, _, rfl, _, _, rfl, rfl, .inl ⟨by omega, by omega⟩, .inl ⟨_, rfl, _, _, rfl, rfl, ne3, ?_⟩⟩
      have u0 := fmod_at (i := y.fmod 2147483629 * y.fmod 2147483629) (j := 2147483587) (by decide)
      -- return int(number * (number + 2)) % 2147483579 // 7
      refine ⟨_, rfl, _, rfl, _, _, rfl, rfl, _, _, rfl, rfl, .inl ⟨by omega, by omega⟩, .inl ⟨_, rfl, _, _, rfl, rfl, ne4, _, _, rfl, rfl, ⟨by decide, by decide⟩, ?_⟩⟩
      exact q _ H1 (fdiv_at (fmod_at (by decide)).1 (by decide)) e1 ⟨_, _, h1⟩
end
end K41.Q

namespace K41.Q
open PySem PySem.Spec PyProof.Rows L2 Vf Evl


theorem ExA.new {a p : Addr} {H H' : Hp} {o : HO} (e : ExA a H H') (h : H' p = none) : ExA a H (L2.upd H' p o) := fun b u ne hb => by
  have z := e b u ne hb
  rw [upd_ne (ne_of_none z h)]
  exact z
theorem ExA.mut {a p : Addr} {H H' : Hp} {o : HO} (e : ExA a H H') (h : H p = none) : ExA a H (L2.upd H' p o) := fun b u ne hb => by
  rw [upd_ne (ne_of_none hb h)]
  exact e b u ne hb
theorem seqIx {i : Int} {n : Nat} (h0 : 0 ≤ i) (h1 : i < n) : seqIndex? i n = some i.toNat := by
  unfold seqIndex?
  rw [if_neg (show ¬ i < 0 by omega)]
  simp [h0, h1]
section
variable {P : Program} {w : World} {K : PySem.W.Frag} {mg : Str → Option Value} {base : Heap} {A : Ad}
def sp_l_mixed (K : PySem.W.Frag) : Sp := fun vs H Q _ => ∃ (d a : Addr) (k : Int) (xs : List V), vs = [.ref d, .ref a] ∧ Dr H d k ∧ (0 ≤ k ∧ k + xs.length < 2 ^ 40) ∧ SqL K H a xs ∧ xs.length ≤ 1000 ∧
  (∀ H', ExA d H H' → ∀ x ∈ xs, Sh K H' x) ∧ ∀ (ys : List V) (p : Addr) (H2 : Hp), ys.Perm xs → H p = none → ExA d H H2 → Dr H2 d (k + xs.length) → H2 p = some (.lst ys) → Q (.ref p) H2
theorem ok_l_mixed (T : Txt K mg A) : FnOk P w K mg base CX0 2 A.f_l_mixed A.d_l_mixed ["_law_draws_here", "_law_some"] (sp_l_mixed K) := by
  have G_l_next : FnOk P w K mg base CX0 1 A.f_l_next A.d_l_next ["_law_draws_here"] sp_l_next := ok_l_next T
  refine T.F_l_mixed.ok sc_l_mixed (fun vs H Q E h => ?_) (fun cdv A' outer s H vs Q E hr h => ?_)
  · obtain ⟨d, a, k, xs, rfl, _⟩ := h
    rfl
  · obtain ⟨d, a, k, xs, rfl, hd, hk, hS, hl, hsh, q⟩ := h
    refine ⟨_, (pss_cons (ps_set (i := 2) sc_l_mixed.nd rfl (by first | exact .inl rfl | exact .inr rfl) (pe_callTy (call_listK (K := K) rfl) (by rfl) T.z_list (by decide +kernel) (pa_cons (pv 1) pa_nil)))
      (pss_cons (ps_set (i := 3) sc_l_mixed.nd rfl (by first | exact .inl rfl | exact .inr rfl) (pe_lst pa_nil))
      (pss_cons (ps_while PassesOwn.never (pt_cmpR (op_neD hr.units) (pv 2) (pe_lst pa_nil) (nomark _)) (pss_one (ps_expr (pe_bmK (K := K) rfl PySem.F.plainAttrs_list PySem.F.slot_list_append PySem.F.type_list_append mt_append (pv 3) (pa_cons (pe_bmK (K := K) rfl PySem.F.plainAttrs_list PySem.F.slot_list_pop PySem.F.type_list_pop mt_popAt (pv 2) (pa_cons (pe_op op_modN (pe_callTy call_int1 (by rfl) T.z_int (by decide +kernel) (pa_cons (pe_call G_l_next (hr.mono (by decide)) (by rfl) T.g_l_next T.F_l_next.kp T.b_l_next .nil pass0 (pa_cons (pv 0) pa_nil)) pa_nil)) (pe_callB (call_lenK (K := K) rfl) (by rfl) T.z_len PySem.boot_len (pa_cons (pv 2) pa_nil))) pa_nil)) pa_nil)))))
      (pss_one (ps_ret (pv 3)))))), ?_⟩
    have hdn : H d ≠ none := by
      obtain ⟨x, b, h⟩ := hd
      rw [h]
      exact fun z => nomatch z
    -- left = list(some); told = []
    refine ⟨_, rfl, a, xs, rfl, .inl hS, fun l nl => ?_⟩
    have e1 : Ex H (upd H l (.lst xs)) := Ex.new nl
    refine ⟨Nat.zero_le _, fun t nt => ?_⟩
    have e2 : Ex (upd H l (.lst xs)) (upd (upd H l (.lst xs)) t (.lst [])) := Ex.new nt
    have nlt : l ≠ t := ne_of_none upd_same nt
    have nt0 : H t = none := fresh_back e1 nt
    have ndl : d ≠ l := fun z => hdn (z ▸ nl)
    have ndt : d ≠ t := fun z => hdn (z ▸ nt0)
    refine ⟨fun m σ' H' => σ' = [some (.ref d), some (.ref a), some (.ref l), some (.ref t)] ∧ ∃ ls ts : List V, H' l = some (.lst ls) ∧ H' t = some (.lst ts) ∧ m = ls.length ∧
        (ts ++ ls).Perm xs ∧ ExA d H H' ∧ Dr H' d (k + ts.length), ⟨xs.length, rfl, xs, [], e2 _ _ upd_same, upd_same, rfl, .refl _, ExA.of (e1.trans e2), ?_⟩, ?_⟩
    · have z := hd.on (e1.trans e2)
      simpa using z
    rintro m σ' H' ⟨rfl, ls, ts, h1, h2, rfl, pm, e, hd'⟩
    have hsub : ∀ x ∈ ls, x ∈ xs := fun x hx => pm.mem_iff.mp (List.mem_append_right _ hx)
    have hlen : ts.length + ls.length = xs.length := by rw [← List.length_append]; exact pm.length_eq
    -- while left != []
    refine ⟨_, rfl, Nat.zero_le _, fun z nz => ?_⟩
    have e3 : Ex H' (upd H' z (.lst [])) := Ex.new nz
    refine ne_nil (.inl (.inl (e3 _ _ h1))) upd_same (fun x hx => hsh _ (e.trans (ExA.of e3)) x (hsub x hx)) ⟨_, rfl, ?_⟩
    have h1' := e3 _ _ h1
    have h2' := e3 _ _ h2
    have hd3 := hd'.on e3
    have ee := e.trans (ExA.of (a := d) e3)
    generalize upd H' z (.lst []) = H3 at e3 h1' h2' hd3 ee
    cases ls with
    | nil =>
      refine iteF ?_
      rw [List.append_nil] at pm
      refine ⟨_, rfl, q ts t H3 pm nt0 ee ?_ h2'⟩
      have hl0 : ts.length = xs.length := by simpa using hlen
      rw [← hl0]
      exact hd3
    | cons y0 ls =>
      refine iteT ⟨fun σ' H' => ∃ m', m' < (y0 :: ls).length ∧ (σ' = [some (.ref d), some (.ref a), some (.ref l), some (.ref t)] ∧ ∃ ls ts : List V, H' l = some (.lst ls) ∧ H' t = some (.lst ts) ∧ m' = ls.length ∧
        (ts ++ ls).Perm xs ∧ ExA d H H' ∧ Dr H' d (k + ts.length)), fun σ' H' z => z, ?_⟩
      -- told.append(left.pop(int(next(draws)) % len(left)))
      refine ⟨_, rfl, .inl ⟨rfl, _, .inl (.inl h2')⟩, _, rfl, .inl ⟨rfl, _, .inl (.inl h1')⟩, _, rfl, d, _, rfl, hd3, ⟨by omega, by simp only [List.length_cons] at hlen; omega⟩, fun r H4 hr0 e4 hd4 => ?_⟩
      have h1'' := e4 _ _ ndl.symm h1'
      have h2'' := e4 _ _ ndt.symm h2'
      refine .inl ⟨r, rfl, _, rfl, l, _, rfl, .inl (.inl (.inl h1'')), _, _, rfl, rfl, (by simp only [List.length_cons]; omega), ?_⟩
      have fm := fmod_at (i := r) (j := ((y0 :: ls).length : Int)) (by simp only [List.length_cons]; omega)
      generalize hi : r.fmod ((y0 :: ls).length : Int) = i at fm
      have hi' : i.toNat < (y0 :: ls).length := by omega
      have hll : (y0 :: ls).length ≤ 1000 := by omega
      refine ⟨l, y0 :: ls, i, i.toNat, (y0 :: ls)[i.toNat], rfl, by rw [← hi], h1'', by omega, by omega, seqIx fm.1 fm.2, List.getElem?_eq_getElem hi', ?_⟩
      have h3 : (upd H4 l (.lst ((y0 :: ls).eraseIdx i.toNat))) t = some (.lst ts) := by rw [upd_ne nlt.symm]; exact h2''
      refine ⟨t, ts, _, rfl, rfl, h3, sz_lt (by omega), ?_⟩
      have pm2 := erase_perm (y0 :: ls) i.toNat (y0 :: ls)[i.toNat] (List.getElem?_eq_getElem hi')
      refine ⟨((y0 :: ls).eraseIdx i.toNat).length, by rw [List.length_eraseIdx_of_lt hi']; omega, rfl, (y0 :: ls).eraseIdx i.toNat, ts ++ [(y0 :: ls)[i.toNat]], ?_, upd_same, rfl, ?_, ?_, ?_⟩
      · rw [upd_ne nlt]; exact upd_same
      · rw [List.append_assoc]
        exact (List.Perm.append_left ts pm2).trans pm
      · exact ExA.mut (ExA.mut (ee.trans e4) nl) nt0
      · obtain ⟨x, b, hx⟩ := hd4
        refine ⟨x, b, ?_⟩
        rw [upd_ne ndt, upd_ne ndl, hx, List.length_append]
        simp only [List.length_cons, List.length_nil]
        rw [show k + (ts.length : Int) + 1 = k + ((ts.length + (0 + 1) : Nat) : Int) by omega]
end
end K41.Q

namespace K41.Q
open PySem PySem.Spec PyProof.Rows L2 Vf Evl


/-! ### a drawn net: its ties by their places in a line of all seats -/
structure LineOk (n : Nat) (ln : List Int) : Prop where
  len : ln.length = n
  nd : ln.Nodup
  at_ : ∀ x ∈ ln, 1 ≤ x ∧ x ≤ (n : Int)
abbrev at0 (ln : List Int) (i : Nat) : Int := ln.getD i 0
theorem LineOk.mem {n : Nat} {ln : List Int} (L : LineOk n ln) {i : Nat} (h : i < n) : at0 ln i ∈ ln := by
  have h' : i < ln.length := by rw [L.len]; exact h
  unfold at0
  rw [List.getD_eq_getElem?_getD, List.getElem?_eq_getElem h']
  exact List.getElem_mem h'
theorem LineOk.inj {n : Nat} {ln : List Int} (L : LineOk n ln) {i j : Nat} (hi : i < n) (hj : j < n) (e : at0 ln i = at0 ln j) : i = j := by
  have hi' : i < ln.length := by rw [L.len]; exact hi
  have hj' : j < ln.length := by rw [L.len]; exact hj
  unfold at0 at e
  rw [List.getD_eq_getElem?_getD, List.getD_eq_getElem?_getD, List.getElem?_eq_getElem hi', List.getElem?_eq_getElem hj'] at e
  exact (List.getElem_inj L.nd).mp e
/-- t ties the seats at the places i, j of the line -/
def Ties2 (ln : List Int) (i j : Nat) (t : Int × Int) : Prop := t = (at0 ln i, at0 ln j) ∨ t = (at0 ln j, at0 ln i)
theorem nrm_swap (x y : Int) : nrm (x, y) = nrm (y, x) := by
  unfold nrm
  by_cases c : x ≤ y <;> by_cases d : y ≤ x <;> simp only [c, d, if_true, if_false]
  · rw [show x = y by omega]
  · omega
theorem nrm_cases {x y u v : Int} (h : nrm (x, y) = nrm (u, v)) : (x = u ∧ y = v) ∨ (x = v ∧ y = u) := by
  unfold nrm at h
  by_cases c : x ≤ y <;> by_cases d : u ≤ v <;> simp only [c, d, if_true, if_false] at h <;> injection h with h1 h2
  · exact .inl ⟨h1, h2⟩
  · exact .inr ⟨h1, h2⟩
  · exact .inr ⟨h2, h1⟩
  · exact .inl ⟨h2, h1⟩
theorem Ties2.nrm {ln : List Int} {i j : Nat} {t : Int × Int} (h : Ties2 ln i j t) : nrm t = nrm (at0 ln i, at0 ln j) := by
  rcases h with rfl | rfl
  · rfl
  · exact nrm_swap _ _
theorem ties_apart {n : Nat} {ln : List Int} (L : LineOk n ln) {i j i' j' : Nat} {t t' : Int × Int} (h : Ties2 ln i j t) (h' : Ties2 ln i' j' t') (hi : i < n) (hj : j < n) (hi' : i' < n) (hj' : j' < n) (e : nrm t = nrm t') :
    (i = i' ∧ j = j') ∨ (i = j' ∧ j = i') := by
  rw [h.nrm, h'.nrm] at e
  rcases nrm_cases e with ⟨a, b⟩ | ⟨a, b⟩
  · exact .inl ⟨L.inj hi hi' a, L.inj hj hj' b⟩
  · exact .inr ⟨L.inj hi hj' a, L.inj hj hi' b⟩
structure Good (n : Nat) (ln : List Int) (a o : Nat) (ts : List (Int × Int)) : Prop where
  pl : ∀ t ∈ ts, ∃ i j, i < j ∧ j < n ∧ (j < a ∨ (j = a ∧ i < o)) ∧ Ties2 ln i j t
  nd : (ts.map nrm).Nodup
  few : 2 * ts.length ≤ a * (a - 1) + 2 * o
theorem Good.nil (n : Nat) (ln : List Int) : Good n ln 1 0 [] := ⟨(fun t h => by cases h), List.nodup_nil, Nat.zero_le _⟩
theorem Good.mono {n : Nat} {ln : List Int} {a o o' : Nat} {ts : List (Int × Int)} (g : Good n ln a o ts) (h : o ≤ o') : Good n ln a o' ts := by
  refine ⟨fun t ht => ?_, g.nd, by have := g.few; omega⟩
  obtain ⟨i, j, a1, a2, a3, a4⟩ := g.pl t ht
  exact ⟨i, j, a1, a2, by omega, a4⟩
theorem Good.next {n : Nat} {ln : List Int} {a : Nat} {ts : List (Int × Int)} (g : Good n ln a a ts) (h : 1 ≤ a) : Good n ln (a + 1) 0 ts := by
  refine ⟨fun t ht => ?_, g.nd, ?_⟩
  · obtain ⟨i, j, a1, a2, a3, a4⟩ := g.pl t ht
    exact ⟨i, j, a1, a2, by omega, a4⟩
  · have z := g.few
    obtain ⟨b, rfl⟩ : ∃ b, a = b + 1 := ⟨a - 1, by omega⟩
    have e : (b + 1) * (b + 1 - 1) + 2 * (b + 1) = (b + 1 + 1) * (b + 1 + 1 - 1) + 2 * 0 := by
      rw [Nat.add_sub_cancel, Nat.add_sub_cancel, Nat.mul_comm (b + 1 + 1) (b + 1), Nat.mul_add (b + 1) (b + 1) 1, Nat.mul_add (b + 1) b 1]
      omega
    omega
theorem nodup_snoc {α : Type} {l : List α} {x : α} (h : l.Nodup) (hx : x ∉ l) : (l ++ [x]).Nodup := by
  refine List.nodup_append.mpr ⟨h, by simp, fun a ha b hb e => ?_⟩
  rw [List.mem_singleton.mp hb] at e
  exact hx (e ▸ ha)
theorem Good.add {n : Nat} {ln : List Int} {a o i : Nat} {ts : List (Int × Int)} {t : Int × Int} (L : LineOk n ln) (g : Good n ln a o ts) (ha : a < n) (hi : i < a) (ho : o ≤ i) (ht : Ties2 ln i a t) : Good n ln a (i + 1) (ts ++ [t]) := by
  refine ⟨fun u hu => ?_, ?_, ?_⟩
  · rcases List.mem_append.mp hu with hu | hu
    · exact (g.mono (by omega : o ≤ i + 1)).pl u hu
    · rw [List.mem_singleton.mp hu]
      exact ⟨i, a, hi, ha, .inr ⟨rfl, Nat.lt_succ_self i⟩, ht⟩
  · rw [List.map_append]
    refine nodup_snoc g.nd fun hm => ?_
    obtain ⟨u, hu, e⟩ := List.mem_map.mp hm
    obtain ⟨i', j', a1, a2, a3, a4⟩ := g.pl u hu
    rcases ties_apart L a4 ht (by omega) a2 (by omega) ha e with ⟨b1, b2⟩ | ⟨b1, b2⟩ <;> omega
  · have z := g.few
    rw [List.length_append, List.length_singleton]
    omega
theorem Good.net {n : Nat} {ln : List Int} {o : Nat} {ts : List (Int × Int)} (L : LineOk n ln) (g : Good n ln n 0 ts) (h3 : 3 ≤ n) (h40 : n ≤ 40) : NetOk (n : Int) ts := by
  refine ⟨by omega, by omega, fun t ht => ?_, g.nd, ?_⟩
  · obtain ⟨i, j, a1, a2, a3, a4⟩ := g.pl t ht
    have b1 := L.at_ _ (L.mem (show i < n by omega))
    have b2 := L.at_ _ (L.mem a2)
    have b3 : at0 ln i ≠ at0 ln j := fun e => by
      have := L.inj (by omega) a2 e
      omega
    rcases a4 with rfl | rfl
    · exact ⟨b1, b2, b3⟩
    · exact ⟨b2, b1, b3.symm⟩
  · have z := g.few
    have y : n * (n - 1) ≤ 40 * 39 := Nat.mul_le_mul h40 (by omega)
    omega
/-- neighbours in the line, and its ends -/
theorem Good.ring {n : Nat} {ln : List Int} {ts : List (Int × Int)} (L : LineOk n ln) (g : Good n ln n 0 ts) (h3 : 3 ≤ n) (h40 : n ≤ 40) (hn : ∀ t ∈ ts, ∃ i, i + 1 < n ∧ Ties2 ln i (i + 1) t) :
    NetOk (n : Int) (ts ++ [(at0 ln 0, at0 ln (n - 1))]) := by
  have N := Good.net (o := 0) L g h3 h40
  have b1 := L.at_ _ (L.mem (show 0 < n by omega))
  have b2 := L.at_ _ (L.mem (show n - 1 < n by omega))
  refine ⟨N.lo, N.hi, fun t ht => ?_, ?_, ?_⟩
  · rcases List.mem_append.mp ht with ht | ht
    · exact N.ok t ht
    · rw [List.mem_singleton.mp ht]
      refine ⟨b1, b2, fun e => ?_⟩
      have := L.inj (by omega) (by omega) e
      omega
  · rw [List.map_append]
    refine nodup_snoc g.nd fun hm => ?_
    obtain ⟨u, hu, e⟩ := List.mem_map.mp hm
    obtain ⟨i, a1, a2⟩ := hn u hu
    rcases ties_apart L a2 (.inl rfl : Ties2 ln 0 (n - 1) _) (by omega) a1 (by omega) (by omega) e with ⟨c1, c2⟩ | ⟨c1, c2⟩ <;> omega
  · rw [List.length_append, List.length_singleton]
    have z := g.few
    have y : n * (n - 1) ≤ 40 * 39 := Nat.mul_le_mul h40 (by omega)
    omega
/-! ### the list of ties while it is made -/
def TM (H : Hp) (a : Addr) (ts : List (Int × Int)) : Prop :=
  ∃ as : List Addr, H a = some (.lst (as.map V.ref)) ∧ as.length = ts.length ∧ a ∉ as ∧ ∀ (i : Nat) (b : Addr) (t : Int × Int), as[i]? = some b → ts[i]? = some t → H b = some (.lst [.int t.1, .int t.2])
theorem TM.on {H H' : Hp} {a : Addr} {ts : List (Int × Int)} (h : TM H a ts) (e : Ex H H') : TM H' a ts := by
  obtain ⟨as, h1, h2, h3, h4⟩ := h
  exact ⟨as, e _ _ h1, h2, h3, fun i b t x y => e _ _ (h4 i b t x y)⟩
theorem TM.at_ {K : PySem.W.Frag} {H : Hp} {a : Addr} {ts : List (Int × Int)} (h : TM H a ts) : TiesAt K H a ts := by
  obtain ⟨as, h1, h2, h3, h4⟩ := h
  exact ⟨as, .inl (.inl h1), h2, fun i b t x y => .inl (.inl (h4 i b t x y))⟩
theorem TM.exA {H H' : Hp} {a d : Addr} {k : Int} {ts : List (Int × Int)} (h : TM H a ts) (hd : Dr H d k) (e : ExA d H H') : TM H' a ts := by
  obtain ⟨as, h1, h2, h3, h4⟩ := h
  obtain ⟨x, b, hx⟩ := hd
  refine ⟨as, e _ _ ?_ h1, h2, h3, fun i b t x y => e _ _ ?_ (h4 i b t x y)⟩
  · rintro rfl
    rw [hx] at h1
    cases as with
    | nil => cases h1
    | cons _ _ => cases h1
  · rintro rfl
    have z := h4 i _ t x y
    rw [hx] at z
    cases z
theorem TM.push {H : Hp} {a p : Addr} {ts : List (Int × Int)} (h : TM H a ts) (np : H p = none) (x y : Int) :
    ∃ as : List Addr, (upd H p (.lst [.int x, .int y])) a = some (.lst (as.map V.ref)) ∧ as.length = ts.length ∧ TM (upd (upd H p (.lst [.int x, .int y])) a (.lst (as.map V.ref ++ [.ref p]))) a (ts ++ [(x, y)]) := by
  obtain ⟨as, h1, h2, h3, h4⟩ := h
  have nap : a ≠ p := ne_of_none h1 np
  refine ⟨as, by rw [upd_ne nap]; exact h1, h2, as ++ [p], by rw [upd_same, List.map_append]; rfl, by simp [h2], ?_, ?_⟩
  · intro hm
    rcases List.mem_append.mp hm with hm | hm
    · exact h3 hm
    · exact nap (List.mem_singleton.mp hm)
  · intro i b t hb ht
    by_cases hi : i < as.length
    · rw [List.getElem?_append_left hi] at hb
      rw [List.getElem?_append_left (by rw [← h2]; exact hi)] at ht
      have z := h4 i b t hb ht
      have nba : b ≠ a := fun e => h3 (e ▸ List.mem_of_getElem? hb)
      rw [upd_ne nba, upd_ne (ne_of_none z np)]
      exact z
    · have hi2 : i = as.length := by
        have z := (List.getElem?_eq_some_iff.mp hb).1
        rw [List.length_append, List.length_singleton] at z
        omega
      rw [hi2, List.getElem?_append_right (Nat.le_refl _), Nat.sub_self] at hb
      rw [hi2, h2, List.getElem?_append_right (Nat.le_refl _), Nat.sub_self] at ht
      cases hb
      cases ht
      rw [upd_ne nap.symm]
      exact upd_same
end K41.Q

namespace K41.Q
open PySem PySem.Spec PyProof.Rows L2 Vf Evl


theorem TM.push2 {H : Hp} {a : Addr} {ts : List (Int × Int)} (h : TM H a ts) (x y : Int) :
    ∃ as : List Addr, H a = some (.lst (as.map V.ref)) ∧ as.length = ts.length ∧ ∀ (p : Addr) (H1 : Hp), H p = none → Ex H H1 → H1 p = some (.lst [.int x, .int y]) → TM (upd H1 a (.lst (as.map V.ref ++ [.ref p]))) a (ts ++ [(x, y)]) := by
  obtain ⟨as, h1, h2, h3, h4⟩ := h
  refine ⟨as, h1, h2, fun p H1 np e hp => ?_⟩
  have nap : a ≠ p := ne_of_none h1 np
  refine ⟨as ++ [p], by rw [upd_same, List.map_append]; rfl, by simp [h2], ?_, ?_⟩
  · intro hm
    rcases List.mem_append.mp hm with hm | hm
    · exact h3 hm
    · exact nap (List.mem_singleton.mp hm)
  · intro i b t hb ht
    by_cases hi : i < as.length
    · rw [List.getElem?_append_left hi] at hb
      rw [List.getElem?_append_left (by rw [← h2]; exact hi)] at ht
      have nba : b ≠ a := fun e => h3 (e ▸ List.mem_of_getElem? hb)
      rw [upd_ne nba]
      exact e _ _ (h4 i b t hb ht)
    · have hi2 : i = as.length := by
        have z := (List.getElem?_eq_some_iff.mp hb).1
        rw [List.length_append, List.length_singleton] at z
        omega
      rw [hi2, List.getElem?_append_right (Nat.le_refl _), Nat.sub_self] at hb
      rw [hi2, h2, List.getElem?_append_right (Nat.le_refl _), Nat.sub_self] at ht
      cases hb
      cases ht
      rw [upd_ne nap.symm]
      exact hp
/-- the net while it is drawn: behind the ties of the places below a, and of a with those below o -/
def NS (H : Hp) (d pl pt : Addr) (ln : List Int) (n : Nat) (kd kmax : Int) (a o : Nat) (H' : Hp) : Prop :=
  ∃ (ts : List (Int × Int)) (k' : Int), TM H' pt ts ∧ H' pl = some (.lst (ln.map V.int)) ∧ ExA d H H' ∧ Dr H' d k' ∧ (0 ≤ k' ∧ k' ≤ kmax) ∧ Good n ln a o ts ∧ (kd = 4 → ∀ t ∈ ts, ∃ i, i + 1 < n ∧ Ties2 ln i (i + 1) t)
section
variable {H H' H1 : Hp} {d pl pt : Addr} {ln : List Int} {n : Nat} {kd kmax : Int} {a o i : Nat}
theorem NS.on (h : NS H d pl pt ln n kd kmax a o H') (e : Ex H' H1) : NS H d pl pt ln n kd kmax a o H1 := by
  obtain ⟨ts, k', h1, h2, h3, h4, h5, h6, h7⟩ := h
  exact ⟨ts, k', h1.on e, e _ _ h2, h3.trans (ExA.of e), h4.on e, h5, h6, h7⟩
theorem NS.mono {o' : Nat} {kmax' : Int} (h : NS H d pl pt ln n kd kmax a o H') (ho : o ≤ o') (hk : kmax ≤ kmax') : NS H d pl pt ln n kd kmax' a o' H' := by
  obtain ⟨ts, k', h1, h2, h3, h4, h5, h6, h7⟩ := h
  exact ⟨ts, k', h1, h2, h3, h4, by omega, h6.mono ho, h7⟩
theorem NS.next (h : NS H d pl pt ln n kd kmax a a H') (ha : 1 ≤ a) : NS H d pl pt ln n kd kmax (a + 1) 0 H' := by
  obtain ⟨ts, k', h1, h2, h3, h4, h5, h6, h7⟩ := h
  exact ⟨ts, k', h1, h2, h3, h4, h5, h6.next ha, h7⟩
theorem NS.push (h : NS H d pl pt ln n kd kmax a o H') (L : LineOk n ln) (ha : a < n) (hi : i < a) (ho : o ≤ i) {x y : Int} (hx : Ties2 ln i a (x, y)) (h4 : kd = 4 → i + 1 = a) (hn : H pt = none) (hp : pl ≠ pt) (hd : d ≠ pt) (h40 : n ≤ 40) :
    ∃ as : List Addr, H' pt = some (.lst (as.map V.ref)) ∧ as.length < 2000 ∧ ∀ (p : Addr) (H1 : Hp), H' p = none → Ex H' H1 → H1 p = some (.lst [.int x, .int y]) → NS H d pl pt ln n kd kmax a (i + 1) (upd H1 pt (.lst (as.map V.ref ++ [.ref p]))) := by
  obtain ⟨ts, k', h1, h2, h3, ⟨xx, bb, hdr⟩, h5, h6, h7⟩ := h
  obtain ⟨as, a1, a2, a3⟩ := h1.push2 x y
  have few := h6.few
  have y1 : a * (a - 1) ≤ 40 * 40 := Nat.mul_le_mul (by omega) (by omega)
  refine ⟨as, a1, by omega, fun p H1 np e hpp => ⟨ts ++ [(x, y)], k', a3 p H1 np e hpp, ?_, (h3.trans (ExA.of e)).mut hn, ⟨xx, bb, ?_⟩, h5, h6.add L ha hi ho hx, fun c t ht => ?_⟩⟩
  · rw [upd_ne hp]; exact e _ _ h2
  · rw [upd_ne hd]; exact e _ _ hdr
  · rcases List.mem_append.mp ht with ht | ht
    · exact h7 c t ht
    · rw [List.mem_singleton.mp ht]
      have := h4 c
      exact ⟨i, by omega, by rw [show i + 1 = a from this]; exact hx⟩
/-- behind a draw -/
theorem NS.draw {ts : List (Int × Int)} {k' : Int} (h1 : TM H' pt ts) (h2 : H' pl = some (.lst (ln.map V.int))) (h3 : ExA d H H') (h4 : Dr H' d k') (h5 : 0 ≤ k' ∧ k' ≤ kmax) (h6 : Good n ln a o ts)
    (h7 : kd = 4 → ∀ t ∈ ts, ∃ i, i + 1 < n ∧ Ties2 ln i (i + 1) t) (e : ExA d H' H1) (hd : Dr H1 d (k' + 1)) (hp : pl ≠ d) : NS H d pl pt ln n kd (kmax + 1) a o H1 :=
  ⟨ts, k' + 1, h1.exA h4 e, e _ _ hp h2, h3.trans e, hd, by omega, h6, h7⟩
end
theorem in14 (k : Int) : inV (.int k) [.int 1, .int 4] = (decide (k = 1) || decide (k = 4)) := by
  show ((1 : Int) == k || ((4 : Int) == k || false)) = _
  rw [Bool.or_false, Bool.eq_iff_iff]
  simp only [Bool.or_eq_true, beq_iff_eq, decide_eq_true_eq]
  omega
theorem cut_to (xs : List V) (k : Nat) : cutV xs none (some (k : Int)) = xs.take k := by
  unfold cutV
  rw [HT.sIx_none, HT.sIx_nat]
  by_cases h : k ≤ xs.length
  · rw [Nat.min_eq_left h]
    rfl
  · rw [Nat.min_eq_right (by omega), List.take_of_length_le (by show (xs.drop 0).length ≤ _; simp), List.take_of_length_le (by omega)]
    rfl
end K41.Q

namespace K41.Q
open PySem PySem.Spec PyProof.Rows L2 Vf Evl


theorem line_of {n : Int} (hn : 0 ≤ n) {ys : List V} (h : ys.Perm (rgV 1 (n + 1))) : ∃ ln : List Int, ys = ln.map V.int ∧ LineOk n.toNat ln := by
  let un : V → Int := fun v => match v with | .int i => i | _ => 0
  have e0 : rgV 1 (n + 1) = ((List.range n.toNat).map fun i : Nat => 1 + (i : Int)).map V.int := by
    unfold rgV
    rw [List.map_map, show (n + 1 - 1).toNat = n.toNat by omega]
    rfl
  have e1 : (((List.range n.toNat).map fun i : Nat => 1 + (i : Int)).map V.int).map un = (List.range n.toNat).map fun i : Nat => 1 + (i : Int) := by
    rw [List.map_map]
    exact (List.map_congr_left fun _ _ => rfl).trans (List.map_id _)
  rw [e0] at h
  have hp : (ys.map un).Perm ((List.range n.toNat).map fun i : Nat => 1 + (i : Int)) := by
    have z := h.map un
    rw [e1] at z
    exact z
  refine ⟨ys.map un, ?_, ?_, ?_, ?_⟩
  · rw [List.map_map]
    refine ((List.map_congr_left fun v hv => ?_).trans (List.map_id _)).symm
    obtain ⟨i, _, rfl⟩ := List.mem_map.mp (h.mem_iff.mp hv)
    rfl
  · rw [hp.length_eq]
    simp
  · refine hp.nodup_iff.mpr ?_
    refine List.Pairwise.map _ (fun a b hab => ?_) List.nodup_range
    intro e
    exact hab (by omega)
  · intro x hx
    obtain ⟨i, hi, rfl⟩ := List.mem_map.mp (hp.mem_iff.mp hx)
    have := List.mem_range.mp hi
    omega
section
variable {P : Program} {w : World} {K : PySem.W.Frag} {mg : Str → Option Value} {base : Heap} {A : Ad}
def sp_l_net : Sp := fun vs H Q _ => ∃ (d : Addr) (k m : Int), vs = [.ref d, .int m] ∧ Dr H d k ∧ (0 ≤ k ∧ k < 2 ^ 39) ∧ (4 ≤ m ∧ m ≤ 40) ∧
  ∀ (n : Int) (ts : List (Int × Int)) (a t : Addr) (k' : Int) (H2 : Hp), NetOk n ts → n ≤ m → H t = none → ExA d H H2 → Dr H2 d k' → (0 ≤ k' ∧ k' ≤ k + 5000) → TM H2 a ts → H2 t = some (.tup [.int n, .ref a]) → Q (.ref t) H2
theorem ok_l_net (T : Txt K mg A) : FnOk P w K mg base CX0 3 A.f_l_net A.d_l_net ["_law_draws_here", "_law_most"] sp_l_net := by
  have G_l_next : FnOk P w K mg base CX0 1 A.f_l_next A.d_l_next ["_law_draws_here"] sp_l_next := ok_l_next T
  have G_l_mixed : FnOk P w K mg base CX0 2 A.f_l_mixed A.d_l_mixed ["_law_draws_here", "_law_some"] (sp_l_mixed K) := ok_l_mixed T
  refine T.F_l_net.ok sc_l_net (fun vs H Q E h => ?_) (fun cdv A' outer s H vs Q E hr h => ?_)
  · obtain ⟨d, k, m, rfl, _⟩ := h
    rfl
  · obtain ⟨d, k, m, rfl, hd, hk, hm, q⟩ := h
    refine ⟨_, (pss_cons (ps_set (i := 2) sc_l_net.nd rfl (by first | exact .inl rfl | exact .inr rfl) (pe_op op_add pe_int (pe_op op_modN (pe_callTy call_int1 (by rfl) T.z_int (by decide +kernel) (pa_cons (pe_call G_l_next (hr.mono (by decide)) (by rfl) T.g_l_next T.F_l_next.kp T.b_l_next .nil pass0 (pa_cons (pv 0) pa_nil)) pa_nil)) (pe_op op_sub (pv 1) pe_int))))
      (pss_cons (ps_set (i := 3) sc_l_net.nd rfl (by first | exact .inl rfl | exact .inr rfl) (pe_op op_modN (pe_callTy call_int1 (by rfl) T.z_int (by decide +kernel) (pa_cons (pe_call G_l_next (hr.mono (by decide)) (by rfl) T.g_l_next T.F_l_next.kp T.b_l_next .nil pass0 (pa_cons (pv 0) pa_nil)) pa_nil)) pe_int))
      (pss_cons (ps_set (i := 4) sc_l_net.nd rfl (by first | exact .inl rfl | exact .inr rfl) (pe_call G_l_mixed (hr.mono (by decide)) (by rfl) T.g_l_mixed T.F_l_mixed.kp T.b_l_mixed .nil pass0 (pa_cons (pv 0) (pa_cons (pe_listRg rfl (by rfl) T.z_list (prg_2 (by rfl) T.z_range pe_int (pe_op op_add (pv 2) pe_int))) pa_nil))))
      (pss_cons (ps_set (i := 5) sc_l_net.nd rfl (by first | exact .inl rfl | exact .inr rfl) (pe_lst pa_nil))
      (pss_cons (ps_for PassesOwn.never rfl (pi_range2 (by rfl) T.z_range (pa_cons pe_int (pa_cons (pv 2) pa_nil))) (pg_name (i := 6) sc_l_net.nd rfl (by first | exact .inl rfl | exact .inr rfl)) (pss_cons (ps_set (i := 7) sc_l_net.nd rfl (by first | exact .inl rfl | exact .inr rfl) (pe_callTy call_int1 (by rfl) T.z_int (by decide +kernel) (pa_cons (pe_call G_l_next (hr.mono (by decide)) (by rfl) T.g_l_next T.F_l_next.kp T.b_l_next .nil pass0 (pa_cons (pv 0) pa_nil)) pa_nil)))
      (pss_cut (ps_if (pt_cmpR (op_inK (K := K) rfl) (pv 3) (pe_lst (pa_cons pe_int (pa_cons pe_int pa_nil))) (by rfl)) (pss_one (ps_expr (pe_bmK (K := K) rfl PySem.F.plainAttrs_list PySem.F.slot_list_append PySem.F.type_list_append mt_append (pv 5) (pa_cons (pe_lst (pa_cons (pe_ix (ix_listK (K := K) rfl) (pv 4) (pe_op op_sub (pv 6) pe_int) (fun _ _ => rfl)) (pa_cons (pe_ix (ix_listK (K := K) rfl) (pv 4) (pv 6) (fun _ _ => rfl)) pa_nil))) pa_nil)))) pss_nil)
      (pss_cut (ps_if (PW.pt (pw_or (pt_cmpR op_eq (pv 3) pe_int (nomark _)) (pw_or1 (PW.pt (pw_and (pt_cmpR op_eq (pv 3) pe_int (nomark _)) (pw_and1 (pt_cmpR op_gt (pe_op op_modN (pe_op op_fdivN (pv 7) pe_int) pe_int) pe_int (nomark _)))))))) (pss_one (ps_expr (pe_bmK (K := K) rfl PySem.F.plainAttrs_list PySem.F.slot_list_append PySem.F.type_list_append mt_append (pv 5) (pa_cons (pe_lst (pa_cons (pe_ix (ix_listK (K := K) rfl) (pv 4) (pv 6) (fun _ _ => rfl)) (pa_cons (pe_ix (ix_listK (K := K) rfl) (pv 4) (pe_op op_modN (pv 7) (pv 6)) (fun _ _ => rfl)) pa_nil))) pa_nil)))) pss_nil)
      (pss_one (ps_for PassesOwn.never rfl (pi_listK (K := K) rfl (pe_slice (sl_listK (K := K) rfl) (pv 4) po_none (po_some (pv 6)))) (pg_name (i := 8) sc_l_net.nd rfl (by first | exact .inl rfl | exact .inr rfl)) (pss_one (ps_if (PW.pt (pw_and (pt_cmpR op_eq (pv 3) pe_int (nomark _)) (pw_and1 (pt_cmpR op_eq (pe_op op_modN (pe_callTy call_int1 (by rfl) T.z_int (by decide +kernel) (pa_cons (pe_call G_l_next (hr.mono (by decide)) (by rfl) T.g_l_next T.F_l_next.kp T.b_l_next .nil pass0 (pa_cons (pv 0) pa_nil)) pa_nil)) pe_int) pe_int (nomark _))))) (pss_one (ps_expr (pe_bmK (K := K) rfl PySem.F.plainAttrs_list PySem.F.slot_list_append PySem.F.type_list_append mt_append (pv 5) (pa_cons (pe_lst (pa_cons (pe_ix (ix_listK (K := K) rfl) (pv 4) (pv 6) (fun _ _ => rfl)) (pa_cons (pv 8) pa_nil))) pa_nil)))) pss_nil))))))))
      (pss_cut (ps_if (pt_cmpR op_eq (pv 3) pe_int (nomark _)) (pss_one (ps_expr (pe_bmK (K := K) rfl PySem.F.plainAttrs_list PySem.F.slot_list_append PySem.F.type_list_append mt_append (pv 5) (pa_cons (pe_lst (pa_cons (pe_ix (ix_listK (K := K) rfl) (pv 4) pe_int (fun _ _ => rfl)) (pa_cons (pe_ix (ix_listK (K := K) rfl) (pv 4) (pe_un un_neg pe_int) (fun _ _ => rfl)) pa_nil))) pa_nil)))) pss_nil)
      (pss_one (ps_ret (pe_tup (pa_cons (pv 2) (pa_cons (pv 5) pa_nil))))))))))), ?_⟩
    have hdn : H d ≠ none := by
      obtain ⟨x, b, h⟩ := hd
      rw [h]
      exact fun z => nomatch z
    -- seats = 3 + int(next) % (most - 2)
    refine ⟨_, rfl, d, k, rfl, hd, ⟨hk.1, by omega⟩, fun r1 H1 r1p e1 hd1 => .inl ⟨r1, rfl, _, rfl, m, 2, rfl, rfl, _, _, rfl, rfl, (by omega), _, _, rfl, rfl, ?_⟩⟩
    have f1 := fmod_at (i := r1) (j := m - 2) (by omega)
    obtain ⟨n, hn⟩ : ∃ n, 3 + r1.fmod (m - 2) = n := ⟨_, rfl⟩
    have n3 : 3 ≤ n := by omega
    have n40 : n ≤ 40 := by omega
    have nm : n ≤ m := by omega
    -- kind = int(next) % 6
    refine ⟨_, rfl, d, _, rfl, hd1, ⟨by omega, by omega⟩, fun r2 H2 r2p e2 hd2 => .inl ⟨r2, rfl, _, _, rfl, rfl, (by show (6 : Int) ≠ 0; decide), ?_⟩⟩
    have f2 := fmod_at (i := r2) (j := 6) (by decide)
    obtain ⟨kd, hkd⟩ : ∃ kd, r2.fmod 6 = kd := ⟨_, rfl⟩
    rw [hkd] at f2
    -- line = mixed(list(range(1, seats + 1)))
    refine ⟨_, rfl, _, rfl, _, _, rfl, rfl, _, _, rfl, rfl, ⟨by decide, by decide, by omega, by omega, by omega⟩, fun p0 np0 => ?_⟩
    have e3 : Ex H2 (upd H2 p0 (.lst (rgV 1 (n + 1)))) := Ex.new np0
    have hp0 : (upd H2 p0 (.lst (rgV 1 (n + 1)))) p0 = some (.lst (rgV 1 (n + 1))) := upd_same
    rw [show (fun i j : Int => V.int (i + j)) 3 (r1.fmod (m - 2)) = V.int n from congrArg V.int hn, show (fun i j : Int => V.int (i.fmod j)) r2 6 = V.int kd from congrArg V.int hkd]
    try rw [hn]
    have xsl : (rgV 1 (n + 1)).length = n.toNat := by rw [rgV_length]; omega
    refine ⟨d, p0, _, rgV 1 (n + 1), rfl, hd2.on e3, ⟨by omega, by rw [xsl]; omega⟩, .inl (.inl hp0), by rw [xsl]; omega, fun H' _ x hx => ?_, fun ys pl H3 pm npl e4 hd3 hpl => ?_⟩
    · unfold rgV at hx
      obtain ⟨i, _, rfl⟩ := List.mem_map.mp hx
      exact Sh.int _
    obtain ⟨ln, rfl, L⟩ := line_of (by omega) pm
    -- ties = []
    refine ⟨Nat.zero_le _, fun pt npt => ?_⟩
    have e5 : Ex H3 (upd H3 pt (.lst [])) := Ex.new npt
    have eA : ExA d H H3 := ((e1.trans e2).trans (ExA.of e3)).trans e4
    have hpt : H pt = none := by
      cases hq : H pt with
      | none => rfl
      | some o =>
        have nd : pt ≠ d := fun z => by
          obtain ⟨x, b, hx⟩ := hd3
          rw [z, hx] at npt
          cases npt
        have z := eA _ _ nd hq
        rw [npt] at z
        cases z
    have ndt : d ≠ pt := fun z => hdn (z ▸ hpt)
    have nlt : pl ≠ pt := ne_of_none hpl npt
    have nld : pl ≠ d := fun z => by
      obtain ⟨x, b, hx⟩ := hd3
      rw [← z, hpl] at hx
      injection hx with hx
      injection hx with hx
      have := L.len
      match ln, hx with
      | [a, b, c], hx => cases hx
    have N0 : NS H d pl pt ln n.toNat kd (k + 100) 1 0 (upd H3 pt (.lst [])) := by
      refine ⟨[], _, ⟨[], upd_same, rfl, (fun z => nomatch z), (fun i b t x => nomatch x)⟩, e5 _ _ hpl, eA.trans (ExA.of e5), hd3.on e5, ?_, Good.nil _ _, fun _ t z => nomatch z⟩
      rw [xsl]
      omega
    have lnl := L.len
    have k0 := hk.1
    generalize upd H3 pt (.lst []) = H5 at N0
    clear hpl hd3 e1 e2 e3 e4 e5 eA npt pm
    refine q_forR2 (lo := 1) (n := n) (ea_cons ev_c (ea_cons (ev_var rfl) ea_nil)) (by omega) (fun i σ' H' => ∃ y6 y7 y8, σ' = [some (.ref d), some (.int m), some (.int n), some (.int kd), some (.ref pl), some (.ref pt), y6, y7, y8] ∧
        NS H d pl pt ln n.toNat kd (k + 100 + 50 * i) (i + 1) 0 H') (fun H1 e1 => ⟨none, none, none, rfl, by simpa using N0.on e1⟩) ?_ ?_
    · rintro i σ' H' hi ⟨y6, y7, y8, rfl, ts, k', h1, h2, h3, h4, h5, h6, h7⟩
      refine ⟨_, rfl, d, k', rfl, h4, ⟨h5.1, by omega⟩, fun r H1 r0 er hdr => .inl ⟨r, rfl, ?_⟩⟩
      have N1 := NS.draw (kd := kd) h1 h2 h3 h4 h5 h6 h7 er hdr nld
      clear h1 h2 h3 h4 h5 h6 h7 er hdr H'
      show tCut _ _ _ [some (V.ref d), some (V.int m), some (V.int n), some (V.int kd), some (V.ref pl), some (V.ref pt), some (V.int (1 + (i : Int))), some (V.int r), y8] H1
      generalize hS : ([some (V.ref d), some (V.int m), some (V.int n), some (V.int kd), some (V.ref pl), some (V.ref pt), some (V.int (1 + (i : Int))), some (V.int r), y8] : L2.St) = S
      have hi2 : i + 1 < n.toNat := by omega
      have at1 : ∀ H', H' pl = some (.lst (ln.map V.int)) → Ev (tOp (rIxL K) (tVar 4) (tVar 6)) S H' (.int (at0 ln (i + 1))) := fun H' h => by
        subst hS
        refine ev_op (ev_var rfl) (ev_var rfl) (rv_ixL (.inl (.inl h)) ?_)
        have z := atI_int (l := ln) (i := 1 + (i : Int)) (by omega) (by omega)
        rwa [show (1 + (i : Int)).toNat = i + 1 by omega] at z
      -- if kind in [1, 4]
      have NSpl : ∀ {kmax a o H'}, NS H d pl pt ln n.toNat kd kmax a o H' → H' pl = some (.lst (ln.map V.int)) := fun ⟨_, _, _, h, _⟩ => h
      refine q_cut (M := fun σ' H' => σ' = S ∧ NS H d pl pt ln n.toNat kd (k + 100 + 50 * ↑i + 1) (i + 1) (if kd = 1 ∨ kd = 4 then i + 1 else 0) H') ?_ ?_
      · have tst : EvT (tTest (tOp (rIn K false) (tVar 3) (tLst (tCons (tC (V.int 1)) (tCons (tC (V.int 4)) tNil))))) S H1 (decide (kd = 1) || decide (kd = 4)) := by
          rw [← in14 kd]
          subst hS
          exact et_test (ev_opL (ev_var rfl) (el_lst (ea_cons ev_c (ea_cons ev_c ea_nil)) (by decide)) fun p H' hp _ => rv_isL (.inl (.inl hp)) rfl rfl)
        refine s_if (D := { nx := fun σ' H' => σ' = S ∧ NS H d pl pt ln n.toNat kd (k + 100 + 50 * ↑i + 1) (i + 1) (if kd = 1 ∨ kd = 4 then i + 1 else 0) H' , rt := _, ct := _, bk := _ }) tst (fun c H' e => ?_) fun c H' e => ?_
        · have c : kd = 1 ∨ kd = 4 := by simpa using c
          rw [if_pos c]
          have N2 := N1.on e
          obtain ⟨as, a1, a2, a3⟩ := N2.push (i := i) L hi2 (by omega) (by omega) (.inl rfl) (fun _ => rfl) hpt nlt ndt (by omega)
          subst hS
          refine s_appL a1 (ev_var rfl) (el_lst (ea_cons (ev_op (ev_var rfl) (ev_op (ev_var rfl) ev_c rv_I0) (rv_ixL (.inl (.inl (NSpl N2))) (v := .int (at0 ln i)) ?_)) (ea_cons (at1 _ (NSpl N2)) ea_nil)) (by show 2 ≤ 100000; decide)) (by rw [List.length_map]; omega) fun p H2 np e2 hp => ⟨rfl, a3 p H2 np e2 hp⟩
          have z := atI_int (l := ln) (i := 1 + (i : Int) - 1) (by omega) (by omega)
          rwa [show (1 + (i : Int) - 1).toNat = i by omega] at z
        · have c : ¬ (kd = 1 ∨ kd = 4) := by simpa using c
          rw [if_neg c]
          exact ⟨rfl, N1.on e⟩
      rintro _ H' ⟨hS', N2⟩
      rw [hS']
      clear hS'
      -- if kind == 2 or (kind == 3 and pick // 64 % 3 > 0)
      refine q_cut (M := fun σ' H' => σ' = S ∧ NS H d pl pt ln n.toNat kd (k + 100 + 50 * ↑i + 1) (i + 1) (if kd = 5 then 0 else i + 1) H') ?_ ?_
      · have tst : EvT (tOr (tTest (tOp rEq (tVar 3) (tC (V.int 2)))) (tAnd (tTest (tOp rEq (tVar 3) (tC (V.int 3)))) (tTest (tOp (rI0 fun i j => V.bl (decide (j < i)))
              (tOp (rI (fun x j => j ≠ 0) fun i j => V.int (i.fmod j)) (tOp (rI CDivN fun i j => V.int (i.fdiv j)) (tVar 7) (tC (V.int 64))) (tC (V.int 3))) (tC (V.int 0)))))) S H' (decide (V.int kd = V.int 2) || (decide (V.int kd = V.int 3) && decide (0 < (r.fdiv 64).fmod 3))) := by
          subst hS
          exact et_or (et_test (ev_op (ev_var rfl) ev_c (rv_eq rfl))) fun _ => et_and (et_test (ev_op (ev_var rfl) ev_c (rv_eq rfl))) fun _ => et_test (ev_op (ev_op (ev_op (ev_var rfl) ev_c (rv_I ⟨by decide, by decide⟩)) ev_c (rv_I (by decide))) ev_c rv_I0)
        refine s_if (D := { nx := fun σ' H' => σ' = S ∧ NS H d pl pt ln n.toNat kd (k + 100 + 50 * ↑i + 1) (i + 1) (if kd = 5 then 0 else i + 1) H', rt := _, ct := _, bk := _ }) tst (fun c H1 e => ?_) fun c H1 e => ?_
        · rw [dec_vi, dec_vi] at c
          have c : kd = 2 ∨ kd = 3 := by
            rcases Bool.or_eq_true_iff.mp c with c | c
            · exact .inl (of_decide_eq_true c)
            · exact .inr (of_decide_eq_true (Bool.and_eq_true_iff.mp c).1)
          rw [if_neg (by omega)]
          rw [if_neg (by omega)] at N2
          have N3 := N2.on e
          have fr := fmod_at (i := r) (j := 1 + (i : Int)) (by omega)
          obtain ⟨j, hj⟩ : ∃ j : Nat, r.fmod (1 + (i : Int)) = j := ⟨(r.fmod (1 + (i : Int))).toNat, by omega⟩
          obtain ⟨as, a1, a2, a3⟩ := N3.push (i := j) L hi2 (by omega) (Nat.zero_le _) (.inr rfl) (fun z => by omega) hpt nlt ndt (by omega)
          subst hS
          refine s_appL a1 (ev_var rfl) (el_lst (ea_cons (at1 _ (NSpl N3)) (ea_cons (ev_op (ev_var rfl) (ev_op (ev_var rfl) (ev_var rfl) (rv_I (by show 1 + (i : Int) ≠ 0; omega))) (rv_ixL (.inl (.inl (NSpl N3))) (v := .int (at0 ln j)) ?_)) ea_nil)) (by show 2 ≤ 100000; decide)) (by rw [List.length_map]; omega) fun p H2 np e2 hp => ⟨rfl, (a3 p H2 np e2 hp).mono (by omega) (Int.le_refl _)⟩
          have z := atI_int (l := ln) (i := r.fmod (1 + (i : Int))) (by omega) (by omega)
          rw [hj] at z ⊢
          exact z
        · refine ⟨rfl, (N2.on e).mono ?_ (Int.le_refl _)⟩
          by_cases c5 : kd = 5
          · rw [if_neg (by omega), if_pos c5]
            exact Nat.le_refl _
          · rw [if_neg c5]
            split
            · exact Nat.le_refl _
            · exact Nat.zero_le _
      rintro _ H' ⟨hS', N3⟩
      rw [hS']
      clear hS'
      -- for other in line[:at]
      subst hS
      refine s_forNL (el_sl (ev_var rfl) eo_none (eo_some (ev_var rfl)) (.inl (.inl (NSpl N3)))) (fun p j σ' H' => (∃ y8, σ' = [some (.ref d), some (.int m), some (.int n), some (.int kd), some (.ref pl), some (.ref pt), some (.int (1 + (i : Int))), some (.int r), y8]) ∧
          p ≠ d ∧ p ≠ pt ∧ H' p = some (.lst (cutV (ln.map V.int) none (some (1 + (i : Int))))) ∧ NS H d pl pt ln n.toNat kd (k + 100 + 50 * ↑i + 1 + j) (i + 1) (if kd = 5 then j else i + 1) H') ?_ ?_ ?_ ?_
      · intro p H1 np e1 hp
        obtain ⟨_, _, ⟨_, z, _⟩, _, _, ⟨_, _, z2⟩, _⟩ := id N3
        refine ⟨⟨_, rfl⟩, fun c => ?_, fun c => ?_, hp, ?_⟩
        · rw [← c, np] at z2
          cases z2
        · rw [← c, np] at z
          cases z
        · exact (N3.on e1).mono (by split <;> omega) (by omega)
      · rintro p j σ' H1 _ ⟨_, _, _, h, _⟩
        exact .inl (.inl h)
      · rintro p j x σ' H1 hx ⟨⟨y, rfl⟩, npd, nppt, hp, N4⟩
        rw [show (1 + (i : Int)) = ((i + 1 : Nat) : Int) by omega, cut_to] at hx
        have hj : j < i + 1 := by
          have z := (List.getElem?_eq_some_iff.mp hx).1
          rw [List.length_take] at z
          omega
        rw [List.getElem?_take_of_lt hj, List.getElem?_map, Option.map_eq_some_iff] at hx
        obtain ⟨o, ho, rfl⟩ := hx
        have eo : o = at0 ln j := by
          unfold at0
          rw [List.getD_eq_getElem?_getD, ho]
          rfl
        subst eo
        refine ⟨_, rfl, rfl, _, rfl, ?_⟩
        rw [dec_vi]
        by_cases c : kd = 5
        · rw [decide_eq_true c]
          rw [if_pos c] at N4
          refine iteT ?_
          obtain ⟨ts, k', h1, h2, h3, h4, h5, h6, h7⟩ := N4
          refine ⟨_, rfl, d, k', rfl, h4, ⟨h5.1, by omega⟩, fun r2 H2 r0 er hdr => .inl ⟨r2, rfl, _, _, rfl, rfl, (by show (4 : Int) ≠ 0; decide), rfl, _, rfl, ?_⟩⟩
          have N5 := NS.draw (kd := kd) h1 h2 h3 h4 h5 h6 h7 er hdr nld
          have hp2 := er _ _ npd hp
          clear h1 h2 h3 h4 h5 h6 h7 er hdr hp
          rw [dec_vi]
          by_cases c4 : r2.fmod 4 = 0
          · rw [decide_eq_true c4]
            refine iteT ?_
            obtain ⟨as, a1, a2, a3⟩ := N5.push (i := j) L hi2 (by omega) (Nat.le_refl _) (.inr rfl) (fun z => by omega) hpt nlt ndt (by omega)
            refine s_appL a1 (ev_var rfl) (el_lst (ea_cons (ev_op (ev_var rfl) (ev_var rfl) (rv_ixL (.inl (.inl (NSpl N5))) (v := .int (at0 ln (i + 1))) ?_)) (ea_cons (ev_var rfl) ea_nil)) (by show 2 ≤ 100000; decide)) (by rw [List.length_map]; omega) fun p2 H3 np e2 hp3 => ⟨⟨_, rfl⟩, npd, nppt, ?_, ?_⟩
            · have z := atI_int (l := ln) (i := 1 + (i : Int)) (by omega) (by omega)
              rwa [show (1 + (i : Int)).toNat = i + 1 by omega] at z
            · rw [upd_ne nppt]
              exact e2 _ _ hp2
            · rw [if_pos c]
              exact (a3 p2 H3 np e2 hp3).mono (Nat.le_refl _) (by omega)
          · rw [decide_eq_false c4]
            refine iteF ⟨⟨_, rfl⟩, npd, nppt, hp2, ?_⟩
            rw [if_pos c]
            exact N5.mono (by omega) (by omega)
        · rw [decide_eq_false c]
          refine iteF ⟨⟨_, rfl⟩, npd, nppt, hp, ?_⟩
          rw [if_neg c] at N4 ⊢
          exact N4.mono (Nat.le_refl _) (by omega)
      · rintro p σ' H1 ⟨⟨y, rfl⟩, _, _, _, N4⟩
        have cl : (cutV (ln.map V.int) none (some (1 + (i : Int)))).length = i + 1 := by
          rw [show (1 + (i : Int)) = ((i + 1 : Nat) : Int) by omega, cut_to, List.length_take, List.length_map]
          omega
        rw [cl] at N4
        refine ⟨_, _, _, rfl, ?_⟩
        have N5 : NS H d pl pt ln n.toNat kd (k + 100 + 50 * ↑i + 1 + ((i + 1 : Nat) : Int)) (i + 1) (i + 1) H1 := by
          by_cases c : kd = 5
          · rw [if_pos c] at N4
            exact N4
          · rw [if_neg c] at N4
            exact N4
        exact (N5.next (by omega)).mono (Nat.le_refl _) (by omega)
    · rintro σ' H' ⟨y6, y7, y8, rfl, N6⟩
      rw [show (n - 1).toNat + 1 = n.toNat by omega] at N6
      obtain ⟨ts, k', h1, h2, h3, h4, h5, h6, h7⟩ := N6
      refine q_cut (M := fun σ' H' => σ' = [some (.ref d), some (.int m), some (.int n), some (.int kd), some (.ref pl), some (.ref pt), y6, y7, y8] ∧ ∃ ts k', TM H' pt ts ∧ ExA d H H' ∧ Dr H' d k' ∧ (0 ≤ k' ∧ k' ≤ k + 5000) ∧ NetOk n ts) ?_ ?_
      · refine ⟨_, rfl, rfl, _, rfl, ?_⟩
        rw [dec_vi]
        have en : ((n.toNat : Nat) : Int) = n := by omega
        by_cases c : kd = 4
        · rw [decide_eq_true c]
          refine iteT ?_
          have N := Good.ring L h6 (by omega) (by omega) (h7 c)
          rw [en] at N
          obtain ⟨as, a1, a2, a3⟩ := h1.push2 (at0 ln 0) (at0 ln (n.toNat - 1))
          have few := h6.few
          have y1 : n.toNat * (n.toNat - 1) ≤ 40 * 40 := Nat.mul_le_mul (by omega) (by omega)
          obtain ⟨xx, bb, hdr⟩ := h4
          refine s_appL a1 (ev_var rfl) (el_lst (ea_cons (ev_op (ev_var rfl) ev_c (rv_ixL (.inl (.inl h2)) (v := .int (at0 ln 0)) ?_)) (ea_cons (ev_op (ev_var rfl) (ev_un (z := .int (-1)) ev_c fun H1 e Q q => ⟨1, rfl, q H1 (Ex.refl H1)⟩) (rv_ixL (.inl (.inl h2)) (v := .int (at0 ln (n.toNat - 1))) ?_)) ea_nil)) (by show 2 ≤ 100000; decide)) (by rw [List.length_map]; omega) fun p H2 np e2 hp => ⟨rfl, _, k', a3 p H2 np e2 hp, (h3.trans (ExA.of e2)).mut hpt, ⟨xx, bb, ?_⟩, ⟨h5.1, by omega⟩, N⟩
          · exact atI_int (l := ln) (i := 0) (by omega) (by omega)
          · have hg : ln[n.toNat - 1]? = some (at0 ln (n.toNat - 1)) := by
              unfold at0
              rw [List.getD_eq_getElem?_getD, List.getElem?_eq_getElem (by omega : n.toNat - 1 < ln.length)]
              rfl
            have hz := take_snoc hg
            rw [show n.toNat - 1 + 1 = n.toNat by omega, List.take_of_length_le (by omega)] at hz
            have z := atI_last ((ln.take (n.toNat - 1)).map V.int) (.int (at0 ln (n.toNat - 1)))
            have z2 : ln.map V.int = (ln.take (n.toNat - 1)).map V.int ++ [.int (at0 ln (n.toNat - 1))] := by
              rw [← List.map_singleton, ← List.map_append, ← hz]
            rw [z2]
            exact z
          · rw [upd_ne ndt]
            exact e2 _ _ hdr
        · rw [decide_eq_false c]
          refine iteF ⟨rfl, ts, k', h1, h3, h4, ⟨h5.1, by omega⟩, ?_⟩
          have N := Good.net (o := 0) L h6 (by omega) (by omega)
          rwa [en] at N
      rintro _ H' ⟨hS', ts, k', h1, h3, h4, h5, N⟩
      rw [hS']
      refine s_retU (eu_tup (ea_cons (ev_var rfl) (ea_cons (ev_var rfl) ea_nil)) (by show 2 ≤ 100000; decide)) fun p H2 np e2 hp => ?_
      have npH : H p = none := by
        cases hq : H p with
        | none => rfl
        | some o =>
          have nd : p ≠ d := fun z => by
            obtain ⟨x, b, hx⟩ := h4
            rw [z, hx] at np
            cases np
          have z := h3 _ _ nd hq
          rw [np] at z
          cases z
      exact q n ts pt p k' H2 N nm npH (h3.trans (ExA.of e2)) (h4.on e2) h5 (h1.on e2) hp
end
end K41.Q

namespace K41
open PySem PySem.Spec PyProof.Rows L2 Vf Evl
open Q (TdAt PairsAt)
/-! ### rooms -/
/-- where the people are, how many changed seats, what was so ahead of each deed -/
structure RS where
  pl : List Int
  ch : Int
  er : List (List Int × Int)
/-- all but the room and its list of deeds -/
def rest (H : Hp) (a e : Addr) : Hp := del (del H a) e
def fsR (n : Nat) (tA tdA plA : Addr) (ch : Int) (e : Addr) : List (Str × V) := [("_seats", .int (n : Int)), ("_ties", .ref tA), ("_tied", .ref tdA), ("_places", .ref plA), ("_changes", .int ch), ("_earlier", .ref e)]
theorem put_places {n : Nat} {tA tdA plA p : Addr} {ch : Int} {e : Addr} : putF "_places" (.ref p) (fsR n tA tdA plA ch e) = fsR n tA tdA p ch e := rfl
theorem put_changes {n : Nat} {tA tdA plA : Addr} {ch c : Int} {e : Addr} : putF "_changes" (.int c) (fsR n tA tdA plA ch e) = fsR n tA tdA plA c e := rfl
/-- what lies behind the room: R, the rest -/
structure Behind (K : PySem.W.Frag) (R : Hp) (tA tdA plA : Addr) (es : List Addr) (n : Nat) (ts : List (Int × Int)) (s : RS) : Prop where
  ties : TiesAt K R tA ts
  tied : TdAt K R tdA n (MR.tdF ts)
  pl : SqL K R plA (s.pl.map V.int)
  len : es.length = s.er.length
  er : ∀ (i : Nat) (b : Addr) (x : List Int × Int), es[i]? = some b → s.er[i]? = some x → ∃ p, R b = some (.tup [.ref p, .int x.2]) ∧ SqL K R p (x.1.map V.int)
def RoomAt (K : PySem.W.Frag) (A : Ad) (H : Hp) (a e : Addr) (n : Nat) (ts : List (Int × Int)) (s : RS) : Prop :=
  ∃ dx tA tdA plA es, H a = some (.ins A.c_Room dx (fsR n tA tdA plA s.ch e)) ∧ a ≠ e ∧ H e = some (.lst (es.map V.ref)) ∧ Behind K (rest H a e) tA tdA plA es n ts s
section
variable {P : Program} {w : World} {K : PySem.W.Frag} {mg : Str → Option Value} {base : Heap} {A : Ad} {H H' : Hp} {a e : Addr} {n : Nat} {ts : List (Int × Int)} {s : RS}
theorem rest_ex : Ex (rest H a e) H := del_ex.trans del_ex
theorem rest_at {b : Addr} (h1 : b ≠ a) (h2 : b ≠ e) : rest H a e b = H b := (del_ne h2).trans (del_ne h1)
theorem rest_none {b : Addr} {o : HO} (h : rest H a e b = some o) : b ≠ a ∧ b ≠ e := by
  refine ⟨fun z => ?_, fun z => ?_⟩
  · by_cases z2 : a = e
    · rw [z, z2] at h
      rw [show rest H e e e = none from del_same] at h
      cases h
    · rw [z, show rest H a e a = none from (del_ne z2).trans del_same] at h
      cases h
  · rw [z, show rest H a e e = none from del_same] at h
    cases h
theorem rest_eq (h : ∀ b, b ≠ a → b ≠ e → H' b = H b) : rest H' a e = rest H a e := by
  funext b
  by_cases h1 : b = e
  · rw [h1]
    exact (show rest H' a e e = none from del_same).trans (show rest H a e e = none from del_same).symm
  · by_cases h2 : b = a
    · subst h2
      exact ((del_ne h1).trans del_same).trans ((del_ne h1).trans del_same).symm
    · rw [rest_at h2 h1, rest_at h2 h1]
      exact h b h2 h1
theorem rest_upE {o : HO} : rest (upd H e o) a e = rest H a e := rest_eq fun b _ h => upd_ne h
theorem rest_upA {o : HO} : rest (upd H a o) a e = rest H a e := rest_eq fun b h _ => upd_ne h
theorem rest_mono (x : Ex H H') : Ex (rest H a e) (rest H' a e) := ex_del (ex_del x)
/-- new things leave the rest as it is -/
theorem rest_to {R : Hp} (x : Ex R H) (na : R a = none) (ne : R e = none) : Ex R (rest H a e) := ex_to_del (ex_to_del x na) ne
theorem TiesAt.on {t : Addr} (x : Ex H H') (h : TiesAt K H t ts) : TiesAt K H' t ts := by
  obtain ⟨as, h1, h2, h3⟩ := h
  exact ⟨as, ex_l x h1, h2, fun i b t p q => ex_l x (h3 i b t p q)⟩
theorem Behind.on {R R' : Hp} {tA tdA plA : Addr} {es : List Addr} (x : Ex R R') (h : Behind K R tA tdA plA es n ts s) : Behind K R' tA tdA plA es n ts s :=
  ⟨TiesAt.on x h.ties, h.tied.on x, ex_l x h.pl, h.len, fun i b y p q => by
    obtain ⟨r, h1, h2⟩ := h.er i b y p q
    exact ⟨r, x _ _ h1, ex_l x h2⟩⟩
theorem RoomAt.on (x : Ex H H') (h : RoomAt K A H a e n ts s) : RoomAt K A H' a e n ts s := by
  obtain ⟨dx, tA, tdA, plA, es, h1, h2, h3, h4⟩ := h
  exact ⟨dx, tA, tdA, plA, es, x _ _ h1, h2, x _ _ h3, h4.on (rest_mono x)⟩
/-! ### what is shown of it -/
def sp_seats (K : PySem.W.Frag) (A : Ad) : Sp := fun vs H Q _ => ∃ a e n ts s, vs = [.ref a] ∧ RoomAt K A H a e n ts s ∧ RetV (.int (n : Int)) H Q
theorem ok_Room_seats (T : Txt K mg A) : FnOk P w K mg base CX0 1 A.f_Room_seats A.d_Room_seats ["self"] (sp_seats K A) := by
  refine T.F_Room_seats.ok sc_Room_seats (fun vs H Q E h => ?_) (fun cdv A' outer sh H vs Q E hr h => ?_)
  · obtain ⟨a, e, n, ts, s, rfl, _⟩ := h
    rfl
  · obtain ⟨a, e, n, ts, s, rfl, ⟨dx, tA, tdA, plA, es, h1, h2, h3, h4⟩, q⟩ := h
    refine ⟨_, (pss_one (ps_ret (pe_fld (pv 0) (by rfl)))), ?_⟩
    exact ⟨_, rfl, a, A.c_Room, dx, _, _, rfl, h1, T.cl_Room, T.na__seats, rfl, q H (Ex.refl H)⟩
def sp_changes (K : PySem.W.Frag) (A : Ad) : Sp := fun vs H Q _ => ∃ a e n ts s, vs = [.ref a] ∧ RoomAt K A H a e n ts s ∧ RetV (.int s.ch) H Q
theorem ok_Room_changes (T : Txt K mg A) : FnOk P w K mg base CX0 1 A.f_Room_changes A.d_Room_changes ["self"] (sp_changes K A) := by
  refine T.F_Room_changes.ok sc_Room_changes (fun vs H Q E h => ?_) (fun cdv A' outer sh H vs Q E hr h => ?_)
  · obtain ⟨a, e, n, ts, s, rfl, _⟩ := h
    rfl
  · obtain ⟨a, e, n, ts, s, rfl, ⟨dx, tA, tdA, plA, es, h1, h2, h3, h4⟩, q⟩ := h
    refine ⟨_, (pss_one (ps_ret (pe_fld (pv 0) (by rfl)))), ?_⟩
    exact ⟨_, rfl, a, A.c_Room, dx, _, _, rfl, h1, T.cl_Room, T.na__changes, rfl, q H (Ex.refl H)⟩
def sp_len (K : PySem.W.Frag) (A : Ad) : Sp := fun vs H Q _ => ∃ a e n ts s, vs = [.ref a] ∧ RoomAt K A H a e n ts s ∧ RetV (.int (s.er.length : Int)) H Q
theorem ok_Room_len (T : Txt K mg A) : FnOk P w K mg base CX0 1 A.f_Room_len A.d_Room_len ["self"] (sp_len K A) := by
  refine T.F_Room_len.ok sc_Room_len (fun vs H Q E h => ?_) (fun cdv A' outer sh H vs Q E hr h => ?_)
  · obtain ⟨a, e, n, ts, s, rfl, _⟩ := h
    rfl
  · obtain ⟨a, e, n, ts, s, rfl, ⟨dx, tA, tdA, plA, es, h1, h2, h3, h4⟩, q⟩ := h
    refine ⟨_, (pss_one (ps_ret (pe_callB (call_lenK (K := K) rfl) (by rfl) T.z_len PySem.boot_len (pa_cons (pe_fld (pv 0) (by rfl)) pa_nil)))), ?_⟩
    refine ⟨_, rfl, a, A.c_Room, dx, _, _, rfl, h1, T.cl_Room, T.na__earlier, rfl, e, es.map V.ref, rfl, .inl (.inl (.inl h3)), ?_⟩
    rw [List.length_map, h4.len]
    exact q H (Ex.refl H)
def sp_standing (K : PySem.W.Frag) (A : Ad) : Sp := fun vs H Q _ => ∃ a e n ts s, vs = [.ref a] ∧ RoomAt K A H a e n ts s ∧ MR.Plc n s.pl ∧ n ≤ 900 ∧ RetL ((MR.stOf s.pl).map V.int) H Q
theorem ok_Room_standing (T : Txt K mg A) : FnOk P w K mg base CX0 3 A.f_Room_standing A.d_Room_standing ["self"] (sp_standing K A) := by
  have G_standing_of : FnOk P w K mg base CX0 2 A.f_standing_of A.d_standing_of ["places"] (Q.sp_standing_of K) := Q.ok_standing_of T
  refine T.F_Room_standing.ok sc_Room_standing (fun vs H Q E h => ?_) (fun cdv A' outer sh H vs Q E hr h => ?_)
  · obtain ⟨a, e, n, ts, s, rfl, _⟩ := h
    rfl
  · obtain ⟨a, e, n, ts, s, rfl, ⟨dx, tA, tdA, plA, es, h1, h2, h3, h4⟩, hp, hn, q⟩ := h
    refine ⟨_, (pss_one (ps_ret (pe_call G_standing_of (hr.mono (by decide)) (by rfl) T.g_standing_of T.F_standing_of.kp T.b_standing_of .nil pass0 (pa_cons (pe_fld (pv 0) (by rfl)) pa_nil)))), ?_⟩
    exact ⟨_, rfl, a, A.c_Room, dx, _, _, rfl, h1, T.cl_Room, T.na__places, rfl, plA, s.pl, n, rfl, ex_l rest_ex h4.pl, hp, hn, q⟩
/-- the lists of two are new -/
def TiesN (H : Hp) (p : Addr) (ts : List (Int × Int)) (H' : Hp) : Prop := ∃ as : List Addr, H' p = some (.lst (as.map V.ref)) ∧ as.length = ts.length ∧ ∀ (i : Nat) (b : Addr) (t : Int × Int), as[i]? = some b → ts[i]? = some t → H b = none ∧ b ≠ p ∧ H' b = some (.lst [.int t.1, .int t.2])
/-- [list(tie) for tie in a] -/
theorem lc_ties {H1 : Hp} {t D : Addr} {as : List Addr} {σ : L2.St} {j : Nat} {vs : List Nat} {Qd : Hp → Prop} (nD : H1 D = none) (hS : SqL K H1 t (as.map V.ref)) (hl : as.length = ts.length) (few : ts.length ≤ 1000) (hP : ∀ (i : Nat) (b : Addr) (t : Int × Int), as[i]? = some b → ts[i]? = some t → SqL K H1 b [.int t.1, .int t.2])
    (hw : ∀ x, wipe ((wipe σ vs).set j (some x)) vs = wipe σ vs) (hj : ∀ x, ((wipe σ vs).set j (some x))[j]? = some (some x)) (hd : ∀ H', Ex H1 H' → TiesN H1 D ts H' → Qd H') :
    ∃ W : Nat → Nat → Hp → Prop, (∃ m, W 0 m (upd H1 D (.lst []))) ∧ ∀ i m H, W i m H →
      ((Itl K t).stop i H ∧ Qd H) ∨ ((Itl K t).go i H ∧ ∃ Nx : Hp → Prop, (∀ H', Nx H' → ∃ m', m' < m ∧ W (i + 1) m' H') ∧ ∀ x H', (Itl K t).yld i H x H' → gName j x (wipe σ vs) H' fun σ2 H2 => wipe σ2 vs = wipe σ vs ∧ tYes σ2 H2 fun b H3 =>
        if b = true then tCB (rListS K) (tCons (tVar j) tNil) σ2 H3 fun y H4 => ∃ acc, H4 D = some (.lst acc) ∧ acc.length < sizeLine ∧ Nx (upd H4 D (.lst (acc ++ [y]))) else Nx H3) := by
  refine lc_list (xs := as.map V.ref) (fun i H' => Ex H1 H' ∧ ∃ bs : List Addr, H' D = some (.lst (bs.map V.ref)) ∧ bs.length = i ∧ ∀ (k : Nat) (b : Addr) (t : Int × Int), bs[k]? = some b → ts[k]? = some t → H1 b = none ∧ b ≠ D ∧ H' b = some (.lst [.int t.1, .int t.2]))
    ⟨Ex.new nD, [], upd_same, rfl, fun k b t h => by simp at h⟩ (fun i H' _ z => ex_l z.1 hS) (fun i x H2 hx z => ⟨hw x, ?_⟩) fun H' z => ?_
  · obtain ⟨b, hb, rfl⟩ := map_at hx
    obtain ⟨z1, bs, z2, z3, z4⟩ := z
    have hi : i < as.length := (List.getElem?_eq_some_iff.mp hb).1
    have ht : ts[i]? = some ts[i] := List.getElem?_eq_getElem (by omega)
    refine ⟨_, hj _, b, _, rfl, .inl (ex_l z1 (hP i b _ hb ht)), fun q nq => ⟨bs.map V.ref, ?_, ?_, ?_, bs ++ [q], ?_, ?_, fun k c u hc hu => ?_⟩⟩
    · rw [upd_ne (ne_of_none z2 nq)]
      exact z2
    · rw [List.length_map, sizeLine_eq]
      omega
    · exact Ex.mut (z1.trans (Ex.new nq)) nD
    · rw [upd_same, List.map_append]
      rfl
    · rw [List.length_append, z3]
      rfl
    · by_cases c1 : k < bs.length
      · rw [List.getElem?_append_left c1] at hc
        obtain ⟨y1, y2, y3⟩ := z4 k c u hc hu
        exact ⟨y1, y2, by rw [upd_ne y2, upd_ne (ne_of_none y3 nq)]; exact y3⟩
      · rw [List.getElem?_append_right (by omega)] at hc
        have hk : k = i := by
          have := (List.getElem?_eq_some_iff.mp hc).1
          simp only [List.length_singleton] at this
          omega
        subst hk
        rw [z3, Nat.sub_self] at hc
        cases hc
        rw [ht] at hu
        cases hu
        have ne : q ≠ D := fun z => by rw [z, z2] at nq; cases nq
        exact ⟨fresh_back z1 nq, ne, by rw [upd_ne ne]; exact upd_same⟩
  · obtain ⟨z1, bs, z2, z3, z4⟩ := z
    exact hd H' z1 ⟨bs, z2, by rw [z3, List.length_map, hl], z4⟩
def sp_ties (K : PySem.W.Frag) (A : Ad) : Sp := fun vs H Q _ => ∃ a e n ts s, vs = [.ref a] ∧ RoomAt K A H a e n ts s ∧ ts.length ≤ 1000 ∧ ∀ p H', H p = none → Ex H H' → TiesN H p ts H' → Q (.ref p) H'
theorem ok_Room_ties (T : Txt K mg A) : FnOk P w K mg base CX0 1 A.f_Room_ties A.d_Room_ties ["self"] (sp_ties K A) := by
  refine T.F_Room_ties.ok sc_Room_ties (fun vs H Q E h => ?_) (fun cdv A' outer sh H vs Q E hr h => ?_)
  · obtain ⟨a, e, n, ts, s, rfl, _⟩ := h
    rfl
  · obtain ⟨a, e, n, ts, s, rfl, ⟨dx, tA, tdA, plA, es, h1, h2, h3, h4⟩, hl, q⟩ := h
    refine ⟨_, (pss_one (ps_ret (pe_lc (own := [("tie", 1)]) rfl sc_Room_ties.nd (pi_listK (K := K) rfl (pe_fld (pv 0) (by rfl))) (blkOk_by (by kernel_rfl)) (fun _ _ _ _ _ => (pg_name (i := 1) sc_Room_ties.nd rfl (by first | exact .inl rfl | exact .inr rfl))) (fun _ _ _ _ _ => pts_nil) (fun _ _ _ _ _ => (pe_callTy (call_listK (K := K) rfl) (by rfl) T.z_list (by decide +kernel) (pa_cons (pv 1) pa_nil)))))), ?_⟩
    obtain ⟨as, k1, k2, k3⟩ := h4.ties
    have k1 := ex_l rest_ex k1
    refine ⟨_, rfl, a, A.c_Room, dx, _, _, rfl, h1, T.cl_Room, T.na__ties, rfl, ?_⟩
    exact ⟨tA, rfl, ⟨_, k1⟩, fun D nD => lc_ties (σ := L2.start ["self", "tie"] [V.ref a]) nD k1 k2 hl (fun i b t x y => ex_l rest_ex (k3 i b t x y)) (fun x => rfl) (fun x => rfl) fun H' e' z => q D H' nD e' z⟩
end
end K41

namespace K41
open PySem PySem.Spec PyProof.Rows L2 Vf Evl
open Q (TdAt PairsAt)
section
variable {P : Program} {w : World} {K : PySem.W.Frag} {mg : Str → Option Value} {base : Heap} {A : Ad} {H H' : Hp} {a e : Addr} {n : Nat} {ts : List (Int × Int)} {s : RS}
/-- a list is no room -/
theorem sql_off {C dx b : Addr} {fs : List (Str × V)} {xs : List V} (ha : H a = some (.ins C dx fs)) (h : SqL K H b xs) : SqL K (del H a) b xs := by
  rcases h with (h | ⟨o, h⟩) | h
  · exact .inl (.inl (by rw [del_ne (fun z => by rw [z, ha] at h; cases h)]; exact h))
  · exact .inl (.inr ⟨o, by rw [del_ne (fun z => by rw [z, ha] at h; cases h)]; exact h⟩)
  · exact .inr h
theorem ties_off {C dx t : Addr} {fs : List (Str × V)} (ha : H a = some (.ins C dx fs)) (h : TiesAt K H t ts) : TiesAt K (del H a) t ts := by
  obtain ⟨as, h1, h2, h3⟩ := h
  exact ⟨as, sql_off ha h1, h2, fun i b t x y => sql_off ha (h3 i b t x y)⟩
/-- the room is written -/
theorem off_upd {R : Hp} {o : HO} (x : Ex R (del H a)) : Ex R (del (upd H a o) a) := by
  rw [del_upd]
  exact x
theorem off_new {R : Hp} (x : Ex R (del H a)) (y : Ex H H') : Ex R (del H' a) := x.trans (ex_del y)
def sq_init (K : PySem.W.Frag) (A : Ad) : Sp := fun vs H Q _ => ∃ (a dx t b : Addr) (n : Nat) (ts : List (Int × Int)) (st : List Int), vs = [.ref a, .int (n : Int), .ref t, .ref b] ∧ H a = some (.ins A.c_Room dx []) ∧ TiesAt K H t ts ∧ NetOk (n : Int) ts ∧ SqL K H b (st.map V.int) ∧ MR.Stn n st ∧
  ∀ (H' : Hp) (e : Addr), H e = none → Ex (del H a) (del H' a) → RoomAt K A H' a e n ts ⟨MR.plOf st, 0, []⟩ → Q .non H'
theorem ok_Room_init (T : Txt K mg A) : FnOk P w K mg base CX0 7 A.f_Room_init A.d_Room_init ["self", "seats", "ties", "standing"] (sq_init K A) := by
  have G_check_net : FnOk P w K mg base CX0 6 A.f_check_net A.d_check_net ["seats", "ties"] (Q.sp_check_net K) := Q.ok_check_net T
  have G_check_standing : FnOk P w K mg base CX0 4 A.f_check_standing A.d_check_standing ["standing", "seats"] (Q.sp_check_standing K) := Q.ok_check_standing T
  have G_tied_seats : FnOk P w K mg base CX0 1 A.f_tied_seats A.d_tied_seats ["seats", "ties"] (Q.sp_tied_seats K) := Q.ok_tied_seats T
  have G_places_of : FnOk P w K mg base CX0 2 A.f_places_of A.d_places_of ["standing"] (Q.sp_places_of K) := Q.ok_places_of T
  refine T.F_Room_init.ok sc_Room_init (fun vs H Q E h => ?_) (fun cdv A' outer sh H vs Q E hr h => ?_)
  · obtain ⟨a, dx, t, b, n, ts, st, rfl, _⟩ := h
    rfl
  · obtain ⟨a, dx, t, b, n, ts, st, rfl, ha, hT, N, hS, S, q⟩ := h
    refine ⟨_, (pss_cons (ps_expr (pe_call G_check_net (hr.mono (by decide)) (by rfl) T.g_check_net T.F_check_net.kp T.b_check_net .nil pass0 (pa_cons (pv 1) (pa_cons (pv 2) pa_nil))))
      (pss_cons (ps_expr (pe_call G_check_standing (hr.mono (by decide)) (by rfl) T.g_check_standing T.F_check_standing.kp T.b_check_standing .nil pass0 (pa_cons (pv 3) (pa_cons (pv 1) pa_nil))))
      (pss_cons (ps_fld (pv 0) (pv 1) (by rfl))
      (pss_cons (ps_fld (pv 0) (pe_lc (own := [("tie", 4)]) rfl sc_Room_init.nd (pi_listK (K := K) rfl (pv 2)) (blkOk_by (by kernel_rfl)) (fun _ _ _ _ _ => (pg_name (i := 4) sc_Room_init.nd rfl (by first | exact .inl rfl | exact .inr rfl))) (fun _ _ _ _ _ => pts_nil) (fun _ _ _ _ _ => (pe_callTy (call_listK (K := K) rfl) (by rfl) T.z_list (by decide +kernel) (pa_cons (pv 4) pa_nil)))) (by rfl))
      (pss_cons (ps_fld (pv 0) (pe_call G_tied_seats (hr.mono (by decide)) (by rfl) T.g_tied_seats T.F_tied_seats.kp T.b_tied_seats .nil pass0 (pa_cons (pv 1) (pa_cons (pv 2) pa_nil))) (by rfl))
      (pss_cons (ps_fld (pv 0) (pe_call G_places_of (hr.mono (by decide)) (by rfl) T.g_places_of T.F_places_of.kp T.b_places_of .nil pass0 (pa_cons (pv 3) pa_nil)) (by rfl))
      (pss_cons (ps_fld (pv 0) pe_int (by rfl))
      (pss_one (ps_fld (pv 0) (pe_lst pa_nil) (by rfl)))))))))), ?_⟩
    have n40 := N.hi
    have R1 := ties_off ha hT
    have R2 := sql_off ha hS
    -- the checks
    refine ⟨_, rfl, _, rfl, t, ts, (n : Int), rfl, hT, N, fun H1 e1 => ?_⟩
    refine ⟨_, rfl, _, rfl, b, st, n, rfl, ex_l e1 hS, S, by omega, fun H2 e2 => ?_⟩
    have x2 : Ex (del H a) (del H2 a) := ex_del (e1.trans e2)
    have a2 : H2 a = some (.ins A.c_Room dx []) := (e1.trans e2) _ _ ha
    -- self._seats
    refine ⟨_, rfl, _, rfl, a, A.c_Room, dx, _, rfl, a2, T.cl_Room, T.na__seats, by decide, ?_⟩
    have x3 : Ex (del H a) (del (upd H2 a (.ins A.c_Room dx (putF "_seats" (.int (n : Int)) []))) a) := off_upd x2
    have a3 : upd H2 a (.ins A.c_Room dx (putF "_seats" (.int (n : Int)) [])) a = some (.ins A.c_Room dx [("_seats", .int (n : Int))]) := upd_same
    generalize upd H2 a (.ins A.c_Room dx (putF "_seats" (.int (n : Int)) [])) = H3 at x3 a3
    -- self._ties
    obtain ⟨as, k1, k2, k3⟩ := R1
    have y3 : Ex (del H a) H3 := x3.trans del_ex
    refine ⟨_, rfl, t, rfl, ⟨_, ex_l y3 k1⟩, fun D nD => lc_ties (σ := L2.start ["self", "seats", "ties", "standing", "tie"] [V.ref a, V.int (n : Int), V.ref t, V.ref b]) nD (ex_l y3 k1) k2 N.few (fun i b t x y => ex_l y3 (k3 i b t x y)) (fun x => rfl) (fun x => rfl) fun H4 e4 z4 => ?_⟩
    have a4 := e4 _ _ a3
    have TN : TiesAt K (del H4 a) D ts := by
      obtain ⟨bs, b1, b2, b3⟩ := z4
      refine ⟨bs, sql_off a4 (.inl (.inl b1)), b2, fun i c u hc hu => sql_off a4 (.inl (.inl (b3 i c u hc hu).2.2))⟩
    have x4 := off_new x3 e4
    refine ⟨_, rfl, a, A.c_Room, dx, _, rfl, a4, T.cl_Room, T.na__ties, by show 1 < 1000; decide, ?_⟩
    have x5 : Ex (del H a) (del (upd H4 a (.ins A.c_Room dx (putF "_ties" (.ref D) [("_seats", .int (n : Int))]))) a) := off_upd x4
    have g5 : Ex (del H4 a) (del (upd H4 a (.ins A.c_Room dx (putF "_ties" (.ref D) [("_seats", .int (n : Int))]))) a) := off_upd (Ex.refl _)
    have a5 : upd H4 a (.ins A.c_Room dx (putF "_ties" (.ref D) [("_seats", .int (n : Int))])) a = some (.ins A.c_Room dx [("_seats", .int (n : Int)), ("_ties", .ref D)]) := upd_same
    generalize upd H4 a (.ins A.c_Room dx (putF "_ties" (.ref D) [("_seats", .int (n : Int))])) = H5 at x5 g5 a5
    -- self._tied
    refine ⟨_, rfl, _, rfl, t, ts, n, rfl, TiesAt.on (x5.trans del_ex) ⟨as, k1, k2, k3⟩, N, fun td H6 ntd e6 h6 => ?_⟩
    have a6 := e6 _ _ a5
    have T6 : TdAt K (del H6 a) td n (MR.tdF ts) := by
      obtain ⟨ps, b1, b2, b3⟩ := h6
      exact ⟨ps, sql_off a6 b1, b2, fun i p hp => sql_off a6 (b3 i p hp)⟩
    have x6 := off_new x5 e6
    have g6 := g5.trans (ex_del e6)
    refine ⟨_, rfl, a, A.c_Room, dx, _, rfl, a6, T.cl_Room, T.na__tied, by show 2 < 1000; decide, ?_⟩
    have x7 : Ex (del H a) (del (upd H6 a (.ins A.c_Room dx (putF "_tied" (.ref td) [("_seats", .int (n : Int)), ("_ties", .ref D)]))) a) := off_upd x6
    have g7 : Ex (del H4 a) (del (upd H6 a (.ins A.c_Room dx (putF "_tied" (.ref td) [("_seats", .int (n : Int)), ("_ties", .ref D)]))) a) := off_upd g6
    have i7 : Ex (del H6 a) (del (upd H6 a (.ins A.c_Room dx (putF "_tied" (.ref td) [("_seats", .int (n : Int)), ("_ties", .ref D)]))) a) := off_upd (Ex.refl _)
    have a7 : upd H6 a (.ins A.c_Room dx (putF "_tied" (.ref td) [("_seats", .int (n : Int)), ("_ties", .ref D)])) a = some (.ins A.c_Room dx [("_seats", .int (n : Int)), ("_ties", .ref D), ("_tied", .ref td)]) := upd_same
    generalize upd H6 a (.ins A.c_Room dx (putF "_tied" (.ref td) [("_seats", .int (n : Int)), ("_ties", .ref D)])) = H7 at x7 g7 i7 a7
    -- self._places
    refine ⟨_, rfl, b, st, n, rfl, ex_l (x7.trans del_ex) R2, S, by omega, fun pl H8 npl e8 h8 => ?_⟩
    have a8 := e8 _ _ a7
    have P8 : SqL K (del H8 a) pl ((MR.plOf st).map V.int) := sql_off a8 (.inl (.inl h8))
    have x8 := off_new x7 e8
    have g8 := g7.trans (ex_del e8)
    have i8 := i7.trans (ex_del e8)
    refine ⟨_, rfl, a, A.c_Room, dx, _, rfl, a8, T.cl_Room, T.na__places, by show 3 < 1000; decide, ?_⟩
    have x9 : Ex (del H a) (del (upd H8 a (.ins A.c_Room dx (putF "_places" (.ref pl) [("_seats", .int (n : Int)), ("_ties", .ref D), ("_tied", .ref td)]))) a) := off_upd x8
    have j9 : Ex (del H8 a) (del (upd H8 a (.ins A.c_Room dx (putF "_places" (.ref pl) [("_seats", .int (n : Int)), ("_ties", .ref D), ("_tied", .ref td)]))) a) := off_upd (Ex.refl _)
    have a9 : upd H8 a (.ins A.c_Room dx (putF "_places" (.ref pl) [("_seats", .int (n : Int)), ("_ties", .ref D), ("_tied", .ref td)])) a = some (.ins A.c_Room dx [("_seats", .int (n : Int)), ("_ties", .ref D), ("_tied", .ref td), ("_places", .ref pl)]) := upd_same
    generalize upd H8 a (.ins A.c_Room dx (putF "_places" (.ref pl) [("_seats", .int (n : Int)), ("_ties", .ref D), ("_tied", .ref td)])) = H9 at x9 j9 a9
    -- self._changes
    refine ⟨_, rfl, a, A.c_Room, dx, _, rfl, a9, T.cl_Room, T.na__changes, by show 4 < 1000; decide, ?_⟩
    have xA : Ex (del H a) (del (upd H9 a (.ins A.c_Room dx (putF "_changes" (.int 0) [("_seats", .int (n : Int)), ("_ties", .ref D), ("_tied", .ref td), ("_places", .ref pl)]))) a) := off_upd x9
    have jA : Ex (del H8 a) (del (upd H9 a (.ins A.c_Room dx (putF "_changes" (.int 0) [("_seats", .int (n : Int)), ("_ties", .ref D), ("_tied", .ref td), ("_places", .ref pl)]))) a) := off_upd j9
    have aA : upd H9 a (.ins A.c_Room dx (putF "_changes" (.int 0) [("_seats", .int (n : Int)), ("_ties", .ref D), ("_tied", .ref td), ("_places", .ref pl)])) a = some (.ins A.c_Room dx [("_seats", .int (n : Int)), ("_ties", .ref D), ("_tied", .ref td), ("_places", .ref pl), ("_changes", .int 0)]) := upd_same
    generalize upd H9 a (.ins A.c_Room dx (putF "_changes" (.int 0) [("_seats", .int (n : Int)), ("_ties", .ref D), ("_tied", .ref td), ("_places", .ref pl)])) = HA at xA jA aA
    -- self._earlier
    refine ⟨few_le (by decide : 0 < 10), fun e ne => ?_⟩
    have eB : Ex HA (upd HA e (.lst [])) := Ex.new ne
    have aB := eB _ _ aA
    have nea : a ≠ e := ne_of_none aA ne
    refine ⟨_, rfl, a, A.c_Room, dx, _, rfl, aB, T.cl_Room, T.na__earlier, by show 5 < 1000; decide, ?_⟩
    have hr8 : Ex (del H8 a) (del HA a) := jA
    have fin : Ex (del HA a) (del (upd (upd HA e (.lst [])) a (.ins A.c_Room dx (putF "_earlier" (.ref e) [("_seats", .int (n : Int)), ("_ties", .ref D), ("_tied", .ref td), ("_places", .ref pl), ("_changes", .int 0)]))) a) := off_upd (ex_del eB)
    have rr : Ex (del HA a) (rest (upd (upd HA e (.lst [])) a (.ins A.c_Room dx (putF "_earlier" (.ref e) [("_seats", .int (n : Int)), ("_ties", .ref D), ("_tied", .ref td), ("_places", .ref pl), ("_changes", .int 0)]))) a e) := ex_to_del fin (by rw [del_ne nea.symm]; exact ne)
    refine q _ e ?_ (xA.trans fin) ⟨dx, D, td, pl, [], upd_same, nea, by rw [upd_ne nea.symm]; exact upd_same, ⟨TiesAt.on (g8.trans (hr8.trans rr)) TN, (T6.on i8).on (hr8.trans rr), ex_l (hr8.trans rr) P8, rfl, fun i b x h => by simp at h⟩⟩
    have z := xA e
    cases hz : H e with
    | none => rfl
    | some o =>
      have := z o (by rw [del_ne nea.symm]; exact hz)
      rw [del_ne nea.symm, ne] at this
      cases this
/-! ### what the making refuses -/
def sr_init (K : PySem.W.Frag) (A : Ad) : Sp := fun vs H _ E => ∃ (a : Addr) (u v s : V), vs = [.ref a, u, v, s] ∧ NetR K A u v H E fun n => LenR K A.c_InvalidStanding seE s n H E False
theorem rs_Room_init (T : Txt K mg A) : FnOk P w K mg base (L2.CX P w) 7 A.f_Room_init A.d_Room_init ["self", "seats", "ties", "standing"] (sr_init K A) := by
  have G_check_net : FnOk P w K mg base (L2.CX P w) 6 A.f_check_net A.d_check_net ["seats", "ties"] (sp_check_net K A) := ok_check_net T
  have G_check_standing : FnOk P w K mg base (L2.CX P w) 4 A.f_check_standing A.d_check_standing ["standing", "seats"] (sp_check_len K A.c_InvalidStanding seE) := ok_check_standing T
  refine T.F_Room_init.okX sc_Room_init (fun vs H Q E h => ?_) (fun cdv A' outer sh H vs Q E hr h => ?_)
  · obtain ⟨a, u, v, s, rfl, _⟩ := h
    rfl
  · obtain ⟨a, u, v, s, rfl, h⟩ := h
    refine ⟨_, (pss_cons (ps_expr (pe_call G_check_net (hr.mono (by decide)) (by rfl) T.g_check_net T.F_check_net.kp T.b_check_net .nil (passes_call (takes_of rfl rfl rfl rfl) (fun _ _ _ _ h => h)) (pa_cons (pv 1) (pa_cons (pv 2) pa_nil))))
      (pss_cons (ps_expr (pe_call G_check_standing (hr.mono (by decide)) (by rfl) T.g_check_standing T.F_check_standing.kp T.b_check_standing .nil (passes_call (takes_of rfl rfl rfl rfl) (fun _ _ _ _ h => h)) (pa_cons (pv 3) (pa_cons (pv 1) pa_nil))))
      pss_stop)), ?_⟩
    refine ⟨_, rfl, _, rfl, net_step h (Ex.refl H) fun n en g H1 e1 => ?_⟩
    subst en
    exact ⟨_, rfl, _, rfl, len_step g e1 fun g _ _ => g.elim⟩
end
end K41

namespace K41
open PySem PySem.Spec PyProof.Rows L2 Vf Evl
open Q (TdAt PairsAt)
/-! ### calls as one deed -/
/-- at how many of the calls people change seats -/
def chP (td : Int → Int → Bool) : List Int → List (Int × Int) → Int
  | _, [] => 0
  | pl, c :: r => (if MR.stepP td pl c = pl then 0 else 1) + chP td (MR.stepP td pl c) r
theorem chP_app (td : Int → Int → Bool) : ∀ (cs : List (Int × Int)) (pl : List Int) (c : Int × Int), chP td pl (cs ++ [c]) = chP td pl cs + (if MR.stepP td (MR.runP td pl cs) c = MR.runP td pl cs then 0 else 1)
  | [], pl, c => by
    show (if MR.stepP td pl c = pl then (0 : Int) else 1) + 0 = 0 + (if MR.stepP td pl c = pl then 0 else 1)
    omega
  | x :: cs, pl, c => by
    show (if MR.stepP td pl x = pl then (0 : Int) else 1) + chP td (MR.stepP td pl x) (cs ++ [c]) = (if MR.stepP td pl x = pl then (0 : Int) else 1) + chP td (MR.stepP td pl x) cs + (if MR.stepP td (MR.runP td (MR.stepP td pl x) cs) c = MR.runP td (MR.stepP td pl x) cs then 0 else 1)
    rw [chP_app td cs]
    omega
theorem chP_nn (td : Int → Int → Bool) : ∀ (cs : List (Int × Int)) (pl : List Int), 0 ≤ chP td pl cs ∧ chP td pl cs ≤ cs.length
  | [], _ => ⟨Int.le_refl _, Int.le_refl _⟩
  | c :: r, pl => by
    have z := chP_nn td r (MR.stepP td pl c)
    show 0 ≤ (if MR.stepP td pl c = pl then (0 : Int) else 1) + chP td (MR.stepP td pl c) r ∧ (if MR.stepP td pl c = pl then (0 : Int) else 1) + chP td (MR.stepP td pl c) r ≤ ((r.length + 1 : Nat) : Int)
    by_cases h : MR.stepP td pl c = pl
    · rw [if_pos h]
      omega
    · rw [if_neg h]
      omega
theorem take_one {α : Type} {l : List α} {i : Nat} {x : α} (h : l[i]? = some x) : l.take (i + 1) = l.take i ++ [x] := by
  rw [List.take_add_one, h]
  rfl
/-- the room behind some calls, made as one deed -/
def mkS (n : Nat) (ts : List (Int × Int)) (s : RS) (cs : List Int) : RS := ⟨MR.runP (MR.tdF ts) s.pl (MR.pairsF n cs), s.ch + chP (MR.tdF ts) s.pl (MR.pairsF n cs), s.er ++ [(s.pl, s.ch)]⟩
section
variable {P : Program} {w : World} {K : PySem.W.Frag} {mg : Str → Option Value} {base : Heap} {A : Ad} {H H' : Hp} {a e : Addr} {n : Nat} {ts : List (Int × Int)} {s : RS}
def sq_make (K : PySem.W.Frag) (A : Ad) : Sp := fun vs H Q _ => ∃ (a e c : Addr) (n : Nat) (ts : List (Int × Int)) (s : RS) (cs : List Int), vs = [.ref a, .ref c] ∧ RoomAt K A H a e n ts s ∧ MR.Plc n s.pl ∧ (3 ≤ n ∧ n ≤ 40) ∧ SqL K H c (cs.map V.int) ∧ (∀ x ∈ cs, 1 ≤ x ∧ x ≤ (n : Int)) ∧ cs.length ≤ 1000 ∧ s.er.length ≤ 10000 ∧
  ∀ H', Ex (rest H a e) (rest H' a e) → RoomAt K A H' a e n ts (mkS n ts s cs) → Q (.int (chP (MR.tdF ts) s.pl (MR.pairsF n cs))) H'
theorem ok_Room_make (T : Txt K mg A) : FnOk P w K mg base CX0 3 A.f_Room__make_calls A.d_Room__make_calls ["self", "calls"] (sq_make K A) := by
  have G_people_called : FnOk P w K mg base CX0 2 A.f_people_called A.d_people_called ["calls", "count"] (Q.sp_people_called K) := Q.ok_people_called T
  have G_places_after : FnOk P w K mg base CX0 1 A.f_places_after A.d_places_after ["places", "pairs", "tied"] (Q.sp_places_after K) := Q.ok_places_after T
  refine T.F_Room__make_calls.ok sc_Room__make_calls (fun vs H Q E h => ?_) (fun cdv A' outer sh H vs Q E hr h => ?_)
  · obtain ⟨a, e, c, n, ts, s, cs, rfl, _⟩ := h
    rfl
  · obtain ⟨a, e, c, n, ts, s, cs, rfl, ⟨dx, tA, tdA, plA, es, h1, h2, h3, h4⟩, hp, hn, hc, hb, hl, he, q⟩ := h
    refine ⟨_, (pss_cons (ps_set (i := 2) sc_Room__make_calls.nd rfl (by first | exact .inl rfl | exact .inr rfl) (pe_fld (pv 0) (by rfl)))
      (pss_cons (ps_set (i := 3) sc_Room__make_calls.nd rfl (by first | exact .inl rfl | exact .inr rfl) pe_int)
      (pss_cons (ps_for PassesOwn.never rfl (pi_listK (K := K) rfl (pe_call G_people_called (hr.mono (by decide)) (by rfl) T.g_people_called T.F_people_called.kp T.b_people_called .nil pass0 (pa_cons (pv 1) (pa_cons (pe_fld (pv 0) (by rfl)) pa_nil)))) (pg_name (i := 4) sc_Room__make_calls.nd rfl (by first | exact .inl rfl | exact .inr rfl)) (pss_cons (ps_set (i := 5) sc_Room__make_calls.nd rfl (by first | exact .inl rfl | exact .inr rfl) (pe_call G_places_after (hr.mono (by decide)) (by rfl) T.g_places_after T.F_places_after.kp T.b_places_after .nil pass0 (pa_cons (pv 2) (pa_cons (pe_lst (pa_cons (pv 4) pa_nil)) (pa_cons (pe_fld (pv 0) (by rfl)) pa_nil)))))
      (pss_cut (ps_if (pt_cmpR (op_neD hr.units) (pv 5) (pv 2) (nomark _)) (pss_one (ps_aug (i := 3) sc_Room__make_calls.nd rfl (by first | exact .inl rfl | exact .inr rfl) pe_int ip_add)) pss_nil)
      (pss_one (ps_set (i := 2) sc_Room__make_calls.nd rfl (by first | exact .inl rfl | exact .inr rfl) (pv 5))))))
      (pss_cons (ps_expr (pe_bmK (K := K) rfl PySem.F.plainAttrs_list PySem.F.slot_list_append PySem.F.type_list_append mt_append (pe_fld (pv 0) (by rfl)) (pa_cons (pe_tup (pa_cons (pe_fld (pv 0) (by rfl)) (pa_cons (pe_fld (pv 0) (by rfl)) pa_nil))) pa_nil)))
      (pss_cons (ps_fld (pv 0) (pv 2) (by rfl))
      (pss_cons (ps_fldaug (pv 0) (pv 3) in_add)
      (pss_one (ps_ret (pv 3))))))))), ?_⟩
    have ok := MR.pairs_ok (n := n) (by omega) hb
    -- places = self._places
    refine ⟨_, rfl, a, A.c_Room, dx, _, _, rfl, h1, T.cl_Room, T.na__places, rfl, ?_⟩
    -- for pair in people_called(calls, self._seats)
    refine ⟨_, rfl, _, rfl, a, A.c_Room, dx, _, _, rfl, h1, T.cl_Room, T.na__seats, rfl, c, cs, (n : Int), rfl, hc, by omega, by omega, fun D H1 nD e1 hD => ?_⟩
    have a1 := e1 _ _ h1
    have b1 := h4.on (rest_mono (a := a) (e := e) e1)
    obtain ⟨as, k1, k2, k3⟩ := hD
    have plen : (MR.pairsF n cs).length = cs.length := by unfold MR.pairsF; rw [List.length_map]
    refine ⟨D, rfl, ⟨_, k1⟩, for_list (xs := as.map V.ref) (fun i σ' H' => (∃ p y4 y5, σ' = [some (.ref a), some (.ref c), some (.ref p), some (.int (chP (MR.tdF ts) s.pl ((MR.pairsF n cs).take i))), y4, y5] ∧ SqL K (rest H' a e) p ((MR.runP (MR.tdF ts) s.pl ((MR.pairsF n cs).take i)).map V.int)) ∧ Ex H1 H')
      ⟨⟨plA, _, _, rfl, b1.pl⟩, Ex.refl _⟩ (fun i σ' H' _ P => ex_l P.2 k1) (fun i x σ' H' hx P => ?_) fun σ' H' P => ?_⟩
    · obtain ⟨⟨p, y4, y5, rfl, hpS⟩, eP⟩ := P
      obtain ⟨b, hb', rfl⟩ := map_at hx
      have hi : i < as.length := (List.getElem?_eq_some_iff.mp hb').1
      obtain ⟨pr, hpr⟩ : ∃ pr, (MR.pairsF n cs)[i]? = some pr := ⟨_, List.getElem?_eq_getElem (by omega)⟩
      have hbT := k3 i b pr hb' hpr
      have okT : ∀ c ∈ (MR.pairsF n cs).take i, MR.CallOk n c := fun c hc => ok c (List.mem_of_mem_take hc)
      have aP := eP _ _ a1
      dsimp only [gName]
      -- moved = places_after(places, [pair], self._tied)
      refine ⟨_, rfl, _, rfl, few_le (by decide : 1 < 10), fun l nl => ?_⟩
      have e2 : Ex H' (upd H' l (.lst [.ref b])) := Ex.new nl
      have hlst : upd H' l (.lst [.ref b]) l = some (.lst ([b].map V.ref)) := upd_same
      generalize upd H' l (.lst [.ref b]) = H2 at e2 hlst
      have a2 := e2 _ _ aP
      refine ⟨_, rfl, a, A.c_Room, dx, _, _, rfl, a2, T.cl_Room, T.na__tied, rfl, p, l, tdA, MR.runP (MR.tdF ts) s.pl ((MR.pairsF n cs).take i), [pr], n, MR.tdF ts, rfl, ex_l (rest_ex.trans e2) hpS, ⟨[b], .inl (.inl hlst), rfl, fun k b' c' x y => ?_⟩, b1.tied.on (rest_ex.trans (eP.trans e2)), MR.run_plc hp okT, fun c' hc' => ?_, fun m H3 nm e3 hm => ?_⟩
      · match k, x, y with
        | 0, x, y =>
          cases x
          cases y
          exact ex_t (eP.trans e2) hbT
      · rw [List.mem_singleton.mp hc']
        exact ok _ (List.mem_of_getElem? hpr)
      have e23 := e2.trans e3
      have a3 := e3 _ _ a2
      have hrun : MR.runP (MR.tdF ts) (MR.runP (MR.tdF ts) s.pl ((MR.pairsF n cs).take i)) [pr] = MR.runP (MR.tdF ts) s.pl ((MR.pairsF n cs).take (i + 1)) := by
        rw [take_one hpr, MR.run_append]
      have hone : MR.runP (MR.tdF ts) (MR.runP (MR.tdF ts) s.pl ((MR.pairsF n cs).take i)) [pr] = MR.stepP (MR.tdF ts) (MR.runP (MR.tdF ts) s.pl ((MR.pairsF n cs).take i)) pr := rfl
      have hch : chP (MR.tdF ts) s.pl ((MR.pairsF n cs).take (i + 1)) = chP (MR.tdF ts) s.pl ((MR.pairsF n cs).take i) + (if MR.stepP (MR.tdF ts) (MR.runP (MR.tdF ts) s.pl ((MR.pairsF n cs).take i)) pr = MR.runP (MR.tdF ts) s.pl ((MR.pairsF n cs).take i) then 0 else 1) := by
        rw [take_one hpr, chP_app]
      have hm' : SqL K (rest H3 a e) m ((MR.runP (MR.tdF ts) s.pl ((MR.pairsF n cs).take (i + 1))).map V.int) := by
        rw [hrun] at hm
        have ne1 : m ≠ a := (ne_of_none a2 nm).symm
        have ne2 : m ≠ e := (ne_of_none ((e1.trans (eP.trans e2)) _ _ h3) nm).symm
        exact .inl (.inl (by rw [rest_at ne1 ne2]; exact hm))
      -- if moved != places
      dsimp only [gName]
      refine q_cut (M := fun σ' H' => σ' = [some (.ref a), some (.ref c), some (.ref p), some (.int (chP (MR.tdF ts) s.pl ((MR.pairsF n cs).take (i + 1)))), some (.ref b), some (.ref m)] ∧ H' = H3) ?_ ?_
      · refine ⟨_, rfl, _, rfl, ne_ints (.inl (.inl hm)) (ex_l (rest_ex.trans e23) hpS) ⟨_, rfl, ?_⟩⟩
        rw [hch, hone]
        by_cases z : MR.stepP (MR.tdF ts) (MR.runP (MR.tdF ts) s.pl ((MR.pairsF n cs).take i)) pr = MR.runP (MR.tdF ts) s.pl ((MR.pairsF n cs).take i)
        · rw [decide_eq_true z, if_pos z, Int.add_zero]
          exact iteF ⟨rfl, rfl⟩
        · rw [decide_eq_false z, if_neg z]
          refine iteT ⟨_, rfl, _, _, rfl, rfl, ⟨rfl, rfl⟩⟩
      · rintro σ' H' ⟨rfl, rfl⟩
        refine ⟨_, rfl, ⟨⟨m, _, _, rfl, hm'⟩, eP.trans e23⟩⟩
    · obtain ⟨⟨p, y4, y5, rfl, hpS⟩, eP⟩ := P
      have lx : (as.map V.ref).length = (MR.pairsF n cs).length := by rw [List.length_map, k2]
      rw [lx, List.take_length] at hpS ⊢
      have aP := eP _ _ a1
      have hE := (e1.trans eP) _ _ h3
      have bP := b1.on (rest_mono (a := a) (e := e) eP)
      -- self._earlier.append((self._places, self._changes))
      refine ⟨_, rfl, a, A.c_Room, dx, _, _, rfl, aP, T.cl_Room, T.na__earlier, rfl, .inl ⟨rfl, _, .inl (.inl hE)⟩, _, rfl, a, A.c_Room, dx, _, _, rfl, aP, T.cl_Room, T.na__places, rfl, _, rfl, a, A.c_Room, dx, _, _, rfl, aP, T.cl_Room, T.na__changes, rfl, two_fits _ _, fun tp ntp => ?_⟩
      have e4 : Ex H' (upd H' tp (.tup [.ref plA, .int s.ch])) := Ex.new ntp
      have htp : upd H' tp (.tup [.ref plA, .int s.ch]) tp = some (.tup [.ref plA, .int s.ch]) := upd_same
      have nta : tp ≠ a := (ne_of_none aP ntp).symm
      have nte : tp ≠ e := (ne_of_none hE ntp).symm
      generalize upd H' tp (.tup [.ref plA, .int s.ch]) = H2 at e4 htp
      refine ⟨e, _, _, rfl, rfl, e4 _ _ hE, by rw [List.length_map, h4.len, sizeLine_eq]; omega, ?_⟩
      have a3 : upd H2 e (.lst (es.map V.ref ++ [.ref tp])) a = some (.ins A.c_Room dx (fsR n tA tdA plA s.ch e)) := by rw [upd_ne h2]; exact e4 _ _ aP
      have he3 : upd H2 e (.lst (es.map V.ref ++ [.ref tp])) e = some (.lst ((es ++ [tp]).map V.ref)) := by rw [upd_same, List.map_append]; rfl
      have r3 : rest (upd H2 e (.lst (es.map V.ref ++ [.ref tp]))) a e = rest H2 a e := rest_upE
      generalize upd H2 e (.lst (es.map V.ref ++ [.ref tp])) = H3 at a3 he3 r3
      -- self._places = places
      refine ⟨_, rfl, _, rfl, a, A.c_Room, dx, _, rfl, a3, T.cl_Room, T.na__places, by show 6 < 1000; decide, ?_⟩
      rw [put_places]
      have a4 : upd H3 a (.ins A.c_Room dx (fsR n tA tdA p s.ch e)) a = some (.ins A.c_Room dx (fsR n tA tdA p s.ch e)) := upd_same
      have he4 : upd H3 a (.ins A.c_Room dx (fsR n tA tdA p s.ch e)) e = some (.lst ((es ++ [tp]).map V.ref)) := by rw [upd_ne h2.symm]; exact he3
      have r4 : rest (upd H3 a (.ins A.c_Room dx (fsR n tA tdA p s.ch e))) a e = rest H2 a e := rest_upA.trans r3
      generalize upd H3 a (.ins A.c_Room dx (fsR n tA tdA p s.ch e)) = H4 at a4 he4 r4
      -- self._changes += changed
      refine ⟨_, rfl, a, A.c_Room, dx, _, .int s.ch, rfl, a4, T.cl_Room, T.na__changes, rfl, _, rfl, _, _, rfl, rfl, dx, _, a4, by show 6 < 1000; decide, ?_⟩
      rw [put_changes]
      have a5 : upd H4 a (.ins A.c_Room dx (fsR n tA tdA p (s.ch + chP (MR.tdF ts) s.pl (MR.pairsF n cs)) e)) a = some (.ins A.c_Room dx (fsR n tA tdA p (s.ch + chP (MR.tdF ts) s.pl (MR.pairsF n cs)) e)) := upd_same
      have he5 : upd H4 a (.ins A.c_Room dx (fsR n tA tdA p (s.ch + chP (MR.tdF ts) s.pl (MR.pairsF n cs)) e)) e = some (.lst ((es ++ [tp]).map V.ref)) := by rw [upd_ne h2.symm]; exact he4
      have r5 : rest (upd H4 a (.ins A.c_Room dx (fsR n tA tdA p (s.ch + chP (MR.tdF ts) s.pl (MR.pairsF n cs)) e))) a e = rest H2 a e := rest_upA.trans r4
      generalize upd H4 a (.ins A.c_Room dx (fsR n tA tdA p (s.ch + chP (MR.tdF ts) s.pl (MR.pairsF n cs)) e)) = H5 at a5 he5 r5
      have x4 : Ex (rest H' a e) (rest H2 a e) := rest_mono e4
      have b4 := bP.on x4
      have xall : Ex (rest H a e) (rest H5 a e) := by
        rw [r5]
        exact (rest_mono (e1.trans eP)).trans x4
      refine ⟨_, rfl, q H5 xall ⟨dx, tA, tdA, p, es ++ [tp], a5, h2, he5, ?_⟩⟩
      rw [r5]
      refine ⟨b4.ties, b4.tied, ex_l x4 hpS, ?_, fun i b x hb hx => ?_⟩
      · show (es ++ [tp]).length = (s.er ++ [(s.pl, s.ch)]).length
        rw [List.length_append, List.length_append, h4.len]
        rfl
      · have hx : (s.er ++ [(s.pl, s.ch)])[i]? = some x := hx
        by_cases c1 : i < es.length
        · rw [List.getElem?_append_left c1] at hb
          rw [List.getElem?_append_left (by rw [← h4.len]; exact c1)] at hx
          exact b4.er i b x hb hx
        · have hi : i = es.length := by
            have := (List.getElem?_eq_some_iff.mp hb).1
            rw [List.length_append, List.length_singleton] at this
            omega
          rw [List.getElem?_append_right (by omega), hi, Nat.sub_self] at hb
          rw [List.getElem?_append_right (by rw [← h4.len]; omega), hi, h4.len, Nat.sub_self] at hx
          cases hb
          cases hx
          exact ⟨plA, by rw [rest_at nta nte]; exact htp, b4.pl⟩
end
end K41

namespace K41
open PySem PySem.Spec PyProof.Rows L2 Vf Evl
open Q (TdAt PairsAt)
section
variable {P : Program} {w : World} {K : PySem.W.Frag} {mg : Str → Option Value} {base : Heap} {A : Ad} {H H' : Hp} {a e : Addr} {n : Nat} {ts : List (Int × Int)} {s : RS}
theorem RoomAt.seats (h : RoomAt K A H a e n ts s) : ∃ dx fs, H a = some (.ins A.c_Room dx fs) ∧ fs.lookup ("_seats" : Str) = some (V.int (n : Int)) := by
  obtain ⟨dx, tA, tdA, plA, es, h1, _⟩ := h
  exact ⟨dx, _, h1, rfl⟩
theorem RoomAt.ins (h : RoomAt K A H a e n ts s) (m : Str) (hm : (fsR 0 0 0 0 0 0).lookup m = none) : ∃ dx fs, H a = some (.ins A.c_Room dx fs) ∧ fs.lookup m = none := by
  obtain ⟨dx, tA, tdA, plA, es, h1, _⟩ := h
  refine ⟨dx, _, h1, ?_⟩
  unfold fsR at hm ⊢
  simp only [List.lookup] at hm ⊢
  split at hm
  · cases hm
  split at hm
  · cases hm
  split at hm
  · cases hm
  split at hm
  · cases hm
  split at hm
  · cases hm
  split at hm
  · cases hm
  simp_all
/-! ### call -/
def sp_call_ok (K : PySem.W.Frag) (A : Ad) : Sp := fun vs H Q _ => ∃ (c n : Int), vs = [.int c, .int n] ∧ (1 ≤ c ∧ c ≤ n) ∧ RetV .non H Q
theorem q_check_call (T : Txt K mg A) : FnOk P w K mg base CX0 3 A.f_check_call A.d_check_call ["number", "count"] (sp_call_ok K A) :=
  (fn_quiet (ok_check_call T)).imp fun vs H Q E h => by
    obtain ⟨c, n, rfl, hc, q⟩ := h
    have z : okI n (some c) = true := decide_eq_true hc
    exact ⟨.int c, some c, n, rfl, rfl, fun _ => q, fun y => by rw [z] at y; cases y⟩
def sq_call (K : PySem.W.Frag) (A : Ad) : Sp := fun vs H Q _ => ∃ (a e : Addr) (n : Nat) (ts : List (Int × Int)) (s : RS) (c : Int), vs = [.ref a, .int c] ∧ RoomAt K A H a e n ts s ∧ MR.Plc n s.pl ∧ (3 ≤ n ∧ n ≤ 40) ∧ (1 ≤ c ∧ c ≤ (n : Int)) ∧ s.er.length ≤ 10000 ∧
  ∀ H', Ex (rest H a e) (rest H' a e) → RoomAt K A H' a e n ts (mkS n ts s [c]) → Q (.bl (decide (chP (MR.tdF ts) s.pl (MR.pairsF n [c]) = 1))) H'
theorem ok_Room_call (T : Txt K mg A) : FnOk P w K mg base CX0 4 A.f_Room_call A.d_Room_call ["self", "number"] (sq_call K A) := by
  have G_check_call : FnOk P w K mg base CX0 3 A.f_check_call A.d_check_call ["number", "count"] (sp_call_ok K A) := q_check_call T
  have G_Room__make_calls : FnOk P w K mg base CX0 3 A.f_Room__make_calls A.d_Room__make_calls ["self", "calls"] (sq_make K A) := ok_Room_make T
  refine T.F_Room_call.ok sc_Room_call (fun vs H Q E h => ?_) (fun cdv A' outer sh H vs Q E hr h => ?_)
  · obtain ⟨a, e, n, ts, s, c, rfl, _⟩ := h
    rfl
  · obtain ⟨a, e, n, ts, s, c, rfl, h, hp, hn, hc, hl, q⟩ := h
    refine ⟨_, (pss_cons (ps_expr (pe_call G_check_call (hr.mono (by decide)) (by rfl) T.g_check_call T.F_check_call.kp T.b_check_call .nil pass0 (pa_cons (pv 1) (pa_cons (pe_fld (pv 0) (by rfl)) pa_nil))))
      (pss_one (ps_ret (pe_cmpR op_eq (pe_meth (pv 0) T.cl_Room T.me__make_calls G_Room__make_calls (hr.mono (by decide)) T.b_Room__make_calls .nil pass0 (pa_cons (pe_lst (pa_cons (pv 1) pa_nil)) pa_nil)) pe_int (nomark _))))), ?_⟩
    obtain ⟨dx, fs, h1, h2⟩ := h.seats
    refine ⟨_, rfl, _, rfl, a, A.c_Room, dx, _, _, rfl, h1, T.cl_Room, T.na__seats, h2, c, (n : Int), rfl, hc, fun H1 e1 => ?_⟩
    have r1 := h.on e1
    obtain ⟨dx, fs, h1, h2⟩ := r1.ins "_make_calls" (by decide)
    refine ⟨_, rfl, a, dx, _, rfl, h1, h2, _, rfl, few_le (by decide : 1 < 10), fun l nl => ?_⟩
    have e2 : Ex H1 (upd H1 l (.lst [.int c])) := Ex.new nl
    have hlst : upd H1 l (.lst [.int c]) l = some (.lst ([c].map V.int)) := upd_same
    generalize upd H1 l (.lst [.int c]) = H2 at e2 hlst
    refine ⟨a, e, l, n, ts, s, [c], rfl, r1.on e2, hp, hn, .inl (.inl hlst), fun x hx => by rw [List.mem_singleton.mp hx]; exact hc, (show 1 ≤ 1000 by decide), hl, fun H3 x3 r3 => ?_⟩
    have x13 : Ex (rest H a e) (rest H3 a e) := (rest_mono (e1.trans e2)).trans x3
    have key : decide (V.int (chP (MR.tdF ts) s.pl (MR.pairsF n [c])) = V.int 1) = decide (chP (MR.tdF ts) s.pl (MR.pairsF n [c]) = 1) := by
      by_cases z : chP (MR.tdF ts) s.pl (MR.pairsF n [c]) = 1
      · rw [z, decide_eq_true rfl, decide_eq_true rfl]
      · rw [decide_eq_false z, decide_eq_false fun y => z (V.int.inj y)]
    refine ⟨rfl, ?_⟩
    show Q (.bl (decide (V.int (chP (MR.tdF ts) s.pl (MR.pairsF n [c])) = V.int 1))) H3
    rw [key]
    exact q H3 x13 r3
def sr_call (K : PySem.W.Frag) (A : Ad) : Sp := fun vs H _ E => ∃ (a e : Addr) (n : Nat) (ts : List (Int × Int)) (s : RS) (v : V) (o : Option Int), vs = [.ref a, v] ∧ RoomAt K A H a e n ts s ∧ Kd K H v o ∧ okI (n : Int) o = false ∧ RaiseV A.c_UnknownCall "number" v H E
theorem rs_Room_call (T : Txt K mg A) : FnOk P w K mg base (L2.CX P w) 4 A.f_Room_call A.d_Room_call ["self", "number"] (sr_call K A) := by
  have G_check_call : FnOk P w K mg base (L2.CX P w) 3 A.f_check_call A.d_check_call ["number", "count"] (sp_check_call K A) := ok_check_call T
  refine T.F_Room_call.okX sc_Room_call (fun vs H Q E h => ?_) (fun cdv A' outer sh H vs Q E hr h => ?_)
  · obtain ⟨a, e, n, ts, s, v, o, rfl, _⟩ := h
    rfl
  · obtain ⟨a, e, n, ts, s, v, o, rfl, h, k, ok, r⟩ := h
    refine ⟨_, (pss_cons (ps_expr (pe_call G_check_call (hr.mono (by decide)) (by rfl) T.g_check_call T.F_check_call.kp T.b_check_call .nil (passes_call (takes_of rfl rfl rfl rfl) (fun _ _ _ _ h => h)) (pa_cons (pv 1) (pa_cons (pe_fld (pv 0) (by rfl)) pa_nil))))
      pss_stop), ?_⟩
    obtain ⟨dx, fs, h1, h2⟩ := h.seats
    exact ⟨_, rfl, _, rfl, a, A.c_Room, dx, _, _, rfl, h1, T.cl_Room, T.na__seats, h2, v, o, (n : Int), rfl, k, (fun z => by rw [ok] at z; cases z), fun _ => r⟩
/-! ### round -/
def sq_round (K : PySem.W.Frag) (A : Ad) : Sp := fun vs H Q _ => ∃ (a e c : Addr) (n : Nat) (ts : List (Int × Int)) (s : RS) (cs : List Int), vs = [.ref a, .ref c] ∧ RoomAt K A H a e n ts s ∧ MR.Plc n s.pl ∧ (3 ≤ n ∧ n ≤ 40) ∧ SqL K H c (cs.map V.int) ∧ MR.Stn n cs ∧ s.er.length ≤ 10000 ∧
  ∀ H', Ex (rest H a e) (rest H' a e) → RoomAt K A H' a e n ts (mkS n ts s cs) → Q (.int (chP (MR.tdF ts) s.pl (MR.pairsF n cs))) H'
theorem ok_Room_round (T : Txt K mg A) : FnOk P w K mg base CX0 5 A.f_Room_round A.d_Room_round ["self", "order"] (sq_round K A) := by
  have G_check_order_of : FnOk P w K mg base CX0 4 A.f_check_order_of A.d_check_order_of ["order", "count"] (Q.sp_check_order_of K) := Q.ok_check_order_of T
  have G_Room__make_calls : FnOk P w K mg base CX0 3 A.f_Room__make_calls A.d_Room__make_calls ["self", "calls"] (sq_make K A) := ok_Room_make T
  refine T.F_Room_round.ok sc_Room_round (fun vs H Q E h => ?_) (fun cdv A' outer sh H vs Q E hr h => ?_)
  · obtain ⟨a, e, c, n, ts, s, cs, rfl, _⟩ := h
    rfl
  · obtain ⟨a, e, c, n, ts, s, cs, rfl, h, hp, hn, hc, S, hl, q⟩ := h
    refine ⟨_, (pss_cons (ps_expr (pe_call G_check_order_of (hr.mono (by decide)) (by rfl) T.g_check_order_of T.F_check_order_of.kp T.b_check_order_of .nil pass0 (pa_cons (pv 1) (pa_cons (pe_fld (pv 0) (by rfl)) pa_nil))))
      (pss_one (ps_ret (pe_meth (pv 0) T.cl_Room T.me__make_calls G_Room__make_calls (hr.mono (by decide)) T.b_Room__make_calls .nil pass0 (pa_cons (pv 1) pa_nil))))), ?_⟩
    obtain ⟨dx, fs, h1, h2⟩ := h.seats
    refine ⟨_, rfl, _, rfl, a, A.c_Room, dx, _, _, rfl, h1, T.cl_Room, T.na__seats, h2, c, cs, n, rfl, hc, S, by omega, fun H1 e1 => ?_⟩
    have r1 := h.on e1
    obtain ⟨dx, fs, h1, h2⟩ := r1.ins "_make_calls" (by decide)
    exact ⟨_, rfl, a, dx, _, rfl, h1, h2, _, rfl, a, e, c, n, ts, s, cs, rfl, r1, hp, hn, ex_l e1 hc, S.lo, by rw [S.len]; omega, hl, fun H3 x3 r3 => q H3 ((rest_mono e1).trans x3) r3⟩
def sr_round (K : PySem.W.Frag) (A : Ad) : Sp := fun vs H _ E => ∃ (a e : Addr) (n : Nat) (ts : List (Int × Int)) (s : RS) (v : V), vs = [.ref a, v] ∧ RoomAt K A H a e n ts s ∧ LenR K A.c_InvalidOrder seE v (n : Int) H E False
theorem rs_Room_round (T : Txt K mg A) : FnOk P w K mg base (L2.CX P w) 5 A.f_Room_round A.d_Room_round ["self", "order"] (sr_round K A) := by
  have G_check_order_of : FnOk P w K mg base (L2.CX P w) 4 A.f_check_order_of A.d_check_order_of ["order", "count"] (sp_check_len K A.c_InvalidOrder seE) := ok_check_order_of T
  refine T.F_Room_round.okX sc_Room_round (fun vs H Q E h => ?_) (fun cdv A' outer sh H vs Q E hr h => ?_)
  · obtain ⟨a, e, n, ts, s, v, rfl, _⟩ := h
    rfl
  · obtain ⟨a, e, n, ts, s, v, rfl, h, r⟩ := h
    refine ⟨_, (pss_cons (ps_expr (pe_call G_check_order_of (hr.mono (by decide)) (by rfl) T.g_check_order_of T.F_check_order_of.kp T.b_check_order_of .nil (passes_call (takes_of rfl rfl rfl rfl) (fun _ _ _ _ h => h)) (pa_cons (pv 1) (pa_cons (pe_fld (pv 0) (by rfl)) pa_nil))))
      pss_stop), ?_⟩
    obtain ⟨dx, fs, h1, h2⟩ := h.seats
    exact ⟨_, rfl, _, rfl, a, A.c_Room, dx, _, _, rfl, h1, T.cl_Room, T.na__seats, h2, len_step r (Ex.refl H) fun g _ _ => g.elim⟩
theorem rs_Room_round_back (T : Txt K mg A) : FnOk P w K mg base (L2.CX P w) 5 A.f_Room_round_back A.d_Room_round_back ["self", "order"] (sr_round K A) := by
  have G_check_order_of : FnOk P w K mg base (L2.CX P w) 4 A.f_check_order_of A.d_check_order_of ["order", "count"] (sp_check_len K A.c_InvalidOrder seE) := ok_check_order_of T
  refine T.F_Room_round_back.okX sc_Room_round_back (fun vs H Q E h => ?_) (fun cdv A' outer sh H vs Q E hr h => ?_)
  · obtain ⟨a, e, n, ts, s, v, rfl, _⟩ := h
    rfl
  · obtain ⟨a, e, n, ts, s, v, rfl, h, r⟩ := h
    refine ⟨_, (pss_cons (ps_expr (pe_call G_check_order_of (hr.mono (by decide)) (by rfl) T.g_check_order_of T.F_check_order_of.kp T.b_check_order_of .nil (passes_call (takes_of rfl rfl rfl rfl) (fun _ _ _ _ h => h)) (pa_cons (pv 1) (pa_cons (pe_fld (pv 0) (by rfl)) pa_nil))))
      pss_stop), ?_⟩
    obtain ⟨dx, fs, h1, h2⟩ := h.seats
    exact ⟨_, rfl, _, rfl, a, A.c_Room, dx, _, _, rfl, h1, T.cl_Room, T.na__seats, h2, len_step r (Ex.refl H) fun g _ _ => g.elim⟩
/-! ### undo -/
def sq_undo (K : PySem.W.Frag) (A : Ad) : Sp := fun vs H Q _ => ∃ (a e : Addr) (n : Nat) (ts : List (Int × Int)) (s s0 : RS), vs = [.ref a] ∧ RoomAt K A H a e n ts s ∧ s.er = s0.er ++ [(s0.pl, s0.ch)] ∧ s0.er.length ≤ 10000 ∧
  ∀ H', Ex (rest H a e) (rest H' a e) → RoomAt K A H' a e n ts s0 → Q .non H'
theorem ok_Room_undo (T : Txt K mg A) : FnOk P w K mg base CX0 1 A.f_Room_undo A.d_Room_undo ["self"] (sq_undo K A) := by
  refine T.F_Room_undo.ok sc_Room_undo (fun vs H Q E h => ?_) (fun cdv A' outer sh H vs Q E hr h => ?_)
  · obtain ⟨a, e, n, ts, s, s0, rfl, _⟩ := h
    rfl
  · obtain ⟨a, e, n, ts, s, s0, rfl, ⟨dx, tA, tdA, plA, es, h1, h2, h3, h4⟩, hs, hl, q⟩ := h
    refine ⟨_, (pss_cons (ps_if (pt_cmpR op_eq (pe_callB (call_lenK (K := K) rfl) (by rfl) T.z_len PySem.boot_len (pa_cons (pe_fld (pv 0) (by rfl)) pa_nil)) pe_int (nomark _)) (pss_one ps_never) pss_nil)
      (pss_one (ps_asg (pe_bm0 PySem.F.plainAttrs_list PySem.F.slot_list_pop PySem.F.type_list_pop mt_pop (pe_fld (pv 0) (by rfl))) (pg_tupK (n := 2) (K := K) rfl rfl (pgs_cons (pg_fld (pv 0)) (pgs_cons (pg_fld (pv 0)) pgs_nil)))))), ?_⟩
    have le : es.length = s0.er.length + 1 := by rw [h4.len, hs, List.length_append]; rfl
    refine ⟨_, rfl, a, A.c_Room, dx, _, _, rfl, h1, T.cl_Room, T.na__earlier, rfl, e, es.map V.ref, rfl, .inl (.inl (.inl h3)), ?_⟩
    have nz : ((es.map V.ref).length : Int) ≠ 0 := by rw [List.length_map, le]; omega
    refine ⟨rfl, false, congrArg V.bl (decide_eq_false fun z => nz (V.int.inj z)), iteF ?_⟩
    -- self._places, self._changes = self._earlier.pop()
    obtain ⟨b, hb⟩ : ∃ b, es[s0.er.length]? = some b := ⟨_, List.getElem?_eq_getElem (by omega)⟩
    have hx : s.er[s0.er.length]? = some (s0.pl, s0.ch) := by rw [hs, List.getElem?_append_right (Nat.le_refl _), Nat.sub_self]; rfl
    obtain ⟨p, k1, k2⟩ := h4.er _ b _ hb hx
    obtain ⟨nba, nbe⟩ := rest_none k1
    refine ⟨_, rfl, a, A.c_Room, dx, _, _, rfl, h1, T.cl_Room, T.na__earlier, rfl, .inl ⟨rfl, _, .inl (.inl h3)⟩, e, es.map V.ref, .ref b, rfl, rfl, h3, by rw [List.length_map, le, Nat.add_sub_cancel, List.getElem?_map, hb]; rfl, ?_⟩
    have a3 : upd H e (.lst (es.map V.ref).dropLast) a = some (.ins A.c_Room dx (fsR n tA tdA plA s.ch e)) := by rw [upd_ne h2]; exact h1
    have he3 : upd H e (.lst (es.map V.ref).dropLast) e = some (.lst (es.dropLast.map V.ref)) := by rw [upd_same, List.map_dropLast]
    have r3 : rest (upd H e (.lst (es.map V.ref).dropLast)) a e = rest H a e := rest_upE
    have hb3 : upd H e (.lst (es.map V.ref).dropLast) b = some (.tup [.ref p, .int s0.ch]) := by rw [upd_ne nbe]; exact rest_ex _ _ k1
    generalize upd H e (.lst (es.map V.ref).dropLast) = H3 at a3 he3 r3 hb3
    refine ⟨b, _, rfl, .inl (.inl hb3), rfl, _, _, rfl, ?_⟩
    refine ⟨_, rfl, a, A.c_Room, dx, _, rfl, a3, T.cl_Room, T.na__places, by show 6 < 1000; decide, ?_⟩
    rw [put_places]
    have a4 : upd H3 a (.ins A.c_Room dx (fsR n tA tdA p s.ch e)) a = some (.ins A.c_Room dx (fsR n tA tdA p s.ch e)) := upd_same
    have he4 : upd H3 a (.ins A.c_Room dx (fsR n tA tdA p s.ch e)) e = some (.lst (es.dropLast.map V.ref)) := by rw [upd_ne h2.symm]; exact he3
    have r4 : rest (upd H3 a (.ins A.c_Room dx (fsR n tA tdA p s.ch e))) a e = rest H a e := rest_upA.trans r3
    generalize upd H3 a (.ins A.c_Room dx (fsR n tA tdA p s.ch e)) = H4 at a4 he4 r4
    refine ⟨_, _, rfl, _, rfl, a, A.c_Room, dx, _, rfl, a4, T.cl_Room, T.na__changes, by show 6 < 1000; decide, ?_⟩
    rw [put_changes]
    have a5 : upd H4 a (.ins A.c_Room dx (fsR n tA tdA p s0.ch e)) a = some (.ins A.c_Room dx (fsR n tA tdA p s0.ch e)) := upd_same
    have he5 : upd H4 a (.ins A.c_Room dx (fsR n tA tdA p s0.ch e)) e = some (.lst (es.dropLast.map V.ref)) := by rw [upd_ne h2.symm]; exact he4
    have r5 : rest (upd H4 a (.ins A.c_Room dx (fsR n tA tdA p s0.ch e))) a e = rest H a e := rest_upA.trans r4
    generalize upd H4 a (.ins A.c_Room dx (fsR n tA tdA p s0.ch e)) = H5 at a5 he5 r5
    refine ⟨rfl, q H5 (by rw [r5]; exact Ex.refl _) ⟨dx, tA, tdA, p, es.dropLast, a5, h2, he5, ?_⟩⟩
    rw [r5]
    refine ⟨h4.ties, h4.tied, k2, ?_, fun i c x hc hx => ?_⟩
    · rw [List.length_dropLast, le, Nat.add_sub_cancel]
    · have hi : i < s0.er.length := (List.getElem?_eq_some_iff.mp hx).1
      refine h4.er i c x ?_ ?_
      · rw [List.getElem?_dropLast] at hc
        split at hc
        · exact hc
        · cases hc
      · rw [hs, List.getElem?_append_left hi]
        exact hx
def sr_undo (K : PySem.W.Frag) (A : Ad) : Sp := fun vs H _ E => ∃ (a e : Addr) (n : Nat) (ts : List (Int × Int)) (s : RS), vs = [.ref a] ∧ RoomAt K A H a e n ts s ∧ s.er = [] ∧ E (.ref A.c_NothingToUndo) none H
theorem rs_Room_undo (T : Txt K mg A) : FnOk P w K mg base (L2.CX P w) 1 A.f_Room_undo A.d_Room_undo ["self"] (sr_undo K A) := by
  refine T.F_Room_undo.okX sc_Room_undo (fun vs H Q E h => ?_) (fun cdv A' outer sh H vs Q E hr h => ?_)
  · obtain ⟨a, e, n, ts, s, rfl, _⟩ := h
    rfl
  · obtain ⟨a, e, n, ts, s, rfl, ⟨dx, tA, tdA, plA, es, h1, h2, h3, h4⟩, hs, q⟩ := h
    refine ⟨_, (pss_cons (ps_if (pt_cmpR op_eq (pe_callB (call_lenK (K := K) rfl) (by rfl) T.z_len PySem.boot_len (pa_cons (pe_fld (pv 0) (by rfl)) pa_nil)) pe_int (nomark _)) (pss_one (ps_raise rfl (takes_of rfl rfl rfl rfl) (pmk_own0 PySem.F.excBase_LookupError T.x_NothingToUndo T.c_NothingToUndo T.k_NothingToUndo (raises_own T.s_NothingToUndo T.t_NothingToUndo) (by rfl)))) pss_nil) pss_stop), ?_⟩
    have le : es = [] := List.length_eq_zero_iff.mp (by rw [h4.len, hs]; rfl)
    subst le
    exact ⟨_, rfl, a, A.c_Room, dx, _, _, rfl, h1, T.cl_Room, T.na__earlier, rfl, e, [], rfl, .inl (.inl (.inl h3)), rfl, true, rfl, iteT q⟩
end
end K41

namespace K41
open PySem PySem.Spec PyProof.Rows L2 Vf Evl
open Q (TdAt PairsAt)
/-! ### run -/
def runS (n : Nat) (ts : List (Int × Int)) : RS → List Int → RS
  | s, [] => s
  | s, c :: r => runS n ts (mkS n ts s [c]) r
section
variable {P : Program} {w : World} {K : PySem.W.Frag} {mg : Str → Option Value} {base : Heap} {A : Ad} {H H' : Hp} {a e : Addr} {n : Nat} {ts : List (Int × Int)} {s : RS}
theorem runS_app : ∀ (cs : List Int) (s : RS) (c : Int), runS n ts s (cs ++ [c]) = mkS n ts (runS n ts s cs) [c]
  | [], _, _ => rfl
  | x :: cs, s, c => runS_app cs (mkS n ts s [x]) c
theorem runS_len : ∀ (cs : List Int) (s : RS), (runS n ts s cs).er.length = s.er.length + cs.length
  | [], _ => rfl
  | x :: cs, s => by
    show (runS n ts (mkS n ts s [x]) cs).er.length = _
    rw [runS_len cs]
    show (s.er ++ [(s.pl, s.ch)]).length + cs.length = _
    simp only [List.length_append, List.length_cons, List.length_nil]
    omega
theorem runS_plc (hn : 2 ≤ n) : ∀ (cs : List Int) (s : RS), (∀ c ∈ cs, 1 ≤ c ∧ c ≤ (n : Int)) → MR.Plc n s.pl → MR.Plc n (runS n ts s cs).pl
  | [], _, _, h => h
  | x :: cs, s, hc, h => runS_plc hn cs _ (fun c hx => hc c (List.mem_cons_of_mem _ hx)) (MR.run_plc h (MR.pairs_ok hn fun c hx => by rw [List.mem_singleton.mp hx]; exact hc x List.mem_cons_self))
/-- a run that comes to a thing that is no call -/
def sr_run (K : PySem.W.Frag) (A : Ad) : SpG := fun vs H _ E => ∃ (a e c : Addr) (n : Nat) (ts : List (Int × Int)) (s : RS) (cs : List Int) (x : V) (o : Option Int) (more : List V), vs = [.ref a, .ref c] ∧ RoomAt K A H a e n ts s ∧ MR.Plc n s.pl ∧ (3 ≤ n ∧ n ≤ 40) ∧ SqL K (rest H a e) c (cs.map V.int ++ x :: more) ∧ (∀ c ∈ cs, 1 ≤ c ∧ c ≤ (n : Int)) ∧ cs.length ≤ 100 ∧ s.er.length ≤ 9000 ∧
  Kd K (rest H a e) x o ∧ okI (n : Int) o = false ∧ ∀ H', Ex (rest H a e) (rest H' a e) → RoomAt K A H' a e n ts (runS n ts s cs) → RaiseV A.c_UnknownCall "number" x H' E
theorem rs_Room_run (T : Txt K mg A) : GFn P w K mg base 6 A.f_Room_run A.d_Room_run ["self", "calls"] (sr_run K A) := by
  have R_Room_call : FnOk P w K mg base (L2.CX P w) 4 A.f_Room_call A.d_Room_call ["self", "number"] (sOr (sr_call K A) (sq_call K A)) := fn_or (rs_Room_call T) (fn_loud (ok_Room_call T))
  have G_Room_standing : FnOk P w K mg base CX0 3 A.f_Room_standing A.d_Room_standing ["self"] (sp_standing K A) := ok_Room_standing T
  obtain ⟨oc, od, kV, doc, pm, an, cdv, ct, osl, hfd, lk, hcd⟩ := T.F_Room_run.ex
  rw [hfd] at lk ⊢
  refine gfn_of lk hcd sc_Room_run (fun vs H Q E h => ?_) (fun A' outer sh H vs Q E pn hr h => ?_)
  · obtain ⟨a, e, c, n, ts, s, cs, x, o, more, rfl, _⟩ := h
    rfl
  · obtain ⟨a, e, c, n, ts, s, cs, x, o, more, rfl, h, hp, hn, hc, hb, hl, he, k, ok, q⟩ := h
    refine ⟨_, (gss_cons (gs_ps (ps_set (i := 2) sc_Room_run.nd rfl (by first | exact .inl rfl | exact .inr rfl) pe_int))
      (gss_cons (gs_while owns_gcx (pt_cmpR op_lt (pv 2) (pe_callB (call_lenK (K := K) rfl) (by rfl) T.z_len PySem.boot_len (pa_cons (pv 1) pa_nil)) (nomark _))
        (gss_cons (gs_ps (ps_expr (pe_meth (pv 0) T.cl_Room T.me_call R_Room_call (hr.mono (by decide)) T.b_Room_call .nil (passes_call takes_gcx (fun _ _ _ _ h => h)) (pa_cons (pe_ix (ix_listK (K := K) rfl) (pv 1) (pv 2) (fun _ _ => rfl)) pa_nil))))
        (gss_cons (gs_yield (pe_prop (pv 0) T.cl_Room T.pr_standing G_Room_standing (hr.mono (by decide)) T.b_Room_standing .nil pass0 (by rfl)))
        (gss_cons (gs_ps (ps_aug (i := 2) sc_Room_run.nd rfl (by first | exact .inl rfl | exact .inr rfl) pe_int ip_add)) gss_nil)))) gss_nil)), ?_⟩
    show tGThen (tGWhile _ _) tG0 _ [] [some (V.ref a), some (V.ref c), some (V.int 0)] H
    refine ⟨fun m ys σ' H' => ∃ i : Nat, i ≤ cs.length ∧ m = cs.length - i ∧ ys.length = i ∧ σ' = [some (.ref a), some (.ref c), some (.int (i : Int))] ∧ Ex (rest H a e) (rest H' a e) ∧ RoomAt K A H' a e n ts (runS n ts s (cs.take i)), ⟨_, 0, Nat.zero_le _, rfl, rfl, rfl, Ex.refl _, h⟩, ?_⟩
    rintro m ys σ' H1 ⟨i, hi, rfl, hy, rfl, x1, r1⟩
    have hc1 : SqL K H1 c (cs.map V.int ++ x :: more) := ex_l (x1.trans rest_ex) hc
    have hlt : (i : Int) < ((cs.map V.int ++ x :: more).length : Int) := by
      rw [List.length_append, List.length_map, List.length_cons]
      omega
    refine ⟨_, rfl, _, rfl, c, _, rfl, .inl hc1, _, _, rfl, rfl, true, congrArg V.bl (decide_eq_true hlt), iteT ?_⟩
    obtain ⟨dx, fs, h1, h2⟩ := r1.ins "call" (by decide)
    by_cases ci : i < cs.length
    · -- a call
      have hci : cs[i]? = some cs[i] := List.getElem?_eq_getElem ci
      have hat : (cs.map V.int ++ x :: more)[i]? = some (V.int cs[i]) := by
        rw [List.getElem?_append_left (by rw [List.length_map]; exact ci), List.getElem?_map, hci]
        rfl
      have okc := hb _ (List.getElem_mem ci)
      have plc := runS_plc (n := n) (ts := ts) (by omega) (cs.take i) s (fun c hc => hb c (List.mem_of_mem_take hc)) hp
      refine ⟨fun ys' σ' H' => ys'.length = i + 1 ∧ σ' = [some (.ref a), some (.ref c), some (.int ((i + 1 : Nat) : Int))] ∧ Ex (rest H a e) (rest H' a e) ∧ RoomAt K A H' a e n ts (runS n ts s (cs.take (i + 1))), fun ys' σ' H' z => ⟨cs.length - (i + 1), by omega, i + 1, ci, rfl, z.1, z.2.1, z.2.2⟩, ?_⟩
      refine ⟨_, rfl, a, dx, fs, rfl, h1, h2, _, rfl, _, rfl, c, _, (i : Int), V.int cs[i], rfl, rfl, hc1, atI_nat hat, .inr ⟨a, e, n, ts, _, cs[i], rfl, r1, plc, hn, okc, ?_, fun H2 x2 r2 => ?_⟩⟩
      · rw [runS_len, List.length_take]
        omega
      · have r2' : RoomAt K A H2 a e n ts (runS n ts s (cs.take (i + 1))) := by
          rw [take_one hci, runS_app]
          exact r2
        have plc2 := runS_plc (n := n) (ts := ts) (by omega) (cs.take (i + 1)) s (fun c hc => hb c (List.mem_of_mem_take hc)) hp
        obtain ⟨dx2, fs2, h3, _⟩ := r2'.seats
        refine ⟨sz_lt (by omega), _, rfl, a, dx2, fs2, rfl, h3, a, e, n, ts, _, rfl, r2', plc2, by omega, fun p H3 np e3 hp3 => ?_⟩
        refine ⟨_, rfl, _, _, rfl, rfl, ⟨?_, rfl, (x1.trans x2).trans (rest_mono e3), r2'.on e3⟩⟩
        rw [List.length_append, hy]
        rfl
    · -- no call
      have hi' : i = cs.length := by omega
      subst hi'
      have hat : (cs.map V.int ++ x :: more)[cs.length]? = some x := by
        rw [List.getElem?_append_right (by rw [List.length_map]; exact Nat.le_refl _), List.length_map, Nat.sub_self]
        rfl
      rw [List.take_length] at r1
      refine ⟨fun _ _ _ => False, fun _ _ _ z => z.elim, ?_⟩
      exact ⟨_, rfl, a, dx, fs, rfl, h1, h2, _, rfl, _, rfl, c, _, (cs.length : Int), x, rfl, rfl, hc1, atI_nat hat, .inl ⟨a, e, n, ts, _, x, o, rfl, r1, k.on (x1.trans rest_ex), ok, q H1 x1 r1⟩⟩
end
end K41

namespace K41
open PySem PySem.Spec PyProof.Rows L2 Vf Evl
/-- class, field, name -/
def errT (A : Ad) : List (Addr × Str × Str) := [(A.c_InvalidNumber, "number", "figure"), (A.c_InvalidTies, "index", "ties"), (A.c_InvalidStanding, "index", "standing"), (A.c_InvalidOrder, "index", "order"), (A.c_UnknownCall, "number", "call")]
def tellE (nm : Str) (d : PyData) : V := .str (PyData.list [.str nm, d]).shown
/-- an exception, and what is told of it -/
def ErrEnd (K : PySem.W.Frag) (A : Ad) (Q : VK) : XK := fun cls d H => (∃ (C dd : Addr) (fld nm : Str) (v : V) (x : PyData), (C, fld, nm) ∈ errT A ∧ cls = .ref C ∧ d = some dd ∧ H dd = some (.xd [(fld, v)]) ∧ DvV K H v x ∧ ∀ H', Ex H H' → Q (tellE nm x) H') ∨
  (cls = .ref A.c_NothingToUndo ∧ d = none ∧ ∀ H', Ex H H' → Q (.str "nothing") H')
def TCaught (K : PySem.W.Frag) (A : Ad) : (XK → Hp → VK → Prop) → Hp → VK → Prop := fun tl H Q => tl (ErrEnd K A Q) H (fun _ H' => Q (.str "told") H')
section
variable {A : Ad}
theorem caught_gives {X : Cx} (T : Txt X.K X.mg A) (hgd : X.A.guards = some []) (hr0 : Room 4 X.A) {g : Addr} {cdg : Value} {q : Str} : LamX.GivesTo X ["_law_ask", "_law_error", "e", "_law_kinds"] "_law_caught" (defScope s_l_caught) g cdg (defBody s_l_caught) "_law_ask" q (TCaught X.K A) := by
  intro f c' s H Q tl act hc h
  let K : PySem.W.Frag := X.K
  have hr : Room 3 (X.A.deeper (envOfC "_law_caught" (defScope s_l_caught) s.heap.objs.size g cdg)) := hr0.deeper _
  have hgd : (X.A.deeper (envOfC "_law_caught" (defScope s_l_caught) s.heap.objs.size g cdg)).guards = some [] := hgd
  refine ⟨_, (pss_cons (ps_set (i := 1) sc_l_caught.nd rfl (by first | exact .inl rfl | exact .inr rfl) pe_non)
      (pss_catch (n := 2) rfl rfl sc_l_caught.nd (by rfl) (by rfl) takes0 (fun W pn xe tk _ => hb_ask act tk) (.cons (testOk_3 ⟨by rfl, by decide, .inl T.c_InvalidNumber⟩ ⟨by rfl, by decide, .inl T.c_InvalidOrder⟩ ⟨by rfl, by decide, .inl T.c_InvalidStanding⟩) (fun a oe cls d pn hz hf => (pss_one (ps_set (i := 1) sc_l_caught.nd rfl (by first | exact .inl rfl | exact .inr rfl) (pv 2)))) (.cons (testOk_3 ⟨by rfl, by decide, .inl T.c_InvalidTies⟩ ⟨by rfl, by decide, .inl T.c_NothingToUndo⟩ ⟨by rfl, by decide, .inl T.c_UnknownCall⟩) (fun a oe cls d pn hz hf => (pss_one (ps_set (i := 1) sc_l_caught.nd rfl (by first | exact .inl rfl | exact .inr rfl) (pv 2)))) .nil)) (pss_cons (ps_if (pt_cmp (pc_isN (pv 1))) (pss_one (ps_ret pe_str)) pss_nil) pss_stop) (fun a oe cls d pn hz hf => (pss_cons (ps_if (pt_cmp (pc_isN (pv 1))) (pss_one (ps_ret pe_str)) pss_nil)
      (pss_cons (ps_if (pt_val (pe_callB (call_isP hz hf) (by rfl) T.z_isinstance (by decide +kernel) (pa_cons (pv 1) (pa_cons (pe_glob (v := .ref A.c_NothingToUndo) (by rfl) T.c_NothingToUndo rfl) pa_nil)))) (pss_one (ps_ret pe_str)) pss_nil)
      (pss_cons (ps_if (pt_val (pe_callB (call_isP hz hf) (by rfl) T.z_isinstance (by decide +kernel) (pa_cons (pv 1) (pa_cons (pe_glob (v := .ref A.c_UnknownCall) (by rfl) T.c_UnknownCall rfl) pa_nil)))) (pss_one (ps_ret (pe_ifExp (pt_val (pe_callB (call_isP hz hf) (by rfl) T.z_isinstance (by decide +kernel) (pa_cons (pv 1) (pa_cons (pe_bltn (v := .ty "LookupError") (by rfl) T.z_LookupError (by decide +kernel) rfl) pa_nil)))) (pe_callB (call_repr_T hgd hr) (by rfl) T.z_repr (by decide +kernel) (pa_cons (pe_lst (pa_cons pe_str (pa_cons (pe_xp hz hf (pv 1)) pa_nil))) pa_nil)) pe_str))) pss_nil)
      (pss_cons (ps_if (pt_not (pt_val (pe_callB (call_isP hz hf) (by rfl) T.z_isinstance (by decide +kernel) (pa_cons (pv 1) (pa_cons (pe_bltn (v := .ty "ValueError") (by rfl) T.z_ValueError (by decide +kernel) rfl) pa_nil))))) (pss_one (ps_ret pe_str)) pss_nil)
      (pss_cons (ps_if (pt_val (pe_callB (call_isP hz hf) (by rfl) T.z_isinstance (by decide +kernel) (pa_cons (pv 1) (pa_cons (pe_glob (v := .ref A.c_InvalidNumber) (by rfl) T.c_InvalidNumber rfl) pa_nil)))) (pss_one (ps_ret (pe_callB (call_repr_T hgd hr) (by rfl) T.z_repr (by decide +kernel) (pa_cons (pe_lst (pa_cons pe_str (pa_cons (pe_xp hz hf (pv 1)) pa_nil))) pa_nil)))) pss_nil)
      (pss_cons (ps_set (i := 3) sc_l_caught.nd rfl (by first | exact .inl rfl | exact .inr rfl) (pe_lst (pa_cons (pe_callB (call_isP hz hf) (by rfl) T.z_isinstance (by decide +kernel) (pa_cons (pv 1) (pa_cons (pe_glob (v := .ref A.c_InvalidTies) (by rfl) T.c_InvalidTies rfl) pa_nil))) (pa_cons (pe_callB (call_isP hz hf) (by rfl) T.z_isinstance (by decide +kernel) (pa_cons (pv 1) (pa_cons (pe_glob (v := .ref A.c_InvalidStanding) (by rfl) T.c_InvalidStanding rfl) pa_nil))) (pa_cons pe_bl pa_nil)))))
      (pss_one (ps_ret (pe_callB (call_repr_T hgd hr) (by rfl) T.z_repr (by decide +kernel) (pa_cons (pe_lst (pa_cons (pe_ix (ix_listK (K := K) rfl) (pe_lst (pa_cons pe_str (pa_cons pe_str (pa_cons pe_str pa_nil)))) (pe_bmK (K := K) rfl PySem.F.plainAttrs_list PySem.F.slot_list_index PySem.F.type_list_index (mt_indexK (K := K) rfl) (pv 3) (pa_cons pe_bl pa_nil)) (fun _ _ => rfl)) (pa_cons (pe_xp hz hf (pv 1)) pa_nil))) pa_nil))))))))))))), ?_⟩
  refine ⟨ErrEnd X.K A Q, fun cls d σ' H' he hl => ?_, _, ⟨rfl, hc, h⟩, fun v H' q => ?_⟩
  · have hl : σ'.length = 4 := hl
    match σ', hl with
    | [y0, y1, y2, y3], _ =>
    have nd := tabC_nd T.tb
    simp only [List.cons_append, List.nil_append, List.nodup_cons, List.mem_cons, List.not_mem_nil, or_false, not_or, not_false_eq_true, List.nodup_nil, and_true] at nd
    obtain ⟨⟨n01, n02, n03, n04, n05⟩, ⟨n12, n13, n14, n15⟩, ⟨n23, n24, n25⟩, ⟨n34, n35⟩, n45⟩ := nd
    have all : ∀ {C : Addr}, C = A.c_InvalidNumber ∨ C = A.c_InvalidTies ∨ C = A.c_InvalidStanding ∨ C = A.c_InvalidOrder ∨ C = A.c_UnknownCall ∨ C = A.c_NothingToUndo → C ∈ [A.c_InvalidNumber, A.c_InvalidTies, A.c_InvalidStanding, A.c_InvalidOrder] ++ [A.c_UnknownCall, A.c_NothingToUndo] := fun h => by simpa using h
    have ex : ∀ {C c : Addr}, C = A.c_InvalidNumber ∨ C = A.c_InvalidTies ∨ C = A.c_InvalidStanding ∨ C = A.c_InvalidOrder ∨ C = A.c_UnknownCall ∨ C = A.c_NothingToUndo → c = A.c_InvalidNumber ∨ c = A.c_InvalidTies ∨ c = A.c_InvalidStanding ∨ c = A.c_InvalidOrder ∨ c = A.c_UnknownCall ∨ c = A.c_NothingToUndo → PySem.W.exmOne X.K (.ref C) (.ref c) = some (decide (C = c)) := fun h1 h2 => tabC_ex T.tb (all h1) (all h2)
    have is : ∀ {C c : Addr}, C = A.c_InvalidNumber ∨ C = A.c_InvalidTies ∨ C = A.c_InvalidStanding ∨ C = A.c_InvalidOrder ∨ C = A.c_UnknownCall ∨ C = A.c_NothingToUndo → c = A.c_InvalidNumber ∨ c = A.c_InvalidTies ∨ c = A.c_InvalidStanding ∨ c = A.c_InvalidOrder ∨ c = A.c_UnknownCall ∨ c = A.c_NothingToUndo → PySem.W.kitOne X.K (.ref C) (.ref c) = some (decide (C = c)) := fun h1 h2 => tabC_is T.tb (all h1) (all h2)
    rcases he with ⟨C, dd, fld, nm, v, x, mem, rfl, rfl, hdd, hv, hq⟩ | ⟨rfl, rfl, hq⟩
    · have xd : XdAt H' (some dd) := fun q e => by cases e; exact ⟨_, hdd⟩
      simp only [errT, List.mem_cons, List.not_mem_nil, or_false, Prod.mk.injEq] at mem
      rcases mem with ⟨rfl, rfl, rfl⟩ | ⟨rfl, rfl, rfl⟩ | ⟨rfl, rfl, rfl⟩ | ⟨rfl, rfl, rfl⟩ | ⟨rfl, rfl, rfl⟩
      · refine ⟨_, exm3 ((ex (by simp) (by simp)).trans (congrArg some (decide_eq_true rfl))) ((ex (by simp) (by simp)).trans (congrArg some (decide_eq_false n03))) ((ex (by simp) (by simp)).trans (congrArg some (decide_eq_false n02))), fun _ a na => ?_, fun z => by cases z⟩
        refine ⟨_, rfl, ?_⟩
        refine ⟨_, rfl, false, rfl, iteF ?_⟩
        refine ⟨_, rfl, xd, A.c_InvalidNumber, .ref A.c_NothingToUndo, .ref A.c_NothingToUndo, false, rfl, T.e_InvalidNumber, rfl, (fun u r => r), ((is (by simp) (by simp)).trans (congrArg some (decide_eq_false n05))), false, rfl, iteF ?_⟩
        refine ⟨_, rfl, xd, A.c_InvalidNumber, .ref A.c_UnknownCall, .ref A.c_UnknownCall, false, rfl, T.e_InvalidNumber, rfl, (fun u r => r), ((is (by simp) (by simp)).trans (congrArg some (decide_eq_false n04))), false, rfl, iteF ?_⟩
        refine ⟨_, rfl, xd, A.c_InvalidNumber, .ty "ValueError", .type "ValueError", true, rfl, T.e_InvalidNumber, rfl, (fun u r => r), tabC_ve T.tb (by simp), true, rfl, iteF ?_⟩
        refine ⟨_, rfl, xd, A.c_InvalidNumber, .ref A.c_InvalidNumber, .ref A.c_InvalidNumber, true, rfl, T.e_InvalidNumber, rfl, (fun u r => r), ((is (by simp) (by simp)).trans (congrArg some (decide_eq_true rfl))), true, rfl, iteT ?_⟩
        refine ⟨_, rfl, rfl, A.c_InvalidNumber, dd, _, v, rfl, T.y_InvalidNumber, T.n_InvalidNumber, rfl, hdd, rfl, ?_⟩
        dsimp only [tNil]
        refine ⟨two_fits _ _, fun p np => ?_⟩
        have e1 : Ex H' (upd H' p (.lst [.str "figure", v])) := Ex.new np
        exact ⟨_, _, rfl, shv_pair (.inl (.inl upd_same)) (by decide +kernel) (hv.on e1), hq _ e1⟩
      · refine ⟨_, exm3 ((ex (by simp) (by simp)).trans (congrArg some (decide_eq_false (Ne.symm n01)))) ((ex (by simp) (by simp)).trans (congrArg some (decide_eq_false n13))) ((ex (by simp) (by simp)).trans (congrArg some (decide_eq_false n12))), (fun z => by cases z), fun _ => ⟨_, exm3 ((ex (by simp) (by simp)).trans (congrArg some (decide_eq_true rfl))) ((ex (by simp) (by simp)).trans (congrArg some (decide_eq_false n15))) ((ex (by simp) (by simp)).trans (congrArg some (decide_eq_false n14))), fun _ a na => ?_, fun z => by cases z⟩⟩
        refine ⟨_, rfl, ?_⟩
        refine ⟨_, rfl, false, rfl, iteF ?_⟩
        refine ⟨_, rfl, xd, A.c_InvalidTies, .ref A.c_NothingToUndo, .ref A.c_NothingToUndo, false, rfl, T.e_InvalidTies, rfl, (fun u r => r), ((is (by simp) (by simp)).trans (congrArg some (decide_eq_false n15))), false, rfl, iteF ?_⟩
        refine ⟨_, rfl, xd, A.c_InvalidTies, .ref A.c_UnknownCall, .ref A.c_UnknownCall, false, rfl, T.e_InvalidTies, rfl, (fun u r => r), ((is (by simp) (by simp)).trans (congrArg some (decide_eq_false n14))), false, rfl, iteF ?_⟩
        refine ⟨_, rfl, xd, A.c_InvalidTies, .ty "ValueError", .type "ValueError", true, rfl, T.e_InvalidTies, rfl, (fun u r => r), tabC_ve T.tb (by simp), true, rfl, iteF ?_⟩
        refine ⟨_, rfl, xd, A.c_InvalidTies, .ref A.c_InvalidNumber, .ref A.c_InvalidNumber, false, rfl, T.e_InvalidTies, rfl, (fun u r => r), ((is (by simp) (by simp)).trans (congrArg some (decide_eq_false (Ne.symm n01)))), false, rfl, iteF ?_⟩
        refine ⟨_, rfl, xd, A.c_InvalidTies, .ref A.c_InvalidTies, .ref A.c_InvalidTies, true, rfl, T.e_InvalidTies, rfl, (fun u r => r), ((is (by simp) (by simp)).trans (congrArg some (decide_eq_true rfl))), ?_⟩
        refine ⟨_, rfl, xd, A.c_InvalidTies, .ref A.c_InvalidStanding, .ref A.c_InvalidStanding, false, rfl, T.e_InvalidTies, rfl, (fun u r => r), ((is (by simp) (by simp)).trans (congrArg some (decide_eq_false n12))), ?_⟩
        dsimp only [tNil]
        refine ⟨three_fits _ _ _, fun p np => ?_⟩
        have e1 : Ex H' (upd H' p (.lst [.bl true, .bl false, .bl true])) := Ex.new np
        have hp1 : upd H' p (.lst [.bl true, .bl false, .bl true]) p = some (.lst [.bl true, .bl false, .bl true]) := upd_same
        generalize upd H' p (.lst [.bl true, .bl false, .bl true]) = H2 at e1 hp1
        dsimp only [gName]
        -- names[kinds.index(True)]
        refine ⟨three_fits _ _ _, fun pn npn => ?_⟩
        have e2 : Ex H2 (upd H2 pn (.lst [.str "ties", .str "standing", .str "order"])) := Ex.new npn
        have hpn : upd H2 pn (.lst [.str "ties", .str "standing", .str "order"]) pn = some (.lst [.str "ties", .str "standing", .str "order"]) := upd_same
        generalize upd H2 pn (.lst [.str "ties", .str "standing", .str "order"]) = H3 at e2 hpn
        refine ⟨_, rfl, .inl ⟨rfl, _, .inl (.inl (e2 _ _ hp1))⟩, p, _, .bl true, 0, .bl true, rfl, rfl, .inl (.inl (e2 _ _ hp1)), rfl, rfl, rfl, rfl, ?_, ?_⟩
        · intro m z' hm hz
          match m, hm with
          | 0, h => exact absurd h (by decide)
        refine ⟨pn, _, 0, .str "ties", rfl, rfl, .inl (.inl hpn), rfl, ?_⟩
        have eall : Ex H' H3 := e1.trans e2
        refine ⟨_, rfl, rfl, A.c_InvalidTies, dd, _, v, rfl, T.y_InvalidTies, T.n_InvalidTies, rfl, eall _ _ hdd, rfl, ?_⟩
        dsimp only [tNil]
        refine ⟨two_fits _ _, fun p6 np6 => ?_⟩
        have e6 : Ex H3 (upd H3 p6 (.lst [.str "ties", v])) := Ex.new np6
        exact ⟨_, _, rfl, shv_pair (.inl (.inl upd_same)) (by decide +kernel) (hv.on (eall.trans e6)), hq _ (eall.trans e6)⟩
      · refine ⟨_, exm3 ((ex (by simp) (by simp)).trans (congrArg some (decide_eq_false (Ne.symm n02)))) ((ex (by simp) (by simp)).trans (congrArg some (decide_eq_false n23))) ((ex (by simp) (by simp)).trans (congrArg some (decide_eq_true rfl))), fun _ a na => ?_, fun z => by cases z⟩
        refine ⟨_, rfl, ?_⟩
        refine ⟨_, rfl, false, rfl, iteF ?_⟩
        refine ⟨_, rfl, xd, A.c_InvalidStanding, .ref A.c_NothingToUndo, .ref A.c_NothingToUndo, false, rfl, T.e_InvalidStanding, rfl, (fun u r => r), ((is (by simp) (by simp)).trans (congrArg some (decide_eq_false n25))), false, rfl, iteF ?_⟩
        refine ⟨_, rfl, xd, A.c_InvalidStanding, .ref A.c_UnknownCall, .ref A.c_UnknownCall, false, rfl, T.e_InvalidStanding, rfl, (fun u r => r), ((is (by simp) (by simp)).trans (congrArg some (decide_eq_false n24))), false, rfl, iteF ?_⟩
        refine ⟨_, rfl, xd, A.c_InvalidStanding, .ty "ValueError", .type "ValueError", true, rfl, T.e_InvalidStanding, rfl, (fun u r => r), tabC_ve T.tb (by simp), true, rfl, iteF ?_⟩
        refine ⟨_, rfl, xd, A.c_InvalidStanding, .ref A.c_InvalidNumber, .ref A.c_InvalidNumber, false, rfl, T.e_InvalidStanding, rfl, (fun u r => r), ((is (by simp) (by simp)).trans (congrArg some (decide_eq_false (Ne.symm n02)))), false, rfl, iteF ?_⟩
        refine ⟨_, rfl, xd, A.c_InvalidStanding, .ref A.c_InvalidTies, .ref A.c_InvalidTies, false, rfl, T.e_InvalidStanding, rfl, (fun u r => r), ((is (by simp) (by simp)).trans (congrArg some (decide_eq_false (Ne.symm n12)))), ?_⟩
        refine ⟨_, rfl, xd, A.c_InvalidStanding, .ref A.c_InvalidStanding, .ref A.c_InvalidStanding, true, rfl, T.e_InvalidStanding, rfl, (fun u r => r), ((is (by simp) (by simp)).trans (congrArg some (decide_eq_true rfl))), ?_⟩
        dsimp only [tNil]
        refine ⟨three_fits _ _ _, fun p np => ?_⟩
        have e1 : Ex H' (upd H' p (.lst [.bl false, .bl true, .bl true])) := Ex.new np
        have hp1 : upd H' p (.lst [.bl false, .bl true, .bl true]) p = some (.lst [.bl false, .bl true, .bl true]) := upd_same
        generalize upd H' p (.lst [.bl false, .bl true, .bl true]) = H2 at e1 hp1
        dsimp only [gName]
        -- names[kinds.index(True)]
        refine ⟨three_fits _ _ _, fun pn npn => ?_⟩
        have e2 : Ex H2 (upd H2 pn (.lst [.str "ties", .str "standing", .str "order"])) := Ex.new npn
        have hpn : upd H2 pn (.lst [.str "ties", .str "standing", .str "order"]) pn = some (.lst [.str "ties", .str "standing", .str "order"]) := upd_same
        generalize upd H2 pn (.lst [.str "ties", .str "standing", .str "order"]) = H3 at e2 hpn
        refine ⟨_, rfl, .inl ⟨rfl, _, .inl (.inl (e2 _ _ hp1))⟩, p, _, .bl true, 1, .bl true, rfl, rfl, .inl (.inl (e2 _ _ hp1)), rfl, rfl, rfl, rfl, ?_, ?_⟩
        · intro m z' hm hz
          match m, hm with
          | 0, _ => cases hz; rfl
        refine ⟨pn, _, 1, .str "standing", rfl, rfl, .inl (.inl hpn), rfl, ?_⟩
        have eall : Ex H' H3 := e1.trans e2
        refine ⟨_, rfl, rfl, A.c_InvalidStanding, dd, _, v, rfl, T.y_InvalidStanding, T.n_InvalidStanding, rfl, eall _ _ hdd, rfl, ?_⟩
        dsimp only [tNil]
        refine ⟨two_fits _ _, fun p6 np6 => ?_⟩
        have e6 : Ex H3 (upd H3 p6 (.lst [.str "standing", v])) := Ex.new np6
        exact ⟨_, _, rfl, shv_pair (.inl (.inl upd_same)) (by decide +kernel) (hv.on (eall.trans e6)), hq _ (eall.trans e6)⟩
      · refine ⟨_, exm3 ((ex (by simp) (by simp)).trans (congrArg some (decide_eq_false (Ne.symm n03)))) ((ex (by simp) (by simp)).trans (congrArg some (decide_eq_true rfl))) ((ex (by simp) (by simp)).trans (congrArg some (decide_eq_false (Ne.symm n23)))), fun _ a na => ?_, fun z => by cases z⟩
        refine ⟨_, rfl, ?_⟩
        refine ⟨_, rfl, false, rfl, iteF ?_⟩
        refine ⟨_, rfl, xd, A.c_InvalidOrder, .ref A.c_NothingToUndo, .ref A.c_NothingToUndo, false, rfl, T.e_InvalidOrder, rfl, (fun u r => r), ((is (by simp) (by simp)).trans (congrArg some (decide_eq_false n35))), false, rfl, iteF ?_⟩
        refine ⟨_, rfl, xd, A.c_InvalidOrder, .ref A.c_UnknownCall, .ref A.c_UnknownCall, false, rfl, T.e_InvalidOrder, rfl, (fun u r => r), ((is (by simp) (by simp)).trans (congrArg some (decide_eq_false n34))), false, rfl, iteF ?_⟩
        refine ⟨_, rfl, xd, A.c_InvalidOrder, .ty "ValueError", .type "ValueError", true, rfl, T.e_InvalidOrder, rfl, (fun u r => r), tabC_ve T.tb (by simp), true, rfl, iteF ?_⟩
        refine ⟨_, rfl, xd, A.c_InvalidOrder, .ref A.c_InvalidNumber, .ref A.c_InvalidNumber, false, rfl, T.e_InvalidOrder, rfl, (fun u r => r), ((is (by simp) (by simp)).trans (congrArg some (decide_eq_false (Ne.symm n03)))), false, rfl, iteF ?_⟩
        refine ⟨_, rfl, xd, A.c_InvalidOrder, .ref A.c_InvalidTies, .ref A.c_InvalidTies, false, rfl, T.e_InvalidOrder, rfl, (fun u r => r), ((is (by simp) (by simp)).trans (congrArg some (decide_eq_false (Ne.symm n13)))), ?_⟩
        refine ⟨_, rfl, xd, A.c_InvalidOrder, .ref A.c_InvalidStanding, .ref A.c_InvalidStanding, false, rfl, T.e_InvalidOrder, rfl, (fun u r => r), ((is (by simp) (by simp)).trans (congrArg some (decide_eq_false (Ne.symm n23)))), ?_⟩
        dsimp only [tNil]
        refine ⟨three_fits _ _ _, fun p np => ?_⟩
        have e1 : Ex H' (upd H' p (.lst [.bl false, .bl false, .bl true])) := Ex.new np
        have hp1 : upd H' p (.lst [.bl false, .bl false, .bl true]) p = some (.lst [.bl false, .bl false, .bl true]) := upd_same
        generalize upd H' p (.lst [.bl false, .bl false, .bl true]) = H2 at e1 hp1
        dsimp only [gName]
        -- names[kinds.index(True)]
        refine ⟨three_fits _ _ _, fun pn npn => ?_⟩
        have e2 : Ex H2 (upd H2 pn (.lst [.str "ties", .str "standing", .str "order"])) := Ex.new npn
        have hpn : upd H2 pn (.lst [.str "ties", .str "standing", .str "order"]) pn = some (.lst [.str "ties", .str "standing", .str "order"]) := upd_same
        generalize upd H2 pn (.lst [.str "ties", .str "standing", .str "order"]) = H3 at e2 hpn
        refine ⟨_, rfl, .inl ⟨rfl, _, .inl (.inl (e2 _ _ hp1))⟩, p, _, .bl true, 2, .bl true, rfl, rfl, .inl (.inl (e2 _ _ hp1)), rfl, rfl, rfl, rfl, ?_, ?_⟩
        · intro m z' hm hz
          match m, hm with
          | 0, _ => cases hz; rfl
          | 1, _ => cases hz; rfl
        refine ⟨pn, _, 2, .str "order", rfl, rfl, .inl (.inl hpn), rfl, ?_⟩
        have eall : Ex H' H3 := e1.trans e2
        refine ⟨_, rfl, rfl, A.c_InvalidOrder, dd, _, v, rfl, T.y_InvalidOrder, T.n_InvalidOrder, rfl, eall _ _ hdd, rfl, ?_⟩
        dsimp only [tNil]
        refine ⟨two_fits _ _, fun p6 np6 => ?_⟩
        have e6 : Ex H3 (upd H3 p6 (.lst [.str "order", v])) := Ex.new np6
        exact ⟨_, _, rfl, shv_pair (.inl (.inl upd_same)) (by decide +kernel) (hv.on (eall.trans e6)), hq _ (eall.trans e6)⟩
      · refine ⟨_, exm3 ((ex (by simp) (by simp)).trans (congrArg some (decide_eq_false (Ne.symm n04)))) ((ex (by simp) (by simp)).trans (congrArg some (decide_eq_false (Ne.symm n34)))) ((ex (by simp) (by simp)).trans (congrArg some (decide_eq_false (Ne.symm n24)))), (fun z => by cases z), fun _ => ⟨_, exm3 ((ex (by simp) (by simp)).trans (congrArg some (decide_eq_false (Ne.symm n14)))) ((ex (by simp) (by simp)).trans (congrArg some (decide_eq_false n45))) ((ex (by simp) (by simp)).trans (congrArg some (decide_eq_true rfl))), fun _ a na => ?_, fun z => by cases z⟩⟩
        refine ⟨_, rfl, ?_⟩
        refine ⟨_, rfl, false, rfl, iteF ?_⟩
        refine ⟨_, rfl, xd, A.c_UnknownCall, .ref A.c_NothingToUndo, .ref A.c_NothingToUndo, false, rfl, T.e_UnknownCall, rfl, (fun u r => r), ((is (by simp) (by simp)).trans (congrArg some (decide_eq_false n45))), false, rfl, iteF ?_⟩
        refine ⟨_, rfl, xd, A.c_UnknownCall, .ref A.c_UnknownCall, .ref A.c_UnknownCall, true, rfl, T.e_UnknownCall, rfl, (fun u r => r), ((is (by simp) (by simp)).trans (congrArg some (decide_eq_true rfl))), true, rfl, iteT ?_⟩
        refine ⟨_, rfl, xd, A.c_UnknownCall, .ty "LookupError", .type "LookupError", true, rfl, T.e_UnknownCall, rfl, (fun u r => r), tabC_le T.tb (by simp), true, rfl, iteT ?_⟩
        refine ⟨_, rfl, rfl, A.c_UnknownCall, dd, _, v, rfl, T.y_UnknownCall, T.n_UnknownCall, rfl, hdd, rfl, ?_⟩
        dsimp only [tNil]
        refine ⟨two_fits _ _, fun p np => ?_⟩
        have e1 : Ex H' (upd H' p (.lst [.str "call", v])) := Ex.new np
        exact ⟨_, _, rfl, shv_pair (.inl (.inl upd_same)) (by decide +kernel) (hv.on e1), hq _ e1⟩
    · have xd : XdAt H' none := fun q e => by cases e
      refine ⟨_, exm3 ((ex (by simp) (by simp)).trans (congrArg some (decide_eq_false (Ne.symm n05)))) ((ex (by simp) (by simp)).trans (congrArg some (decide_eq_false (Ne.symm n35)))) ((ex (by simp) (by simp)).trans (congrArg some (decide_eq_false (Ne.symm n25)))), (fun z => by cases z), fun _ => ⟨_, exm3 ((ex (by simp) (by simp)).trans (congrArg some (decide_eq_false (Ne.symm n15)))) ((ex (by simp) (by simp)).trans (congrArg some (decide_eq_true rfl))) ((ex (by simp) (by simp)).trans (congrArg some (decide_eq_false (Ne.symm n45)))), fun _ a na => ?_, fun z => by cases z⟩⟩
      refine ⟨_, rfl, ?_⟩
      refine ⟨_, rfl, false, rfl, iteF ?_⟩
      refine ⟨_, rfl, xd, A.c_NothingToUndo, .ref A.c_NothingToUndo, .ref A.c_NothingToUndo, true, rfl, T.e_NothingToUndo, rfl, (fun u r => r), ((is (by simp) (by simp)).trans (congrArg some (decide_eq_true rfl))), true, rfl, iteT ?_⟩
      exact hq H' (Ex.refl _)
  · exact ⟨_, rfl, true, rfl, iteT q⟩
end
end K41

namespace K41
open PySem PySem.Spec PyProof.Rows L2 Vf Evl
section
variable {A : Ad}
/-- _law_caught(lambda: ..) -/
theorem pe_caught {X : Cx} {K : PySem.W.Frag} {mg : Str → Option Value} {base : Heap} {A0 : Around} {Tt : List (Addr × Str)} {q : Str} {c P : Addr} {k : Nat} {params : Arguments} {body : Expr} {scope : Scope} {t : XK → TE} {p lpos pos : Pos} (T : Txt K mg A) (hgd : A0.guards = some [])
    (TB : LamX.TabB base mg c P) (hmT : (P, q) ∈ Tt) (hu : ∀ p ∈ Tt, p.1 = P → p.2 = q)
    (hbody : ∀ (A : Around) (outer : List Env) (s : Shared) (H : Hp) (E : XK) (f c' : Addr), Room (k + 4) (A.deeper (LamX.lamEnv X scope s.heap.objs.size f c')) → PE (LamX.lamCx X A outer s H E scope f c') body (t E))
    (hr : Room (k + 6) X.A) (hK : X.K = K := by rfl) (hmg : X.mg = mg := by rfl) (hba : X.base = base := by rfl) (hA : X.A.guards = A0.guards := by rfl) (hcode : X.env.code = .ref c := by rfl) (hq : X.env.qual ++ "<lambda>" = q := by rfl)
    (hg : Gl X "_law_caught" := by rfl) (L : LamX.LamS X.env.scope scope := by exact LamX.lamS_by (by kernel_rfl)) (hdef : defaultsOf params X.env = ([], []) := by rfl)
    (hbind : ∀ (q : Str) (cl : List (Str × Addr)) (pm cv ctv : Value), bindArgs (PySem.W.kla_fn "<lambda>" q params body scope cl pm cv ctv) ⟨[], []⟩ = pure [] := by exact fun _ _ _ _ _ => rfl) :
    PE X (.Call (.Name "_law_caught" p) [.Lambda params body scope lpos] [] pos) (LamX.tLam Tt (TCaught K A) t) := by
  subst hK hmg hba hq
  rw [← hA] at hgd
  obtain ⟨oc, od, kV, doc, pm, an, cdv, ct, osl, efd, lk, hcd⟩ := T.F_l_caught.ex
  have hb := T.b_l_caught
  rw [efd] at lk hb
  exact LamX.pe_lamcall (Ng := ["_law_ask", "_law_error", "e", "_law_kinds"]) hg T.g_l_caught T.F_l_caught.kp lk hcd hb sc_l_caught rfl (.inl rfl) (caught_gives T hgd (hr.mono (by omega))) TB hcode hmT hu hr L hdef hbind hbody
end
end K41

namespace K41
open PySem PySem.Spec PyProof.Rows L2 Vf Evl
section
variable {P : Program} {w : World} {K : PySem.W.Frag} {mg : Str → Option Value} {base : Heap} {A : Ad}
theorem mul_ok {n : Int} (h1 : 3 ≤ n) (h2 : n ≤ 8) : MulOk "1" n := by
  have h : n = 3 ∨ n = 4 ∨ n = 5 ∨ n = 6 ∨ n = 7 ∨ n = 8 := by omega
  rcases h with rfl | rfl | rfl | rfl | rfl | rfl <;> exact ⟨by decide, fun _ _ => by decide, fun _ _ => by decide⟩
/-- a list that is too long or too short -/
theorem lot_len {H : Hp} {tp lp : Addr} {ns : List Int} {n : Int} (ht : H tp = some (.tup [.ref lp, .non])) (hl : H lp = some (.lst (ns.map V.int))) (h1 : (ns.length : Int) ≠ n) (h2 : ns.length ≤ 1000) : Lot K n H tp :=
  ⟨.ref lp, .non, some (ns.map some), ht, ⟨lp, _, rfl, .inl (.inl hl), by rw [List.length_map]; exact h2, paired_ints ns⟩, if_neg (by rw [List.length_map]; exact h1), .inl rfl⟩
def sp_l_bent (K : PySem.W.Frag) : Sp := fun vs H Q _ => ∃ (a : Addr) (ns : List Int), vs = [.ref a] ∧ H a = some (.lst (ns.map V.int)) ∧ 3 ≤ ns.length ∧ ns.length ≤ 8 ∧ (∀ x ∈ ns, 1 ≤ x ∧ x ≤ ns.length) ∧ ns.Nodup ∧
  ∀ p H', H p = none → Ex H H' → LotsAt K ns.length H' p → Q (.ref p) H'
theorem ok_l_bent (T : Txt K mg A) : FnOk P w K mg base CX0 3 A.f_l_bent A.d_l_bent ["_law_row"] (sp_l_bent K) := by
  refine T.F_l_bent.ok sc_l_bent (fun vs H Q E h => ?_) (fun cdv A' outer sh H vs Q E hr h => ?_)
  · obtain ⟨a, ns, rfl, _⟩ := h
    rfl
  · obtain ⟨a, ns, rfl, hA, h3, h8, hb, nd, q⟩ := h
    have hS : SqL K H a (ns.map V.int) := .inl (.inl hA)
    refine ⟨_, (pss_cons (ps_set (i := 1) sc_l_bent.nd rfl (by first | exact .inl rfl | exact .inr rfl) (pe_callB (call_lenK (K := K) rfl) (by rfl) T.z_len PySem.boot_len (pa_cons (pv 0) pa_nil)))
      (pss_cons (ps_setLc (i := 2) (own := [("_law_thing", 4)]) rfl sc_l_bent.nd rfl rfl (sw_true rfl rfl rfl (by decide +kernel)) (pi_listK (K := K) rfl (pe_lst (pa_cons pe_non (pa_cons (pe_tup pa_nil) (pa_cons (pe_callTy call_tuple_of (by rfl) T.z_tuple (by decide +kernel) (pa_cons (pv 0) pa_nil)) (pa_cons pe_dnewK (pa_cons (pe_op op_repS pe_str (pv 1)) (pa_cons pe_int (pa_cons pe_bl (pa_cons (pe_op op_cat (pv 0) (pe_lst (pa_cons (pe_op op_add (pv 1) pe_int) pa_nil))) (pa_cons (pe_slice (sl_listK (K := K) rfl) (pv 0) (po_some pe_int) po_none) pa_nil))))))))))) (blkOk_by (by kernel_rfl)) (fun _ _ _ _ _ => (pg_name (i := 4) sc_l_bent.nd rfl (by first | exact .inl rfl | exact .inr rfl))) (fun _ _ _ _ _ => pts_nil) (fun _ _ _ _ _ => (pe_tup (pa_cons (pv 4) (pa_cons pe_non pa_nil)))))
      (pss_cons (ps_for PassesOwn.never rfl (pi_range1 (by rfl) T.z_range (pa_cons (pv 1) pa_nil)) (pg_name (i := 3) sc_l_bent.nd rfl (by first | exact .inl rfl | exact .inr rfl)) (pss_cons (ps_for PassesOwn.never rfl (pi_listK (K := K) rfl (pe_lst (pa_cons pe_non (pa_cons pe_bl (pa_cons pe_int (pa_cons (pe_op op_add (pv 1) pe_int) (pa_cons pe_str (pa_cons (pe_lst (pa_cons pe_int pa_nil)) pa_nil)))))))) (pg_name (i := 4) sc_l_bent.nd rfl (by first | exact .inl rfl | exact .inr rfl)) (pss_one (ps_expr (pe_bmK (K := K) rfl PySem.F.plainAttrs_list PySem.F.slot_list_append PySem.F.type_list_append mt_append (pv 2) (pa_cons (pe_tup (pa_cons (pe_op op_cat (pe_op op_cat (pe_slice (sl_listK (K := K) rfl) (pv 0) po_none (po_some (pv 3))) (pe_lst (pa_cons (pv 4) pa_nil))) (pe_op op_rep (pe_lst (pa_cons pe_non pa_nil)) (pe_op op_sub (pe_op op_sub (pv 1) pe_int) (pv 3)))) (pa_cons (pv 3) pa_nil))) pa_nil)))))
      (pss_one (ps_if (pt_cmpR op_gt (pv 3) pe_int (nomark _)) (pss_one (ps_expr (pe_bmK (K := K) rfl PySem.F.plainAttrs_list PySem.F.slot_list_append PySem.F.type_list_append mt_append (pv 2) (pa_cons (pe_tup (pa_cons (pe_op op_cat (pe_op op_cat (pe_slice (sl_listK (K := K) rfl) (pv 0) po_none (po_some (pv 3))) (pe_lst (pa_cons (pe_ix (ix_listK (K := K) rfl) (pv 0) pe_int (fun _ _ => rfl)) pa_nil))) (pe_op op_rep (pe_lst (pa_cons pe_non pa_nil)) (pe_op op_sub (pe_op op_sub (pv 1) pe_int) (pv 3)))) (pa_cons (pv 3) pa_nil))) pa_nil)))) pss_nil))))
      (pss_one (ps_ret (pv 2)))))), ?_⟩
    refine q_asg (ev_lenS (ev_var rfl) hS) fun H1 e1 => ?_
    have hmany : ((ns.map V.int).length : Int) = (ns.length : Int) := by rw [List.length_map]
    rw [hmany]
    -- the things
    refine ⟨few_le (by decide : 0 < 10), fun t0 nt0 => ?_⟩
    have e2 : Ex H1 (upd H1 t0 (.tup [])) := Ex.new nt0
    have h0 : upd H1 t0 (.tup []) t0 = some (.tup []) := upd_same
    generalize upd H1 t0 (.tup []) = H2 at e2 h0
    refine ⟨_, rfl, a, ns.map V.int, rfl, .inl ⟨ex_l (e1.trans e2) hS, fun t1 nt1 => ?_⟩⟩
    have e3 : Ex H2 (upd H2 t1 (.tup (ns.map V.int))) := Ex.new nt1
    have h1 : upd H2 t1 (.tup (ns.map V.int)) t1 = some (.tup (ns.map V.int)) := upd_same
    generalize upd H2 t1 (.tup (ns.map V.int)) = H3 at e3 h1
    refine fun d nd0 => ?_
    have e4 : Ex H3 (upd H3 d (.dK [])) := Ex.new nd0
    have hd : upd H3 d (.dK []) d = some (.dK []) := upd_same
    generalize upd H3 d (.dK []) = H4 at e4 hd
    refine ⟨_, rfl, "1", (ns.length : Int), rfl, rfl, mul_ok (by omega) (by omega), ?_⟩
    generalize Txt.mul "1" (ns.length : Int) = ones
    refine ⟨_, rfl, _, rfl, _, _, rfl, rfl, few_le (by decide : 1 < 10), fun x1 nx1 => ?_⟩
    have e5 : Ex H4 (upd H4 x1 (.lst [.int ((ns.length : Int) + 1)])) := Ex.new nx1
    have hx1 : upd H4 x1 (.lst [.int ((ns.length : Int) + 1)]) x1 = some (.lst [.int ((ns.length : Int) + 1)]) := upd_same
    generalize upd H4 x1 (.lst [.int ((ns.length : Int) + 1)]) = H5 at e5 hx1
    have e15' : Ex H H5 := e1.trans (e2.trans (e3.trans (e4.trans e5)))
    refine ⟨a, x1, _, _, rfl, rfl, e15' _ _ hA, hx1, by rw [List.length_map, sizeLine_eq]; show ns.length + 1 ≤ _; omega, fun c1 nc1 => ?_⟩
    have e6 : Ex H5 (upd H5 c1 (.lst (ns.map V.int ++ [.int ((ns.length : Int) + 1)]))) := Ex.new nc1
    have hc1 : upd H5 c1 (.lst (ns.map V.int ++ [.int ((ns.length : Int) + 1)])) c1 = some (.lst ((ns ++ [(ns.length : Int) + 1]).map V.int)) := by rw [upd_same, List.map_append]; rfl
    generalize upd H5 c1 (.lst (ns.map V.int ++ [.int ((ns.length : Int) + 1)])) = H6 at e6 hc1
    have zs := el_sl (K := K) (σ := (L2.start ["_law_row", "_law_many", "_law_lots", "_law_at", "_law_thing"] [V.ref a]).set 1 (some (V.int (ns.length : Int)))) (H := H6) (ev_var (i := 0) rfl) (eo_some (ev_c (v := V.int ((1 : Nat) : Int)))) eo_none (ex_l (e15'.trans e6) hS)
    rw [cut_from _ _ (by rw [List.length_map]; omega), ← List.map_drop] at zs
    refine zs H6 (Ex.refl H6) _ fun c2 H7 nc2 e7 hc2 => ⟨few_le (by decide : 9 < 10), fun pl npl => ?_⟩
    clear zs
    have e8 : Ex H7 (upd H7 pl (.lst [.non, .ref t0, .ref t1, .ref d, .str ones, .int 5, .bl true, .ref c1, .ref c2])) := Ex.new npl
    have hpl : upd H7 pl (.lst [.non, .ref t0, .ref t1, .ref d, .str ones, .int 5, .bl true, .ref c1, .ref c2]) pl = some (.lst [.non, .ref t0, .ref t1, .ref d, .str ones, .int 5, .bl true, .ref c1, .ref c2]) := upd_same
    generalize hxs : ([.non, .ref t0, .ref t1, .ref d, .str ones, .int 5, .bl true, .ref c1, .ref c2] : List V) = xs at e8 hpl
    have lxs : xs.length = 9 := by rw [← hxs]; rfl
    generalize upd H7 pl (.lst xs) = H8 at e8 hpl
    have e48 : Ex H4 H8 := e5.trans (e6.trans (e7.trans e8))
    have h05 := (e3.trans (e4.trans e48)) _ _ h0
    have h15 := (e4.trans e48) _ _ h1
    have hd5 := e48 _ _ hd
    have e18 : Ex H H8 := e15'.trans (e6.trans (e7.trans e8))
    have things : ∀ x ∈ xs, ∃ t, KdL K H8 x t ∧ seE ns.length t = some .non := fun x hx => by
      rw [← hxs] at hx
      simp only [List.mem_cons, List.not_mem_nil, or_false] at hx
      rcases hx with rfl | rfl | rfl | rfl | rfl | rfl | rfl | rfl | rfl
      · exact ⟨none, ⟨"NoneType", .inr rfl, by decide, .base .non⟩, rfl⟩
      · exact ⟨none, ⟨"tuple", .inr rfl, by decide, .base (.tup h05)⟩, rfl⟩
      · exact ⟨none, ⟨"tuple", .inr rfl, by decide, .base (.tup h15)⟩, rfl⟩
      · exact ⟨none, ⟨"dict", .inr rfl, by decide, .base (.dK hd5)⟩, rfl⟩
      · exact ⟨none, ⟨"str", .inr rfl, by decide, .base (.str _)⟩, rfl⟩
      · exact ⟨none, ⟨"int", .inl rfl, by decide, .base (.int _)⟩, rfl⟩
      · exact ⟨none, ⟨"bool", .inr rfl, by decide, .base (.bl _)⟩, rfl⟩
      · refine ⟨some ((ns ++ [(ns.length : Int) + 1]).map some), ⟨c1, _, rfl, .inl (.inl ((e7.trans e8) _ _ hc1)), ?_, paired_ints _⟩, if_neg ?_⟩
        · rw [List.length_map, List.length_append]
          show ns.length + 1 ≤ 1000
          omega
        · rw [List.length_map, List.length_append]
          show ¬ ((ns.length + 1 : Nat) : Int) = _
          omega
      · refine ⟨some ((ns.drop 1).map some), ⟨c2, _, rfl, .inl (.inl (e8 _ _ hc2)), ?_, paired_ints _⟩, if_neg ?_⟩
        · rw [List.length_map, List.length_drop]
          omega
        · rw [List.length_map, List.length_drop]
          omega
    refine ⟨pl, rfl, ⟨_, .inl (.inl hpl)⟩, fun Dl hD => ?_⟩
    have nDl : H Dl = none := fresh_back e18 hD
    refine lc_list (xs := xs) (fun i H' => Ex H8 H' ∧ LotsB K ns.length H' Dl i) ⟨Ex.new hD, [], upd_same, Nat.zero_le _, fun b hb => by cases hb⟩ (fun i H' _ z => .inl (.inl (z.1 _ _ hpl))) (fun i x H' hx z => ⟨by rfl, ?_⟩) fun H' z => ?_
    · obtain ⟨z1, ps, z2, z3, z4⟩ := z
      have hi : i < 9 := by rw [← lxs]; exact (List.getElem?_eq_some_iff.mp hx).1
      obtain ⟨t, y1, y2⟩ := things x (List.mem_of_getElem? hx)
      refine ⟨_, rfl, two_fits _ _, fun tp ntp => ?_⟩
      have e6 : Ex H' (upd H' tp (.tup [x, .non])) := Ex.new ntp
      have neD : tp ≠ Dl := fun y => by rw [y, z2] at ntp; cases ntp
      refine ⟨ps.map V.ref, e6 _ _ z2, by rw [List.length_map]; exact few_lt (by omega), Ex.mut (z1.trans e6) hD, LotsB.app z2 z3 z4 e6 ⟨x, .non, t, by rw [del_ne neD]; exact upd_same, y1.on (ex_to_del (z1.trans e6) hD), y2, .inl rfl⟩⟩
    · dsimp only [gName]
      obtain ⟨z1, z2⟩ := z
      rw [lxs] at z2
      clear hxs lxs things h05 h15 hd5
      have ns0 : (0 : Nat) < ns.length := by omega
      refine q_forR1 (ea_cons (ev_var rfl) ea_nil) (by omega) (fun i σ' H2 => (∃ y3 y4, σ' = [some (.ref a), some (.int (ns.length : Int)), some (.ref Dl), y3, y4]) ∧ Ex H H2 ∧ LotsB K ns.length H2 Dl (9 + 7 * i)) (fun H2 e => ?_) (fun i σ' H2 hi P => ?_) fun σ' H2 P => ?_
      · refine ⟨⟨_, _, rfl⟩, (e18.trans z1).trans e, ?_⟩
        obtain ⟨ps, y1, y2, y3⟩ := z2
        exact ⟨ps, e _ _ y1, y2, fun b hb => (y3 b hb).on (ex_del e)⟩
      · obtain ⟨⟨y3, y4, rfl⟩, eP, LP⟩ := P
        have hi' : i < ns.length := by omega
        -- the things
        have hS2 := ex_l eP hS
        refine ⟨_, rfl, _, _, rfl, rfl, few_le (by decide : 1 < 10), fun l1 nl1 => ?_⟩
        have e3 : Ex H2 (upd H2 l1 (.lst [.int 1])) := Ex.new nl1
        have hl1 : upd H2 l1 (.lst [.int 1]) l1 = some (.lst [.int 1]) := upd_same
        generalize upd H2 l1 (.lst [.int 1]) = H3 at e3 hl1
        refine ⟨few_le (by decide : 6 < 10), fun pl npl => ?_⟩
        have e5 : Ex H3 (upd H3 pl (.lst [.non, .bl true, .int 0, .int ((ns.length : Int) + 1), .str "1", .ref l1])) := Ex.new npl
        have hpl : upd H3 pl (.lst [.non, .bl true, .int 0, .int ((ns.length : Int) + 1), .str "1", .ref l1]) pl = some (.lst [.non, .bl true, .int 0, .int ((ns.length : Int) + 1), .str "1", .ref l1]) := upd_same
        generalize hxs : ([.non, .bl true, .int 0, .int ((ns.length : Int) + 1), .str "1", .ref l1] : List V) = xs at e5 hpl
        have lxs : xs.length = 6 := by rw [← hxs]; rfl
        generalize upd H3 pl (.lst xs) = H5' at e5 hpl
        have hl5 := e5 _ _ hl1
        have e25 : Ex H2 H5' := e3.trans e5
        obtain ⟨ps, p1, p2, p3⟩ := LP
        have nel : l1 ≠ Dl := fun y => by rw [y, p1] at nl1; cases nl1
        have nep : pl ≠ Dl := fun y => by rw [y, e3 _ _ p1] at npl; cases npl
        have kinds : ∀ x ∈ xs, ∃ o, Kd K (del H5' Dl) x o ∧ badO ns.length (ns.take i) o := fun x hx => by
          rw [← hxs] at hx
          simp only [List.mem_cons, List.not_mem_nil, or_false] at hx
          rcases hx with rfl | rfl | rfl | rfl | rfl | rfl
          · exact ⟨none, ⟨"NoneType", rfl, .base .non⟩, trivial⟩
          · exact ⟨none, ⟨"bool", rfl, .base (.bl _)⟩, trivial⟩
          · exact ⟨some 0, rfl, .inl (by omega)⟩
          · exact ⟨some ((ns.length : Int) + 1), rfl, .inl (by omega)⟩
          · exact ⟨none, ⟨"str", rfl, .base (.str _)⟩, trivial⟩
          · exact ⟨none, ⟨"list", rfl, .base (.lst (by rw [del_ne nel]; exact hl5))⟩, trivial⟩
        have eH5 : Ex H (del H5' Dl) := ex_to_del (eP.trans e25) nDl
        refine ⟨pl, rfl, ⟨_, .inl (.inl hpl)⟩, for_list (xs := xs) (fun k σ' H6 => (∃ y4, σ' = [some (.ref a), some (.int (ns.length : Int)), some (.ref Dl), some (.int (i : Int)), y4]) ∧ Ex (del H5' Dl) (del H6 Dl) ∧ LotsB K ns.length H6 Dl (9 + 7 * i + k)) ⟨⟨_, rfl⟩, Ex.refl _, ps, e25 _ _ p1, p2, fun b hb => (p3 b hb).on (ex_del e25)⟩
          (fun k σ' H6 _ P => .inl (.inl (del_ex _ _ (P.2.1 _ _ (by rw [del_ne nep]; exact hpl))))) (fun k x σ' H6 hx P => ?_) fun σ' H6 P => ?_⟩
        · obtain ⟨⟨y5, rfl⟩, f1, f2⟩ := P
          obtain ⟨o, k1, k2⟩ := kinds x (List.mem_of_getElem? hx)
          have hk : k < 6 := by rw [← lxs]; exact (List.getElem?_eq_some_iff.mp hx).1
          refine s_lot (tx := tVar 4) h3 h8 hb nd hi' rfl rfl rfl rfl (ex_l ((eH5.trans f1).trans del_ex) hS) (ev_var rfl) (k1.on f1) k2 f2 (by omega) fun H7 g1 g2 => ?_
          exact ⟨⟨_, rfl⟩, f1.trans g1, g2⟩
        · obtain ⟨⟨y5, rfl⟩, f1, f2⟩ := P
          rw [lxs] at f2
          have hS6 : SqL K H6 a (ns.map V.int) := ex_l ((eH5.trans f1).trans del_ex) hS
          refine s_when (b := decide ((0 : Int) < (i : Int))) (et_test (ev_op (ev_var rfl) ev_c (rv_I0 (g := fun i j => V.bl (decide (j < i)))))) (fun hb1 H7 e7 => ?_) (fun _ H7 e7 => ⟨⟨_, _, rfl⟩, ((eH5.trans f1).trans del_ex).trans e7, ?_⟩)
          · have i0 : 0 < i := by have := of_decide_eq_true hb1; omega
            have x0 : ns[0]? = some ns[0] := List.getElem?_eq_getElem ns0
            have hx0 : (ns.map V.int)[0]? = some (V.int ns[0]) := by rw [List.getElem?_map, x0]; rfl
            have m0 : ns[0] ∈ ns.take i := by
              have z : (ns.take i)[0]? = some ns[0] := by rw [List.getElem?_take_of_lt i0, x0]
              exact List.mem_of_getElem? z
            refine s_lot (tx := tOp (rIxL K) (tVar 0) (tC (V.int 0))) (o := some ns[0]) h3 h8 hb nd hi' rfl rfl rfl rfl (ex_l e7 hS6) (ev_op (ev_var rfl) ev_c (rv_ixL (ex_l e7 hS6) (atI_nat hx0))) rfl (.inr m0) (m := 9 + 7 * i + 6) ?_ (by omega) fun H8 g1 g2 => ⟨⟨_, _, rfl⟩, ?_, ?_⟩
            · obtain ⟨ps2, y1, y2, y3⟩ := f2
              exact ⟨ps2, e7 _ _ y1, y2, fun b hb => (y3 b hb).on (ex_del e7)⟩
            · exact ((eH5.trans f1).trans (ex_del e7)).trans (g1.trans del_ex)
            · exact g2
          · obtain ⟨ps2, y1, y2, y3⟩ := f2
            exact ⟨ps2, e7 _ _ y1, by omega, fun b hb => (y3 b hb).on (ex_del e7)⟩
      · obtain ⟨⟨y3, y4, rfl⟩, eP, ps, p1, p2, p3⟩ := P
        exact ⟨_, rfl, q Dl H2 nDl eP ⟨ps, p1, by omega, fun b hb => (p3 b hb).on del_ex⟩⟩
end
end K41

namespace K41
open PySem PySem.Spec PyProof.Rows L2 Vf Evl
section
variable {P : Program} {w : World} {K : PySem.W.Frag} {mg : Str → Option Value} {base : Heap} {A : Ad}
theorem raise_end {Q : VK} {C : Addr} {fld nm : Str} {v : V} {x : PyData} {H : Hp} (mem : (C, fld, nm) ∈ errT A) (hv : DvV K H v x) (q : ∀ H', Ex H H' → Q (tellE nm x) H') : RaiseV C fld v H (ErrEnd K A Q) :=
  fun H' d e _ hd => .inl ⟨C, d, fld, nm, v, x, mem, rfl, rfl, hd, hv.on e, fun H'' e' => q H'' (e.trans e')⟩
theorem NetR.mono {u v : V} {H : Hp} {E : XK} {a b : Int → Prop} (h : NetR K A u v H E a) (f : ∀ n, a n → b n) : NetR K A u v H E b := by
  obtain ⟨o, k, r⟩ := h
  refine ⟨o, k, r.imp id fun ⟨n, h1, h2, t, h3, r⟩ => ⟨n, h1, h2, t, h3, r.imp id fun ⟨h4, h5⟩ => ⟨h4, f n h5⟩⟩⟩
theorem tabs_upd {Tt : List (Addr × Str)} {H : Hp} {D : Addr} {ys : List V} (h : LamX.Tabs Tt H) (hd : H D = none ∨ ∃ xs, H D = some (.lst xs)) : LamX.Tabs Tt (upd H D (.lst ys)) := fun p hp => by
  obtain ⟨ps, h1, h2, h3⟩ := h p hp
  have ne : ∀ {b : Addr} {o : HO}, H b = some o → (∀ xs, o ≠ .lst xs) → b ≠ D := fun {b o} e n z => by
    rw [z] at e
    rcases hd with q | ⟨xs, q⟩
    · rw [q] at e; cases e
    · rw [q] at e
      exact n xs (Option.some.inj e).symm
  refine ⟨ps, by rw [upd_ne (ne h1 fun _ z => nomatch z)]; exact h1, h2, fun pos cv hc => ?_⟩
  obtain ⟨c, e1, e2⟩ := h3 pos cv hc
  exact ⟨c, e1, by rw [upd_ne (ne e2 fun xs z => by unfold LamX.CodeO at z; cases z)]; exact e2⟩
theorem extN_upd {H H' : Hp} {D : Addr} {o : HO} (e : LamX.ExtN H H') (n : H D = none) : LamX.ExtN H (upd H' D o) := fun b u hb nt => by
  rw [upd_ne (ne_of_none hb n)]
  exact e b u hb nt
/-- the lambda raises what is told as tell -/
def Tells (K : PySem.W.Frag) (A : Ad) (t : XK → TE) (σ : L2.St) (H : Hp) (tell : V) : Prop := ∀ H1, LamX.ExtN H H1 → LamX.Tabs (tabs A) H1 → ∀ Q : VK, (∀ H', Ex H1 H' → Q tell H') → t (ErrEnd K A Q) σ H1 (fun _ H' => Q (.str "told") H')
theorem told_due {t : XK → TE} {σ : L2.St} {H : Hp} {Q : VK} {tell : V} (hT : LamX.Tabs (tabs A) H) (h : Tells K A t σ H tell) (q : ∀ H', LamX.ExtN H H' → LamX.Tabs (tabs A) H' → Q tell H') : LamX.tLam (tabs A) (TCaught K A) t σ H Q :=
  ⟨hT, fun H1 e1 hT1 => h H1 e1 hT1 Q fun H' e' => q H' (e1.trans (LamX.ExtN.of e')) (hT1.ext e')⟩
end
section
variable {K : PySem.W.Frag} {A : Ad} {σ : L2.St} {H H' : Hp} {te : TE} {v : V} {d : PyData}
/-- repr([nm, e]) -/
theorem ev_tell {nm : Str} {v : V} {d : PyData} (hv : Ev te σ H v) (hn : (reprText nm).length ≤ 1000) (dv : DvV K H v d) : Ev (tCB (rReprX K) (tCons (tLst (tCons (tC (.str nm)) (tCons te tNil))) tNil)) σ H (tellE nm d) := fun H1 e Q q =>
  hv H1 e _ fun H2 e2 => ⟨two_fits _ _, fun p np => ⟨.ref p, .list [.str nm, d], rfl, shv_pair (.inl (.inl upd_same)) hn ((dv.on (e.trans e2)).on (Ex.new np)), q _ (e2.trans (Ex.new np))⟩⟩
theorem IxV.dv (h : IxV v) : ∃ d, DvV K H v d := by
  rcases h with rfl | ⟨i, hi, rfl⟩
  · exact ⟨.none, .inl ⟨.non, by decide, rfl, rfl, by decide⟩⟩
  · have z := Dn.int (i := (i : Int)) (by omega) (by omega)
    exact ⟨.int i, .inl ⟨.int _, Nat.le_trans z.len_ (by decide), z.show_, z.dict_, Nat.le_trans z.dep_ (by decide)⟩⟩
theorem sz_ok {n : Nat} (h : n ≤ 40000) : n ≤ sizeLine := by
  rw [sizeLine_eq]
  omega
theorem _root_.Vf.DvV.of {l p : Nat} (h : Dp K H v d) (D : Dn d l p) (hl : l ≤ 1000) (hp : p ≤ 10) : DvV K H v d := .inl ⟨h, Nat.le_trans D.len_ hl, D.show_, D.dict_, Nat.le_trans D.dep_ hp⟩
/-- a figure that is refused -/
def Fig (K : PySem.W.Frag) (H : Hp) (bad : V) : Prop := ∃ o d, Kd K H bad o ∧ okC o = false ∧ DvV K H bad d
theorem Fig.onN {bad : V} (e : LamX.ExtN H H') (h : Fig K H bad) : Fig K H' bad := by
  obtain ⟨o, d, h1, h2, h3⟩ := h
  exact ⟨o, d, h1.onN e, h2, h3.onN e⟩
/-- what it raises -/
theorem count_figure {bad : V} {Q : VK} {next : Int → Prop} {o : Option Int} (k : Kd K H bad o) (ok : okC o = false) (dv : DvV K H bad d) (q : ∀ H', Ex H H' → Q (tellE "figure" d) H') : CountR K A bad H (ErrEnd K A Q) next :=
  ⟨o, k, .inl ⟨ok, raise_end (by simp [errT]) dv q⟩⟩
/-- short data -/
theorem dn_neg : Dn (.int (-1)) 10 0 := ⟨by decide +kernel, by decide +kernel, rfl, rfl, by decide⟩
theorem dn_none : Dn .none 10 0 := ⟨by decide +kernel, rfl, rfl, rfl, by decide⟩
theorem dn_str {x : Str} (h : (reprText x).length ≤ 20) (k : PyData.canLay0 (.str x) = true) : Dn (.str x) 20 0 := ⟨h, rfl, rfl, k, Nat.zero_le _⟩
abbrev tk (t : Int × Int) : Option (List (Option Int)) := some [some t.1, some t.2]
theorem ft_pre {n : Int} : ∀ (pre : List (Int × Int)) (seen : List (List Int)) (rest : List (Option (List (Option Int)))) (i : Nat), (∀ t ∈ pre, (1 ≤ t.1 ∧ t.1 ≤ n) ∧ (1 ≤ t.2 ∧ t.2 ≤ n) ∧ t.1 ≠ t.2) → (pre.map nrm).Nodup → (∀ t ∈ pre, key2 t ∉ seen) → ft n (pre.map tk ++ rest) seen i = ft n rest ((pre.map key2).reverse ++ seen) (i + pre.length)
  | [], _, _, _, _, _, _ => rfl
  | t :: r, seen, rest, i, hb, nd, hs => by
    have e : okT n (tk t) = some (t.1, t.2) := if_pos (hb t List.mem_cons_self)
    show (match okT n (tk t) with | none => some i | some p => if key2 p ∈ seen then some i else ft n (r.map tk ++ rest) (key2 p :: seen) (i + 1)) = _
    rw [e]
    show (if key2 t ∈ seen then some i else ft n (r.map tk ++ rest) (key2 t :: seen) (i + 1)) = _
    have nd2 := List.nodup_cons.mp nd
    rw [if_neg (hs t List.mem_cons_self), ft_pre r _ rest _ (fun y hy => hb y (List.mem_cons_of_mem _ hy)) nd2.2 fun y hy z => ?_]
    · rw [List.map_cons, List.reverse_cons, List.append_assoc, List.length_cons]
      rw [show i + 1 + r.length = i + (r.length + 1) by omega]
      rfl
    · rcases List.mem_cons.mp z with z | z
      · exact nd2.1 (List.mem_map.mpr ⟨y, hy, Q.key2_inj z⟩)
      · exact hs y (List.mem_cons_of_mem _ hy) z
/-- what may not stand behind pre -/
def badT (n : Int) (pre : List (Int × Int)) (t : Option (List (Option Int))) : Prop := okT n t = none ∨ ∃ p, okT n t = some p ∧ ∃ s ∈ pre, key2 p = key2 s
theorem ft_bad {n : Int} {pre : List (Int × Int)} {t : Option (List (Option Int))} {rest : List (Option (List (Option Int)))} (hb : ∀ t ∈ pre, (1 ≤ t.1 ∧ t.1 ≤ n) ∧ (1 ≤ t.2 ∧ t.2 ≤ n) ∧ t.1 ≠ t.2) (nd : (pre.map nrm).Nodup) (h : badT n pre t) : ft n (pre.map tk ++ t :: rest) [] 0 = some pre.length := by
  rw [ft_pre pre [] (t :: rest) 0 hb nd (fun _ _ z => by cases z), List.append_nil, Nat.zero_add]
  rcases h with h | ⟨p, h, s, hs, e⟩
  · show (match okT n t with | none => some _ | some p => _) = _
    rw [h]
  · show (match okT n t with | none => some _ | some p => if key2 p ∈ (pre.map key2).reverse then some pre.length else _) = _
    rw [h]
    show (if key2 p ∈ (pre.map key2).reverse then some pre.length else _) = _
    rw [if_pos (List.mem_reverse.mpr (List.mem_map.mpr ⟨s, hs, e.symm⟩))]
theorem TiesAt.onN {a : Addr} {ts : List (Int × Int)} (e : LamX.ExtN H H') (h : TiesAt K H a ts) : TiesAt K H' a ts := by
  obtain ⟨as, h1, h2, h3⟩ := h
  exact ⟨as, exN_l e h1, h2, fun i b t x y => exN_l e (h3 i b t x y)⟩
theorem kdl_tie {b : Addr} {t : Int × Int} (h : SqL K H b [.int t.1, .int t.2]) : KdL K H (.ref b) (tk t) := ⟨b, _, rfl, h, by show 2 ≤ 1000; decide, .cons (b := some t.1) rfl (.cons (b := some t.2) rfl .nil)⟩
theorem paired_ties {as : List Addr} {ts : List (Int × Int)} (h2 : as.length = ts.length) (h3 : ∀ (i : Nat) (b : Addr) (t : Int × Int), as[i]? = some b → ts[i]? = some t → SqL K H b [.int t.1, .int t.2]) : Paired (KdL K H) (as.map V.ref) (ts.map tk) :=
  Q.paired_get (by rw [List.length_map, List.length_map, h2]) fun i x y hx hy => by
    obtain ⟨b, hb, rfl⟩ := map_at hx
    rw [List.getElem?_map] at hy
    cases et : ts[i]? with
    | none => rw [et] at hy; cases hy
    | some t =>
      rw [et] at hy
      cases hy
      exact kdl_tie (h3 i b t hb et)
/-- a net that is let -/
theorem net_right {a : Addr} {ts : List (Int × Int)} {n : Int} {E : XK} {next : Int → Prop} (h : TiesAt K H a ts) (N : NetOk n ts) (q : next n) : NetR K A (.int n) (.ref a) H E next := by
  obtain ⟨as, h1, h2, h3⟩ := h
  refine ⟨some n, rfl, .inr ⟨n, rfl, decide_eq_true ⟨N.lo, N.hi⟩, some (ts.map tk), ⟨a, _, rfl, h1, by rw [List.length_map, h2]; exact N.few, paired_ties h2 h3⟩, .inr ⟨?_, q⟩⟩⟩
  show (ft n _ [] 0).map _ = none
  rw [Q.ft_none ts [] 0 N.ok N.nd fun _ _ z => by cases z]
  rfl
/-- a standing or an order that is let -/
theorem len_right {C a : Addr} {n : Nat} {ns : List Int} {E : XK} {next : Prop} (h : SqL K H a (ns.map V.int)) (S : MR.Stn n ns) (hn : n ≤ 1000) (q : next) : LenR K C seE (.ref a) n H E next :=
  ⟨some (ns.map some), Q.kdl_ints h (by rw [S.len]; exact hn), .inr ⟨Q.se_none S, q⟩⟩
abbrev dTie (t : Int × Int) : PyData := .list [.int t.1, .int t.2]
theorem dp_ties : ∀ {as : List Addr} {ts : List (Int × Int)}, as.length = ts.length → (∀ (i : Nat) (b : Addr) (t : Int × Int), as[i]? = some b → ts[i]? = some t → SqL K H b [.int t.1, .int t.2]) → DpAll K H (as.map V.ref) (ts.map dTie)
  | [], [], _, _ => .nil
  | b :: as, t :: ts, h2, h3 => .cons (.lst (h3 0 b t rfl rfl) (.cons (.int _) (.cons (.int _) .nil))) (dp_ties (Nat.succ.inj h2) fun i c u x y => h3 (i + 1) c u (by rw [List.getElem?_cons_succ]; exact x) (by rw [List.getElem?_cons_succ]; exact y))
theorem dn_tie {t : Int × Int} (h1 : 0 ≤ t.1 ∧ t.1 < 10 ^ 10) (h2 : 0 ≤ t.2 ∧ t.2 < 10 ^ 10) : Dn (dTie t) 26 1 := by
  have z := dn_ints (ns := [t.1, t.2]) fun x hx => by
    simp only [List.mem_cons, List.not_mem_nil, or_false] at hx
    rcases hx with rfl | rfl
    · exact h1
    · exact h2
  exact z
theorem NetOk.dn {n : Int} {ts : List (Int × Int)} (N : NetOk n ts) : ∀ d ∈ ts.map dTie, Dn d 26 1 := fun d hd => by
  obtain ⟨t, ht, rfl⟩ := List.mem_map.mp hd
  have z := N.ok t ht
  have hi := N.hi
  exact dn_tie ⟨by omega, by omega⟩ ⟨by omega, by omega⟩
theorem Lot.onN {n : Int} {b : Addr} (h : Lot K n H b) (e : LamX.ExtN H H') : Lot K n H' b := by
  obtain ⟨bad, v, t, h1, h2, h3, h4⟩ := h
  exact ⟨bad, v, t, e _ _ h1 (fun _ z => nomatch z), h2.onN e, h3, h4⟩
end
end K41

namespace K41
open PySem PySem.Spec PyProof.Rows L2 Vf Evl
section
variable {P : Program} {w : World} {K : PySem.W.Frag} {mg : Str → Option Value} {base : Heap} {A : Ad}
theorem ex_made {H : Hp} {x dx : Addr} {o1 o2 : HO} (nx : H x = none) (ndx : H dx = none) (ne : dx ≠ x) : Ex H (upd (upd H dx o1) x o2) := (Ex.new ndx).trans (Ex.new (by rw [upd_ne ne.symm]; exact nx))
theorem ex_init {H H' : Hp} {x dx : Addr} {o1 o2 : HO} (nx : H x = none) (ndx : H dx = none) (ne : dx ≠ x) (e : Ex (del (upd (upd H dx o1) x o2) x) (del H' x)) : Ex H H' := (ex_to_del (ex_made nx ndx ne) nx).trans (e.trans del_ex)
/-- wrong ties are raised -/
theorem net_ties {H : Hp} {bad v : V} {n : Int} {d : PyData} {t : Option (List (Option (List (Option Int))))} {Q : VK} {next : Int → Prop} (hn : 3 ≤ n ∧ n ≤ 40) (k : KdTs K H bad t) (e : tE n t = some v) (dv : DvV K H v d) (q : ∀ H', Ex H H' → Q (tellE "ties" d) H') : NetR K A (.int n) bad H (ErrEnd K A Q) next :=
  ⟨some n, rfl, .inr ⟨n, rfl, decide_eq_true hn, t, k, .inl ⟨v, e, raise_end (by simp [errT]) dv q⟩⟩⟩
theorem KdTs.onN {H H' : Hp} {x : V} {t : Option (List (Option (List (Option Int))))} (e : LamX.ExtN H H') (h1 : KdTs K H x t) : KdTs K H' x t := by
  cases t with
  | none => exact (show KdL K H' x none from KdL.onN e (show KdL K H x none from h1))
  | some ts =>
    obtain ⟨a, xs, k1, k2, k3, k4⟩ := h1
    have pairedLN : ∀ {xs : List V} {os : List (Option (List (Option Int)))}, Paired (KdL K H) xs os → Paired (KdL K H') xs os := fun {xs os} h => by
      induction xs generalizing os with
      | nil => cases h; exact .nil
      | cons x xs ih =>
        cases h with
        | cons a r => exact .cons (a.onN e) (ih r)
    exact ⟨a, xs, k1, exN_l e k2, k3, pairedLN k4⟩
theorem nat_ix {i : Nat} (h : i < 100) {H : Hp} : DvV K H (.int (i : Int)) (.int (i : Int)) := .of (.int _) (Dn.int (by omega) (by omega)) (by decide) (by decide)
theorem non_ix {H : Hp} : DvV K H .non .none := .of .non dn_none (by decide) (by decide)
def sp_l_made_right (K : PySem.W.Frag) (A : Ad) : Sp := fun vs H Q _ => ∃ (a b : Addr) (ts : List (Int × Int)) (n : Nat) (st : List Int), vs = [.int (n : Int), .ref a, .ref b] ∧ TiesAt K H a ts ∧ NetOk n ts ∧ n ≤ 8 ∧ H b = some (.lst (st.map V.int)) ∧ MR.Stn n st ∧ LamX.Tabs (tabs A) H ∧
  ∀ H', LamX.ExtN H H' → LamX.Tabs (tabs A) H' → Q (.bl true) H'
theorem ok_l_made_right (T : Txt K mg A) (TB : Tab base mg A) : FnG P w K mg base CX0 16 A.f_l_made_right A.d_l_made_right ["_law_seats", "_law_ties", "_law_standing"] (sp_l_made_right K A) := by
  have R_Room_init : FnOk P w K mg base (L2.CX P w) 7 A.f_Room_init A.d_Room_init ["self", "seats", "ties", "standing"] (sOr (sr_init K A) (sq_init K A)) := fn_or (rs_Room_init T) (fn_loud (ok_Room_init T))
  have G_l_bent : FnOk P w K mg base CX0 3 A.f_l_bent A.d_l_bent ["_law_row"] (sp_l_bent K) := ok_l_bent T
  refine okGC T.F_l_made_right sc_l_made_right (fun vs H Q E h => ?_) (fun A' outer sh H vs Q E hgd hr h => ?_)
  · obtain ⟨a, b, ts, n, st, rfl, _⟩ := h
    rfl
  · obtain ⟨a, b, ts, n, st, rfl, hA, N, n8, hB, S, hT, q⟩ := h
    refine ⟨_, (pss_cons (ps_for PassesOwn.never rfl (pi_listK (K := K) rfl (pe_lst (pa_cons pe_non (pa_cons pe_int (pa_cons pe_int (pa_cons pe_bl (pa_cons pe_str (pa_cons (pe_lst (pa_cons pe_int pa_nil)) (pa_cons pe_dnewK (pa_cons (pe_op op_powW pe_int pe_int) pa_nil)))))))))) (pg_name (i := 3) sc_l_made_right.nd rfl (by first | exact .inl rfl | exact .inr rfl)) (pss_one (ps_if (pt_cmpR op_ne (pe_caught (k := 7) T hgd TB.t_l_made_right (mem_l_made_right A) TB.u_l_made_right (fun _ _ _ _ E _ _ hr => (pe_make T.mk_Room R_Room_init (hr.mono (by decide)) (by rfl) T.r_Room T.b_Room_init .nil (passes_call (takes_of rfl rfl rfl rfl) (fun _ _ _ _ h => h)) (pa_cons (pv 3) (pa_cons pe_non (pa_cons pe_non pa_nil))))) (hr.mono (by decide))) (pe_callB (call_repr_K (K := K) hgd hr) (by rfl) T.z_repr (by decide +kernel) (pa_cons (pe_lst (pa_cons pe_str (pa_cons (pv 3) pa_nil))) pa_nil)) (nomark _)) (pss_one (ps_ret pe_bl)) pss_nil)))
      (pss_cons (ps_for PassesOwn.never rfl (pi_listK (K := K) rfl (pe_lst (pa_cons pe_non (pa_cons (pe_tup pa_nil) (pa_cons (pe_callTy call_tuple_of (by rfl) T.z_tuple (by decide +kernel) (pa_cons (pv 1) pa_nil)) (pa_cons pe_dnewK (pa_cons pe_str (pa_cons pe_int pa_nil)))))))) (pg_name (i := 3) sc_l_made_right.nd rfl (by first | exact .inl rfl | exact .inr rfl)) (pss_one (ps_if (pt_cmpR op_ne (pe_caught (k := 7) T hgd TB.t_l_made_right (mem_l_made_right A) TB.u_l_made_right (fun _ _ _ _ E _ _ hr => (pe_make T.mk_Room R_Room_init (hr.mono (by decide)) (by rfl) T.r_Room T.b_Room_init .nil (passes_call (takes_of rfl rfl rfl rfl) (fun _ _ _ _ h => h)) (pa_cons (pv 0) (pa_cons (pv 3) (pa_cons pe_non pa_nil))))) (hr.mono (by decide))) (pe_callB (call_repr_K (K := K) hgd hr) (by rfl) T.z_repr (by decide +kernel) (pa_cons (pe_lst (pa_cons pe_str (pa_cons pe_non pa_nil))) pa_nil)) (nomark _)) (pss_one (ps_ret pe_bl)) pss_nil)))
      (pss_cons (ps_for PassesOwn.never rfl (pi_listK (K := K) rfl (pe_lst (pa_cons pe_non (pa_cons (pe_lst pa_nil) (pa_cons (pe_lst (pa_cons pe_int pa_nil)) (pa_cons (pe_lst (pa_cons pe_int (pa_cons pe_int pa_nil))) (pa_cons (pe_lst (pa_cons pe_int (pa_cons pe_int pa_nil))) (pa_cons (pe_lst (pa_cons pe_int (pa_cons (pe_op op_add (pv 0) pe_int) pa_nil))) (pa_cons (pe_lst (pa_cons pe_bl (pa_cons pe_int pa_nil))) (pa_cons (pe_tup (pa_cons pe_int (pa_cons pe_int pa_nil))) pa_nil)))))))))) (pg_name (i := 4) sc_l_made_right.nd rfl (by first | exact .inl rfl | exact .inr rfl)) (pss_one (ps_if (pt_cmpR op_ne (pe_caught (k := 7) T hgd TB.t_l_made_right (mem_l_made_right A) TB.u_l_made_right (fun _ _ _ _ E _ _ hr => (pe_make T.mk_Room R_Room_init (hr.mono (by decide)) (by rfl) T.r_Room T.b_Room_init .nil (passes_call (takes_of rfl rfl rfl rfl) (fun _ _ _ _ h => h)) (pa_cons (pv 0) (pa_cons (pe_op op_cat (pe_slice (sl_listK (K := K) rfl) (pv 1) po_none (po_some pe_int)) (pe_lst (pa_cons (pv 4) (pa_cons pe_non pa_nil)))) (pa_cons pe_non pa_nil))))) (hr.mono (by decide))) (pe_callB (call_repr_K (K := K) hgd hr) (by rfl) T.z_repr (by decide +kernel) (pa_cons (pe_lst (pa_cons pe_str (pa_cons (pe_callB (call_lenK (K := K) rfl) (by rfl) T.z_len PySem.boot_len (pa_cons (pe_slice (sl_listK (K := K) rfl) (pv 1) po_none (po_some pe_int)) pa_nil)) pa_nil))) pa_nil)) (nomark _)) (pss_one (ps_ret pe_bl)) pss_nil)))
      (pss_cons (ps_for PassesOwn.never rfl (pi_listK (K := K) rfl (pe_call G_l_bent (hr.mono (by decide)) (by rfl) T.g_l_bent T.F_l_bent.kp T.b_l_bent .nil pass0 (pa_cons (pv 2) pa_nil))) (pg_tupK (n := 2) (K := K) rfl rfl (pgs_cons (pg_name (i := 3) sc_l_made_right.nd rfl (by first | exact .inl rfl | exact .inr rfl)) (pgs_cons (pg_name (i := 5) sc_l_made_right.nd rfl (by first | exact .inl rfl | exact .inr rfl)) pgs_nil))) (pss_one (ps_if (pt_cmpR op_ne (pe_caught (k := 7) T hgd TB.t_l_made_right (mem_l_made_right A) TB.u_l_made_right (fun _ _ _ _ E _ _ hr => (pe_makeK0 T.mk_Room R_Room_init (hr.mono (by decide)) (by rfl) T.r_Room T.kb_Room_init (passes_call (takes_of rfl rfl rfl rfl) (fun _ _ _ _ h => h)) (pk_cons (pv 3) (pk_cons (pv 1) (pk_cons (pv 0) pk_nil))))) (hr.mono (by decide))) (pe_callB (call_repr_K (K := K) hgd hr) (by rfl) T.z_repr (by decide +kernel) (pa_cons (pe_lst (pa_cons pe_str (pa_cons (pv 5) pa_nil))) pa_nil)) (nomark _)) (pss_one (ps_ret pe_bl)) pss_nil)))
      (pss_one (ps_ret (pe_cmpR op_eq (pe_caught (k := 7) T hgd TB.t_l_made_right (mem_l_made_right A) TB.u_l_made_right (fun _ _ _ _ E _ _ hr => (pe_make T.mk_Room R_Room_init (hr.mono (by decide)) (by rfl) T.r_Room T.b_Room_init .nil (passes_call (takes_of rfl rfl rfl rfl) (fun _ _ _ _ h => h)) (pa_cons (pv 0) (pa_cons (pv 1) (pa_cons (pv 2) pa_nil))))) (hr.mono (by decide))) pe_str (nomark _)))))))), ?_⟩
    have n3 := N.lo
    obtain ⟨as, hS, hlen, hPr⟩ := hA
    -- figures
    refine ⟨few_le (by decide : 1 < 10), fun l1 nl1 => ?_⟩
    have e1 : Ex H (upd H l1 (.lst [.int 3])) := Ex.new nl1
    have hl1 : upd H l1 (.lst [.int 3]) l1 = some (.lst [.int 3]) := upd_same
    generalize upd H l1 (.lst [.int 3]) = H1 at e1 hl1
    refine fun d nd0 => ?_
    have e2 : Ex H1 (upd H1 d (.dK [])) := Ex.new nd0
    have hd : upd H1 d (.dK []) d = some (.dK []) := upd_same
    generalize upd H1 d (.dK []) = H2 at e2 hd
    refine ⟨10, 20, rfl, rfl, ⟨by decide, by decide +kernel⟩, by show 8 ≤ sizeLine; rw [sizeLine_eq]; decide, fun pl npl => ?_⟩
    have e3 : Ex H2 (upd H2 pl (.lst [.non, .int 2, .int 41, .bl true, .str "3", .ref l1, .ref d, .int (10 ^ Int.toNat 20)])) := Ex.new npl
    have hpl : upd H2 pl (.lst [.non, .int 2, .int 41, .bl true, .str "3", .ref l1, .ref d, .int (10 ^ Int.toNat 20)]) pl = some (.lst [.non, .int 2, .int 41, .bl true, .str "3", .ref l1, .ref d, .int (10 ^ Int.toNat 20)]) := upd_same
    generalize hxs : ([.non, .int 2, .int 41, .bl true, .str "3", .ref l1, .ref d, .int (10 ^ Int.toNat 20)] : List V) = xs at e3 hpl
    generalize upd H2 pl (.lst xs) = H3 at e3 hpl
    have figs : ∀ x ∈ xs, Fig K H3 x := fun x hx => by
      rw [← hxs] at hx
      simp only [List.mem_cons, List.not_mem_nil, or_false] at hx
      rcases hx with rfl | rfl | rfl | rfl | rfl | rfl | rfl | rfl
      · exact ⟨none, _, ⟨"NoneType", rfl, .base .non⟩, rfl, .of .non dn_none (by decide) (by decide)⟩
      · exact ⟨some 2, _, rfl, by decide, .of (.int _) (.int (by decide) (by decide)) (by decide) (by decide)⟩
      · exact ⟨some 41, _, rfl, by decide, .of (.int _) (.int (by decide) (by decide)) (by decide) (by decide)⟩
      · exact ⟨none, _, ⟨"bool", rfl, .base (.bl _)⟩, rfl, .of (.bl _) (.bool _) (by decide) (by decide)⟩
      · exact ⟨none, _, ⟨"str", rfl, .base (.str _)⟩, rfl, .of (.str _) (dn_str (by decide +kernel) (by decide +kernel)) (by decide) (by decide)⟩
      · have h := (e2.trans e3) _ _ hl1
        exact ⟨none, _, ⟨"list", rfl, .base (.lst h)⟩, rfl, .of (dp_ints (ns := [3]) (.inl (.inl h))) (dn_ints fun x hx => by simp at hx; omega) (by decide) (by decide)⟩
      · have h := e3 _ _ hd
        exact ⟨none, _, ⟨"dict", rfl, .base (.dK h)⟩, rfl, .inr ⟨d, rfl, h, rfl⟩⟩
      · exact ⟨some (10 ^ Int.toNat 20), _, rfl, by decide +kernel, .of (.int _) (.intW (by decide +kernel) (by decide +kernel)) (by decide) (by decide)⟩
    have e03 : Ex H H3 := e1.trans (e2.trans e3)
    have t3 := hT.ext e03
    refine ⟨pl, rfl, ⟨_, .inl (.inl hpl)⟩, for_list (xs := xs) (fun i σ' H' => (∃ y, σ' = [some (.int (n : Int)), some (.ref a), some (.ref b), y, none, none]) ∧ LamX.ExtN H3 H' ∧ LamX.Tabs (tabs A) H') ⟨⟨_, rfl⟩, LamX.ExtN.refl _, t3⟩
      (fun i σ' H' _ P => .inl (.inl (P.2.1 _ _ hpl fun _ z => nomatch z))) (fun i bad σ' H' hx P => ?_) fun σ' H' P => ?_⟩
    · obtain ⟨⟨y, rfl⟩, eP, tP⟩ := P
      obtain ⟨o, d, k, ok, dv⟩ := (figs bad (List.mem_of_getElem? hx)).onN eP
      dsimp only [gName]
      refine told_due (tell := tellE "figure" d) tP (fun H8 e8 _ Q8 q8 => ⟨_, rfl, fun x dx nx ndx ne => ?_⟩) fun H8 e8 t8 => ?_
      · have m := LamX.ExtN.of (ex_made (o1 := .own x) (o2 := .ins A.c_Room dx []) nx ndx ne)
        exact .inl ⟨x, bad, .non, .non, rfl, count_figure (k.onN (e8.trans m)) ok (dv.onN (e8.trans m)) fun H' e' => q8 H' ((ex_made nx ndx ne).trans e')⟩
      refine ev_tell (ev_var rfl) (by decide +kernel) (dv.onN e8) H8 (Ex.refl H8) _ fun H9 e9 => ⟨rfl, false, by rw [decide_eq_true rfl]; rfl, iteF ⟨⟨_, rfl⟩, (eP.trans e8).trans (LamX.ExtN.of e9), t8.ext e9⟩⟩
    · obtain ⟨⟨y, rfl⟩, eP, tP⟩ := P
      have eH : LamX.ExtN H H' := (LamX.ExtN.of e03).trans eP
      clear figs hpl hxs hl1 hd
      -- ties that are no list
      refine ⟨few_le (by decide : 0 < 10), fun t0 nt0 => ?_⟩
      have f1 : Ex H' (upd H' t0 (.tup [])) := Ex.new nt0
      have ht0 : upd H' t0 (.tup []) t0 = some (.tup []) := upd_same
      generalize upd H' t0 (.tup []) = H4 at f1 ht0
      refine ⟨_, rfl, a, as.map V.ref, rfl, .inl ⟨exN_l (eH.trans (LamX.ExtN.of f1)) hS, fun t1 nt1 => ?_⟩⟩
      have f2 : Ex H4 (upd H4 t1 (.tup (as.map V.ref))) := Ex.new nt1
      have ht1 : upd H4 t1 (.tup (as.map V.ref)) t1 = some (.tup (as.map V.ref)) := upd_same
      generalize upd H4 t1 (.tup (as.map V.ref)) = H5 at f2 ht1
      refine fun d2 nd2 => ?_
      have f3 : Ex H5 (upd H5 d2 (.dK [])) := Ex.new nd2
      have hd2 : upd H5 d2 (.dK []) d2 = some (.dK []) := upd_same
      generalize upd H5 d2 (.dK []) = H6 at f3 hd2
      refine ⟨few_le (by decide : 6 < 10), fun pl npl => ?_⟩
      have f7 : Ex H6 (upd H6 pl (.lst [.non, .ref t0, .ref t1, .ref d2, .str "1", .int 5])) := Ex.new npl
      have hpl : upd H6 pl (.lst [.non, .ref t0, .ref t1, .ref d2, .str "1", .int 5]) pl = some (.lst [.non, .ref t0, .ref t1, .ref d2, .str "1", .int 5]) := upd_same
      generalize hxs : ([.non, .ref t0, .ref t1, .ref d2, .str "1", .int 5] : List V) = xs at f7 hpl
      generalize upd H6 pl (.lst xs) = HA at f7 hpl
      have things : ∀ x ∈ xs, KdL K HA x none := fun x hx => by
        rw [← hxs] at hx
        simp only [List.mem_cons, List.not_mem_nil, or_false] at hx
        rcases hx with rfl | rfl | rfl | rfl | rfl | rfl
        · exact ⟨"NoneType", .inr rfl, by decide, .base .non⟩
        · exact ⟨"tuple", .inr rfl, by decide, .base (.tup ((f2.trans (f3.trans f7)) _ _ ht0))⟩
        · exact ⟨"tuple", .inr rfl, by decide, .base (.tup ((f3.trans f7) _ _ ht1))⟩
        · exact ⟨"dict", .inr rfl, by decide, .base (.dK (f7 _ _ hd2))⟩
        · exact ⟨"str", .inr rfl, by decide, .base (.str _)⟩
        · exact ⟨"int", .inl rfl, by decide, .base (.int _)⟩
      have f17 : Ex H' HA := f1.trans (f2.trans (f3.trans f7))
      have eHA : LamX.ExtN H HA := eH.trans (LamX.ExtN.of f17)
      have tA := tP.ext f17
      clear hxs ht0 ht1 hd2 f1 f2 f3 f7
      refine ⟨pl, rfl, ⟨_, .inl (.inl hpl)⟩, for_list (xs := xs) (fun i σ' H' => (∃ y, σ' = [some (.int (n : Int)), some (.ref a), some (.ref b), y, none, none]) ∧ LamX.ExtN HA H' ∧ LamX.Tabs (tabs A) H') ⟨⟨_, rfl⟩, LamX.ExtN.refl _, tA⟩
        (fun i σ' H' _ P => .inl (.inl (P.2.1 _ _ hpl fun _ z => nomatch z))) (fun i bad σ' H' hx P => ?_) fun σ' HB P => ?_⟩
      · obtain ⟨⟨y, rfl⟩, eP, tP⟩ := P
        have k := (things bad (List.mem_of_getElem? hx)).onN eP
        dsimp only [gName]
        refine told_due (tell := tellE "ties" .none) tP (fun H8 e8 _ Q8 q8 => ⟨_, rfl, _, rfl, fun x dx nx ndx ne => ?_⟩) fun H8 e8 t8 => ?_
        · have m := LamX.ExtN.of (ex_made (o1 := .own x) (o2 := .ins A.c_Room dx []) nx ndx ne)
          exact .inl ⟨x, .int (n : Int), bad, .non, rfl, net_ties (t := none) ⟨N.lo, N.hi⟩ (k.onN (e8.trans m)) rfl non_ix fun H' e' => q8 H' ((ex_made nx ndx ne).trans e')⟩
        refine ev_tell (ev_c (v := V.non)) (by decide +kernel) non_ix H8 (Ex.refl H8) _ fun H9 e9 => ⟨rfl, false, by rw [decide_eq_true rfl]; rfl, iteF ⟨⟨_, rfl⟩, (eP.trans e8).trans (LamX.ExtN.of e9), t8.ext e9⟩⟩
      · obtain ⟨⟨y, rfl⟩, eP, tP⟩ := P
        have eHB : LamX.ExtN H HB := eHA.trans eP
        clear things hpl
        refine ⟨few_le (by decide : 0 < 10), fun l0 nl0 => ?_⟩
        have g0 : Ex HB (upd HB l0 (.lst [])) := Ex.new nl0
        have hl0 : upd HB l0 (.lst []) l0 = some (.lst []) := upd_same
        generalize upd HB l0 (.lst []) = HC0 at g0 hl0
        refine ⟨few_le (by decide : 1 < 10), fun l1 nl1 => ?_⟩
        have g1 : Ex HC0 (upd HC0 l1 (.lst [.int 1])) := Ex.new nl1
        have hl1 : upd HC0 l1 (.lst [.int 1]) l1 = some (.lst [.int 1]) := upd_same
        generalize upd HC0 l1 (.lst [.int 1]) = HC1 at g1 hl1
        refine ⟨few_le (by decide : 2 < 10), fun l2 nl2 => ?_⟩
        have g2 : Ex HC1 (upd HC1 l2 (.lst [.int 1, .int 1])) := Ex.new nl2
        have hl2 : upd HC1 l2 (.lst [.int 1, .int 1]) l2 = some (.lst [.int 1, .int 1]) := upd_same
        generalize upd HC1 l2 (.lst [.int 1, .int 1]) = HC2 at g2 hl2
        refine ⟨few_le (by decide : 2 < 10), fun l3 nl3 => ?_⟩
        have g3 : Ex HC2 (upd HC2 l3 (.lst [.int 0, .int 1])) := Ex.new nl3
        have hl3 : upd HC2 l3 (.lst [.int 0, .int 1]) l3 = some (.lst [.int 0, .int 1]) := upd_same
        generalize upd HC2 l3 (.lst [.int 0, .int 1]) = HC3 at g3 hl3
        refine ⟨_, rfl, _, _, rfl, rfl, few_le (by decide : 2 < 10), fun l4 nl4 => ?_⟩
        have g4 : Ex HC3 (upd HC3 l4 (.lst [.int 1, .int ((n : Int) + 1)])) := Ex.new nl4
        have hl4 : upd HC3 l4 (.lst [.int 1, .int ((n : Int) + 1)]) l4 = some (.lst [.int 1, .int ((n : Int) + 1)]) := upd_same
        generalize upd HC3 l4 (.lst [.int 1, .int ((n : Int) + 1)]) = HC4 at g4 hl4
        refine ⟨few_le (by decide : 2 < 10), fun l5 nl5 => ?_⟩
        have g5 : Ex HC4 (upd HC4 l5 (.lst [.bl true, .int 2])) := Ex.new nl5
        have hl5 : upd HC4 l5 (.lst [.bl true, .int 2]) l5 = some (.lst [.bl true, .int 2]) := upd_same
        generalize upd HC4 l5 (.lst [.bl true, .int 2]) = HC5 at g5 hl5
        refine ⟨few_le (by decide : 2 < 10), fun u6 nu6 => ?_⟩
        have g6 : Ex HC5 (upd HC5 u6 (.tup [.int 1, .int 2])) := Ex.new nu6
        have hu6 : upd HC5 u6 (.tup [.int 1, .int 2]) u6 = some (.tup [.int 1, .int 2]) := upd_same
        generalize upd HC5 u6 (.tup [.int 1, .int 2]) = HC6 at g6 hu6
        refine ⟨few_le (by decide : 8 < 10), fun pl npl => ?_⟩
        have g7 : Ex HC6 (upd HC6 pl (.lst [.non, .ref l0, .ref l1, .ref l2, .ref l3, .ref l4, .ref l5, .ref u6])) := Ex.new npl
        have hpl : upd HC6 pl (.lst [.non, .ref l0, .ref l1, .ref l2, .ref l3, .ref l4, .ref l5, .ref u6]) pl = some (.lst [.non, .ref l0, .ref l1, .ref l2, .ref l3, .ref l4, .ref l5, .ref u6]) := upd_same
        generalize hxs : ([.non, .ref l0, .ref l1, .ref l2, .ref l3, .ref l4, .ref l5, .ref u6] : List V) = xs at g7 hpl
        generalize upd HC6 pl (.lst xs) = HD at g7 hpl
        have things : ∀ x ∈ xs, ∃ t, KdL K HD x t ∧ okT n t = none := fun x hx => by
          rw [← hxs] at hx
          simp only [List.mem_cons, List.not_mem_nil, or_false] at hx
          rcases hx with rfl | rfl | rfl | rfl | rfl | rfl | rfl | rfl
          · exact ⟨none, ⟨"NoneType", .inr rfl, by decide, .base .non⟩, rfl⟩
          · exact ⟨some [], ⟨l0, _, rfl, .inl (.inl ((g1.trans (g2.trans (g3.trans (g4.trans (g5.trans (g6.trans g7)))))) _ _ hl0)), by decide, .nil⟩, rfl⟩
          · exact ⟨some [some 1], ⟨l1, _, rfl, .inl (.inl ((g2.trans (g3.trans (g4.trans (g5.trans (g6.trans g7))))) _ _ hl1)), by decide, .cons (b := some 1) rfl .nil⟩, rfl⟩
          · exact ⟨some [some 1, some 1], ⟨l2, _, rfl, .inl (.inl ((g3.trans (g4.trans (g5.trans (g6.trans g7)))) _ _ hl2)), by decide, .cons (b := some 1) rfl (.cons (b := some 1) rfl .nil)⟩, if_neg fun z => z.2.2 rfl⟩
          · exact ⟨some [some 0, some 1], ⟨l3, _, rfl, .inl (.inl ((g4.trans (g5.trans (g6.trans g7))) _ _ hl3)), by decide, .cons (b := some 0) rfl (.cons (b := some 1) rfl .nil)⟩, if_neg (t := some ((0 : Int), (1 : Int))) (e := (none : Option (Int × Int))) (c := (1 ≤ (0 : Int) ∧ (0 : Int) ≤ (n : Int)) ∧ (1 ≤ (1 : Int) ∧ (1 : Int) ≤ (n : Int)) ∧ (0 : Int) ≠ 1) (by omega)⟩
          · exact ⟨some [some 1, some ((n : Int) + 1)], ⟨l4, _, rfl, .inl (.inl ((g5.trans (g6.trans g7)) _ _ hl4)), by show 2 ≤ 1000; decide, .cons (b := some 1) rfl (.cons (b := some ((n : Int) + 1)) rfl .nil)⟩, if_neg (t := some ((1 : Int), (n : Int) + 1)) (e := (none : Option (Int × Int))) (c := (1 ≤ (1 : Int) ∧ (1 : Int) ≤ (n : Int)) ∧ (1 ≤ (n : Int) + 1 ∧ (n : Int) + 1 ≤ (n : Int)) ∧ (1 : Int) ≠ (n : Int) + 1) (by omega)⟩
          · exact ⟨some [none, some 2], ⟨l5, _, rfl, .inl (.inl ((g6.trans g7) _ _ hl5)), by decide, .cons (b := none) ⟨"bool", rfl, .base (.bl _)⟩ (.cons (b := some 2) rfl .nil)⟩, rfl⟩
          · exact ⟨none, ⟨"tuple", .inr rfl, by decide, .base (.tup (g7 _ _ hu6))⟩, rfl⟩
        have g07 : Ex HB HD := g0.trans (g1.trans (g2.trans (g3.trans (g4.trans (g5.trans (g6.trans g7))))))
        have eHD : LamX.ExtN H HD := eHB.trans (LamX.ExtN.of g07)
        have tD := tP.ext g07
        clear hxs hl0 hl1 hl2 hl3 hl4 hl5 hu6 g0 g1 g2 g3 g4 g5 g6 g7
        have few : ((as.map V.ref).take 2).length ≤ 2 := by rw [List.length_take]; omega
        have tkl : (as.take 2).length = (ts.take 2).length := by rw [List.length_take, List.length_take, hlen]
        have nd2 : ((ts.take 2).map nrm).Nodup := by rw [List.map_take]; exact N.nd.sublist (List.take_sublist _ _)
        refine ⟨pl, rfl, ⟨_, .inl (.inl hpl)⟩, for_list (xs := xs) (fun i σ' H' => (∃ y z, σ' = [some (.int (n : Int)), some (.ref a), some (.ref b), y, z, none]) ∧ LamX.ExtN HD H' ∧ LamX.Tabs (tabs A) H') ⟨⟨_, _, rfl⟩, LamX.ExtN.refl _, tD⟩
          (fun i σ' H' _ P => .inl (.inl (P.2.1 _ _ hpl fun _ z => nomatch z))) (fun i bad σ' H' hx P => ?_) fun σ' HE P => ?_⟩
        · obtain ⟨⟨y, z, rfl⟩, eP, tP⟩ := P
          obtain ⟨t, k0, okt⟩ := things bad (List.mem_of_getElem? hx)
          have k := k0.onN eP
          dsimp only [gName]
          refine told_due (tell := tellE "ties" (.int ((ts.take 2).length : Int))) tP (fun H8 e8 _ Q8 q8 => ⟨_, rfl, ?_⟩) fun H8 e8 t8 => ?_
          · have hS8 : SqL K H8 a (as.map V.ref) := exN_l (eHD.trans (eP.trans e8)) hS
            have z1 := el_sl (K := K) (σ := [some (.int (n : Int)), some (.ref a), some (.ref b), y, some bad, none]) (H := H8) (ev_var (i := 1) rfl) eo_none (eo_some (ev_c (v := V.int ((2 : Nat) : Int)))) hS8
            rw [cut_to] at z1
            have z2 := el_cat z1 (el_lst (σ := [some (.int (n : Int)), some (.ref a), some (.ref b), y, some bad, none]) (H := H8) (ea_cons (ev_var (i := 4) (v := bad) rfl) (ea_cons (ev_c (v := V.non)) ea_nil)) (by show 2 ≤ 100000; decide)) (by show _ + 2 ≤ _; omega)
            refine z2 H8 (Ex.refl H8) _ fun lp H9 nlp e9 hlp x dx nx ndx ne => ?_
            have m0 : Ex H9 _ := ex_made (o1 := .own x) (o2 := .ins A.c_Room dx []) nx ndx ne
            have m := LamX.ExtN.of (e9.trans m0)
            refine .inl ⟨x, .int (n : Int), .ref lp, .non, rfl, net_ties (t := some ((ts.take 2).map tk ++ [t, none])) (v := .int ((ts.take 2).length : Int)) ⟨N.lo, N.hi⟩ ⟨lp, _, rfl, .inl (.inl (m0 _ _ hlp)), ?_, paired_app ?_ (.cons (k.onN (e8.trans m)) (.cons ⟨"NoneType", .inr rfl, by decide, .base .non⟩ .nil))⟩ ?_ (nat_ix (by rw [List.length_take]; omega)) fun H' e' => q8 H' ((e9.trans m0).trans e')⟩
            · show (_ ++ [bad, V.non]).length ≤ 1000
              rw [List.length_append]
              show _ + 2 ≤ _
              omega
            · rw [← List.map_take]
              exact paired_ties tkl fun i b t x y => exN_l ((eHD.trans (eP.trans e8)).trans m) (hPr i b t (by rw [List.getElem?_take] at x; split at x <;> first | exact x | cases x) (by rw [List.getElem?_take] at y; split at y <;> first | exact y | cases y))
            · show (ft n _ [] 0).map _ = _
              rw [ft_bad (fun t ht => N.ok t (List.mem_of_mem_take ht)) nd2 (.inl okt)]
              rfl
          have hS8 : SqL K H8 a (as.map V.ref) := exN_l (eHD.trans (eP.trans e8)) hS
          have z1 := el_sl (K := K) (σ := [some (.int (n : Int)), some (.ref a), some (.ref b), y, some bad, none]) (H := H8) (ev_var (i := 1) rfl) eo_none (eo_some (ev_c (v := V.int ((2 : Nat) : Int)))) hS8
          rw [cut_to, ← List.map_take] at z1
          have z2 := ev_lenL (K := K) z1
          rw [List.length_map, tkl] at z2
          refine ev_tell z2 (by decide +kernel) (nat_ix (by rw [List.length_take]; omega)) H8 (Ex.refl H8) _ fun H9 e9 => ⟨rfl, false, by rw [decide_eq_true rfl]; rfl, iteF ⟨⟨_, _, rfl⟩, (eP.trans e8).trans (LamX.ExtN.of e9), t8.ext e9⟩⟩
        · obtain ⟨⟨y, z, rfl⟩, eP, tP⟩ := P
          have eHE : LamX.ExtN H HE := eHD.trans eP
          clear things hpl
          have hBE := eHE _ _ hB fun _ z => nomatch z
          have len := S.len
          -- standings
          refine ⟨_, rfl, b, st, rfl, hBE, by omega, by omega, by rw [len]; exact S.lo, S.nd, fun p HF np eF LF => ?_⟩
          obtain ⟨ps, p1, p2, p3⟩ := LF
          rw [len] at p3
          have eHF := eHE.trans (LamX.ExtN.of eF)
          have tF := tP.ext eF
          refine ⟨p, rfl, ⟨_, .inl (.inl p1)⟩, for_list (xs := ps.map V.ref) (fun i σ' H' => (∃ y z u, σ' = [some (.int (n : Int)), some (.ref a), some (.ref b), y, z, u]) ∧ LamX.ExtN HF H' ∧ LamX.Tabs (tabs A) H') ⟨⟨_, _, _, rfl⟩, LamX.ExtN.refl _, tF⟩
            (fun i σ' H' _ P => .inl (.inl (P.2.1 _ _ p1 fun _ z => nomatch z))) (fun i x σ' H' hx P => ?_) fun σ' H' P => ?_⟩
          · obtain ⟨⟨y, z, u, rfl⟩, eP, tP⟩ := P
            obtain ⟨l, hl, rfl⟩ := map_at hx
            obtain ⟨bad, v, t, k1, k2, k3, k4⟩ := (p3 l (List.mem_of_getElem? hl)).onN eP
            refine ⟨l, _, rfl, .inl (.inl k1), rfl, _, _, rfl, _, _, rfl, rfl, ?_⟩
            obtain ⟨d, dv⟩ := IxV.dv (K := K) (H := H') k4
            have TN : TiesAt K H' a ts := TiesAt.onN (eHF.trans eP) ⟨as, hS, hlen, hPr⟩
            refine told_due (tell := tellE "standing" d) tP (fun H8 e8 _ Q8 q8 => ⟨_, rfl, _, rfl, _, rfl, rfl, rfl, fun x dx nx ndx ne => ?_⟩) fun H8 e8 t8 => ?_
            · have m0 : Ex H8 _ := ex_made (o1 := .own x) (o2 := .ins A.c_Room dx []) nx ndx ne
              have m := e8.trans (LamX.ExtN.of m0)
              exact .inl ⟨x, .int (n : Int), .ref a, bad, rfl, net_right (TN.onN m) N ⟨t, k2.onN m, .inl ⟨v, k3, raise_end (by simp [errT]) (dv.onN m) fun H' e' => q8 H' (m0.trans e')⟩⟩⟩
            refine ev_tell (ev_var rfl) (by decide +kernel) (dv.onN e8) H8 (Ex.refl H8) _ fun H9 e9 => ⟨rfl, false, by rw [decide_eq_true rfl]; rfl, iteF ⟨⟨_, _, _, rfl⟩, (eP.trans e8).trans (LamX.ExtN.of e9), t8.ext e9⟩⟩
          · obtain ⟨⟨y, z, u, rfl⟩, eP, tP⟩ := P
            have eH' := eHF.trans eP
            -- all right
            refine told_due (tell := .str "told") tP (fun H8 e8 t8 Q8 q8 => ⟨_, rfl, _, rfl, _, rfl, fun x dx nx ndx ne => ?_⟩) fun H8 e8 t8 => ?_
            · have m0 : Ex H8 _ := ex_made (o1 := .own x) (o2 := .ins A.c_Room dx []) nx ndx ne
              have m := eH'.trans (e8.trans (LamX.ExtN.of m0))
              exact .inr ⟨x, dx, a, b, n, ts, st, rfl, upd_same, TiesAt.onN m ⟨as, hS, hlen, hPr⟩, N, .inl (.inl (m _ _ hB fun _ z => nomatch z)), S, fun H' e ne' ex r => ⟨rfl, q8 H' (ex_init nx ndx ne ex)⟩⟩
            · refine ⟨rfl, ?_⟩
              show Q (.bl (decide (V.str "told" = V.str "told"))) H8
              rw [decide_eq_true rfl]
              exact q H8 (eH'.trans e8) t8
end
end K41

namespace K41
open PySem PySem.Spec PyProof.Rows L2 Vf Evl
section
variable {P : Program} {w : World} {K : PySem.W.Frag} {mg : Str → Option Value} {base : Heap} {A : Ad}
/-- a room whose figures are small -/
structure SOk (n : Nat) (s : RS) : Prop where
  pl : MR.Plc n s.pl
  lo : 0 ≤ s.ch
  hi : s.ch ≤ 1000000
  er : s.er.length ≤ 1000
abbrev shD (n : Nat) (ts : List (Int × Int)) (s : RS) : PyData := .list [.int (n : Int), .list (ts.map dTie), dInts (MR.stOf s.pl), .int s.ch, .int (s.er.length : Int)]
/-- what is shown of a room -/
def shV (n : Nat) (ts : List (Int × Int)) (s : RS) : V := .str (shD n ts s).shown
def sp_l_shown (K : PySem.W.Frag) (A : Ad) : Sp := fun vs H Q _ => ∃ (a e : Addr) (n : Nat) (ts : List (Int × Int)) (s : RS), vs = [.ref a] ∧ RoomAt K A H a e n ts s ∧ NetOk n ts ∧ SOk n s ∧ ∀ H', Ex H H' → Q (shV n ts s) H'
theorem ok_l_shown (T : Txt K mg A) : FnG P w K mg base CX0 5 A.f_l_shown A.d_l_shown ["_law_room"] (sp_l_shown K A) := by
  have G_Room_seats : FnOk P w K mg base CX0 1 A.f_Room_seats A.d_Room_seats ["self"] (sp_seats K A) := ok_Room_seats T
  have G_Room_ties : FnOk P w K mg base CX0 1 A.f_Room_ties A.d_Room_ties ["self"] (sp_ties K A) := ok_Room_ties T
  have G_Room_standing : FnOk P w K mg base CX0 3 A.f_Room_standing A.d_Room_standing ["self"] (sp_standing K A) := ok_Room_standing T
  have G_Room_changes : FnOk P w K mg base CX0 1 A.f_Room_changes A.d_Room_changes ["self"] (sp_changes K A) := ok_Room_changes T
  have G_Room_len : FnOk P w K mg base CX0 1 A.f_Room_len A.d_Room_len ["self"] (sp_len K A) := ok_Room_len T
  refine okG T.F_l_shown sc_l_shown (fun vs H Q E h => ?_) (fun cdv A' outer sh H vs Q E hgd hr h => ?_)
  · obtain ⟨a, e, n, ts, s, rfl, _⟩ := h
    rfl
  · obtain ⟨a, e, n, ts, s, rfl, h, N, S, q⟩ := h
    refine ⟨_, (pss_one (ps_ret (pe_callB (call_repr_K (K := K) hgd hr) (by rfl) T.z_repr (by decide +kernel) (pa_cons (pe_lst (pa_cons (pe_prop (pv 0) T.cl_Room T.pr_seats G_Room_seats (hr.mono (by decide)) T.b_Room_seats .nil pass0 (by rfl)) (pa_cons (pe_prop (pv 0) T.cl_Room T.pr_ties G_Room_ties (hr.mono (by decide)) T.b_Room_ties .nil pass0 (by rfl)) (pa_cons (pe_prop (pv 0) T.cl_Room T.pr_standing G_Room_standing (hr.mono (by decide)) T.b_Room_standing .nil pass0 (by rfl)) (pa_cons (pe_prop (pv 0) T.cl_Room T.pr_changes G_Room_changes (hr.mono (by decide)) T.b_Room_changes .nil pass0 (by rfl)) (pa_cons (pe_callB (call_lenO G_Room_len (hr.mono (by decide)) T.b_Room_len T.lm_Room T.lt_Room) (by rfl) T.z_len PySem.boot_len (pa_cons (pv 0) pa_nil)) pa_nil)))))) pa_nil)))), ?_⟩
    have n40 := N.hi
    have few := N.few
    have er := S.er
    obtain ⟨dx, fs, h0, _⟩ := h.seats
    refine ⟨_, rfl, a, dx, fs, rfl, h0, a, e, n, ts, s, rfl, h, fun H1 e1 => ?_⟩
    refine ⟨_, rfl, a, dx, fs, rfl, e1 _ _ h0, a, e, n, ts, s, rfl, h.on e1, few, fun p2 H2 np2 e2 TN => ?_⟩
    have e02 := e1.trans e2
    refine ⟨_, rfl, a, dx, fs, rfl, e02 _ _ h0, a, e, n, ts, s, rfl, h.on e02, S.pl, by omega, fun p3 H3 np3 e3 hp3 => ?_⟩
    have e03 := e02.trans e3
    refine ⟨_, rfl, a, dx, fs, rfl, e03 _ _ h0, a, e, n, ts, s, rfl, h.on e03, fun H4 e4 => ?_⟩
    have e04 := e03.trans e4
    refine ⟨_, rfl, a, dx, fs, rfl, e04 _ _ h0, a, e, n, ts, s, rfl, h.on e04, fun H5 e5 => ⟨s.er.length, rfl, by omega, ?_⟩⟩
    refine ⟨few_le (by decide : 5 < 10), fun pl npl => ?_⟩
    have e6 : Ex H5 (upd H5 pl (.lst [.int (n : Int), .ref p2, .ref p3, .int s.ch, .int (s.er.length : Int)])) := Ex.new npl
    have hpl : upd H5 pl (.lst [.int (n : Int), .ref p2, .ref p3, .int s.ch, .int (s.er.length : Int)]) pl = some (.lst [.int (n : Int), .ref p2, .ref p3, .int s.ch, .int (s.er.length : Int)]) := upd_same
    generalize upd H5 pl (.lst [.int (n : Int), .ref p2, .ref p3, .int s.ch, .int (s.er.length : Int)]) = H6 at e6 hpl
    have e26 : Ex H2 H6 := e3.trans (e4.trans (e5.trans e6))
    obtain ⟨as, k1, k2, k3⟩ := TN
    have St := S.pl.stn
    have D : Dn (shD n ts s) ((30000 + 2) * 5 + 2) 3 := Dn.list fun d hd => by
      simp only [List.mem_cons, List.not_mem_nil, or_false] at hd
      rcases hd with rfl | rfl | rfl | rfl | rfl
      · exact (Dn.int (by omega) (by omega)).mono (by decide) (by decide)
      · exact (Dn.list N.dn).mono (by rw [List.length_map]; omega) (by decide)
      · exact (dn_ints fun x hx => by have := St.lo x hx; omega).mono (by rw [St.len]; omega) (by decide)
      · exact (Dn.int S.lo (by have := S.hi; omega)).mono (by decide) (by decide)
      · exact (Dn.int (by omega) (by omega)).mono (by decide) (by decide)
    refine ⟨.ref pl, shD n ts s, rfl, .inl ⟨pl, rfl, .lst (.inl (.inl hpl)) (.cons (.int _) (.cons (.lst (.inl (.inl (e26 _ _ k1))) (dp_ties k2 fun i b t x y => .inl (.inl (e26 _ _ (k3 i b t x y).2.2)))) (.cons (dp_ints (.inl (.inl ((e4.trans (e5.trans e6)) _ _ hp3)))) (.cons (.int _) (.cons (.int _) .nil))))), D.show_, D.dict_, Nat.le_trans D.dep_ (by decide), Nat.le_trans D.len_ (by rw [sizeLine_eq]; decide)⟩, q H6 (e04.trans (e5.trans e6))⟩
end
end K41

/-! list(zip(range(0), g)): the generator never begins. -/
namespace Vf
open PySem PySem.Spec PyProof.Rows L2 Evl
section
variable {prog : Program} {w : World} {A : Around} {E : Value → Shared → Prop} {s : Shared}
theorem nextOf_range_end {it : Addr} {x left step : Int} {Q : Value → Shared → Prop} (hh : A.handled = none) (hit : IsRangeIter s.heap it x left step) (hleft : left ≤ 0)
    (hE : ∀ h' e, Heap.ExtBut it s.heap h' → (∃ o, h'.get? e = some o ∧ o.cls = .type "StopIteration") → E (.ref e) { s with heap := h' }) :
    wpAny (model prog w) A (Builtin.SmallTypes.nextOf (.ref it)) Q E s := by
  have hT : s.TypeIs (.ref it) "range_iterator" := ⟨_, hit, rfl⟩
  unfold Builtin.SmallTypes.nextOf
  refine wpAny_bind (wpAny_callSpecial?_slot (name := Str.ofString "__next__") hT F.slot_range_iterator_next
    (wpAny_call_entry F.slot_range_iterator_next hT F.entry_range_iterator_next ?_ (F.args_range_iterator_next_1 _)))
  show wpAny _ _ (field (.ref it) 0 >>= _) _ _ s
  refine wpAny_bind (wpAny_field hit rfl (x := rawInt x) rfl ?_)
  show wpAny _ _ (field (.ref it) 1 >>= _) _ _ s
  refine wpAny_bind (wpAny_field hit rfl (x := rawInt left) rfl ?_)
  show wpAny _ _ (field (.ref it) 2 >>= _) _ _ s
  refine wpAny_bind (wpAny_field hit rfl (x := rawInt step) rfl ?_)
  show wpAny _ _ (if left ≤ 0 then _ else _) _ _ s
  rw [if_pos hleft]
  refine wpAny_bind (wpAny_rule ?_)
  refine wpAny_bind ?_
  show wpAny _ _ (newExc (.type "StopIteration") [] >>= _) _ _ _
  refine wpAny_bind ?_
  simp only [newExc, newTuple]
  refine wpAny_bind (wpAny_newObj_type ?_ (by size_fits))
  refine wpAny_bind (m := firstArgMember _ _) (wpAny_of_eq (a := Value.none) (by first | rfl | (simp only [firstArgMember]; rfl)) ?_)
  refine wpAny_newObj_type ?_ (by size_fits)
  simp only [raiseNew]
  refine wpAny_bind (wpAny_handled ?_)
  first | rw [show A.in1.handled = none from hh] | rw [hh]
  refine wpAny_bind (wpAny_pure (wpAny_throw ?_))
  exact hE _ _ (((Heap.ExtBut.refl it s.heap).push _).push _) ⟨_, Heap.get?_push_size _ rfl, rfl⟩
theorem zip_next_endR {z TI TO i1 g : Addr} {x left step : Int} {Q : Fin → Shared → Prop} (hh : A.handled = none) (i1z : i1 ≠ z)
    (hz : IsZip s.heap z TI TO .none) (hTI : IsPair s.heap TI (.ref i1) (.ref g)) (hit : IsRangeIter s.heap i1 x left step) (hleft : left ≤ 0)
    (hE : ∀ h' e, (∀ c o, c ≠ z → c ≠ i1 → s.heap.get? c = some o → h'.get? c = some o) → (∃ o, h'.get? e = some o ∧ o.cls = .type "StopIteration") → E (.ref e) { s with heap := h' }) :
    wpAny (model prog w) A (Builtin.«zip.__next__» ⟨[.ref z], []⟩) Q E s := by
  show wpAny _ _ (field (.ref z) 2 >>= _) _ _ _
  refine wpAny_bind (wpAny_field hz rfl (x := .bool false) rfl ?_)
  show wpAny _ _ (field (.ref z) 3 >>= _) _ _ _
  refine wpAny_bind (wpAny_field hz rfl (x := .ref TI) rfl ?_)
  refine wpAny_bind (wpAny_seqItems hTI rfl ?_)
  show wpAny _ _ (Builtin.SmallTypes.ownedTupleIsFree (.ref z) >>= _) _ _ _
  refine wpAny_bind ?_
  unfold Builtin.SmallTypes.ownedTupleIsFree
  refine wpAny_bind (wpAny_field hz rfl (x := .none) rfl (wpAny_pure ?_))
  simp only [if_true]
  refine wpAny_bind (wpAny_rule ?_)
  refine wpAny_bind (wpAny_field hz rfl (x := .ref TO) rfl ?_)
  refine wpAny_bind (wpAny_setField_rec hz (by simp) fun h₁ hz₁ hs₁ => ?_)
  replace hz₁ : IsZip h₁ z TI TO .ellipsis := hz₁
  refine wpAny_bind ?_
  simp only [List.zipIdx_cons, List.zipIdx_nil, List.forIn_cons, List.forIn_nil]
  refine wpAny_bind (wpAny_bind (wpAny_onRaise ?_))
  show wpAny _ _ (Builtin.SmallTypes.nextOf (.ref i1) >>= _) _ _ _
  refine wpAny_bind (nextOf_range_end hh (hs₁.extBut _ _ i1z hit) hleft fun h₂ e hs₂ he => ?_)
  obtain ⟨oe, hoe, hce⟩ := he
  have hz₂ : IsZip h₂ z TI TO .ellipsis := hs₂ _ _ i1z.symm hz₁
  have hez : e ≠ z := fun x => by subst x; rw [hz₂] at hoe; cases hoe; simp at hce
  refine wpAny_setField_rec hz₂ (by simp) fun h₃ _ hs₃ => hE h₃ e (fun c o c1 c3 x => hs₃.extBut _ _ c1 (hs₂ _ _ c3 (hs₁.extBut _ _ c1 x))) ⟨oe, hs₃.extBut _ _ hez hoe, hce⟩
theorem zip_stopR {z TI TO i1 g : Addr} {x left step : Int} {Q : Option Value → Shared → Prop} (hh : A.handled = none) (i1z : i1 ≠ z)
    (hz : IsZip s.heap z TI TO .none) (hTI : IsPair s.heap TI (.ref i1) (.ref g)) (hit : IsRangeIter s.heap i1 x left step) (hleft : left ≤ 0)
    (hQ : ∀ h', (∀ c o, c ≠ z → c ≠ i1 → s.heap.get? c = some o → h'.get? c = some o) → Q none { s with heap := h' }) : wpAny (model prog w) A (pyNext (.ref z)) Q E s := by
  have hT : s.TypeIs (.ref z) "zip" := ⟨_, hz, rfl⟩
  unfold pyNext
  refine wpAny_bind (wpAny_attempt (wpAny_callSpecial?_slot (name := Str.ofString "__next__") hT F.slot_zip_next
    (wpAny_call_entry F.slot_zip_next hT F.entry_zip_next (zip_next_endR hh i1z hz hTI hit hleft fun h' e hk he => ?_) (F.args_zip_next_1 _))))
  obtain ⟨o, ho, hc⟩ := he
  refine wpAny_bind (wpAny_isInstance (T := "StopIteration") (b := true) ⟨o, ho, hc⟩ isSubtype_stop ?_)
  exact wpAny_pure (hQ _ hk)
end
abbrev zrH1 (h : Heap) : Heap := h.push { cls := .type "range_iterator", data := .fields #[rawInt 0, rawInt (Builtin.Range.rangeSize 0 0 1), rawInt 1] }
abbrev zrH2 (h : Heap) (g : Addr) : Heap := (zrH1 h).push { cls := .type "tuple", data := .seq #[.ref h.objs.size, .ref g] }
abbrev zrH3 (h : Heap) (g : Addr) : Heap := (zrH2 h g).push { cls := .type "tuple", data := .seq #[.none, .none] }
abbrev zrH4 (h : Heap) (g : Addr) : Heap := (zrH3 h g).push { cls := .type "zip", data := .fields #[.none, .bool false, .bool false, .ref (zrH1 h).objs.size, .ref (zrH2 h g).objs.size] }
theorem meets_zip_newR (r g : Addr) (gn : Nat) (t u v : Tok) :
    Meets (Builtin.«zip.__new__» ⟨[.type "zip", .ref r, .ref g], []⟩) (fun _ R s => IsRange s.heap r 0 0 1 t u v ∧ s.heap.IsGen g gn ∧
      R (.ok (.ret (.ref (zrH3 s.heap g).objs.size))) { s with heap := zrH4 s.heap g }) :=
  .of_wp fun prog w A R s h => by
    obtain ⟨hp, gs, d, tk, os⟩ := s; obtain ⟨hl1, hl2, h⟩ := h
    have hsub := sub_zip
    have hL1 : IsRange (Shared.heap ⟨hp, gs, d, tk, os⟩) r 0 0 1 t u v := hl1
    have hL2 : Heap.IsGen (Shared.heap ⟨zrH1 hp, gs, d, tk, os⟩) g gn := hl2.keeps fun b o e => Heap.get?_push_of_some _ e
    have hsm : Builtin.Range.small 0 0 1 = true := by decide
    wp_walk using wpAny_pyIter_range hL1 hsm, wpAny_pyIter_gen hL2
    exact ⟨_, rfl, h⟩
section
variable {prog : Program} {w : World} {A : Around} {E : Value → Shared → Prop} {s : Shared}
theorem call_zip_R {r g : Addr} {gn : Nat} {t u v : Tok} {Q : Value → Shared → Prop} (hr : IsRange s.heap r 0 0 1 t u v) (hg : s.heap.IsGen g gn)
    (h : ∀ h', IsZip h' (s.heap.objs.size + 3) (s.heap.objs.size + 1) (s.heap.objs.size + 2) .none → IsPair h' (s.heap.objs.size + 1) (.ref s.heap.objs.size) (.ref g) → IsRangeIter h' s.heap.objs.size 0 0 1 →
      (∀ c o, s.heap.get? c = some o → h'.get? c = some o) → Q (.ref (s.heap.objs.size + 3)) { s with heap := h' }) :
    wpAny (model prog w) A (call (.type "zip") [.ref r, .ref g]) Q E s := by
  refine callType_new F.called_zip (by decide) (F.typeCall_zip_2 _ _) (F.newCall_zip_2 _ _) (fun obj => F.args_object_init_3 obj _ _) F.entry_zip_new
    (meets_zip_newR r g gn t u v) ⟨hr, hg, ?_⟩
  have z1 : (zrH1 s.heap).objs.size = s.heap.objs.size + 1 := Heap.size_push ..
  have z2 : (zrH2 s.heap g).objs.size = s.heap.objs.size + 2 := by rw [Heap.size_push, z1]
  have z3 : (zrH3 s.heap g).objs.size = s.heap.objs.size + 3 := by rw [Heap.size_push, z2]
  have g4 : (zrH4 s.heap g).get? (zrH3 s.heap g).objs.size = some _ := Heap.get?_push_size _ rfl
  have g2 : (zrH4 s.heap g).get? (zrH1 s.heap).objs.size = some _ := Heap.get?_push_of_some _ (Heap.get?_push_of_some _ (Heap.get?_push_size _ rfl))
  have g1 : (zrH4 s.heap g).get? s.heap.objs.size = some _ := Heap.get?_push_of_some _ (Heap.get?_push_of_some _ (Heap.get?_push_of_some _ (Heap.get?_push_size _ rfl)))
  show _ ∧ _
  rw [z1, z2, z3] at g4
  rw [z1] at g2
  rw [z3]
  exact ⟨⟨_, g4, rfl⟩, h _ g4 g2 g1 fun c o x => Heap.get?_push_of_some _ (Heap.get?_push_of_some _ (Heap.get?_push_of_some _ (Heap.get?_push_of_some _ x)))⟩
end
section
variable {X : Cx}
theorem zip_run0 {pins : List (Addr × Obj)} {σ : L2.St} {z TI TO i1 g : Addr} {H : Hp} {s : Shared} {R : Result → Shared → Prop} {A : Around} (hh : A.in1.handled = none) (i1z : i1 ≠ z)
    (I : L2.Inv X pins σ H s) (fp : ∀ b ∈ [z, i1], FpOk X pins H b) (hz : IsZip s.heap z TI TO .none) (hTI : IsPair s.heap TI (.ref i1) (.ref g)) (hit : IsRangeIter s.heap i1 0 0 1)
    (h : ∀ (s' : Shared) (H' : Hp), L2.Inv X pins σ H' s' → Ex H H' → H' s.heap.objs.size = some (.lst []) → R (.ok (.ret .none)) s') :
    codeAny (model X.prog X.w) A (Code.builtin "list.extend.loop" { pos := [.ref s.heap.objs.size, .ref z, .none] }) R
      { s with heap := (((s.heap.push { cls := .type "list", data := .seq #[] }).update s.heap.objs.size (Obj.mapSeq fun x => #[])).update s.heap.objs.size (Obj.mapSeq fun x => x.push .none)).update s.heap.objs.size (Obj.mapSeq fun x => x.pop) } := by
  have hS : (s.heap.push { cls := .type "list", data := .seq #[] }).get? s.heap.objs.size = some { cls := .type "list", data := .seq #[] } := Heap.get?_push_size _ rfl
  have g1 : ((s.heap.push { cls := .type "list", data := .seq #[] }).update s.heap.objs.size (Obj.mapSeq fun x => #[])).get? s.heap.objs.size = some { cls := .type "list", data := .seq #[] } := Heap.get?_update_self _ hS rfl
  have nS : H s.heap.objs.size = none := I.fresh
  have lt : ∀ {q o}, s.heap.get? q = some o → q ≠ s.heap.objs.size := fun {q o} e z => absurd (Heap.lt_size e) (by rw [z]; exact Nat.lt_irrefl _)
  have I1 := I.lnew (ys := []) (its := []) (t' := s.toks) .nil (Nat.zero_le _)
  have I2 := I1.lset (ys := []) (its' := []) (f := fun x => #[]) (t' := s.toks) upd_same hS rfl .nil (Nat.zero_le _)
  have I3 := I2.lset (ys := [.non]) (its' := [.none]) (f := fun x => x.push .none) (t' := s.toks) upd_same g1 rfl (.cons rfl .nil) (by decide)
  have g3 := Heap.get?_update_self (Obj.mapSeq fun x => x.push .none) g1 rfl
  have I4 := I3.lset (ys := []) (its' := []) (f := fun x => x.pop) (t' := s.toks) upd_same g3 rfl .nil (Nat.zero_le _)
  have up : ∀ {b o}, s.heap.get? b = some o → ((((s.heap.push { cls := .type "list", data := .seq #[] }).update s.heap.objs.size (Obj.mapSeq fun x => #[])).update s.heap.objs.size (Obj.mapSeq fun x => x.push .none)).update s.heap.objs.size (Obj.mapSeq fun x => x.pop)).get? b = some o := fun {b o} hb => by
    rw [Heap.get?_update_ne _ _ _ _ (lt hb), Heap.get?_update_ne _ _ _ _ (lt hb), Heap.get?_update_ne _ _ _ _ (lt hb)]
    exact Heap.get?_push_of_some _ hb
  have hE : Ex H (upd (upd (upd (upd H s.heap.objs.size (HO.lst [])) s.heap.objs.size (HO.lst [])) s.heap.objs.size (HO.lst [V.non])) s.heap.objs.size (HO.lst [])) := fun b o hb => by
    have nb := ne_of_none hb nS
    rw [upd_ne nb, upd_ne nb, upd_ne nb, upd_ne nb]
    exact hb
  have hf : ∀ b ∈ [z, i1], FpOk X pins (upd (upd (upd (upd H s.heap.objs.size (HO.lst [])) s.heap.objs.size (HO.lst [])) s.heap.objs.size (HO.lst [V.non])) s.heap.objs.size (HO.lst [])) b := fun b hb => by
    have nb : b ≠ s.heap.objs.size := by
      simp only [List.mem_cons, List.not_mem_nil, or_false] at hb
      rcases hb with rfl | rfl
      · exact lt hz
      · exact lt hit
    refine ⟨?_, (fp b hb).2⟩
    rw [upd_ne nb, upd_ne nb, upd_ne nb, upd_ne nb]
    exact (fp b hb).1
  have hup : upd (upd (upd (upd H s.heap.objs.size (HO.lst [])) s.heap.objs.size (HO.lst [])) s.heap.objs.size (HO.lst [V.non])) s.heap.objs.size (HO.lst []) s.heap.objs.size = some (HO.lst []) := upd_same
  generalize upd (upd (upd (upd H s.heap.objs.size (HO.lst [])) s.heap.objs.size (HO.lst [])) s.heap.objs.size (HO.lst [V.non])) s.heap.objs.size (HO.lst []) = H4 at I4 hE hf hup
  refine codeAny_builtin F.entry_extend_loop ?_
  rw [Around.under_plain (by rfl) (by rfl)]
  unfold Builtin.«list.extend.loop»
  refine wpAny_bind (zip_stopR hh i1z (up hz) (up hTI) (up hit) (Int.le_refl 0) fun h' k => ?_)
  refine wpAny_pure ?_
  have I5 := I4.turnedL (h' := h') (t' := s.toks) (ch := [z, i1]) (fun b o hb e => k b o (fun z => hb (by simp [z])) (fun z => hb (by simp [z])) e) hf
  exact h _ H4 I5 hE hup
theorem call_list_zip0 {pins : List (Addr × Obj)} {σ : L2.St} {z TI TO i1 g : Addr} {H : Hp} {s : Shared} {Q : Value → Shared → Prop} {E : Value → Shared → Prop} {A : Around} (hh : A.handled = none) (i1z : i1 ≠ z)
    (I : L2.Inv X pins σ H s) (fp : ∀ b ∈ [z, i1], FpOk X pins H b) (hz : IsZip s.heap z TI TO .none) (hTI : IsPair s.heap TI (.ref i1) (.ref g)) (hit : IsRangeIter s.heap i1 0 0 1)
    (h : ∀ (s' : Shared) (H' : Hp) (S : Addr), L2.Inv X pins σ H' s' → Ex H H' → H S = none → H' S = some (.lst []) → Q (.ref S) s') :
    wpAny (model X.prog X.w) A (call (.type "list") [.ref z]) Q E s := by
  obtain ⟨c, tl, hmro⟩ := F.called_list.mro
  have hmade := F.called_list.made
  have hsub := F.called_list.sub
  refine wpAny_call (codeAny_of_tree ?_)
  show wpAny _ _ (callAny (.type "list") _) _ _ _
  refine wpAny_pure ⟨Code.quiet_builtin _ (by decide +kernel), codeAny_builtin F.entry_type_call ?_⟩
  rw [Around.under_plain (weight_type_call_type "list" [.ref z] []) rfl]
  have k1 := F.called_list.notType
  have k2 := F.called_list.canCreate
  have k3 := F.typeCall_list_1 (.ref z)
  repeat (any_goals (first | assumption | wp_step))
  refine codeAny_mono (code_list_new (.ref z) (E := E) (Q₁ := fun obj s₁ => obj = .ref s.heap.objs.size ∧ s₁ = { s with heap := s.heap.push { cls := .type "list", data := .seq #[] } }) ⟨rfl, rfl⟩) ?_
  intro r s₁ hr
  cases r with
  | error e => exact hr
  | ok fl =>
    cases fl with
    | ret obj =>
      obtain ⟨rfl, rfl⟩ := hr
      have hS : (s.heap.push { cls := .type "list", data := .seq #[] }).get? s.heap.objs.size = some { cls := .type "list", data := .seq #[] } := Heap.get?_push_size _ rfl
      have hT : Shared.TypeIs { s with heap := s.heap.push { cls := .type "list", data := .seq #[] } } (.ref s.heap.objs.size) "list" := ⟨_, hS, rfl⟩
      have k4 := F.called_list.init.lookup
      have k5 := F.called_list.init.bind (.ref s.heap.objs.size)
      repeat (any_goals (first | assumption | wp_step))
      let G : Value → Shared → Prop := fun r s₂ => r = .none ∧ ∃ (H' : Hp), L2.Inv X pins σ H' s₂ ∧ Ex H H' ∧ H' s.heap.objs.size = some (.lst [])
      refine codeAny_mono (codeAny_call_builtin (R := wants G E) F.called_list.init.plain F.entry_list_init (check_list_init_1 hT ?_)) ?_
      · have hne : s.heap.objs.size ≠ z := fun e => absurd (Heap.lt_size hz) (by rw [e]; exact Nat.lt_irrefl _)
        have hz2 : IsZip (s.heap.push { cls := .type "list", data := .seq #[] }) z TI TO .none := Heap.get?_push_of_some _ hz
        unfold Builtin.«list.__init__»
        generalize hEW : Builtin.List.listExtendWith = EW
        wp_walk
        subst hEW
        have g1 : ((s.heap.push { cls := .type "list", data := .seq #[] }).update s.heap.objs.size (Obj.mapSeq fun x => #[])).get? s.heap.objs.size = some { cls := .type "list", data := .seq #[] } := Heap.get?_update_self _ hS rfl
        have g2 : IsZip ((s.heap.push { cls := .type "list", data := .seq #[] }).update s.heap.objs.size (Obj.mapSeq fun x => #[])) z TI TO .none := by
          show Heap.get? _ _ = _
          rw [Heap.get?_update_ne _ _ _ _ hne.symm]
          exact hz2
        refine ext_zip g2 g1 hne ?_
        exact zip_run0 (by simp [hh]) i1z I fp hz hTI hit fun s' H' J e hp => ⟨rfl, H', J, e, hp⟩
      · intro r₂ s₂ hr₂
        cases r₂ with
        | error e => exact hr₂
        | ok fl₂ =>
          cases fl₂ with
          | ret r =>
            obtain ⟨rfl, H', J, e, hp⟩ := hr₂
            have nS : H s.heap.objs.size = none := I.fresh
            repeat (any_goals (first | assumption | wp_step))
            exact h _ H' _ J e nS hp
          | _ => exact hr₂.elim
    | _ => exact hr.elim
end
end Vf

/-! A generator that is made and tracked; list(zip(range(0), g)). -/
namespace Vf
open PySem PySem.Spec PyProof.Rows L2 Evl
/-- a generator -/
def GenO (a : Addr) : HO := .ext fun h => ∃ g, h.IsGen a g
theorem genO_ok {P : Program} {w : World} {H : Hp} {h : Heap} {a : Addr} {g : Nat} (hg : h.IsGen a g) : ObjOk P w H h a (GenO a) :=
  ⟨⟨g, hg⟩, (by obtain ⟨o, _, _, ho, _⟩ := hg; exact ⟨o, ho⟩), fun h1 h2 ⟨g, o, nm, qn, ho, r⟩ k => ⟨g, o, nm, qn, k o ho, r⟩⟩
section
variable {X : Cx} {k : Nat} {f C : Addr} {fd : FuncData} {ps : List Str} {sp : SpG} {dvs : List V} {ds : List Value} {x m : Str} {p pos pos' apos : Pos} {o : Expr} {ta : TE}
theorem made_inv {pins : List (Addr × Obj)} {σ : L2.St} {H : Hp} {s s' : Shared} {a : Addr} {g : Nat} (I : L2.Inv X pins σ H s) (h1 : s.heap.objs.size ≤ a) (hg : s'.heap.IsGen a g) (os : s'.os = s.os) (hb : AllBare s'.gens)
    (kp : ∀ b o, s.heap.get? b = some o → s'.heap.get? b = some o) : L2.Inv X pins σ (upd H a (GenO a)) s' ∧ H a = none := by
  have nn : H a = none := I.hok.fresh h1
  have lt : ∀ b ob, s.heap.get? b = some ob → b ≠ a := fun b ob q => Nat.ne_of_lt (Nat.lt_of_lt_of_le (Heap.lt_size q) h1)
  have un : Un (frs X.stack) [] H H s.heap s'.heap := Un.kept kp
  have hok := I.hok.kept kp
  refine ⟨I.call' (ch := []) os ⟨un.keep, un.slot, fun b ob q n hx => ?_, un.there, fun b xs q => ?_, fun b ob y q => ?_, fun b qs q => ?_⟩ (fun b u q => ?_) hb (fun b z => by simp at z), nn⟩
  · rw [upd_ne (lt b ob q)]; exact n
  · rw [upd_ne (ne_of_none q nn)]; exact q
  · rw [upd_ne (ne_of_none q nn)]; exact q
  · exact ⟨#[], by rw [upd_ne (ne_of_none q nn), Array.append_empty]; exact q⟩
  · by_cases hb : b = a
    · subst hb
      rw [upd_same] at q
      cases q
      exact genO_ok hg
    · rw [upd_ne hb] at q
      exact (hok b u q).stay (fun _ _ _ z => z) (fun d z => by rw [upd_ne (ne_of_none z nn)]; exact z) fun d xs z => by rw [upd_ne (ne_of_none z nn)]; exact z
def tMeth0 (C : Addr) (m : Str) (sp : SpG) (dvs : List V) (ta : TE) (t : TA) : TE := fun σ H Q => ta σ H fun x H1 => ∃ a dx fs, x = .ref a ∧ H1 a = some (.ins C dx fs) ∧ fs.lookup m = none ∧
  t σ H1 fun vs H2 => (∃ cont E, sp (x :: (vs ++ dvs)) H2 cont E) ∧ ∀ g, H2 g = none → Q (.ref g) (upd H2 g (GenO g))
/-- o.m(e, ..) of a generator method: what is made -/
theorem pe_meth0 {pl : Sem Bool} {e : Expr} {es : List Expr} {t : TA} (he : PE X o ta) (c : Cls X.K C) (hm : Meth X.K C m f) (F : GFn X.prog X.w X.K X.mg X.base k f fd ps sp) (hr : Room k X.A) (hb : Binds X.K fd ps ds) (hd : Vals dvs ds) (ha : PA X (e :: es) t)
    (hst : starEach (e :: es) X.env = (false, eval e X.env) :: starEach es X.env := by rfl) (hpl : (backTo pos' (starEach es X.env)).any (·.1) = false := by rfl)
    (ht : eval (.Call (.Attribute o m apos) (e :: es) [] pos') X.env = (do
      let ov ← eval o X.env
      standAt apos.atName
      let (f, first) ← holding [ov] (getMethod ov m pl)
      callWith pos' f first (backTo pos' (starEach (e :: es) X.env)) (backToKw pos' (keywordEach [] X.env))) := by rfl) :
    PE X (.Call (.Attribute o m apos) (e :: es) [] pos') (tMeth0 C m sp dvs ta t) := by
  refine ⟨fun pins s σ H Q I h => ?_⟩
  refine PySem.W.methodCall_KW (pl := pl) (thn (he.run pins s σ H _ I h) fun u s1 ⟨x, H1, I1, rx, a, dx, fs, ex, ea, l, q⟩ => ?_) ht
  subst ex
  obtain rfl : u = Value.ref a := rx
  refine getmeth_ok I1 ea c hm l ?_
  refine PySem.W.callWith_K (first := [.ref a]) (h₀ := X.base) I.ok.mod.kin hm.kp (thn (ha.run pos' pins s1 σ H1 _ I1 q) fun us s2 ⟨vs, H2, I2, r, ⟨cont, E, h⟩, q2⟩ => ⟨I2.kIn, ?_⟩) hst hpl
  have r2 : Vals (V.ref a :: (vs ++ dvs)) (Value.ref a :: (us ++ ds)) := .cons rfl (r.append hd)
  have hl2 : (Value.ref a :: (us ++ ds)).length = ps.length := by rw [← r2.length]; exact F.len _ _ _ _ h
  refine wpAny_call (codeAny_mono (F.run X.A X.stack s2 H2 ⟨Value.ref a :: us, []⟩ (Value.ref a :: (us ++ ds)) _ cont E hr I2.env0 (hb s2 (.ref a :: us) I2.kIn hl2) r2 h) fun r s' hq => ?_)
  cases r with
  | error e => exact False.elim hq
  | ok fl =>
    cases fl with
    | ret u =>
      obtain ⟨b, g, c, rfl, h1, h2, hg, hgs, hos, hb, hl, hkp, _⟩ := hq
      obtain ⟨J, nb⟩ := made_inv I2 h1 hg hos hb hkp
      exact ⟨.ref b, _, J, rfl, q2 b nb⟩
    | next => exact False.elim hq
    | brk => exact False.elim hq
    | cont => exact False.elim hq
theorem cr_range1 : CallR X (.type "range") (fun vs H Q => ∃ j, vs = [V.int j] ∧ ∀ p, H p = none → Q (.ref p) (upd H p (.rng 0 j))) := by
  intro pins s σ H vs us Q I r h
  obtain ⟨j, rfl, q⟩ := h
  obtain ⟨u1, rfl, rj⟩ := vals1 r
  obtain ⟨t, rfl⟩ := rj
  refine call_range_1 ⟨.ref s.heap.objs.size, upd H s.heap.objs.size (.rng 0 j), I.laid (t' := s.toks + 1 + 1) (fun b o e => Heap.get?_push_of_some _ e) (Nat.le_refl _) ?_, rfl, q _ (I.hok.fresh (Nat.le_refl _))⟩
  exact ⟨s.toks, t, s.toks + 1, Heap.get?_push_size _ rfl⟩
def tLstZip0 (ta : TA) : TE := fun σ H Q => ta σ H fun vs H1 => ∃ (r g : Addr), vs = [.ref r, .ref g] ∧ H1 r = some (.rng 0 0) ∧ H1 g = some (GenO g) ∧ ∀ (l : Addr) (H2 : Hp), H1 l = none → Ex H1 H2 → H2 l = some (.lst []) → Q (.ref l) H2
theorem pe_listZip0 {e e2 : Expr} {ta : TA} {p p2 pos pos2 : Pos} (hc : X.calm = true) (hg : Gl X "list") (hm : X.mg "list" = none) (hg2 : Gl X "zip") (hm2 : X.mg "zip" = none) (he : PA X [e, e2] ta)
    (hs : starEach [e, e2] X.env = (false, eval e X.env) :: starEach [e2] X.env := by rfl) (hs2 : ((backTo pos2 (starEach [e2] X.env)).any fun x => x.fst) = false := by rfl)
    (hs3 : starEach [Expr.Call (.Name "zip" p2) [e, e2] [] pos2] X.env = [(false, eval (.Call (.Name "zip" p2) [e, e2] [] pos2) X.env)] := by rfl) :
    PE X (.Call (.Name "list" p) [.Call (.Name "zip" p2) [e, e2] [] pos2] [] pos) (tLstZip0 ta) := by
  refine ⟨fun pins s σ H Q I h => Call_Name1 (ld_blt I hg hm (u := .type "list") (by decide +kernel) (PySem.callWith_type1 ?_) (by decide) (by decide)) hs3⟩
  refine Call_Name rfl (ld_blt I hg2 hm2 (u := .type "zip") (by decide +kernel) (PyProof.Rows.callWith_type1 ?_ hs hs2) (by decide) (by decide))
  refine thn (he.run pos2 pins s σ H _ I h) fun us s2 ⟨vs, H1, I1, rv, a, b, hvs, h1, h2, k⟩ => ?_
  subst hvs
  have hus : us = [.ref a, .ref b] := by
    cases rv with
    | cons h1 t =>
      cases t with
      | cons h2 t =>
        cases t
        rw [show _ = Value.ref a from h1, show _ = Value.ref b from h2]
  rw [hus]
  obtain ⟨t, u, v, hr⟩ := I1.hok a _ h1
  obtain ⟨⟨g, hgn⟩, _, _⟩ := I1.hok b _ h2
  refine call_zip_R (r := a) (g := b) (gn := g) (t := t) (u := u) (v := v) hr hgn fun h' g1 g2 g3 g7 => ?_
  have I2 := I1.kept (h' := h') (t' := s2.toks) g7
  have nn : ∀ q, s2.heap.objs.size ≤ q → H1 q = none := fun q hq => I1.hok.fresh hq
  have fo : ∀ q, s2.heap.objs.size ≤ q → FpOk X pins H1 q := fun q hq => I1.fpOk hq (nn q hq)
  refine call_list_zip0 (z := s2.heap.objs.size + 3) (i1 := s2.heap.objs.size) (I.ok.hd hc) (show s2.heap.objs.size ≠ s2.heap.objs.size + 3 by omega) I2 (fun q hq => ?_) g1 g2 g3 (fun s' H' S J e nS hp => ⟨.ref S, H', J, rfl, k S H' nS e hp⟩)
  simp only [List.mem_cons, List.not_mem_nil, or_false] at hq
  rcases hq with rfl | rfl
  · exact fo _ (Nat.le_add_right _ _)
  · exact fo _ (Nat.le_refl _)
end
theorem OexL.noStop {K : PySem.W.Frag} {C : Addr} (T : OexL K C) : PySem.W.subIn K (.ref C) (.type "StopIteration") = some false := by
  obtain ⟨nm, q, N, bs, sn, sub, ab, col, dd, k0, k1, k2, k3, k5, e⟩ := T.cls
  have cl : PySem.W.clsIn K C = some { name := nm, bases := bs, mro := .ref C :: leTail, ns := N, qualname := q, hasDict := true, slotNames := sn, subclasses := sub, abstract := ab, collection := col, hasDel := false } := by
    unfold PySem.W.clsIn
    rw [e]
  show PySem.W.mroIn K C _ = _
  unfold PySem.W.mroIn
  rw [cl]
  rfl
end Vf

namespace K41
open PySem PySem.Spec PyProof.Rows L2 Vf Evl
open Q (TdAt PairsAt)
section
variable {P : Program} {w : World} {K : PySem.W.Frag} {mg : Str → Option Value} {base : Heap} {A : Ad} {H H' : Hp} {a e : Addr} {n : Nat} {ts : List (Int × Int)} {s : RS}
theorem rest_onN (x : LamX.ExtN H H') : LamX.ExtN (rest H a e) (rest H' a e) := fun b o h nt => by
  obtain ⟨h1, h2⟩ := rest_none h
  rw [rest_at h1 h2] at h ⊢
  exact x b o h nt
theorem Behind.onN {R R' : Hp} {tA tdA plA : Addr} {es : List Addr} (x : LamX.ExtN R R') (h : Behind K R tA tdA plA es n ts s) : Behind K R' tA tdA plA es n ts s :=
  ⟨TiesAt.onN x h.ties, (by obtain ⟨ps, b1, b2, b3⟩ := h.tied; exact ⟨ps, exN_l x b1, b2, fun i p hp => exN_l x (b3 i p hp)⟩), exN_l x h.pl, h.len, fun i b y p q => by
    obtain ⟨r, h1, h2⟩ := h.er i b y p q
    exact ⟨r, x _ _ h1 (fun _ z => nomatch z), exN_l x h2⟩⟩
theorem RoomAt.onN (x : LamX.ExtN H H') (h : RoomAt K A H a e n ts s) : RoomAt K A H' a e n ts s := by
  obtain ⟨dx, tA, tdA, plA, es, h1, h2, h3, h4⟩ := h
  exact ⟨dx, tA, tdA, plA, es, x _ _ h1 (fun _ z => nomatch z), h2, x _ _ h3 (fun _ z => nomatch z), h4.onN (rest_onN x)⟩
theorem RoomAt.at_e (h : RoomAt K A H a e n ts s) : ∃ xs, H e = some (.lst xs) := by
  obtain ⟨dx, tA, tdA, plA, es, h1, h2, h3, h4⟩ := h
  exact ⟨_, h3⟩
theorem RoomAt.off (h : RoomAt K A H a e n ts s) {b : Addr} (nb : H b = none) : b ≠ a ∧ b ≠ e := by
  obtain ⟨dx, fs, h1, _⟩ := h.seats
  obtain ⟨xs, h2⟩ := h.at_e
  exact ⟨(ne_of_none h1 nb).symm, (ne_of_none h2 nb).symm⟩
theorem tabs_rest {Tt : List (Addr × Str)} (t : LamX.Tabs Tt H) (h : RoomAt K A H a e n ts s) (x : Ex (rest H a e) (rest H' a e)) : LamX.Tabs Tt H' := fun p hp => by
  obtain ⟨dx, fs, ha, _⟩ := h.seats
  obtain ⟨xs, he⟩ := h.at_e
  obtain ⟨ps, h1, h2, h3⟩ := t p hp
  have up : ∀ {b : Addr} {o : HO}, H b = some o → (∀ C dx fs, o ≠ .ins C dx fs) → (∀ xs, o ≠ .lst xs) → H' b = some o := fun {b o} z n1 n2 => by
    have b1 : b ≠ a := fun y => by rw [y, ha] at z; exact n1 _ _ _ (Option.some.inj z).symm
    have b2 : b ≠ e := fun y => by rw [y, he] at z; exact n2 _ (Option.some.inj z).symm
    exact rest_ex _ _ (x _ _ (by rw [rest_at b1 b2]; exact z))
  refine ⟨ps, up h1 (fun _ _ _ z => nomatch z) (fun _ z => nomatch z), h2, fun pos cv hc => ?_⟩
  obtain ⟨c, e1, e2⟩ := h3 pos cv hc
  exact ⟨c, e1, up e2 (fun _ _ _ z => by unfold LamX.CodeO at z; cases z) (fun _ z => by unfold LamX.CodeO at z; cases z)⟩
/-- list(room.run(..)) comes to a thing that is no call -/
theorem told_run {σ : L2.St} {Q : VK} {tl : TE} {cs : List Int} {x : V} {o : Option Int} {d : PyData} {more : List V} (hσ : σ[0]? = some (some (.ref a))) (hT : LamX.Tabs (tabs A) H) (r : RoomAt K A H a e n ts s) (S : SOk n s) (hn : 3 ≤ n ∧ n ≤ 40)
    (hcs : ∀ c ∈ cs, 1 ≤ c ∧ c ≤ (n : Int)) (hl : cs.length ≤ 100) (k : Kd K (rest H a e) x o) (ok : okI (n : Int) o = false) (dv : DvV K (rest H a e) x d) (el : ∀ H1, LamX.ExtN H H1 → EvL tl σ H1 (cs.map V.int ++ x :: more))
    (q : ∀ H', LamX.ExtN (rest H a e) (rest H' a e) → RoomAt K A H' a e n ts (runS n ts s cs) → LamX.Tabs (tabs A) H' → Q (tellE "call" d) H') :
    LamX.tLam (tabs A) (TCaught K A) (fun E => tListG (tMethG A.c_Room "run" (sr_run K A) [] (fun cls d H => E cls d H ∧ cls = .ref A.c_UnknownCall) (tVar 0) (tCons tl tNil))) σ H Q := by
  refine ⟨hT, fun H1 e1 t1 => ?_⟩
  have r1 := r.onN e1
  obtain ⟨dx, fs, h1, h2⟩ := r1.ins "run" (by decide)
  refine ⟨_, hσ, a, dx, fs, rfl, h1, h2, el H1 e1 H1 (Ex.refl H1) _ fun l H2 nl e2 hl2 => ?_⟩
  have r2 := r1.on e2
  obtain ⟨nla, nle⟩ := r1.off nl
  have x2 : LamX.ExtN (rest H a e) (rest H2 a e) := rest_onN (e1.trans (LamX.ExtN.of e2))
  refine ⟨a, e, l, n, ts, s, cs, x, o, more, rfl, r2, S.pl, hn, .inl (.inl (by rw [rest_at nla nle]; exact hl2)), hcs, hl, Nat.le_trans S.er (by decide), k.onN x2, ok, fun H3 x3 r3 H4 dd e4 nd hd => ⟨?_, rfl⟩⟩
  refine .inl ⟨A.c_UnknownCall, dd, "number", "call", x, d, by simp [errT], rfl, rfl, hd, ((dv.onN (x2.trans (LamX.ExtN.of x3))).on rest_ex).on e4, fun H5 e5 => ?_⟩
  exact q H5 (x2.trans (LamX.ExtN.of (x3.trans (rest_mono (e4.trans e5))))) (r3.on (e4.trans e5)) ((tabs_rest (t1.ext e2) r2 x3).ext (e4.trans e5))
/-- room.call(x) of no call -/
theorem told_call {σ : L2.St} {Q : VK} {tx : TE} {x : V} {o : Option Int} {d : PyData} (hσ : σ[0]? = some (some (.ref a))) (hT : LamX.Tabs (tabs A) H) (r : RoomAt K A H a e n ts s) (k : Kd K H x o) (ok : okI (n : Int) o = false) (dv : DvV K H x d)
    (ex : ∀ H1, LamX.ExtN H H1 → Ev tx σ H1 x) (q : ∀ H', LamX.ExtN H H' → LamX.Tabs (tabs A) H' → Q (tellE "call" d) H') :
    LamX.tLam (tabs A) (TCaught K A) (fun E => tMeth A.c_Room "call" (sr_call K A) [] E (tVar 0) (tCons tx tNil)) σ H Q := by
  refine told_due hT (fun H8 e8 t8 Q8 q8 => ?_) q
  have r8 := r.onN e8
  obtain ⟨dx, fs, h1, h2⟩ := r8.ins "call" (by decide)
  refine ⟨_, hσ, a, dx, fs, rfl, h1, h2, ex H8 e8 H8 (Ex.refl H8) _ fun H9 e9 => ?_⟩
  exact ⟨a, e, n, ts, s, x, o, rfl, r8.on e9, (k.onN e8).on e9, ok, raise_end (by simp [errT]) ((dv.onN e8).on e9) fun H' e' => q8 H' (e9.trans e')⟩
/-- room.round(x), room.round_back(x) of no order -/
theorem told_round {σ : L2.St} {Q : VK} {tx : TE} {x v : V} {t : Option (List (Option Int))} {d : PyData} {m : Str} (hm : (fsR 0 0 0 0 0 0).lookup m = none) (hσ : σ[0]? = some (some (.ref a))) (hT : LamX.Tabs (tabs A) H) (r : RoomAt K A H a e n ts s) (k : KdL K H x t) (er : seE (n : Int) t = some v) (dv : DvV K H v d)
    (ex : ∀ H1, LamX.ExtN H H1 → Ev tx σ H1 x) (q : ∀ H', LamX.ExtN H H' → LamX.Tabs (tabs A) H' → Q (tellE "order" d) H') :
    LamX.tLam (tabs A) (TCaught K A) (fun E => tMeth A.c_Room m (sr_round K A) [] E (tVar 0) (tCons tx tNil)) σ H Q := by
  refine told_due hT (fun H8 e8 t8 Q8 q8 => ?_) q
  have r8 := r.onN e8
  obtain ⟨dx, fs, h1, h2⟩ := r8.ins m hm
  refine ⟨_, hσ, a, dx, fs, rfl, h1, h2, ex H8 e8 H8 (Ex.refl H8) _ fun H9 e9 => ?_⟩
  exact ⟨a, e, n, ts, s, x, rfl, r8.on e9, t, (k.onN e8).on e9, .inl ⟨v, er, raise_end (by simp [errT]) ((dv.onN e8).on e9) fun H' e' => q8 H' (e9.trans e')⟩⟩
theorem ne_nil0 {p r : Addr} {Q : VK} (h1 : H p = some (.lst [])) (h2 : H r = some (.lst [])) (q : Q (.bl false) H) : rNeD K (.ref p) (.ref r) H Q :=
  ⟨_, _, .lst (.inl (.inl h1)) .nil, .lst (.inl (.inl h2)) .nil, by decide +kernel, by decide +kernel, q⟩
end
end K41

namespace K41
open PySem PySem.Spec PyProof.Rows L2 Vf Evl
section
variable {P : Program} {w : World} {K : PySem.W.Frag} {mg : Str → Option Value} {base : Heap} {A : Ad}
theorem notI {n i : Int} (h : ¬ (1 ≤ i ∧ i ≤ n)) : okI n (some i) = false := decide_eq_false h
def sp_l_deeds_right (K : PySem.W.Frag) (A : Ad) : Sp := fun vs H Q _ => ∃ (a b e : Addr) (n : Nat) (ts : List (Int × Int)) (s : RS) (od : List Int), vs = [.ref a, .ref b] ∧ RoomAt K A H a e n ts s ∧ NetOk n ts ∧ n ≤ 8 ∧ SOk n s ∧ rest H a e b = some (.lst (od.map V.int)) ∧ MR.Stn n od ∧ LamX.Tabs (tabs A) H ∧
  ∀ H', LamX.ExtN (rest H a e) (rest H' a e) → RoomAt K A H' a e n ts s → LamX.Tabs (tabs A) H' → Q (.bl true) H'
theorem ok_l_deeds_right (T : Txt K mg A) (TB : Tab base mg A) : FnG P w K mg base CX0 16 A.f_l_deeds_right A.d_l_deeds_right ["_law_room", "_law_order"] (sp_l_deeds_right K A) := by
  have R_Room_call : FnOk P w K mg base (L2.CX P w) 4 A.f_Room_call A.d_Room_call ["self", "number"] (sr_call K A) := rs_Room_call T
  have R_Room_run : GFn P w K mg base 6 A.f_Room_run A.d_Room_run ["self", "calls"] (sr_run K A) := rs_Room_run T
  have R_Room_round : FnOk P w K mg base (L2.CX P w) 5 A.f_Room_round A.d_Room_round ["self", "order"] (sr_round K A) := rs_Room_round T
  have R_Room_round_back : FnOk P w K mg base (L2.CX P w) 5 A.f_Room_round_back A.d_Room_round_back ["self", "order"] (sr_round K A) := rs_Room_round_back T
  have G_Room_undo : FnOk P w K mg base CX0 1 A.f_Room_undo A.d_Room_undo ["self"] (sq_undo K A) := ok_Room_undo T
  have G_Room_changes : FnOk P w K mg base CX0 1 A.f_Room_changes A.d_Room_changes ["self"] (sp_changes K A) := ok_Room_changes T
  have G_Room_len : FnOk P w K mg base CX0 1 A.f_Room_len A.d_Room_len ["self"] (sp_len K A) := ok_Room_len T
  have G_l_shown : FnG P w K mg base CX0 5 A.f_l_shown A.d_l_shown ["_law_room"] (sp_l_shown K A) := ok_l_shown T
  have G_l_bent : FnOk P w K mg base CX0 3 A.f_l_bent A.d_l_bent ["_law_row"] (sp_l_bent K) := ok_l_bent T
  refine okGC T.F_l_deeds_right sc_l_deeds_right (fun vs H Q E h => ?_) (fun A' outer sh H vs Q E hgd hr h => ?_)
  · obtain ⟨a, b, e, n, ts, s, od, rfl, _⟩ := h
    rfl
  · obtain ⟨a, b, e, n, ts, s, od, rfl, r, N, n8, S, hO, O, hT, q⟩ := h
    refine ⟨_, (pss_cons (ps_set (i := 2) sc_l_deeds_right.nd rfl (by first | exact .inl rfl | exact .inr rfl) (pe_callG G_l_shown hgd (hr.mono (by decide)) (by rfl) T.g_l_shown T.F_l_shown.kp T.b_l_shown (pa_cons (pv 0) pa_nil)))
      (pss_cons (ps_for PassesOwn.never rfl (pi_listK (K := K) rfl (pe_lst (pa_cons pe_non (pa_cons pe_bl (pa_cons pe_bl (pa_cons pe_int (pa_cons (pe_un un_neg pe_int) (pa_cons (pe_op op_add (pe_callB (call_lenK (K := K) rfl) (by rfl) T.z_len PySem.boot_len (pa_cons (pv 1) pa_nil)) pe_int) (pa_cons pe_str (pa_cons (pe_lst (pa_cons pe_int pa_nil)) (pa_cons (pe_tup (pa_cons pe_int pa_nil)) (pa_cons pe_dnewK (pa_cons (pe_op op_powW pe_int pe_int) pa_nil))))))))))))) (pg_name (i := 3) sc_l_deeds_right.nd rfl (by first | exact .inl rfl | exact .inr rfl)) (pss_cons (ps_if (PW.pt (pw_or (pt_cmpR op_ne (pe_caught (k := 7) T hgd TB.t_l_deeds_right (mem_l_deeds_right A) TB.u_l_deeds_right (fun _ _ _ _ E _ _ hr => (pe_meth (pv 0) T.cl_Room T.me_call R_Room_call (hr.mono (by decide)) T.b_Room_call .nil (passes_call (takes_of rfl rfl rfl rfl) (fun _ _ _ _ h => h)) (pa_cons (pv 3) pa_nil))) (hr.mono (by decide))) (pe_callB (call_repr_K (K := K) hgd hr) (by rfl) T.z_repr (by decide +kernel) (pa_cons (pe_lst (pa_cons pe_str (pa_cons (pv 3) pa_nil))) pa_nil)) (nomark _)) (pw_or1 (pt_cmpR op_ne (pe_callG G_l_shown hgd (hr.mono (by decide)) (by rfl) T.g_l_shown T.F_l_shown.kp T.b_l_shown (pa_cons (pv 0) pa_nil)) (pv 2) (nomark _))))) (pss_one (ps_ret pe_bl)) pss_nil)
      (pss_cons (ps_if (PW.pt (pw_or (pt_cmpR op_ne (pe_caught (k := 7) T hgd TB.t_l_deeds_right (mem_l_deeds_right A) TB.u_l_deeds_right (fun _ _ _ _ E _ _ hr => (pe_listG (pgen_meth (E := fun cls d H => E cls d H ∧ cls = .ref A.c_UnknownCall) (pv 0) T.cl_Room T.me_run R_Room_run (hr.mono (by decide)) T.b_Room_run .nil (pa_cons (pe_lst (pa_cons (pv 3) (pa_cons pe_int pa_nil))) pa_nil)) (passes_call (takes_of rfl rfl rfl rfl) (fun _ _ _ _ h => h.1)) (fun _ _ _ h => h.2 ▸ T.x_UnknownCall.noStop) (hr.mono (by decide)) (by rfl) T.z_list (by decide +kernel))) (hr.mono (by decide))) (pe_callB (call_repr_K (K := K) hgd hr) (by rfl) T.z_repr (by decide +kernel) (pa_cons (pe_lst (pa_cons pe_str (pa_cons (pv 3) pa_nil))) pa_nil)) (nomark _)) (pw_or1 (pt_cmpR op_ne (pe_callG G_l_shown hgd (hr.mono (by decide)) (by rfl) T.g_l_shown T.F_l_shown.kp T.b_l_shown (pa_cons (pv 0) pa_nil)) (pv 2) (nomark _))))) (pss_one (ps_ret pe_bl)) pss_nil)
      (pss_cons (ps_if (pt_cmpR (op_neD hr.units) (pe_listZip0 rfl (by rfl) T.z_list (by rfl) T.z_zip (pa_cons (pe_callTy cr_range1 (by rfl) T.z_range (by decide +kernel) (pa_cons pe_int pa_nil)) (pa_cons (pe_meth0 (pv 0) T.cl_Room T.me_run R_Room_run (hr.mono (by decide)) T.b_Room_run .nil (pa_cons (pe_lst (pa_cons (pv 3) pa_nil)) pa_nil)) pa_nil))) (pe_lst pa_nil) (nomark _)) (pss_one (ps_ret pe_bl)) pss_nil)
      (pss_cons (ps_par (i := 4) (j := 5) rfl sc_l_deeds_right.nd rfl rfl (by decide) rfl rfl (pa_cons (pe_prop (pv 0) T.cl_Room T.pr_changes G_Room_changes (hr.mono (by decide)) T.b_Room_changes .nil pass0 (by rfl)) (pa_cons (pe_callB (call_lenO G_Room_len (hr.mono (by decide)) T.b_Room_len T.lm_Room T.lt_Room) (by rfl) T.z_len PySem.boot_len (pa_cons (pv 0) pa_nil)) pa_nil)) (by rfl))
      (pss_cons (ps_if (pt_cmpR op_ne (pe_caught (k := 7) T hgd TB.t_l_deeds_right (mem_l_deeds_right A) TB.u_l_deeds_right (fun _ _ _ _ E _ _ hr => (pe_listG (pgen_meth (E := fun cls d H => E cls d H ∧ cls = .ref A.c_UnknownCall) (pv 0) T.cl_Room T.me_run R_Room_run (hr.mono (by decide)) T.b_Room_run .nil (pa_cons (pe_lst (pa_cons (pe_ix (ix_listK (K := K) rfl) (pv 1) pe_int (fun _ _ => rfl)) (pa_cons (pe_ix (ix_listK (K := K) rfl) (pv 1) pe_int (fun _ _ => rfl)) (pa_cons (pv 3) (pa_cons pe_int pa_nil))))) pa_nil)) (passes_call (takes_of rfl rfl rfl rfl) (fun _ _ _ _ h => h.1)) (fun _ _ _ h => h.2 ▸ T.x_UnknownCall.noStop) (hr.mono (by decide)) (by rfl) T.z_list (by decide +kernel))) (hr.mono (by decide))) (pe_callB (call_repr_K (K := K) hgd hr) (by rfl) T.z_repr (by decide +kernel) (pa_cons (pe_lst (pa_cons pe_str (pa_cons (pv 3) pa_nil))) pa_nil)) (nomark _)) (pss_one (ps_ret pe_bl)) pss_nil)
      (pss_cons (ps_if (PW.pt (pw_or (pt_cmpR op_ne (pe_callB (call_lenO G_Room_len (hr.mono (by decide)) T.b_Room_len T.lm_Room T.lt_Room) (by rfl) T.z_len PySem.boot_len (pa_cons (pv 0) pa_nil)) (pe_op op_add (pv 5) pe_int) (nomark _)) (pw_or (pt_cmp (pc_notN (pe_meth0 (pv 0) T.cl_Room T.me_undo G_Room_undo (hr.mono (by decide)) T.b_Room_undo .nil pass0))) (pw_or (pt_cmp (pc_notN (pe_meth0 (pv 0) T.cl_Room T.me_undo G_Room_undo (hr.mono (by decide)) T.b_Room_undo .nil pass0))) (pw_or1 (pt_cmpR op_ne (pe_callG G_l_shown hgd (hr.mono (by decide)) (by rfl) T.g_l_shown T.F_l_shown.kp T.b_l_shown (pa_cons (pv 0) pa_nil)) (pv 2) (nomark _))))))) (pss_one (ps_ret pe_bl)) pss_nil)
      (pss_one (ps_if (pt_cmpR op_ne (pe_prop (pv 0) T.cl_Room T.pr_changes G_Room_changes (hr.mono (by decide)) T.b_Room_changes .nil pass0 (by rfl)) (pv 4) (nomark _)) (pss_one (ps_ret pe_bl)) pss_nil)))))))))
      (pss_cons (ps_for PassesOwn.never rfl (pi_listK (K := K) rfl (pe_call G_l_bent (hr.mono (by decide)) (by rfl) T.g_l_bent T.F_l_bent.kp T.b_l_bent .nil pass0 (pa_cons (pv 1) pa_nil))) (pg_tupK (n := 2) (K := K) rfl rfl (pgs_cons (pg_name (i := 3) sc_l_deeds_right.nd rfl (by first | exact .inl rfl | exact .inr rfl)) (pgs_cons (pg_name (i := 6) sc_l_deeds_right.nd rfl (by first | exact .inl rfl | exact .inr rfl)) pgs_nil))) (pss_cons (ps_if (pt_cmpR op_ne (pe_caught (k := 7) T hgd TB.t_l_deeds_right (mem_l_deeds_right A) TB.u_l_deeds_right (fun _ _ _ _ E _ _ hr => (pe_meth (pv 0) T.cl_Room T.me_round R_Room_round (hr.mono (by decide)) T.b_Room_round .nil (passes_call (takes_of rfl rfl rfl rfl) (fun _ _ _ _ h => h)) (pa_cons (pv 3) pa_nil))) (hr.mono (by decide))) (pe_callB (call_repr_K (K := K) hgd hr) (by rfl) T.z_repr (by decide +kernel) (pa_cons (pe_lst (pa_cons pe_str (pa_cons (pv 6) pa_nil))) pa_nil)) (nomark _)) (pss_one (ps_ret pe_bl)) pss_nil)
      (pss_one (ps_if (pt_cmpR op_ne (pe_caught (k := 7) T hgd TB.t_l_deeds_right (mem_l_deeds_right A) TB.u_l_deeds_right (fun _ _ _ _ E _ _ hr => (pe_meth (pv 0) T.cl_Room T.me_round_back R_Room_round_back (hr.mono (by decide)) T.b_Room_round_back .nil (passes_call (takes_of rfl rfl rfl rfl) (fun _ _ _ _ h => h)) (pa_cons (pv 3) pa_nil))) (hr.mono (by decide))) (pe_callB (call_repr_K (K := K) hgd hr) (by rfl) T.z_repr (by decide +kernel) (pa_cons (pe_lst (pa_cons pe_str (pa_cons (pv 6) pa_nil))) pa_nil)) (nomark _)) (pss_one (ps_ret pe_bl)) pss_nil))))
      (pss_one (ps_ret (pe_cmpR op_eq (pe_callG G_l_shown hgd (hr.mono (by decide)) (by rfl) T.g_l_shown T.F_l_shown.kp T.b_l_shown (pa_cons (pv 0) pa_nil)) (pv 2) (nomark _))))))), ?_⟩
    have n3 := N.lo
    have n40 : 3 ≤ n ∧ n ≤ 40 := ⟨by omega, by omega⟩
    have len := O.len
    -- before = shown
    refine ⟨_, rfl, a, e, n, ts, s, rfl, r, N, S, fun H1 e1 => ?_⟩
    have r1 := r.on e1
    have x1 : LamX.ExtN (rest H a e) (rest H1 a e) := rest_onN (LamX.ExtN.of e1)
    have hO1 := rest_ex _ _ (x1 _ _ hO fun _ z => nomatch z)
    -- wrong calls
    refine ⟨1, rfl, _, rfl, b, _, rfl, .inl (.inl (.inl hO1)), _, _, rfl, rfl, few_le (by decide : 1 < 10), fun l1 nl1 => ?_⟩
    have hm : ((od.map V.int).length : Int) = (n : Int) := by rw [List.length_map, len]
    have g1 : Ex H1 (upd H1 l1 (.lst [.int 1])) := Ex.new nl1
    have hl1 : upd H1 l1 (.lst [.int 1]) l1 = some (.lst [.int 1]) := upd_same
    generalize upd H1 l1 (.lst [.int 1]) = H2 at g1 hl1
    refine ⟨few_le (by decide : 1 < 10), fun u1 nu1 => ?_⟩
    have g2 : Ex H2 (upd H2 u1 (.tup [.int 1])) := Ex.new nu1
    have hu1 : upd H2 u1 (.tup [.int 1]) u1 = some (.tup [.int 1]) := upd_same
    generalize upd H2 u1 (.tup [.int 1]) = H3 at g2 hu1
    refine fun dd nd0 => ?_
    have g3 : Ex H3 (upd H3 dd (.dK [])) := Ex.new nd0
    have hd : upd H3 dd (.dK []) dd = some (.dK []) := upd_same
    generalize upd H3 dd (.dK []) = H4 at g3 hd
    refine ⟨10, 20, rfl, rfl, ⟨by decide, by decide +kernel⟩, by show 11 ≤ sizeLine; rw [sizeLine_eq]; decide, fun pl npl => ?_⟩
    have g4 : Ex H4 (upd H4 pl (.lst [.non, .bl true, .bl false, .int 0, .int (-1), .int (((od.map V.int).length : Int) + 1), .str "1", .ref l1, .ref u1, .ref dd, .int (10 ^ Int.toNat 20)])) := Ex.new npl
    have hpl : upd H4 pl (.lst [.non, .bl true, .bl false, .int 0, .int (-1), .int (((od.map V.int).length : Int) + 1), .str "1", .ref l1, .ref u1, .ref dd, .int (10 ^ Int.toNat 20)]) pl = some (.lst [.non, .bl true, .bl false, .int 0, .int (-1), .int (((od.map V.int).length : Int) + 1), .str "1", .ref l1, .ref u1, .ref dd, .int (10 ^ Int.toNat 20)]) := upd_same
    generalize hxs : ([.non, .bl true, .bl false, .int 0, .int (-1), .int (((od.map V.int).length : Int) + 1), .str "1", .ref l1, .ref u1, .ref dd, .int (10 ^ Int.toNat 20)] : List V) = xs at g4 hpl
    generalize upd H4 pl (.lst xs) = H5 at g4 hpl
    have r5 := r1.on (g1.trans (g2.trans (g3.trans g4)))
    have o1 := r1.off nl1
    have o2 := (r1.on g1).off nu1
    have o3 := (r1.on (g1.trans g2)).off nd0
    have o4 := (r1.on (g1.trans (g2.trans g3))).off npl
    have bads : ∀ x ∈ xs, ∃ o d, Kd K (rest H5 a e) x o ∧ okI (n : Int) o = false ∧ DvV K (rest H5 a e) x d := fun x hx => by
      rw [← hxs] at hx
      simp only [List.mem_cons, List.not_mem_nil, or_false] at hx
      rcases hx with rfl | rfl | rfl | rfl | rfl | rfl | rfl | rfl | rfl | rfl | rfl
      · exact ⟨none, _, ⟨"NoneType", rfl, .base .non⟩, rfl, .of .non dn_none (by decide) (by decide)⟩
      · exact ⟨none, _, ⟨"bool", rfl, .base (.bl _)⟩, rfl, .of (.bl _) (.bool _) (by decide) (by decide)⟩
      · exact ⟨none, _, ⟨"bool", rfl, .base (.bl _)⟩, rfl, .of (.bl _) (.bool _) (by decide) (by decide)⟩
      · exact ⟨some 0, _, rfl, notI (by omega), .of (.int _) (.int (by decide) (by decide)) (by decide) (by decide)⟩
      · exact ⟨some (-1), _, rfl, notI (by omega), .of (.int _) dn_neg (by decide) (by decide)⟩
      · exact ⟨some (((od.map V.int).length : Int) + 1), _, rfl, notI (by omega), .of (.int _) (.int (by omega) (by omega)) (by decide) (by decide)⟩
      · exact ⟨none, _, ⟨"str", rfl, .base (.str _)⟩, rfl, .of (.str _) (dn_str (by decide +kernel) (by decide +kernel)) (by decide) (by decide)⟩
      · have h : rest H5 a e l1 = some (.lst [.int 1]) := by rw [rest_at o1.1 o1.2]; exact (g2.trans (g3.trans g4)) _ _ hl1
        exact ⟨none, _, ⟨"list", rfl, .base (.lst h)⟩, rfl, .of (dp_ints (ns := [1]) (.inl (.inl h))) (dn_ints fun x hx => by simp at hx; omega) (by decide) (by decide)⟩
      · have h : rest H5 a e u1 = some (.tup [.int 1]) := by rw [rest_at o2.1 o2.2]; exact (g3.trans g4) _ _ hu1
        exact ⟨none, _, ⟨"tuple", rfl, .base (.tup h)⟩, rfl, .of (.tup (.inl (.inl h)) (.cons (.int 1) .nil)) (Dn.tuple (ds := [.int 1]) (len := 10) (dep := 0) (fun d z => by rw [List.mem_singleton.mp z]; exact .int (by decide) (by decide))) (by decide) (by decide)⟩
      · have h : rest H5 a e dd = some (.dK []) := by rw [rest_at o3.1 o3.2]; exact g4 _ _ hd
        exact ⟨none, _, ⟨"dict", rfl, .base (.dK h)⟩, rfl, .inr ⟨dd, rfl, h, rfl⟩⟩
      · exact ⟨some (10 ^ Int.toNat 20), _, rfl, notI (fun z => by
          have e : (10 : Int) ^ Int.toNat 20 = 100000000000000000000 := by decide
          rw [e] at z
          omega), .of (.int _) (.intW (by decide +kernel) (by decide +kernel)) (by decide) (by decide)⟩
    have hpl : rest H5 a e pl = some (.lst xs) := by rw [rest_at o4.1 o4.2]; exact hpl
    have x5 : LamX.ExtN (rest H a e) (rest H5 a e) := x1.trans (rest_onN (LamX.ExtN.of (g1.trans (g2.trans (g3.trans g4)))))
    have t5 := hT.ext (e1.trans (g1.trans (g2.trans (g3.trans g4))))
    clear hxs hl1 hu1 hd g1 g2 g3 g4 o1 o2 o3 o4 r1 hO1 x1 e1
    refine ⟨pl, rfl, ⟨_, .inl (.inl (rest_ex _ _ hpl))⟩, for_list (xs := xs) (fun i σ' H' => (∃ y3 y4 y5, σ' = [some (.ref a), some (.ref b), some (shV n ts s), y3, y4, y5, none]) ∧ LamX.ExtN (rest H5 a e) (rest H' a e) ∧ RoomAt K A H' a e n ts s ∧ LamX.Tabs (tabs A) H') ⟨⟨_, _, _, rfl⟩, LamX.ExtN.refl _, r5, t5⟩
      (fun i σ' H' _ P => .inl (.inl (rest_ex _ _ (P.2.1 _ _ hpl fun _ z => nomatch z)))) (fun i bad σ' H' hx P => ?_) fun σ' H' P => ?_⟩
    · obtain ⟨⟨y3, y4, y5, rfl⟩, eP, rP, tP⟩ := P
      obtain ⟨o, d, k, ok, dv⟩ := bads bad (List.mem_of_getElem? hx)
      have hO' : rest H' a e b = some (.lst (od.map V.int)) := eP _ _ (x5 _ _ hO fun _ z => nomatch z) fun _ z => nomatch z
      have k := k.onN eP
      have dv := dv.onN eP
      clear bads hpl
      dsimp only [gName]
      -- call
      refine told_call rfl tP rP (k.on rest_ex) ok (dv.on rest_ex) (fun _ _ => ev_var rfl) fun H6 e6 t6 => ?_
      refine ev_tell (ev_var rfl) (by decide +kernel) ((dv.on rest_ex).onN e6) H6 (Ex.refl H6) _ fun H7 e7 => ⟨rfl, false, by rw [decide_eq_true rfl]; rfl, iteF ?_⟩
      have e67 := e6.trans (LamX.ExtN.of e7)
      have r7 := rP.onN e67
      have t7 := t6.ext e7
      refine ⟨_, rfl, a, e, n, ts, s, rfl, r7, N, S, fun H8 e8 => ⟨_, rfl, rfl, false, by rw [decide_eq_true rfl]; rfl, iteF ?_⟩⟩
      have r8 := r7.on e8
      have t8 := t7.ext e8
      have x8 : LamX.ExtN (rest H' a e) (rest H8 a e) := rest_onN (e67.trans (LamX.ExtN.of e8))
      -- a run that comes to it at once
      have k8 := k.onN x8
      have dv8 := dv.onN x8
      refine told_run (cs := []) (more := [.int 1]) rfl t8 r8 S n40 (fun _ z => nomatch z) (by decide) k8 ok dv8 (fun _ _ => el_lst (ea_cons (ev_var rfl) (ea_cons ev_c ea_nil)) (by show 2 ≤ 100000; decide)) fun H9 x9 r9 t9 => ?_
      refine ev_tell (ev_var rfl) (by decide +kernel) ((dv8.onN x9).on rest_ex) H9 (Ex.refl H9) _ fun HA eA => ⟨rfl, false, by rw [decide_eq_true rfl]; rfl, iteF ?_⟩
      have rA := r9.on eA
      have tA := t9.ext eA
      refine ⟨_, rfl, a, e, n, ts, s, rfl, rA, N, S, fun HB eB => ⟨_, rfl, rfl, false, by rw [decide_eq_true rfl]; rfl, iteF ?_⟩⟩
      have rB := rA.on eB
      have tB := tA.ext eB
      have xB : LamX.ExtN (rest H' a e) (rest HB a e) := (x8.trans x9).trans (rest_onN (LamX.ExtN.of (eA.trans eB)))
      have rB : RoomAt K A HB a e n ts s := rB
      have kB := k.onN xB
      -- list(zip(range(0), room.run([bad]))) != []
      refine ⟨0, rfl, fun rg nrg => ?_⟩
      have f1 : Ex HB (upd HB rg (.rng 0 0)) := Ex.new nrg
      have hrg : upd HB rg (.rng 0 0) rg = some (.rng 0 0) := upd_same
      generalize upd HB rg (.rng 0 0) = HC at f1 hrg
      obtain ⟨dx, fs, h1, h2⟩ := (rB.on f1).ins "run" (by decide)
      refine ⟨_, rfl, a, dx, fs, rfl, h1, h2, _, rfl, few_le (by decide : 1 < 10), fun l nl => ?_⟩
      have f2 : Ex HC (upd HC l (.lst [bad])) := Ex.new nl
      have hl : upd HC l (.lst [bad]) l = some (.lst [bad]) := upd_same
      obtain ⟨nla, nle⟩ := (rB.on f1).off nl
      generalize upd HC l (.lst [bad]) = HD at f2 hl
      have f12 := f1.trans f2
      refine ⟨⟨fun _ _ => True, fun _ _ _ => True, a, e, l, n, ts, s, [], bad, o, [], rfl, rB.on f12, S.pl, n40, .inl (.inl (by rw [rest_at nla nle]; exact hl)), (fun _ z => nomatch z), by decide, Nat.le_trans S.er (by decide), kB.on (rest_mono f12), ok, fun _ _ _ _ _ _ _ _ => trivial⟩, fun g ng => ?_⟩
      have f3 : Ex HD (upd HD g (GenO g)) := Ex.new ng
      refine ⟨rg, g, rfl, (f2.trans f3) _ _ hrg, upd_same, fun L HE nL f4 hL => ⟨few_le (by decide : 0 < 10), fun p np => ne_nil0 ((Ex.new np) _ _ hL) upd_same ⟨false, rfl, iteF ?_⟩⟩⟩
      have f5 : Ex HE (upd HE p (.lst [])) := Ex.new np
      have eF : Ex HB (upd HE p (.lst [])) := f12.trans (f3.trans (f4.trans f5))
      generalize upd HE p (.lst []) = HF at eF
      clear f1 f2 f3 f4 f5 f12 hrg hl hL nla nle nrg nl ng nL np h1 h2
      have rF := rB.on eF
      have tF := tB.ext eF
      have xF : LamX.ExtN (rest H' a e) (rest HF a e) := xB.trans (rest_onN (LamX.ExtN.of eF))
      -- changes, deeds
      obtain ⟨dx, fs, h1, _⟩ := rF.seats
      refine ⟨_, rfl, a, dx, fs, rfl, h1, a, e, n, ts, s, rfl, rF, fun HG eG => ?_⟩
      refine ⟨_, rfl, a, dx, fs, rfl, eG _ _ h1, a, e, n, ts, s, rfl, rF.on eG, fun HI eI => ⟨s.er.length, rfl, by have := S.er; omega, ?_⟩⟩
      have rI := (rF.on eG).on eI
      have tI := (tF.ext eG).ext eI
      have xI : LamX.ExtN (rest H' a e) (rest HI a e) := xF.trans (rest_onN (LamX.ExtN.of (eG.trans eI)))
      clear h1
      refine ⟨_, _, rfl, ?_⟩
      -- a run that comes to it behind two calls
      have hOI : rest HI a e b = some (.lst (od.map V.int)) := xI _ _ hO' fun _ z => nomatch z
      have y0 : od[0]? = some od[0] := List.getElem?_eq_getElem (by omega)
      have y1 : od[1]? = some od[1] := List.getElem?_eq_getElem (by omega)
      have z0 : (od.map V.int)[0]? = some (V.int od[0]) := by rw [List.getElem?_map, y0]; rfl
      have z1 : (od.map V.int)[1]? = some (V.int od[1]) := by rw [List.getElem?_map, y1]; rfl
      have m0 := O.lo _ (List.mem_of_getElem? y0)
      have m1 := O.lo _ (List.mem_of_getElem? y1)
      generalize od[0] = c0 at z0 m0
      generalize od[1] = c1 at z1 m1
      clear y0 y1
      have kI := k.onN xI
      have dvI := dv.onN xI
      refine told_run (cs := [c0, c1]) (more := [.int 1]) rfl tI rI S n40 (fun c hc => ?_) (by show 2 ≤ 100; decide) kI ok dvI (fun HJ eJ => ?_) fun HJ xJ rJ tJ => ?_
      · simp only [List.mem_cons, List.not_mem_nil, or_false] at hc
        rcases hc with rfl | rfl
        · exact m0
        · exact m1
      · have hSJ : SqL K HJ b (od.map V.int) := exN_l eJ (.inl (.inl (rest_ex _ _ hOI)))
        exact el_lst (ea_cons (ev_op (ev_var rfl) ev_c (rv_ixL hSJ (atI_nat z0))) (ea_cons (ev_op (ev_var rfl) ev_c (rv_ixL hSJ (atI_nat z1))) (ea_cons (ev_var rfl) (ea_cons ev_c ea_nil)))) (by show 4 ≤ 100000; decide)
      refine ev_tell (ev_var rfl) (by decide +kernel) ((dvI.onN xJ).on rest_ex) HJ (Ex.refl HJ) _ fun HK eK => ⟨rfl, false, by rw [decide_eq_true rfl]; rfl, iteF ?_⟩
      have rK := rJ.on eK
      have tK := tJ.ext eK
      have xK : LamX.ExtN (rest H' a e) (rest HK a e) := (xI.trans xJ).trans (rest_onN (LamX.ExtN.of eK))
      have hlen : ((runS n ts s [c0, c1]).er.length : Int) = (s.er.length : Int) + 2 := by rw [runS_len]; rfl
      have Ser := S.er
      obtain ⟨dx, fs, h1, _⟩ := rK.seats
      refine ⟨_, rfl, a, dx, fs, rfl, h1, a, e, n, ts, _, rfl, rK, fun HL eL => ⟨(runS n ts s [c0, c1]).er.length, rfl, by omega, _, rfl, _, _, rfl, rfl, rfl, false, by rw [hlen, decide_eq_true rfl]; rfl, iteF ?_⟩⟩
      have rL := rK.on eL
      have tL := tK.ext eL
      clear h1
      obtain ⟨dx, fs, h1, h2⟩ := rL.ins "undo" (by decide)
      refine ⟨_, rfl, a, dx, fs, rfl, h1, h2, a, e, n, ts, _, mkS n ts s [c0], rfl, rL, rfl, ?_, fun HM xM rM => ⟨false, rfl, iteF ?_⟩⟩
      · show (s.er ++ [(s.pl, s.ch)]).length ≤ 10000
        rw [List.length_append]
        show _ + 1 ≤ _
        omega
      have tM := tabs_rest tL rL xM
      clear h1 h2
      obtain ⟨dx, fs, h1, h2⟩ := rM.ins "undo" (by decide)
      refine ⟨_, rfl, a, dx, fs, rfl, h1, h2, a, e, n, ts, _, s, rfl, rM, rfl, by omega, fun HN xN rN => ⟨false, rfl, iteF ?_⟩⟩
      have tN := tabs_rest tM rM xN
      have xN' : LamX.ExtN (rest H' a e) (rest HN a e) := ((xK.trans (rest_onN (LamX.ExtN.of eL))).trans (LamX.ExtN.of xM)).trans (LamX.ExtN.of xN)
      clear h1 h2
      refine ⟨_, rfl, a, e, n, ts, s, rfl, rN, N, S, fun HO eO => ⟨_, rfl, rfl, false, by rw [decide_eq_true rfl]; rfl, iteF ?_⟩⟩
      obtain ⟨dx, fs, h1, _⟩ := (rN.on eO).seats
      refine ⟨_, rfl, a, dx, fs, rfl, h1, a, e, n, ts, s, rfl, rN.on eO, fun HP eP' => ⟨_, rfl, rfl, false, by rw [decide_eq_true rfl]; rfl, iteF ⟨⟨_, _, _, rfl⟩, ?_, (rN.on eO).on eP', (tN.ext eO).ext eP'⟩⟩⟩
      exact (eP.trans xN').trans (rest_onN (LamX.ExtN.of (eO.trans eP')))
    · obtain ⟨⟨y3, y4, y5, rfl⟩, eP, rP, tP⟩ := P
      clear bads hpl
      have xQ : LamX.ExtN (rest H a e) (rest H' a e) := x5.trans eP
      have hO' : rest H' a e b = some (.lst (od.map V.int)) := xQ _ _ hO fun _ z => nomatch z
      -- wrong orders
      refine ⟨_, rfl, b, od, rfl, rest_ex _ _ hO', by omega, by omega, by rw [len]; exact O.lo, O.nd, fun p HF np eF LF => ?_⟩
      obtain ⟨ps, p1, p2, p3⟩ := LF
      rw [len] at p3
      have rF := rP.on eF
      have tF := tP.ext eF
      refine ⟨p, rfl, ⟨_, .inl (.inl p1)⟩, for_list (xs := ps.map V.ref) (fun i σ' H7 => (∃ y3 y4 y5 y6, σ' = [some (.ref a), some (.ref b), some (shV n ts s), y3, y4, y5, y6]) ∧ LamX.ExtN HF H7 ∧ LamX.Tabs (tabs A) H7) ⟨⟨_, _, _, _, rfl⟩, LamX.ExtN.refl _, tF⟩
        (fun i σ' H7 _ P => .inl (.inl (P.2.1 _ _ p1 fun _ z => nomatch z))) (fun i x σ' H7 hx P => ?_) fun σ' H7 P => ?_⟩
      · obtain ⟨⟨y3, y4, y5, y6, rfl⟩, e7, t7⟩ := P
        obtain ⟨l, hl, rfl⟩ := map_at hx
        obtain ⟨bad, v, t, k1, k2, k3, k4⟩ := (p3 l (List.mem_of_getElem? hl)).onN e7
        refine ⟨l, _, rfl, .inl (.inl k1), rfl, _, _, rfl, _, _, rfl, rfl, ?_⟩
        obtain ⟨d, dv⟩ := IxV.dv (K := K) (H := H7) k4
        have r7 := rF.onN e7
        refine told_round (by decide) rfl t7 r7 k2 k3 dv (fun _ _ => ev_var rfl) fun H8 e8 t8 => ?_
        refine ev_tell (ev_var rfl) (by decide +kernel) (dv.onN e8) H8 (Ex.refl H8) _ fun H9 e9 => ⟨rfl, false, by rw [decide_eq_true rfl]; rfl, iteF ?_⟩
        have e79 := e8.trans (LamX.ExtN.of e9)
        refine told_round (by decide) rfl (t8.ext e9) (r7.onN e79) (k2.onN e79) k3 (dv.onN e79) (fun _ _ => ev_var rfl) fun HA eA tA => ?_
        refine ev_tell (ev_var rfl) (by decide +kernel) ((dv.onN e79).onN eA) HA (Ex.refl HA) _ fun HB eB => ⟨rfl, false, by rw [decide_eq_true rfl]; rfl, iteF ⟨⟨_, _, _, _, rfl⟩, e7.trans (e79.trans (eA.trans (LamX.ExtN.of eB))), tA.ext eB⟩⟩
      · obtain ⟨⟨y3, y4, y5, y6, rfl⟩, e7, t7⟩ := P
        have r7 := rF.onN e7
        refine ⟨_, rfl, a, e, n, ts, s, rfl, r7, N, S, fun H8 e8 => ⟨_, rfl, rfl, ?_⟩⟩
        show Q (.bl (decide (shV n ts s = shV n ts s))) H8
        rw [decide_eq_true rfl]
        exact q H8 (xQ.trans (rest_onN (((LamX.ExtN.of eF).trans e7).trans (LamX.ExtN.of e8)))) (r7.on e8) (t7.ext e8)
end
end K41

namespace K41
open PySem PySem.Spec PyProof.Rows L2 Vf Evl
section
variable {P : Program} {w : World} {K : PySem.W.Frag} {mg : Str → Option Value} {base : Heap} {A : Ad}
theorem told_undo {σ : L2.St} {H : Hp} {Q : VK} {j : Nat} {a e : Addr} {n : Nat} {ts : List (Int × Int)} {s : RS} (hσ : σ[j]? = some (some (.ref a))) (hT : LamX.Tabs (tabs A) H) (r : RoomAt K A H a e n ts s) (hs : s.er = []) (q : ∀ H', LamX.ExtN H H' → LamX.Tabs (tabs A) H' → Q (.str "nothing") H') :
    LamX.tLam (tabs A) (TCaught K A) (fun E => tMeth A.c_Room "undo" (sr_undo K A) [] E (tVar j) tNil) σ H Q := by
  refine told_due (tell := .str "nothing") hT (fun H8 e8 t8 Q8 q8 => ?_) q
  have r8 := r.onN e8
  obtain ⟨dx, fs, h1, h2⟩ := r8.ins "undo" (by decide)
  exact ⟨_, hσ, a, dx, fs, rfl, h1, h2, a, e, n, ts, s, rfl, r8, hs, .inr ⟨rfl, rfl, fun H' e' => q8 H' e'⟩⟩
theorem SOk.mkS {n : Nat} {ts : List (Int × Int)} {s : RS} {cs : List Int} (S : SOk n s) (hn : 2 ≤ n) (hc : ∀ c ∈ cs, 1 ≤ c ∧ c ≤ (n : Int)) (h1 : s.ch ≤ 900000) (h2 : s.er.length ≤ 900) (hl : cs.length ≤ 100) : SOk n (mkS n ts s cs) := by
  have z := chP_nn (MR.tdF ts) (MR.pairsF n cs) s.pl
  have plen : (MR.pairsF n cs).length = cs.length := by unfold MR.pairsF; rw [List.length_map]
  rw [plen] at z
  have lo := S.lo
  refine ⟨MR.run_plc S.pl (MR.pairs_ok hn hc), ?_, ?_, ?_⟩
  · show 0 ≤ s.ch + chP _ _ _
    omega
  · show s.ch + chP _ _ _ ≤ 1000000
    omega
  · show (s.er ++ [(s.pl, s.ch)]).length ≤ 1000
    rw [List.length_append]
    show _ + 1 ≤ _
    omega
theorem mkS_ch {n : Nat} {ts : List (Int × Int)} {s : RS} {cs : List Int} : (mkS n ts s cs).ch ≤ s.ch + cs.length := by
  have z := chP_nn (MR.tdF ts) (MR.pairsF n cs) s.pl
  have plen : (MR.pairsF n cs).length = cs.length := by unfold MR.pairsF; rw [List.length_map]
  rw [plen] at z
  show s.ch + chP _ _ _ ≤ _
  omega
/-- [list of numbers, i, j], as it is shown -/
theorem shv_three {H : Hp} {p q : Addr} {ns : List Int} {i j : Int} (hp : H p = some (.lst [.ref q, .int i, .int j])) (hq : SqL K H q (ns.map V.int)) (hn : ∀ x ∈ ns, 0 ≤ x ∧ x < 10 ^ 10) (hl : ns.length ≤ 100) (hi : 0 ≤ i ∧ i < 10 ^ 10) (hj : 0 ≤ j ∧ j < 10 ^ 10) : ShV K H (.ref p) (.list [dInts ns, .int i, .int j]) := by
  have D : Dn (.list [dInts ns, .int i, .int j]) ((2000 + 2) * 3 + 2) 2 := Dn.list fun d hd => by
    simp only [List.mem_cons, List.not_mem_nil, or_false] at hd
    rcases hd with rfl | rfl | rfl
    · exact (dn_ints hn).mono (by omega) (by decide)
    · exact (Dn.int hi.1 hi.2).mono (by decide) (by decide)
    · exact (Dn.int hj.1 hj.2).mono (by decide) (by decide)
  exact .inl ⟨p, rfl, .lst (.inl (.inl hp)) (.cons (dp_ints hq) (.cons (.int _) (.cons (.int _) .nil))), D.show_, D.dict_, Nat.le_trans D.dep_ (by decide), Nat.le_trans D.len_ (by rw [sizeLine_eq]; decide)⟩
def sp_l_right (K : PySem.W.Frag) (A : Ad) : Sp := fun vs H Q _ => ∃ (t b c : Addr) (ts : List (Int × Int)) (n : Nat) (st od : List Int), vs = [.int (n : Int), .ref t, .ref b, .ref c] ∧ TiesAt K H t ts ∧ NetOk n ts ∧ n ≤ 8 ∧ H b = some (.lst (st.map V.int)) ∧ MR.Stn n st ∧ H c = some (.lst (od.map V.int)) ∧ MR.Stn n od ∧ LamX.Tabs (tabs A) H ∧
  ∀ H', LamX.ExtN H H' → LamX.Tabs (tabs A) H' → Q (.bl true) H'
theorem ok_l_right (T : Txt K mg A) (TB : Tab base mg A) : FnG P w K mg base CX0 17 A.f_l_right A.d_l_right ["_law_seats", "_law_ties", "_law_standing", "_law_order"] (sp_l_right K A) := by
  have G_Room_init : FnOk P w K mg base CX0 7 A.f_Room_init A.d_Room_init ["self", "seats", "ties", "standing"] (sq_init K A) := ok_Room_init T
  have R_Room_undo : FnOk P w K mg base (L2.CX P w) 1 A.f_Room_undo A.d_Room_undo ["self"] (sr_undo K A) := rs_Room_undo T
  have G_Room_undo : FnOk P w K mg base CX0 1 A.f_Room_undo A.d_Room_undo ["self"] (sq_undo K A) := ok_Room_undo T
  have G_Room_round : FnOk P w K mg base CX0 5 A.f_Room_round A.d_Room_round ["self", "order"] (sq_round K A) := ok_Room_round T
  have G_Room_call : FnOk P w K mg base CX0 4 A.f_Room_call A.d_Room_call ["self", "number"] (sq_call K A) := ok_Room_call T
  have G_Room_changes : FnOk P w K mg base CX0 1 A.f_Room_changes A.d_Room_changes ["self"] (sp_changes K A) := ok_Room_changes T
  have G_Room_standing : FnOk P w K mg base CX0 3 A.f_Room_standing A.d_Room_standing ["self"] (sp_standing K A) := ok_Room_standing T
  have G_Room_len : FnOk P w K mg base CX0 1 A.f_Room_len A.d_Room_len ["self"] (sp_len K A) := ok_Room_len T
  have G_l_shown : FnG P w K mg base CX0 5 A.f_l_shown A.d_l_shown ["_law_room"] (sp_l_shown K A) := ok_l_shown T
  have G_l_deeds_right : FnG P w K mg base CX0 16 A.f_l_deeds_right A.d_l_deeds_right ["_law_room", "_law_order"] (sp_l_deeds_right K A) := ok_l_deeds_right T TB
  refine okGC T.F_l_right sc_l_right (fun vs H Q E h => ?_) (fun A' outer sh H vs Q E hgd hr h => ?_)
  · obtain ⟨t, b, c, ts, n, st, od, rfl, _⟩ := h
    rfl
  · obtain ⟨t, b, c, ts, n, st, od, rfl, hT, N, n8, hB, S, hC, O, hTb, q⟩ := h
    refine ⟨_, (pss_cons (ps_set (i := 4) sc_l_right.nd rfl (by first | exact .inl rfl | exact .inr rfl) (pe_make T.mk_Room G_Room_init (hr.mono (by decide)) (by rfl) T.r_Room T.b_Room_init .nil pass0 (pa_cons (pv 0) (pa_cons (pv 1) (pa_cons (pv 2) pa_nil)))))
      (pss_cons (ps_if (PW.pt (pw_or (pt_not (pt_val (pe_callG G_l_deeds_right hgd (hr.mono (by decide)) (by rfl) T.g_l_deeds_right T.F_l_deeds_right.kp T.b_l_deeds_right (pa_cons (pv 4) (pa_cons (pv 3) pa_nil))))) (pw_or1 (pt_cmpR op_ne (pe_caught (k := 7) T hgd TB.t_l_right (mem_l_right A) TB.u_l_right (fun _ _ _ _ E _ _ hr => (pe_meth0 (pv 4) T.cl_Room T.me_undo R_Room_undo (hr.mono (by decide)) T.b_Room_undo .nil (passes_call (takes_of rfl rfl rfl rfl) (fun _ _ _ _ h => h)))) (hr.mono (by decide))) pe_str (nomark _))))) (pss_one (ps_ret pe_bl)) pss_nil)
      (pss_cons (ps_expr (pe_meth (pv 4) T.cl_Room T.me_round G_Room_round (hr.mono (by decide)) T.b_Room_round .nil pass0 (pa_cons (pv 3) pa_nil)))
      (pss_cons (ps_set (i := 5) sc_l_right.nd rfl (by first | exact .inl rfl | exact .inr rfl) (pe_callG G_l_shown hgd (hr.mono (by decide)) (by rfl) T.g_l_shown T.F_l_shown.kp T.b_l_shown (pa_cons (pv 4) pa_nil)))
      (pss_cons (ps_if (pt_not (pt_val (pe_callG G_l_deeds_right hgd (hr.mono (by decide)) (by rfl) T.g_l_deeds_right T.F_l_deeds_right.kp T.b_l_deeds_right (pa_cons (pv 4) (pa_cons (pv 3) pa_nil))))) (pss_one (ps_ret pe_bl)) pss_nil)
      (pss_cons (ps_expr (pe_meth (pv 4) T.cl_Room T.me_call G_Room_call (hr.mono (by decide)) T.b_Room_call .nil pass0 (pa_cons (pe_ix (ix_listK (K := K) rfl) (pv 3) (pe_un un_neg pe_int) (fun _ _ => rfl)) pa_nil)))
      (pss_cons (ps_if (PW.pt (pw_or (pt_not (pt_val (pe_callG G_l_deeds_right hgd (hr.mono (by decide)) (by rfl) T.g_l_deeds_right T.F_l_deeds_right.kp T.b_l_deeds_right (pa_cons (pv 4) (pa_cons (pv 3) pa_nil))))) (pw_or (pt_cmp (pc_notN (pe_meth0 (pv 4) T.cl_Room T.me_undo G_Room_undo (hr.mono (by decide)) T.b_Room_undo .nil pass0))) (pw_or1 (pt_cmpR op_ne (pe_callG G_l_shown hgd (hr.mono (by decide)) (by rfl) T.g_l_shown T.F_l_shown.kp T.b_l_shown (pa_cons (pv 4) pa_nil)) (pv 5) (nomark _)))))) (pss_one (ps_ret pe_bl)) pss_nil)
      (pss_cons (ps_if (PW.pt (pw_or (pt_cmp (pc_notN (pe_meth0 (pv 4) T.cl_Room T.me_undo G_Room_undo (hr.mono (by decide)) T.b_Room_undo .nil pass0))) (pw_or1 (pt_cmpR op_ne (pe_callB (call_repr_K (K := K) hgd hr) (by rfl) T.z_repr (by decide +kernel) (pa_cons (pe_lst (pa_cons (pe_prop (pv 4) T.cl_Room T.pr_standing G_Room_standing (hr.mono (by decide)) T.b_Room_standing .nil pass0 (by rfl)) (pa_cons (pe_callB (call_lenO G_Room_len (hr.mono (by decide)) T.b_Room_len T.lm_Room T.lt_Room) (by rfl) T.z_len PySem.boot_len (pa_cons (pv 4) pa_nil)) (pa_cons (pe_prop (pv 4) T.cl_Room T.pr_changes G_Room_changes (hr.mono (by decide)) T.b_Room_changes .nil pass0 (by rfl)) pa_nil)))) pa_nil)) (pe_callB (call_repr_K (K := K) hgd hr) (by rfl) T.z_repr (by decide +kernel) (pa_cons (pe_lst (pa_cons (pv 2) (pa_cons pe_int (pa_cons pe_int pa_nil)))) pa_nil)) (nomark _))))) (pss_one (ps_ret pe_bl)) pss_nil)
      (pss_one (ps_ret (pe_and (pe_cmpR op_eq (pe_caught (k := 7) T hgd TB.t_l_right (mem_l_right A) TB.u_l_right (fun _ _ _ _ E _ _ hr => (pe_meth0 (pv 4) T.cl_Room T.me_undo R_Room_undo (hr.mono (by decide)) T.b_Room_undo .nil (passes_call (takes_of rfl rfl rfl rfl) (fun _ _ _ _ h => h)))) (hr.mono (by decide))) pe_str (nomark _)) (pe_one (pe_callG G_l_deeds_right hgd (hr.mono (by decide)) (by rfl) T.g_l_deeds_right T.F_l_deeds_right.kp T.b_l_deeds_right (pa_cons (pv 4) (pa_cons (pv 3) pa_nil))))))))))))))), ?_⟩
    have n3 := N.lo
    have n40 : 3 ≤ n ∧ n ≤ 40 := ⟨by omega, by omega⟩
    have len := O.len
    -- the room
    refine ⟨_, rfl, _, rfl, _, rfl, fun a dx na ndx ne => ?_⟩
    have m0 : Ex H _ := ex_made (o1 := .own a) (o2 := .ins A.c_Room dx []) na ndx ne
    refine ⟨a, dx, t, b, n, ts, st, rfl, upd_same, TiesAt.on m0 hT, N, .inl (.inl (m0 _ _ hB)), S, fun H1 e ne' x1 r1 => ⟨rfl, ?_⟩⟩
    have he : H e = none := by
      cases z : H e with
      | none => rfl
      | some o => rw [m0 _ _ z] at ne'; cases ne'
    have e01 : Ex H H1 := ex_init na ndx ne x1
    have eR : LamX.ExtN H (rest H1 a e) := LamX.ExtN.of (rest_to e01 na he)
    have t1 := hTb.ext e01
    clear m0 ne' x1 ne ndx e01
    have S0 : SOk n ⟨MR.plOf st, 0, []⟩ := ⟨S.plc, Int.le_refl 0, by show (0 : Int) ≤ 1000000; decide, Nat.zero_le _⟩
    have ord : ∀ {R : Hp}, LamX.ExtN H R → R c = some (.lst (od.map V.int)) := fun e => e _ _ hC fun _ z => nomatch z
    -- deeds; nothing to undo
    refine ⟨_, rfl, _, rfl, a, c, e, n, ts, _, od, rfl, r1, N, n8, S0, ord eR, O, t1, fun H2 x2 r2 t2 => ⟨true, rfl, iteF ?_⟩⟩
    have eR2 := eR.trans x2
    refine told_undo rfl t2 r2 rfl fun H3 e3 t3 => ⟨rfl, false, by rw [decide_eq_true rfl]; rfl, iteF ?_⟩
    have r3 := r2.onN e3
    have eR3 := eR2.trans (rest_onN e3)
    -- a round
    obtain ⟨dx, fs, h1, h2⟩ := r3.ins "round" (by decide)
    refine ⟨_, rfl, a, dx, fs, rfl, h1, h2, _, rfl, a, e, c, n, ts, _, od, rfl, r3, S.plc, n40, .inl (.inl (rest_ex _ _ (ord eR3))), O, Nat.zero_le _, fun H4 x4 r4 => ?_⟩
    clear h1 h2
    have t4 := tabs_rest t3 r3 x4
    have eR4 := eR3.trans (LamX.ExtN.of x4)
    have S1 : SOk n (mkS n ts ⟨MR.plOf st, 0, []⟩ od) := S0.mkS (by omega) O.lo (by show (0 : Int) ≤ 900000; decide) (Nat.zero_le _) (by omega)
    -- shown
    refine ⟨_, rfl, a, e, n, ts, _, rfl, r4, N, S1, fun H5 e5 => ?_⟩
    have r5 := r4.on e5
    have t5 := t4.ext e5
    have eR5 := eR4.trans (rest_onN (LamX.ExtN.of e5))
    refine ⟨_, rfl, _, rfl, a, c, e, n, ts, _, od, rfl, r5, N, n8, S1, ord eR5, O, t5, fun H6 x6 r6 t6 => ⟨true, rfl, iteF ?_⟩⟩
    have eR6 := eR5.trans x6
    -- a call
    have hne : od ≠ [] := fun z => by rw [z] at len; simp at len; omega
    have my := O.lo _ (List.getLast_mem hne)
    have hz : atI (od.map V.int) (-1) = some (V.int (od.getLast hne)) := by
      have z := atI_last (od.dropLast.map V.int) (V.int (od.getLast hne))
      rwa [show od.dropLast.map V.int ++ [V.int (od.getLast hne)] = od.map V.int by
        have z := congrArg (List.map V.int) (List.dropLast_concat_getLast hne)
        rwa [List.map_append] at z] at z
    generalize od.getLast hne = y at my hz
    have my1 : ∀ c ∈ [y], 1 ≤ c ∧ c ≤ (n : Int) := fun c hc => by rw [List.mem_singleton.mp hc]; exact my
    obtain ⟨dx, fs, h1, h2⟩ := r6.ins "call" (by decide)
    have c1 : (mkS n ts ⟨MR.plOf st, 0, []⟩ od).ch ≤ 900000 := Int.le_trans mkS_ch (by show (0 : Int) + od.length ≤ _; omega)
    refine ⟨_, rfl, a, dx, fs, rfl, h1, h2, _, rfl, 1, rfl, c, od.map V.int, (-1 : Int), V.int y, rfl, rfl, .inl (.inl (rest_ex _ _ (ord eR6))), hz, a, e, n, ts, _, y, rfl, r6, S1.pl, n40, my, Nat.le_trans S1.er (by decide), fun H7 x7 r7 => ?_⟩
    clear h1 h2
    have t7 := tabs_rest t6 r6 x7
    have eR7 := eR6.trans (LamX.ExtN.of x7)
    have S2 : SOk n (mkS n ts (mkS n ts ⟨MR.plOf st, 0, []⟩ od) [y]) := S1.mkS (by omega) my1 c1 (by show 1 ≤ 900; decide) (by show 1 ≤ 100; decide)
    refine ⟨_, rfl, _, rfl, a, c, e, n, ts, _, od, rfl, r7, N, n8, S2, ord eR7, O, t7, fun H8 x8 r8 t8 => ⟨true, rfl, iteF ?_⟩⟩
    have eR8 := eR7.trans x8
    -- undone
    obtain ⟨dx, fs, h1, h2⟩ := r8.ins "undo" (by decide)
    refine ⟨_, rfl, a, dx, fs, rfl, h1, h2, a, e, n, ts, _, mkS n ts ⟨MR.plOf st, 0, []⟩ od, rfl, r8, rfl, Nat.le_trans S1.er (by decide), fun H9 x9 r9 => ⟨false, rfl, iteF ?_⟩⟩
    clear h1 h2
    have t9 := tabs_rest t8 r8 x9
    have eR9 := eR8.trans (LamX.ExtN.of x9)
    refine ⟨_, rfl, a, e, n, ts, _, rfl, r9, N, S1, fun HA eA => ⟨_, rfl, rfl, false, by rw [decide_eq_true rfl]; rfl, iteF ?_⟩⟩
    have rA := r9.on eA
    have tA := t9.ext eA
    have eRA := eR9.trans (rest_onN (LamX.ExtN.of eA))
    obtain ⟨dx, fs, h1, h2⟩ := rA.ins "undo" (by decide)
    refine ⟨_, rfl, a, dx, fs, rfl, h1, h2, a, e, n, ts, _, ⟨MR.plOf st, 0, []⟩, rfl, rA, rfl, Nat.zero_le _, fun HB xB rB => ⟨false, rfl, iteF ?_⟩⟩
    clear h1 h2
    have tB := tabs_rest tA rA xB
    have eRB := eRA.trans (LamX.ExtN.of xB)
    -- repr([room.standing, len(room), room.changes]) != repr([standing, 0, 0])
    obtain ⟨dx, fs, h1, _⟩ := rB.seats
    refine ⟨_, rfl, a, dx, fs, rfl, h1, a, e, n, ts, _, rfl, rB, S.plc, by omega, fun q1 HC nq eC hq1 => ?_⟩
    refine ⟨_, rfl, a, dx, fs, rfl, eC _ _ h1, a, e, n, ts, _, rfl, rB.on eC, fun HD eD => ⟨0, rfl, by decide, ?_⟩⟩
    refine ⟨_, rfl, a, dx, fs, rfl, (eC.trans eD) _ _ h1, a, e, n, ts, _, rfl, rB.on (eC.trans eD), fun HE eE => ?_⟩
    clear h1
    rw [show MR.stOf (MR.plOf st) = st from S.back] at hq1
    refine ⟨three_fits _ _ _, fun p np => ?_⟩
    have eF : Ex HE (upd HE p (.lst [.ref q1, .int 0, .int 0])) := Ex.new np
    have small : ∀ x ∈ st, 0 ≤ x ∧ x < 10 ^ 10 := fun x hx => by have := S.lo x hx; omega
    have slen := S.len
    refine ⟨.ref p, .list [dInts st, .int 0, .int 0], rfl, shv_three upd_same (.inl (.inl (eF _ _ (eE _ _ (eD _ _ hq1))))) small (by omega) (by decide) (by decide), ?_⟩
    generalize upd HE p (.lst [.ref q1, .int 0, .int 0]) = HF at eF
    have eBF : Ex HB HF := eC.trans (eD.trans (eE.trans eF))
    have eRF := eRB.trans (rest_onN (LamX.ExtN.of eBF))
    refine ⟨_, rfl, three_fits _ _ _, fun p2 np2 => ?_⟩
    have eG : Ex HF (upd HF p2 (.lst [.ref b, .int 0, .int 0])) := Ex.new np2
    refine ⟨.ref p2, .list [dInts st, .int 0, .int 0], rfl, shv_three upd_same (.inl (.inl (eG _ _ (rest_ex _ _ (eRF _ _ hB fun _ z => nomatch z))))) small (by omega) (by decide) (by decide), rfl, false, by rw [decide_eq_true rfl]; rfl, iteF ?_⟩
    generalize upd HF p2 (.lst [.ref b, .int 0, .int 0]) = HG at eG
    have rG := rB.on (eBF.trans eG)
    have tG := tB.ext (eBF.trans eG)
    have eRG := eRF.trans (rest_onN (LamX.ExtN.of eG))
    -- nothing to undo; deeds
    refine told_undo rfl tG rG rfl fun HI eI tI => ⟨rfl, true, by rw [decide_eq_true rfl], iteT ?_⟩
    have eRI := eRG.trans (rest_onN eI)
    exact ⟨_, rfl, _, rfl, a, c, e, n, ts, _, od, rfl, rG.onN eI, N, n8, S0, ord eRI, O, tI, fun HJ xJ rJ tJ => q HJ ((eRI.trans xJ).trans (LamX.ExtN.of rest_ex)) tJ⟩
end
end K41

namespace K41
open PySem PySem.Spec PyProof.Rows L2 Vf Evl
open Q (Dr ExA TM sp_l_draws ok_l_draws sp_l_net ok_l_net sp_l_mixed ok_l_mixed)
/-! ### the law -/
section
variable {K : PySem.W.Frag} {σ : L2.St} {H : Hp} {te tl : TE} {A : Ad}
def EvDs (te : TE) (σ : L2.St) (H : Hp) : Prop := ∀ H1, Ex H H1 → ∀ Q : VK, (∀ (R : Addr) (ds : List Addr) (H2 : Hp), Ex H1 H2 → H2 R = some (.lst (ds.map V.ref)) → R ∉ ds → (∀ d ∈ ds, Dr H2 d 0) → ds.length ≤ 100 → Q (.ref R) H2) → te σ H1 Q
def DW (H1 : Hp) (Dl : Addr) (i : Nat) (H' : Hp) : Prop := H1 Dl = none ∧ Ex H1 H' ∧ ∃ ds : List Addr, H' Dl = some (.lst (ds.map V.ref)) ∧ ds.length = i ∧ Dl ∉ ds ∧ ∀ d ∈ ds, Dr H' d 0
theorem ed_lc {cs : List Int} {j : Nat} {vs : List Nat} (h : EvL tl σ H (cs.map V.int)) (hl : cs.length ≤ 100) (hw : ∀ x, wipe ((wipe σ vs).set j (some x)) vs = wipe σ vs) (hj : ∀ x, ((wipe σ vs).set j (some x))[j]? = some (some x)) :
    EvDs (tLc (iList K tl) (gName j) tYes (tCall sp_l_draws [] E0 (tCons (tVar j) tNil)) vs) σ H := by
  intro H0 e Q q
  refine h H0 e _ fun a H1 na e1 hx => ⟨a, rfl, ⟨_, .inl (.inl hx)⟩, fun Dl hD => ?_⟩
  refine lc_list (xs := cs.map V.int) (DW H1 Dl) ⟨hD, Ex.new hD, [], upd_same, rfl, (by simp), fun d hd => (by simp at hd)⟩
    (fun i H' _ p => .inl (.inl (p.2.1 _ _ hx))) (fun i x H' hi p => ⟨hw x, ?_⟩) fun H' p => ?_
  · obtain ⟨c, hc, rfl⟩ := map_at hi
    obtain ⟨p1, p2, ds, h1, h2, h3, h4⟩ := p
    have hlt := (List.getElem?_eq_some_iff.mp hc).1
    show tCall sp_l_draws [] E0 (tCons (tVar j) tNil) _ H' fun y H4 => ∃ acc, H4 Dl = some (.lst acc) ∧ acc.length < sizeLine ∧ DW H1 Dl (i + 1) (upd H4 Dl (.lst (acc ++ [y])))
    refine ⟨_, hj _, c, rfl, fun x b p H2 np e2 hp => ⟨ds.map V.ref, e2 _ _ h1, sz_lt (by rw [List.length_map]; omega), p1, Ex.mut (p2.trans e2) p1, ds ++ [p], ?_, ?_, ?_, ?_⟩⟩
    · rw [upd_same, List.map_append]
      rfl
    · rw [List.length_append, h2]
      rfl
    · intro z
      rcases List.mem_append.mp z with z | z
      · exact h3 z
      · rw [List.mem_singleton.mp z, np] at h1
        cases h1
    · intro d hd
      rcases List.mem_append.mp hd with z | z
      · obtain ⟨xx, bb, hh⟩ := h4 d z
        refine ⟨xx, bb, ?_⟩
        rw [upd_ne (show d ≠ Dl from fun y => h3 (y ▸ z))]
        exact e2 _ _ hh
      · rw [List.mem_singleton.mp z]
        refine ⟨x, b, ?_⟩
        rw [upd_ne (show p ≠ Dl from fun y => by rw [y, h1] at np; cases np)]
        exact hp
  · obtain ⟨p1, p2, ds, h1, h2, h3, h4⟩ := p
    exact q Dl ds H' (e1.trans p2) h1 h3 h4 (by rw [h2, List.length_map]; exact hl)
theorem q_forD {tu tz : TS} {D : Ends} {j : Nat} (h : EvDs te σ H) (Pv : Addr → List Addr → Nat → L2.St → Hp → Prop) (h0 : ∀ R ds H1, Ex H H1 → H1 R = some (.lst (ds.map V.ref)) → R ∉ ds → (∀ d ∈ ds, Dr H1 d 0) → ds.length ≤ 100 → Pv R ds 0 σ H1)
    (hl : ∀ R ds i σ' H', Pv R ds i σ' H' → H' R = some (.lst (ds.map V.ref))) (hs : ∀ R (ds : List Addr) i d σ' H', ds[i]? = some d → Pv R ds i σ' H' → tu { D with nx := Pv R ds (i + 1), ct := Pv R ds (i + 1), bk := tz D } (σ'.set j (some (.ref d))) H')
    (hd : ∀ R ds i σ' H', Pv R ds i σ' H' → tz D σ' H') : tSeq (tFor (iList K te) (gName j) tu) tz D σ H :=
  h H (Ex.refl H) _ fun R ds H1 e1 hR nR hds dl => ⟨R, rfl, ⟨_, .inl (.inl hR)⟩, for_list (xs := ds.map V.ref) (D := { D with nx := tz D }) (Pv R ds) (h0 R ds H1 e1 hR nR hds dl) (fun i σ' H' _ z => .inl (.inl (hl R ds i σ' H' z)))
    (fun i x σ' H' hx z => by
      obtain ⟨d, hd, rfl⟩ := map_at hx
      exact hs R ds i d σ' H' hd z) fun σ' H' z => hd R ds _ σ' H' z⟩
/-- each of the draws is a list of draws, and none of them far gone -/
def Drs (H : Hp) (ds : List Addr) (m : Int) : Prop := ∀ d ∈ ds, ∃ k, Dr H d k ∧ 0 ≤ k ∧ k ≤ m
theorem Drs.step {H H' : Hp} {ds : List Addr} {m m' : Int} {d : Addr} {k : Int} (h : Drs H ds m) (e : ExA d H H') (hd : Dr H' d k) (h0 : 0 ≤ k) (h1 : k ≤ m') (hm : m ≤ m') : Drs H' ds m' := fun b hb => by
  by_cases c : b = d
  · rw [c]
    exact ⟨k, hd, h0, h1⟩
  · obtain ⟨kk, ⟨x, bb, hx⟩, k0, k1⟩ := h b hb
    exact ⟨kk, ⟨x, bb, e _ _ c hx⟩, k0, by omega⟩
theorem Drs.onN {H H' : Hp} {ds : List Addr} {m : Int} (h : Drs H ds m) (e : LamX.ExtN H H') : Drs H' ds m := fun b hb => by
  obtain ⟨kk, ⟨x, bb, hx⟩, k0, k1⟩ := h b hb
  exact ⟨kk, ⟨x, bb, e _ _ hx fun _ z => nomatch z⟩, k0, k1⟩
theorem tabs_exA {Tt : List (Addr × Str)} {H H' : Hp} {d : Addr} {k : Int} (h : LamX.Tabs Tt H) (hd : Dr H d k) (e : ExA d H H') : LamX.Tabs Tt H' := fun p hp => by
  obtain ⟨x, b, hx⟩ := hd
  obtain ⟨ps, h1, h2, h3⟩ := h p hp
  have ne : ∀ {b : Addr} {o : HO}, H b = some o → (∀ xs, o ≠ .lst xs) → b ≠ d := fun {b o} e n z => by
    rw [z, hx] at e
    exact n _ (Option.some.inj e).symm
  refine ⟨ps, e _ _ (ne h1 fun _ z => nomatch z) h1, h2, fun pos cv hc => ?_⟩
  obtain ⟨c, e1, e2⟩ := h3 pos cv hc
  exact ⟨c, e1, e _ _ (ne e2 fun xs z => by unfold LamX.CodeO at z; cases z) e2⟩
/-- repr([x, y, z]) -/
theorem ev_show3 {a b c : Addr} {i j k : Nat} {d1 d2 d3 : PyData} (s1 : σ[i]? = some (some (.ref a))) (s2 : σ[j]? = some (some (.ref b))) (s3 : σ[k]? = some (some (.ref c))) (h1 : Dp K H (.ref a) d1) (h2 : Dp K H (.ref b) d2) (h3 : Dp K H (.ref c) d3)
    (D1 : Dn d1 30000 9) (D2 : Dn d2 30000 9) (D3 : Dn d3 30000 9) : Ev (tCB (rReprX K) (tCons (tLst (tCons (tVar i) (tCons (tVar j) (tCons (tVar k) tNil)))) tNil)) σ H (.str (PyData.list [d1, d2, d3]).shown) := fun H1 e Q q =>
  ⟨_, s1, _, s2, _, s3, three_fits _ _ _, fun p np => by
    have D : Dn (.list [d1, d2, d3]) ((30000 + 2) * 3 + 2) 10 := Dn.list fun d hd => by
      simp only [List.mem_cons, List.not_mem_nil, or_false] at hd
      rcases hd with rfl | rfl | rfl
      · exact D1
      · exact D2
      · exact D3
    have f : Ex H1 (upd H1 p (.lst [.ref a, .ref b, .ref c])) := Ex.new np
    have g := e.trans f
    exact ⟨.ref p, _, rfl, .inl ⟨p, rfl, .lst (.inl (.inl upd_same)) (.cons (dp_on g h1) (.cons (dp_on g h2) (.cons (dp_on g h3) .nil))), D.show_, D.dict_, Nat.le_trans D.dep_ (by decide), Nat.le_trans D.len_ (sz_of11 (by decide))⟩, q _ f⟩⟩
theorem ord_of {n : Nat} {ys : List V} (h3 : 3 ≤ n) (h8 : n ≤ 8) (h : ys.Perm (rgV 1 ((n : Int) + 1))) : ∃ ln : List Int, ys = ln.map V.int ∧ MR.Stn n ln := by
  obtain ⟨ln, e, L⟩ := Q.line_of (by omega) h
  rw [Int.toNat_natCast] at L
  exact ⟨ln, e, L.len, L.at_, L.nd⟩
end
section
variable {P : Program} {w : World} {K : PySem.W.Frag} {mg : Str → Option Value} {base : Heap} {A : Ad}
def sp_law (K : PySem.W.Frag) (A : Ad) : Sp := fun vs H Q _ => ∃ (a : Addr) (ns : List Int), vs = [.ref a] ∧ SqL K H a (ns.map V.int) ∧ ns.length ≤ 63 ∧ LamX.Tabs (tabs A) H ∧ ∀ H2, Q (.bl true) H2
theorem ok_law (T : Txt K mg A) (TB : Tab base mg A) : FnG P w K mg base CX0 18 A.f_law A.d_law ["_law_script"] (sp_law K A) := by
  have G_l_draws : FnOk P w K mg base CX0 1 A.f_l_draws A.d_l_draws ["_law_cell"] sp_l_draws := ok_l_draws T
  have G_l_net : FnOk P w K mg base CX0 3 A.f_l_net A.d_l_net ["_law_draws_here", "_law_most"] sp_l_net := ok_l_net T
  have G_l_mixed : FnOk P w K mg base CX0 2 A.f_l_mixed A.d_l_mixed ["_law_draws_here", "_law_some"] (sp_l_mixed K) := ok_l_mixed T
  have G_l_made_right : FnG P w K mg base CX0 16 A.f_l_made_right A.d_l_made_right ["_law_seats", "_law_ties", "_law_standing"] (sp_l_made_right K A) := ok_l_made_right T TB
  have G_l_right : FnG P w K mg base CX0 17 A.f_l_right A.d_l_right ["_law_seats", "_law_ties", "_law_standing", "_law_order"] (sp_l_right K A) := ok_l_right T TB
  refine okG T.F_law sc_law (fun vs H Q E h => ?_) (fun cdv A' outer s H vs Q E hgd hr h => ?_)
  · obtain ⟨a, ns, rfl, _⟩ := h
    rfl
  · obtain ⟨a, ns, rfl, hS, hl, hT, q⟩ := h
    refine ⟨_, (pss_cons (ps_for PassesOwn.never rfl (pi_listK (K := K) rfl (pe_lc (own := [("_law_cell", 7)]) rfl sc_law.nd (pi_listK (K := K) rfl (pe_op op_cat (pe_slice (sl_listK (K := K) rfl) (pv 0) po_none (po_some pe_int)) (pe_lst (pa_cons pe_int pa_nil)))) (blkOk_by (by kernel_rfl)) (fun _ _ _ _ _ => (pg_name (i := 7) sc_law.nd rfl (by first | exact .inl rfl | exact .inr rfl))) (fun _ _ _ _ _ => pts_nil) (fun _ _ _ _ _ => (pe_call G_l_draws (hr.mono (by decide)) (by rfl) T.g_l_draws T.F_l_draws.kp T.b_l_draws .nil pass0 (pa_cons (pv 7) pa_nil))))) (pg_name (i := 1) sc_law.nd rfl (by first | exact .inl rfl | exact .inr rfl)) (pss_cons (ps_asg (pe_call G_l_net (hr.mono (by decide)) (by rfl) T.g_l_net T.F_l_net.kp T.b_l_net .nil pass0 (pa_cons (pv 1) (pa_cons pe_int pa_nil))) (pg_tupK (n := 2) (K := K) rfl rfl (pgs_cons (pg_name (i := 2) sc_law.nd rfl (by first | exact .inl rfl | exact .inr rfl)) (pgs_cons (pg_name (i := 3) sc_law.nd rfl (by first | exact .inl rfl | exact .inr rfl)) pgs_nil))))
      (pss_cons (ps_par (i := 4) (j := 5) rfl sc_law.nd rfl rfl (by decide) rfl rfl (pa_cons (pe_call G_l_mixed (hr.mono (by decide)) (by rfl) T.g_l_mixed T.F_l_mixed.kp T.b_l_mixed .nil pass0 (pa_cons (pv 1) (pa_cons (pe_listRg rfl (by rfl) T.z_list (prg_2 (by rfl) T.z_range pe_int (pe_op op_add (pv 2) pe_int))) pa_nil))) (pa_cons (pe_call G_l_mixed (hr.mono (by decide)) (by rfl) T.g_l_mixed T.F_l_mixed.kp T.b_l_mixed .nil pass0 (pa_cons (pv 1) (pa_cons (pe_listRg rfl (by rfl) T.z_list (prg_2 (by rfl) T.z_range pe_int (pe_op op_add (pv 2) pe_int))) pa_nil))) pa_nil)) (by rfl))
      (pss_cons (ps_set (i := 6) sc_law.nd rfl (by first | exact .inl rfl | exact .inr rfl) (pe_callB (call_repr_K (K := K) hgd hr) (by rfl) T.z_repr (by decide +kernel) (pa_cons (pe_lst (pa_cons (pv 3) (pa_cons (pv 4) (pa_cons (pv 5) pa_nil)))) pa_nil)))
      (pss_cons (ps_if (PW.pt (pw_or (pt_not (pt_val (pe_callG G_l_made_right hgd (hr.mono (by decide)) (by rfl) T.g_l_made_right T.F_l_made_right.kp T.b_l_made_right (pa_cons (pv 2) (pa_cons (pv 3) (pa_cons (pv 4) pa_nil)))))) (pw_or1 (pt_not (pt_val (pe_callG G_l_right hgd (hr.mono (by decide)) (by rfl) T.g_l_right T.F_l_right.kp T.b_l_right (pa_cons (pv 2) (pa_cons (pv 3) (pa_cons (pv 4) (pa_cons (pv 5) pa_nil)))))))))) (pss_one (ps_ret pe_bl)) pss_nil)
      (pss_one (ps_if (pt_cmpR op_ne (pe_callB (call_repr_K (K := K) hgd hr) (by rfl) T.z_repr (by decide +kernel) (pa_cons (pe_lst (pa_cons (pv 3) (pa_cons (pv 4) (pa_cons (pv 5) pa_nil)))) pa_nil)) (pv 6) (nomark _)) (pss_one (ps_ret pe_bl)) pss_nil)))))))
      (pss_one (ps_ret (pe_and (pe_callG G_l_made_right hgd (hr.mono (by decide)) (by rfl) T.g_l_made_right T.F_l_made_right.kp T.b_l_made_right (pa_cons pe_int (pa_cons (pe_lst pa_nil) (pa_cons (pe_lst (pa_cons pe_int (pa_cons pe_int (pa_cons pe_int pa_nil)))) pa_nil)))) (pe_one (pe_callG G_l_right hgd (hr.mono (by decide)) (by rfl) T.g_l_right T.F_l_right.kp T.b_l_right (pa_cons pe_int (pa_cons (pe_lst (pa_cons (pe_lst (pa_cons pe_int (pa_cons pe_int pa_nil))) pa_nil)) (pa_cons (pe_lst (pa_cons pe_int (pa_cons pe_int (pa_cons pe_int pa_nil)))) (pa_cons (pe_lst (pa_cons pe_int (pa_cons pe_int (pa_cons pe_int pa_nil)))) pa_nil)))))))))), ?_⟩
    have lead : EvL (tOp rCat (tSl (rSlL K) (tVar 0) tNoPart (tPart (tC (.int 3)))) (tLst (tCons (tC (.int 0)) tNil))) [some (.ref a), none, none, none, none, none, none, none] H ((ns.take 3 ++ [0]).map V.int) := by
      have z1 := el_sl (K := K) (σ := [some (.ref a), none, none, none, none, none, none, none]) (H := H) (ev_var (i := 0) rfl) eo_none (eo_some (ev_c (v := V.int ((3 : Nat) : Int)))) hS
      rw [cut_to, ← List.map_take] at z1
      rw [List.map_append]
      exact el_cat z1 (el_lst (ea_cons ev_c ea_nil) (by show 1 ≤ 100000; decide)) (by simp only [List.length_map, List.length_take]; show _ + 1 ≤ _; omega)
    refine q_forD (K := K) (ed_lc (K := K) (vs := [7]) (j := 7) lead (by rw [List.length_append, List.length_take]; show min 3 ns.length + 1 ≤ 100; omega) (fun x => rfl) (fun x => rfl)) (fun R ds i σ' H' => (∃ y1 y2 y3 y4 y5 y6, σ' = [some (.ref a), y1, y2, y3, y4, y5, y6, none]) ∧ H' R = some (.lst (ds.map V.ref)) ∧ R ∉ ds ∧ ds.length ≤ 100 ∧ Drs H' ds (100000 * i) ∧ LamX.Tabs (tabs A) H')
      (fun R ds H1 e1 hR nR hds dl => ⟨⟨none, none, none, none, none, none, rfl⟩, hR, nR, dl, fun d hd => ⟨0, hds d hd, by omega, by omega⟩, hT.ext e1⟩) (fun R ds i σ' H' z => z.2.1) ?_ ?_
    · rintro R ds i d σ' H2 hd ⟨⟨y1, y2, y3, y4, y5, y6, rfl⟩, hR2, nR, dl, hD2, t2⟩
      have dmem := List.mem_of_getElem? hd
      have il : i < 100 := by have := (List.getElem?_eq_some_iff.mp hd).1; omega
      have nRd : R ≠ d := fun z => nR (z ▸ dmem)
      obtain ⟨k, hdk, k0, k1⟩ := hD2 d dmem
      -- seats, ties = net(draws, 8)
      refine ⟨_, rfl, d, k, 7, rfl, hdk, ⟨k0, by omega⟩, ⟨by decide, by decide⟩, fun n ts p t k' H3 N n8 npt eA3 hd3 hk3 TM3 ht3 => ?_⟩
      have n3 := N.lo
      obtain ⟨m, rfl⟩ : ∃ m : Nat, n = m := ⟨n.toNat, by omega⟩
      have m3 : 3 ≤ m := by omega
      have m8 : m ≤ 8 := by omega
      have hR3 := eA3 _ _ nRd hR2
      have hD3 := hD2.step eA3 hd3 hk3.1 (show k' ≤ 100000 * (i : Int) + 5000 by omega) (by omega)
      have t3 := tabs_exA t2 hdk eA3
      refine ⟨t, _, rfl, .inl (.inl ht3), rfl, _, _, rfl, _, _, rfl, rfl, ?_⟩
      -- standing, order = mixed(..), mixed(..)
      refine ⟨_, rfl, _, rfl, _, _, rfl, rfl, 1, (m : Int) + 1, rfl, rfl, RgOk.of_le (by decide) (by omega) (by decide) (by omega), fun l1 nl1 => ?_⟩
      have f1 : Ex H3 (upd H3 l1 (.lst (rgV 1 ((m : Int) + 1)))) := Ex.new nl1
      have hl1 : upd H3 l1 (.lst (rgV 1 ((m : Int) + 1))) l1 = some (.lst (rgV 1 ((m : Int) + 1))) := upd_same
      generalize upd H3 l1 (.lst (rgV 1 ((m : Int) + 1))) = H4 at f1 hl1
      have hd4 := hd3.on f1
      have rgl : (rgV 1 ((m : Int) + 1)).length = m := by rw [rgV_length]; omega
      refine ⟨d, l1, k', _, rfl, hd4, ⟨hk3.1, by rw [rgl]; omega⟩, .inl (.inl hl1), by rw [rgl]; omega, ?_, fun ys b H5 perm nb eA5 hd5 hb => ?_⟩
      · exact fun H' _ x hx => by
          unfold rgV at hx
          obtain ⟨i, _, rfl⟩ := List.mem_map.mp hx
          exact .int _
      rw [rgl] at hd5
      obtain ⟨st, rfl, OS⟩ := ord_of m3 m8 perm
      have ndb : b ≠ d := by
        obtain ⟨x, y, z⟩ := hd4
        exact (ne_of_none z nb).symm
      -- the other one
      refine ⟨_, rfl, _, rfl, _, _, rfl, rfl, 1, (m : Int) + 1, rfl, rfl, RgOk.of_le (by decide) (by omega) (by decide) (by omega), fun l2 nl2 => ?_⟩
      have f2 : Ex H5 (upd H5 l2 (.lst (rgV 1 ((m : Int) + 1)))) := Ex.new nl2
      have hl2 : upd H5 l2 (.lst (rgV 1 ((m : Int) + 1))) l2 = some (.lst (rgV 1 ((m : Int) + 1))) := upd_same
      generalize upd H5 l2 (.lst (rgV 1 ((m : Int) + 1))) = H6 at f2 hl2
      have hd6 := hd5.on f2
      refine ⟨d, l2, k' + m, _, rfl, hd6, ⟨by omega, by rw [rgl]; omega⟩, .inl (.inl hl2), by rw [rgl]; omega, ?_, fun ys c H7 perm nc eA7 hd7 hc => ?_⟩
      · exact fun H' _ x hx => by
          unfold rgV at hx
          obtain ⟨i, _, rfl⟩ := List.mem_map.mp hx
          exact .int _
      rw [rgl] at hd7
      obtain ⟨od, rfl, OO⟩ := ord_of m3 m8 perm
      have g37 : ExA d H3 H7 := (_root_.K41.Q.ExA.of f1).trans (eA5.trans ((_root_.K41.Q.ExA.of f2).trans eA7))
      have hb7 : H7 b = some (.lst (st.map V.int)) := eA7 _ _ ndb (f2 _ _ hb)
      have TM7 := TM3.exA hd3 g37
      have t7 := tabs_exA t3 hd3 g37
      have hR7 := g37 _ _ nRd hR3
      have hD7 : Drs H7 ds (100000 * (i : Int) + 6000) := hD3.step g37 hd7 (by omega) (by omega) (by omega)
      have T7 : TiesAt K H7 p ts := TM7.at_
      clear hl1 hl2 hd4 hd5 hd6 hb f1 f2 eA5 eA7 nl1 nl2 nb nc rgl ht3 npt hR2 hD2 hR3 hD3 TM3 hdk hd3 eA3 TM7
      refine ⟨_, _, rfl, ?_⟩
      -- before
      have dT : ∀ {R : Hp}, TiesAt K R p ts → Dp K R (.ref p) (.list (ts.map dTie)) := fun h => by
        obtain ⟨as, h1, h2, h3⟩ := h
        exact .lst h1 (dp_ties h2 h3)
      have DT : Dn (.list (ts.map dTie)) 30000 9 := (Dn.list N.dn).mono (by rw [List.length_map]; have := N.few; omega) (by decide)
      have DI : ∀ {ns : List Int}, MR.Stn m ns → Dn (dInts ns) 30000 9 := fun O => (dn_ints fun x hx => by have := O.lo x hx; omega).mono (by rw [O.len]; omega) (by decide)
      refine q_asg (ev_show3 (K := K) (i := 3) (j := 4) (k := 5) rfl rfl rfl (dT T7) (dp_ints (.inl (.inl hb7))) (dp_ints (.inl (.inl hc))) DT (DI OS) (DI OO)) fun H8 e8 => ?_
      -- made right, right
      refine ⟨_, rfl, _, rfl, _, rfl, p, b, ts, m, st, rfl, T7.mono e8, N, m8, e8 _ _ hb7, OS, t7.ext e8, fun H9 e9 t9 => ⟨true, rfl, iteF ?_⟩⟩
      have e79 : LamX.ExtN H7 H9 := (LamX.ExtN.of e8).trans e9
      refine ⟨_, rfl, _, rfl, _, rfl, _, rfl, p, b, c, ts, m, st, od, rfl, T7.onN e79, N, m8, e79 _ _ hb7 (fun _ z => nomatch z), OS, e79 _ _ hc (fun _ z => nomatch z), OO, t9, fun HC eC tC => ⟨true, rfl, iteF ?_⟩⟩
      have e7C := e79.trans eC
      refine ev_show3 (K := K) (i := 3) (j := 4) (k := 5) rfl rfl rfl (dT (T7.onN e7C)) (dp_ints (exN_l e7C (.inl (.inl hb7)))) (dp_ints (exN_l e7C (.inl (.inl hc)))) DT (DI OS) (DI OO) HC (Ex.refl HC) _ fun HD eD => ⟨_, rfl, rfl, false, by rw [decide_eq_true rfl]; rfl, iteF ?_⟩
      have e7D := e7C.trans (LamX.ExtN.of eD)
      have hD := hD7.onN e7D
      exact ⟨⟨_, _, _, _, _, _, rfl⟩, e7D _ _ hR7 (fun _ z => nomatch z), nR, dl, fun x hx => by
        obtain ⟨k, h1, h2, h3⟩ := hD x hx
        exact ⟨k, h1, h2, by omega⟩, tC.ext eD⟩
    · rintro R ds i σ' H2 ⟨⟨y1, y2, y3, y4, y5, y6, rfl⟩, _, _, _, _, t2⟩
      refine ⟨few_le (by decide : 0 < 10), fun l0 nl0 => ?_⟩
      have f_l0 : Ex H2 (upd H2 l0 (.lst [])) := Ex.new nl0
      have h_l0 : upd H2 l0 (.lst []) l0 = some (.lst []) := upd_same
      generalize upd H2 l0 (.lst []) = H3 at f_l0 h_l0
      refine ⟨three_fits _ _ _, fun l1 nl1 => ?_⟩
      have f_l1 : Ex H3 (upd H3 l1 (.lst [.int 3, .int 1, .int 2])) := Ex.new nl1
      have h_l1 : upd H3 l1 (.lst [.int 3, .int 1, .int 2]) l1 = some (.lst ([3, 1, 2].map V.int)) := upd_same
      generalize upd H3 l1 (.lst [.int 3, .int 1, .int 2]) = H4 at f_l1 h_l1
      refine ⟨l0, l1, [], 3, [3, 1, 2], rfl, ⟨[], .inl (.inl (f_l1 _ _ h_l0)), rfl, fun i b t x y => by simp at x⟩, ⟨by decide, by decide, by decide, by decide, by decide⟩, by decide, h_l1, ⟨rfl, by decide, by decide⟩, (t2.ext f_l0).ext f_l1, fun H5 e5 t5 => ⟨true, rfl, iteT ?_⟩⟩
      refine ⟨two_fits _ _, fun p np => ?_⟩
      have f_p : Ex H5 (upd H5 p (.lst [.int 1, .int 2])) := Ex.new np
      have h_p : upd H5 p (.lst [.int 1, .int 2]) p = some (.lst [.int 1, .int 2]) := upd_same
      generalize upd H5 p (.lst [.int 1, .int 2]) = H6 at f_p h_p
      refine ⟨few_le (by decide : 1 < 10), fun r nr => ?_⟩
      have f_r : Ex H6 (upd H6 r (.lst [.ref p])) := Ex.new nr
      have h_r : upd H6 r (.lst [.ref p]) r = some (.lst ([p].map V.ref)) := upd_same
      generalize upd H6 r (.lst [.ref p]) = H7 at f_r h_r
      refine ⟨three_fits _ _ _, fun l2 nl2 => ?_⟩
      have f_l2 : Ex H7 (upd H7 l2 (.lst [.int 1, .int 2, .int 3])) := Ex.new nl2
      have h_l2 : upd H7 l2 (.lst [.int 1, .int 2, .int 3]) l2 = some (.lst ([1, 2, 3].map V.int)) := upd_same
      generalize upd H7 l2 (.lst [.int 1, .int 2, .int 3]) = H8 at f_l2 h_l2
      refine ⟨three_fits _ _ _, fun l3 nl3 => ?_⟩
      have f_l3 : Ex H8 (upd H8 l3 (.lst [.int 2, .int 1, .int 3])) := Ex.new nl3
      have h_l3 : upd H8 l3 (.lst [.int 2, .int 1, .int 3]) l3 = some (.lst ([2, 1, 3].map V.int)) := upd_same
      generalize upd H8 l3 (.lst [.int 2, .int 1, .int 3]) = H9 at f_l3 h_l3
      refine ⟨r, l2, l3, [(1, 2)], 3, [1, 2, 3], [2, 1, 3], rfl, ⟨[p], .inl (.inl ((f_l2.trans f_l3) _ _ h_r)), rfl, fun i b t x y => ?_⟩, ⟨by decide, by decide, by decide, by decide, by decide⟩, by decide, f_l3 _ _ h_l2, ⟨rfl, by decide, by decide⟩, h_l3, ⟨rfl, by decide, by decide⟩, (((t5.ext f_p).ext f_r).ext f_l2).ext f_l3, fun HA _ _ => q HA⟩
      match i, x, y with
      | 0, x, y =>
        cases x
        cases y
        exact .inl (.inl ((f_r.trans (f_l2.trans f_l3)) _ _ h_p))
end
end K41

/-! The end of a law's row whose defs want that no guard stands. -/
namespace Vf
open PySem PySem.Spec PyProof.Rows L2
theorem law_runs {P : Program} {w : World} {K : PySem.W.Frag} {mg mb : Str → Option Value} {k : Nat} {fa a : Addr} {fd : FuncData} {x : Str} {sp : Sp} {s₁ : Shared} {vs : List Value} {ns : List Int}
    (KX : K.In s₁.heap) (hns : s₁.heap.Ns mainGlobals mg) (hb : s₁.heap.Ns builtinsNs mb) (hbb : ∀ x : Str, x ≠ "__name__" → mb x = bootBuiltins x) (hlim : s₁.heap.NoLimit) (hg : s₁.gens = #[])
    (ha : s₁.heap.get? a = some { cls := .type "list", data := .seq vs.toArray }) (hi : IntsAre vs ns) (hl : ns.length ≤ sizeLine) (hr : Room k callerA)
    (F : ∀ base : Heap, K.In base → base.Ns mainGlobals mg → FnG P w K mg base CX0 k fa fd [x] sp) (hbind : ∀ (s : Shared) (u : Value), BindsTo s fd ⟨[u], []⟩ [(x, u)])
    (hsp : ∀ H : Hp, Only H → SqL K H a (ns.map V.int) → sp [.ref a] H (fun v _ => v = .bl true) fun _ _ _ => False) :
    codeAny (model P w) callerA (.call (.ref fa) ⟨[.ref a], []⟩) (fun r s' => r = .ok (.ret (.bool true)) ∧ OldK s₁.heap s'.heap ∧ s'.os = s₁.os ∧ AllBare s'.gens) s₁ := by
  let ob : Obj := { cls := .type "list", data := .seq vs.toArray }
  have main : ∀ H : Hp, (∀ b, H b = none ∨ (b = a ∧ K.lookup a = none ∧ H b = some (.frz ob (.lst (ns.map V.int))))) → SqL K H a (ns.map V.int) →
      codeAny (model P w) callerA (.call (.ref fa) ⟨[.ref a], []⟩) (fun r s' => r = .ok (.ret (.bool true)) ∧ OldK s₁.heap s'.heap ∧ s'.os = s₁.os ∧ AllBare s'.gens) s₁ := by
    intro H hH hS
    have only : Only H := fun b => (hH b).elim .inl fun z => .inr ⟨_, _, z.2.2⟩
    have hok : HOk P w H s₁.heap := by
      intro b o e
      rcases hH b with z | ⟨rfl, _, z⟩
      · rw [z] at e; cases e
      · rw [z] at e
        cases e
        exact ⟨ha, by rw [List.length_map]; exact hl, vs, _, vals_ints hi, ha⟩
    have free : ∀ {b : Addr} {o : Obj}, s₁.heap.get? b = some o → (∀ it n, o.data ≠ .seq it n) → H b = none := by
      intro b o e d
      rcases hH b with z | ⟨rfl, _, _⟩
      · exact z
      · rw [ha] at e
        cases e
        exact absurd rfl (d _ _)
    have ns_at : ∀ {b : Addr} {m : Str → Option Value}, s₁.heap.Ns b m → (hidT s₁.heap H).Ns b m := by
      rintro b m ⟨o, es, ep, e, d, r⟩
      exact ⟨o, es, ep, hidT_get e (free e fun it n z => by rw [d] at z; cases z), d, r⟩
    have Kb : K.In (hidT s₁.heap H) := by
      intro b o e
      refine hidT_get (KX b o e) ?_
      rcases hH b with z | ⟨rfl, z, _⟩
      · exact z
      · rw [z] at e; cases e
    obtain ⟨mc, c1, c2⟩ := hlim
    have hM : Mod K mg (hidT s₁.heap H) := ⟨Kb, ns_at hns, ⟨mb, ns_at hb, hbb⟩, ⟨mc, ns_at c1, c2⟩⟩
    have none0 : ∀ b ∈ frs [], H b = none := fun b z => nomatch (show b ∈ ([] : List Addr) from z)
    have e0 : Env0 P w K mg (hidT s₁.heap H) callerA [] s₁ H := ⟨rfl, hM, fun b o e => of_hidT e, Nat.le_of_eq (hidT_size _ _), trivial, none0, hok, .of_eq hg⟩
    refine codeAny_mono ((F _ Kb (ns_at hns)).runG callerA [] s₁ H ⟨[.ref a], []⟩ [.ref a] [.ref a] _ _ rfl hr e0 (hbind s₁ (.ref a)) (.cons rfl .nil) (hsp H only hS)) ?_
    intro r s' h
    cases r with
    | error e => exact False.elim h
    | ok fl =>
      cases fl with
      | next => exact False.elim h
      | brk => exact False.elim h
      | cont => exact False.elim h
      | ret u =>
        obtain ⟨v, H', os, bare, un, hok', rv, rfl⟩ := h
        cases (show u = Value.bool true from rv)
        refine ⟨rfl, OldK.of_keep ?_, os, bare⟩
        intro b o e
        rcases hH b with z | ⟨rfl, _, z⟩
        · exact un.keep b o e z (fun y => nomatch (show b ∈ ([] : List Addr) from y)) (fun y => nomatch y)
        · obtain ⟨e2, _⟩ := hok' _ _ (un.frzs _ _ _ z)
          rw [ha] at e
          cases e
          exact e2
  cases hk : K.lookup a with
  | some o =>
    have e := KX a o hk
    rw [ha] at e
    cases e
    refine main (fun _ => none) (fun _ => .inl rfl) (.inr ⟨ob, vs.toArray, _, hk, rfl, rfl, rfl, ?_, by simpa using vals_ints hi⟩)
    rw [List.size_toArray, hi.length]
    exact hl
  | none =>
    refine main (fun b => if b = a then some (.frz ob (.lst (ns.map V.int))) else none) (fun b => ?_) (.inl (.inr ⟨ob, if_pos rfl⟩))
    by_cases c : b = a
    · exact .inr ⟨c, hk, if_pos c⟩
    · exact .inl (if_neg c)
/-- the goal that k_head leaves -/
theorem walkG_of {l : PySem.W.OpenLaw} {n k : Nat} {q : Program} {loose : List Str} {XP : (Str → Option Value) → Heap → Prop} {YP : World → Heap → Prop} {d : DefRec} {K : Params → PySem.W.Frag} {sp : PySem.W.Frag → Sp} {x : Str}
    (hn : l.most = some n) (hn2 : n ≤ sizeLine) (hdf : d.params.defaults = []) (hr : Room k callerA) (hY : ∀ (w : World) (h : Heap), YP w h → (K w.params).In h)
    (F : ∀ (w : World) (mg : Str → Option Value) (fa : Addr) (h : Heap), (K w.params).In h → h.Ns mainGlobals mg → mg d.name = some (.ref fa) →
      ∃ fd : FuncData, (∀ (s : Shared) (u : Value), BindsTo s fd ⟨[u], []⟩ [(x, u)]) ∧
        ∀ base : Heap, (K w.params).In base → base.Ns mainGlobals mg → FnG l.prog w (K w.params) mg base CX0 k fa fd [x] (sp (K w.params)))
    (hsp : ∀ (K : PySem.W.Frag) (H : Hp) (a : Addr) (ns : List Int), ns.length ≤ n → Only H → SqL K H a (ns.map V.int) → sp K [.ref a] H (fun v _ => v = .bl true) fun _ _ _ => False) :
    PySem.W.WalkO q loose XP YP l.row.toRowW d [] (fun f vs => PySem.call f vs) := by
  refine Att.attach_call hn hdf fun w s₀ s₁ mg mb fa o pm cd doc a vs ns G Y ho hd hcd hmg hobj hints hlen hg => ?_
  obtain ⟨fd, hb, hF⟩ := F w mg fa _ (hY w _ Y) G.T.g hmg
  exact law_runs (hY w _ Y) G.T.g G.T.b G.T.builtins G.T.nolimit hg hobj hints (Nat.le_trans hlen hn2) hr hF hb (fun H hO hS => hsp _ H a ns hlen hO hS)
end Vf

/-! The end of a law's row whose defs make lambdas: tables of code objects grow; no guard stands. -/
namespace Vf
open PySem PySem.Spec PyProof.Rows L2
/-- an empty table -/
abbrev tab0 : Obj := { cls := .none, data := .fields #[] }
/-- the table of the code object at c -/
def codeTab (K : PySem.W.Frag) (c : Addr) : Option Addr := match K.lookup c with
  | some ⟨_, _, .fields vs, _⟩ => (match (vs[11]? : Option Value) with | some (.ref p) => some p | _ => none)
  | _ => none
theorem tabs0 {T : List (Addr × Str)} {H : Hp} (h : ∀ t ∈ T.map (·.1), H t = some (.tbl #[])) : LamX.Tabs T H := fun p hp => by
  refine ⟨#[], h _ (List.mem_map.mpr ⟨p, hp, rfl⟩), by trivial, fun pos cv z => by cases z⟩
theorem lawT_runs {P : Program} {w : World} {K : PySem.W.Frag} {mg mb : Str → Option Value} {k : Nat} {fa a : Addr} {cs : List (Addr × Addr)} {fd : FuncData} {x : Str} {sp : Sp} {s₁ : Shared} {vs : List Value} {ns : List Int}
    (kx : K.In s₁.heap) (hmg : s₁.heap.Ns mainGlobals mg) (hmb : s₁.heap.Ns builtinsNs mb) (boot : ∀ x : Str, x ≠ "__name__" → mb x = bootBuiltins x) (nol : s₁.heap.NoLimit) (hgs : s₁.gens = #[])
    (ht : ∀ t ∈ cs.map (·.2), s₁.heap.get? t = some tab0 ∧ K.lookup t = none) (hc : ∀ p ∈ cs, PySem.W.codeHdIn K p.1 p.2 = true)
    (hbm : ∃ (bm : Addr) (ob : Obj), mg "__builtins__" = some (.ref bm) ∧ bm ≠ builtinsNs ∧ s₁.heap.get? bm = some ob ∧ ob.cls = .type "module" ∧ ob.dict = some builtinsNs ∧ ob.data = .plain)
    (hobj : s₁.heap.get? a = some { cls := .type "list", data := .seq vs.toArray }) (hi : IntsAre vs ns) (hl : ns.length ≤ sizeLine) (hr : Room k callerA)
    (F : ∀ base : Heap, K.In base → base.Ns mainGlobals mg → (∀ p ∈ cs, LamX.TabB base mg p.1 p.2) → FnG P w K mg base CX0 k fa fd [x] sp) (hbind : ∀ (s : Shared) (u : Value), BindsTo s fd ⟨[u], []⟩ [(x, u)])
    (hsp : ∀ H : Hp, (∀ t ∈ cs.map (·.2), H t = some (.tbl #[])) → SqL K H a (ns.map V.int) → sp [.ref a] H (fun v _ => v = .bl true) fun _ _ _ => False) :
    codeAny (model P w) callerA (.call (.ref fa) ⟨[.ref a], []⟩) (fun r s' => r = .ok (.ret (.bool true)) ∧ OldK s₁.heap s'.heap ∧ s'.os = s₁.os ∧ AllBare s'.gens) s₁ := by
  let ob : Obj := { cls := .type "list", data := .seq vs.toArray }
  have aNT : a ∉ cs.map (·.2) := fun z => by
    have e := (ht a z).1
    rw [hobj] at e
    exact nomatch congrArg Obj.data (Option.some.inj e)
  have main : ∀ H : Hp, (∀ b, H b = none ∨ (b ∈ cs.map (·.2) ∧ H b = some (.tbl #[])) ∨ (b = a ∧ K.lookup a = none ∧ H b = some (.frz ob (.lst (ns.map V.int))))) → (∀ t ∈ cs.map (·.2), H t = some (.tbl #[])) → SqL K H a (ns.map V.int) →
      codeAny (model P w) callerA (.call (.ref fa) ⟨[.ref a], []⟩) (fun r s' => r = .ok (.ret (.bool true)) ∧ OldK s₁.heap s'.heap ∧ s'.os = s₁.os ∧ AllBare s'.gens) s₁ := by
    intro H hH hHt hS
    have hok : HOk P w H s₁.heap := by
      intro b o e
      rcases hH b with z | ⟨m, z⟩ | ⟨rfl, _, z⟩
      · rw [z] at e; cases e
      · rw [z] at e
        cases e
        exact (ht b m).1
      · rw [z] at e
        cases e
        exact ⟨hobj, by rw [List.length_map]; exact hl, vs, _, vals_ints hi, hobj⟩
    have free : ∀ {b : Addr} {o : Obj}, s₁.heap.get? b = some o → (∀ it n, o.data ≠ .seq it n) → o.data ≠ .fields #[] → H b = none := by
      intro b o e d d2
      rcases hH b with z | ⟨m, _⟩ | ⟨rfl, _, _⟩
      · exact z
      · rw [(ht b m).1] at e
        cases e
        exact absurd rfl d2
      · rw [hobj] at e
        cases e
        exact absurd rfl (d _ _)
    have ns_at : ∀ {b : Addr} {m : Str → Option Value}, s₁.heap.Ns b m → (hidT s₁.heap H).Ns b m := by
      rintro b m ⟨o, es, ep, e, d, r⟩
      exact ⟨o, es, ep, hidT_get e (free e (fun it n z => by rw [d] at z; cases z) (fun z => by rw [d] at z; cases z)), d, r⟩
    have Kb : K.In (hidT s₁.heap H) := by
      intro b o e
      refine hidT_get (kx b o e) ?_
      rcases hH b with z | ⟨m, _⟩ | ⟨rfl, z, _⟩
      · exact z
      · rw [(ht b m).2] at e; cases e
      · rw [z] at e; cases e
    obtain ⟨mc, c1, c2⟩ := nol
    have hM : Mod K mg (hidT s₁.heap H) := ⟨Kb, ns_at hmg, ⟨mb, ns_at hmb, boot⟩, ⟨mc, ns_at c1, c2⟩⟩
    have notG : ∀ {b : Addr} {o : Obj}, s₁.heap.get? b = some o → (∀ es ep, o.data ≠ .dict es ep) → b ≠ mainGlobals := fun {b o} e n q => by
      obtain ⟨o', es, ep, e', d, _⟩ := hmg
      rw [q, e'] at e
      cases e
      exact n _ _ d
    have TB : ∀ p ∈ cs, LamX.TabB (hidT s₁.heap H) mg p.1 p.2 := fun p hp => by
      have mp : p.2 ∈ cs.map (·.2) := List.mem_map.mpr ⟨p, hp, rfl⟩
      obtain ⟨bm, om, b1, b2, b3, b4, b5, b6⟩ := hbm
      have hfree : H bm = none := free b3 (fun it n z => by rw [b6] at z; cases z) (fun z => by rw [b6] at z; cases z)
      have nP : bm ≠ p.2 := fun q => by
        rw [q, hHt p.2 mp] at hfree
        cases hfree
      exact ⟨PySem.W.codeHd_of_K Kb (hc p hp), ⟨bm, om, b1, b2, notG b3 (fun es ep z => by rw [b6] at z; cases z), nP, hidT_get b3 hfree, b4, b5, b6⟩, (notG (ht p.2 mp).1 fun es ep z => nomatch z).symm⟩
    have none0 : ∀ b ∈ frs [], H b = none := fun b z => nomatch (show b ∈ ([] : List Addr) from z)
    have env : Env0 P w K mg (hidT s₁.heap H) callerA [] s₁ H := ⟨rfl, hM, fun b o e => of_hidT e, Nat.le_of_eq (hidT_size _ _), trivial, none0, hok, .of_eq hgs⟩
    refine codeAny_mono ((F _ Kb (ns_at hmg) TB).runG callerA [] s₁ H ⟨[.ref a], []⟩ [.ref a] [.ref a] _ _ rfl hr env (hbind s₁ (.ref a)) (.cons rfl .nil) (hsp H hHt hS)) ?_
    intro r s' h
    cases r with
    | error e => exact False.elim h
    | ok fl =>
      cases fl with
      | next => exact False.elim h
      | brk => exact False.elim h
      | cont => exact False.elim h
      | ret u =>
        obtain ⟨v, H', os, bare, un, hok', rv, rfl⟩ := h
        cases (show u = Value.bool true from rv)
        have grown : ∀ t ∈ cs.map (·.2), ∃ more : Array Value, s'.heap.get? t = some { cls := .none, data := .fields more } := fun t m => by
          obtain ⟨more, z⟩ := un.tbls t #[] (hHt t m)
          exact ⟨_, hok' t _ z⟩
        have same : ∀ b o, b ∉ cs.map (·.2) → s₁.heap.get? b = some o → s'.heap.get? b = some o := fun b o nb e => by
          rcases hH b with z | ⟨m, _⟩ | ⟨rfl, _, z⟩
          · exact un.keep b o e z (fun y => nomatch (show b ∈ ([] : List Addr) from y)) (fun y => nomatch y)
          · exact absurd m nb
          · obtain ⟨e2, _⟩ := hok' _ _ (un.frzs _ _ _ z)
            rw [hobj] at e
            cases e
            exact e2
        refine ⟨rfl, ⟨fun b o e => ?_, fun b o e => ?_⟩, os, bare⟩
        · by_cases m : b ∈ cs.map (·.2)
          · obtain ⟨more, hm⟩ := grown b m
            obtain ⟨p, hp, ep⟩ := List.mem_map.mp m
            have e1 := (ht b m).1
            rw [e1] at e
            cases e
            subst ep
            exact .inr (.inl ⟨((PySem.W.codeHd_of_K kx (hc p hp)).tab e1).isCodeTable, rfl, #[], more, rfl, by rw [Array.empty_append]; exact hm⟩)
          · exact .inl (same b o m e)
        · by_cases m : b ∈ cs.map (·.2)
          · obtain ⟨more, hm⟩ := grown b m
            exact ⟨_, hm⟩
          · exact ⟨o, same b o m e⟩
  cases hk : K.lookup a with
  | some o =>
    have e := kx a o hk
    rw [hobj] at e
    cases e
    refine main (fun b => if b ∈ cs.map (·.2) then some (.tbl #[]) else none) (fun b => ?_) (fun t m => if_pos m) (.inr ⟨ob, vs.toArray, _, hk, rfl, rfl, rfl, ?_, by simpa using vals_ints hi⟩)
    · by_cases m : b ∈ cs.map (·.2)
      · exact .inr (.inl ⟨m, if_pos m⟩)
      · exact .inl (if_neg m)
    · rw [List.size_toArray, hi.length]
      exact hl
  | none =>
    refine main (fun b => if b = a then some (.frz ob (.lst (ns.map V.int))) else if b ∈ cs.map (·.2) then some (.tbl #[]) else none) (fun b => ?_) (fun t m => ?_) (.inl (.inr ⟨ob, if_pos rfl⟩))
    · by_cases c : b = a
      · exact .inr (.inr ⟨c, hk, if_pos c⟩)
      · by_cases m : b ∈ cs.map (·.2)
        · exact .inr (.inl ⟨m, (if_neg c).trans (if_pos m)⟩)
        · exact .inl ((if_neg c).trans (if_neg m))
    · exact (if_neg fun z : t = a => aNT (z ▸ m)).trans (if_pos m)
/-- the goal that k_head leaves -/
theorem walkT_of {l : PySem.W.OpenLaw} {n k : Nat} {q : Program} {loose : List Str} {XP : (Str → Option Value) → Heap → Prop} {YP : World → Heap → Prop} {d : DefRec} {K : Params → PySem.W.Frag} {x : Str}
    (hn : l.most = some n) (hn2 : n ≤ sizeLine) (hdf : d.params.defaults = []) (hr : Room k callerA) (hY : ∀ (w : World) (h : Heap), YP w h → (K w.params).In h)
    (F : ∀ (w : World) (mg : Str → Option Value) (fa : Addr) (h : Heap), YP w h → (K w.params).In h → h.Ns mainGlobals mg → mg d.name = some (.ref fa) →
      ∃ (fd : FuncData) (cs : List (Addr × Addr)) (sp : Sp), (∀ (s : Shared) (u : Value), BindsTo s fd ⟨[u], []⟩ [(x, u)]) ∧ (∀ t ∈ cs.map (·.2), h.get? t = some tab0 ∧ (K w.params).lookup t = none) ∧ (∀ p ∈ cs, PySem.W.codeHdIn (K w.params) p.1 p.2 = true) ∧
        (∀ (H : Hp) (a : Addr) (ns : List Int), ns.length ≤ n → (∀ t ∈ cs.map (·.2), H t = some (.tbl #[])) → SqL (K w.params) H a (ns.map V.int) → sp [.ref a] H (fun v _ => v = .bl true) fun _ _ _ => False) ∧
        ∀ base : Heap, (K w.params).In base → base.Ns mainGlobals mg → (∀ p ∈ cs, LamX.TabB base mg p.1 p.2) → FnG l.prog w (K w.params) mg base CX0 k fa fd [x] sp) :
    PySem.W.WalkO q loose XP YP l.row.toRowW d [] (fun f vs => PySem.call f vs) := by
  refine Att.attach_callB hn hdf fun w s₀ s₁ mg mb fa o pm cd doc a vs ns G Y ho hd hcd hmg hobj hints hlen _ hg => ?_
  obtain ⟨fd, cs, sp, hb, hT, hC, hsp, hF⟩ := F w mg fa _ Y (hY w _ Y) G.T.g hmg
  exact lawT_runs (hY w _ Y) G.T.g G.T.b G.T.builtins G.T.nolimit hg hT hC G.T.bmain hobj hints (Nat.le_trans hlen hn2) hr hF hb fun H hH hS => hsp H a ns hlen hH hS
end Vf

namespace K41
open PySem PySem.Spec PyProof.Rows L2 Vf Evl
theorem all_mk {P : Program} {w : World} {K : PySem.W.Frag} {h : Heap} {mg : Str → Option Value} {fa : Addr} (X : K.In h) (G : h.Ns mainGlobals mg) (hfa : mg "law" = some (.ref fa))
    {f_InvalidNumber_init : Addr} {od_InvalidNumber_init an_InvalidNumber_init : Option Addr} {sl_InvalidNumber_init : Array (Option Value)} {oc_InvalidNumber_init kV_InvalidNumber_init dc_InvalidNumber_init pm_InvalidNumber_init cd_InvalidNumber_init ct_InvalidNumber_init : Value}
    {c_InvalidNumber : Addr} (a_InvalidNumber_init : PySem.W.nsIn K mainGlobals "InvalidNumber" = some (some (.ref c_InvalidNumber))) (i_InvalidNumber : PySem.W.findIn K (.ref c_InvalidNumber) "__init__" = some (some (.ref f_InvalidNumber_init))) (x_InvalidNumber : OexC K c_InvalidNumber) (e_InvalidNumber : ExcC K c_InvalidNumber) (y_InvalidNumber : XfC K c_InvalidNumber)
    (t_InvalidNumber : PySem.W.typeIn K (.ref f_InvalidNumber_init) = some (.type "function")) (n_InvalidNumber : PySem.W.findIn K (.ref c_InvalidNumber) "number" = some none)
    (l_InvalidNumber_init : K.lookup f_InvalidNumber_init = some ⟨oc_InvalidNumber_init, od_InvalidNumber_init, .func (PySem.W.fnOf "__init__" "InvalidNumber.__init__" (defArgs s_InvalidNumber_init) (defBody s_InvalidNumber_init) (defScope s_InvalidNumber_init) .none kV_InvalidNumber_init dc_InvalidNumber_init pm_InvalidNumber_init an_InvalidNumber_init cd_InvalidNumber_init ct_InvalidNumber_init), sl_InvalidNumber_init⟩)
    (c_InvalidNumber_init : PySem.W.codeIn K cd_InvalidNumber_init "InvalidNumber.__init__" = true) (k_InvalidNumber_init : PySem.W.keepIn K (.ref f_InvalidNumber_init) = true)
    {f_InvalidTies_init : Addr} {od_InvalidTies_init an_InvalidTies_init : Option Addr} {sl_InvalidTies_init : Array (Option Value)} {oc_InvalidTies_init kV_InvalidTies_init dc_InvalidTies_init pm_InvalidTies_init cd_InvalidTies_init ct_InvalidTies_init : Value}
    {c_InvalidTies : Addr} (a_InvalidTies_init : PySem.W.nsIn K mainGlobals "InvalidTies" = some (some (.ref c_InvalidTies))) (i_InvalidTies : PySem.W.findIn K (.ref c_InvalidTies) "__init__" = some (some (.ref f_InvalidTies_init))) (x_InvalidTies : OexC K c_InvalidTies) (e_InvalidTies : ExcC K c_InvalidTies) (y_InvalidTies : XfC K c_InvalidTies)
    (t_InvalidTies : PySem.W.typeIn K (.ref f_InvalidTies_init) = some (.type "function")) (n_InvalidTies : PySem.W.findIn K (.ref c_InvalidTies) "index" = some none)
    (l_InvalidTies_init : K.lookup f_InvalidTies_init = some ⟨oc_InvalidTies_init, od_InvalidTies_init, .func (PySem.W.fnOf "__init__" "InvalidTies.__init__" (defArgs s_InvalidTies_init) (defBody s_InvalidTies_init) (defScope s_InvalidTies_init) .none kV_InvalidTies_init dc_InvalidTies_init pm_InvalidTies_init an_InvalidTies_init cd_InvalidTies_init ct_InvalidTies_init), sl_InvalidTies_init⟩)
    (c_InvalidTies_init : PySem.W.codeIn K cd_InvalidTies_init "InvalidTies.__init__" = true) (k_InvalidTies_init : PySem.W.keepIn K (.ref f_InvalidTies_init) = true)
    {f_InvalidStanding_init : Addr} {od_InvalidStanding_init an_InvalidStanding_init : Option Addr} {sl_InvalidStanding_init : Array (Option Value)} {oc_InvalidStanding_init kV_InvalidStanding_init dc_InvalidStanding_init pm_InvalidStanding_init cd_InvalidStanding_init ct_InvalidStanding_init : Value}
    {c_InvalidStanding : Addr} (a_InvalidStanding_init : PySem.W.nsIn K mainGlobals "InvalidStanding" = some (some (.ref c_InvalidStanding))) (i_InvalidStanding : PySem.W.findIn K (.ref c_InvalidStanding) "__init__" = some (some (.ref f_InvalidStanding_init))) (x_InvalidStanding : OexC K c_InvalidStanding) (e_InvalidStanding : ExcC K c_InvalidStanding) (y_InvalidStanding : XfC K c_InvalidStanding)
    (t_InvalidStanding : PySem.W.typeIn K (.ref f_InvalidStanding_init) = some (.type "function")) (n_InvalidStanding : PySem.W.findIn K (.ref c_InvalidStanding) "index" = some none)
    (l_InvalidStanding_init : K.lookup f_InvalidStanding_init = some ⟨oc_InvalidStanding_init, od_InvalidStanding_init, .func (PySem.W.fnOf "__init__" "InvalidStanding.__init__" (defArgs s_InvalidStanding_init) (defBody s_InvalidStanding_init) (defScope s_InvalidStanding_init) .none kV_InvalidStanding_init dc_InvalidStanding_init pm_InvalidStanding_init an_InvalidStanding_init cd_InvalidStanding_init ct_InvalidStanding_init), sl_InvalidStanding_init⟩)
    (c_InvalidStanding_init : PySem.W.codeIn K cd_InvalidStanding_init "InvalidStanding.__init__" = true) (k_InvalidStanding_init : PySem.W.keepIn K (.ref f_InvalidStanding_init) = true)
    {f_InvalidOrder_init : Addr} {od_InvalidOrder_init an_InvalidOrder_init : Option Addr} {sl_InvalidOrder_init : Array (Option Value)} {oc_InvalidOrder_init kV_InvalidOrder_init dc_InvalidOrder_init pm_InvalidOrder_init cd_InvalidOrder_init ct_InvalidOrder_init : Value}
    {c_InvalidOrder : Addr} (a_InvalidOrder_init : PySem.W.nsIn K mainGlobals "InvalidOrder" = some (some (.ref c_InvalidOrder))) (i_InvalidOrder : PySem.W.findIn K (.ref c_InvalidOrder) "__init__" = some (some (.ref f_InvalidOrder_init))) (x_InvalidOrder : OexC K c_InvalidOrder) (e_InvalidOrder : ExcC K c_InvalidOrder) (y_InvalidOrder : XfC K c_InvalidOrder)
    (t_InvalidOrder : PySem.W.typeIn K (.ref f_InvalidOrder_init) = some (.type "function")) (n_InvalidOrder : PySem.W.findIn K (.ref c_InvalidOrder) "index" = some none)
    (l_InvalidOrder_init : K.lookup f_InvalidOrder_init = some ⟨oc_InvalidOrder_init, od_InvalidOrder_init, .func (PySem.W.fnOf "__init__" "InvalidOrder.__init__" (defArgs s_InvalidOrder_init) (defBody s_InvalidOrder_init) (defScope s_InvalidOrder_init) .none kV_InvalidOrder_init dc_InvalidOrder_init pm_InvalidOrder_init an_InvalidOrder_init cd_InvalidOrder_init ct_InvalidOrder_init), sl_InvalidOrder_init⟩)
    (c_InvalidOrder_init : PySem.W.codeIn K cd_InvalidOrder_init "InvalidOrder.__init__" = true) (k_InvalidOrder_init : PySem.W.keepIn K (.ref f_InvalidOrder_init) = true)
    {f_UnknownCall_init : Addr} {od_UnknownCall_init an_UnknownCall_init : Option Addr} {sl_UnknownCall_init : Array (Option Value)} {oc_UnknownCall_init kV_UnknownCall_init dc_UnknownCall_init pm_UnknownCall_init cd_UnknownCall_init ct_UnknownCall_init : Value}
    {c_UnknownCall : Addr} (a_UnknownCall_init : PySem.W.nsIn K mainGlobals "UnknownCall" = some (some (.ref c_UnknownCall))) (i_UnknownCall : PySem.W.findIn K (.ref c_UnknownCall) "__init__" = some (some (.ref f_UnknownCall_init))) (x_UnknownCall : OexL K c_UnknownCall) (e_UnknownCall : ExcC K c_UnknownCall) (y_UnknownCall : XfC K c_UnknownCall)
    (t_UnknownCall : PySem.W.typeIn K (.ref f_UnknownCall_init) = some (.type "function")) (n_UnknownCall : PySem.W.findIn K (.ref c_UnknownCall) "number" = some none)
    (l_UnknownCall_init : K.lookup f_UnknownCall_init = some ⟨oc_UnknownCall_init, od_UnknownCall_init, .func (PySem.W.fnOf "__init__" "UnknownCall.__init__" (defArgs s_UnknownCall_init) (defBody s_UnknownCall_init) (defScope s_UnknownCall_init) .none kV_UnknownCall_init dc_UnknownCall_init pm_UnknownCall_init an_UnknownCall_init cd_UnknownCall_init ct_UnknownCall_init), sl_UnknownCall_init⟩)
    (c_UnknownCall_init : PySem.W.codeIn K cd_UnknownCall_init "UnknownCall.__init__" = true) (k_UnknownCall_init : PySem.W.keepIn K (.ref f_UnknownCall_init) = true)
    {f_is_from_one : Addr} {od_is_from_one an_is_from_one : Option Addr} {sl_is_from_one : Array (Option Value)} {oc_is_from_one kV_is_from_one dc_is_from_one pm_is_from_one cd_is_from_one ct_is_from_one : Value}
    (a_is_from_one : PySem.W.nsIn K mainGlobals "is_from_one" = some (some (.ref f_is_from_one)))
    (l_is_from_one : K.lookup f_is_from_one = some ⟨oc_is_from_one, od_is_from_one, .func (PySem.W.fnOf "is_from_one" "is_from_one" (defArgs s_is_from_one) (defBody s_is_from_one) (defScope s_is_from_one) .none kV_is_from_one dc_is_from_one pm_is_from_one an_is_from_one cd_is_from_one ct_is_from_one), sl_is_from_one⟩)
    (c_is_from_one : PySem.W.codeIn K cd_is_from_one "is_from_one" = true) (k_is_from_one : PySem.W.keepIn K (.ref f_is_from_one) = true)
    {f_first_wrong : Addr} {od_first_wrong an_first_wrong : Option Addr} {sl_first_wrong : Array (Option Value)} {oc_first_wrong kV_first_wrong dc_first_wrong pm_first_wrong cd_first_wrong ct_first_wrong : Value}
    (a_first_wrong : PySem.W.nsIn K mainGlobals "first_wrong" = some (some (.ref f_first_wrong)))
    (l_first_wrong : K.lookup f_first_wrong = some ⟨oc_first_wrong, od_first_wrong, .func (PySem.W.fnOf "first_wrong" "first_wrong" (defArgs s_first_wrong) (defBody s_first_wrong) (defScope s_first_wrong) .none kV_first_wrong dc_first_wrong pm_first_wrong an_first_wrong cd_first_wrong ct_first_wrong), sl_first_wrong⟩)
    (c_first_wrong : PySem.W.codeIn K cd_first_wrong "first_wrong" = true) (k_first_wrong : PySem.W.keepIn K (.ref f_first_wrong) = true)
    {f_check_count : Addr} {od_check_count an_check_count : Option Addr} {sl_check_count : Array (Option Value)} {oc_check_count kV_check_count dc_check_count pm_check_count cd_check_count ct_check_count : Value}
    (a_check_count : PySem.W.nsIn K mainGlobals "check_count" = some (some (.ref f_check_count)))
    (l_check_count : K.lookup f_check_count = some ⟨oc_check_count, od_check_count, .func (PySem.W.fnOf "check_count" "check_count" (defArgs s_check_count) (defBody s_check_count) (defScope s_check_count) .none kV_check_count dc_check_count pm_check_count an_check_count cd_check_count ct_check_count), sl_check_count⟩)
    (c_check_count : PySem.W.codeIn K cd_check_count "check_count" = true) (k_check_count : PySem.W.keepIn K (.ref f_check_count) = true)
    {f_is_tie : Addr} {od_is_tie an_is_tie : Option Addr} {sl_is_tie : Array (Option Value)} {oc_is_tie kV_is_tie dc_is_tie pm_is_tie cd_is_tie ct_is_tie : Value}
    (a_is_tie : PySem.W.nsIn K mainGlobals "is_tie" = some (some (.ref f_is_tie)))
    (l_is_tie : K.lookup f_is_tie = some ⟨oc_is_tie, od_is_tie, .func (PySem.W.fnOf "is_tie" "is_tie" (defArgs s_is_tie) (defBody s_is_tie) (defScope s_is_tie) .none kV_is_tie dc_is_tie pm_is_tie an_is_tie cd_is_tie ct_is_tie), sl_is_tie⟩)
    (c_is_tie : PySem.W.codeIn K cd_is_tie "is_tie" = true) (k_is_tie : PySem.W.keepIn K (.ref f_is_tie) = true)
    {f_check_ties : Addr} {od_check_ties an_check_ties : Option Addr} {sl_check_ties : Array (Option Value)} {oc_check_ties kV_check_ties dc_check_ties pm_check_ties cd_check_ties ct_check_ties : Value}
    (a_check_ties : PySem.W.nsIn K mainGlobals "check_ties" = some (some (.ref f_check_ties)))
    (l_check_ties : K.lookup f_check_ties = some ⟨oc_check_ties, od_check_ties, .func (PySem.W.fnOf "check_ties" "check_ties" (defArgs s_check_ties) (defBody s_check_ties) (defScope s_check_ties) .none kV_check_ties dc_check_ties pm_check_ties an_check_ties cd_check_ties ct_check_ties), sl_check_ties⟩)
    (c_check_ties : PySem.W.codeIn K cd_check_ties "check_ties" = true) (k_check_ties : PySem.W.keepIn K (.ref f_check_ties) = true)
    {f_check_net : Addr} {od_check_net an_check_net : Option Addr} {sl_check_net : Array (Option Value)} {oc_check_net kV_check_net dc_check_net pm_check_net cd_check_net ct_check_net : Value}
    (a_check_net : PySem.W.nsIn K mainGlobals "check_net" = some (some (.ref f_check_net)))
    (l_check_net : K.lookup f_check_net = some ⟨oc_check_net, od_check_net, .func (PySem.W.fnOf "check_net" "check_net" (defArgs s_check_net) (defBody s_check_net) (defScope s_check_net) .none kV_check_net dc_check_net pm_check_net an_check_net cd_check_net ct_check_net), sl_check_net⟩)
    (c_check_net : PySem.W.codeIn K cd_check_net "check_net" = true) (k_check_net : PySem.W.keepIn K (.ref f_check_net) = true)
    {f_check_standing : Addr} {od_check_standing an_check_standing : Option Addr} {sl_check_standing : Array (Option Value)} {oc_check_standing kV_check_standing dc_check_standing pm_check_standing cd_check_standing ct_check_standing : Value}
    (a_check_standing : PySem.W.nsIn K mainGlobals "check_standing" = some (some (.ref f_check_standing)))
    (l_check_standing : K.lookup f_check_standing = some ⟨oc_check_standing, od_check_standing, .func (PySem.W.fnOf "check_standing" "check_standing" (defArgs s_check_standing) (defBody s_check_standing) (defScope s_check_standing) .none kV_check_standing dc_check_standing pm_check_standing an_check_standing cd_check_standing ct_check_standing), sl_check_standing⟩)
    (c_check_standing : PySem.W.codeIn K cd_check_standing "check_standing" = true) (k_check_standing : PySem.W.keepIn K (.ref f_check_standing) = true)
    {f_check_order_of : Addr} {od_check_order_of an_check_order_of : Option Addr} {sl_check_order_of : Array (Option Value)} {oc_check_order_of kV_check_order_of dc_check_order_of pm_check_order_of cd_check_order_of ct_check_order_of : Value}
    (a_check_order_of : PySem.W.nsIn K mainGlobals "check_order_of" = some (some (.ref f_check_order_of)))
    (l_check_order_of : K.lookup f_check_order_of = some ⟨oc_check_order_of, od_check_order_of, .func (PySem.W.fnOf "check_order_of" "check_order_of" (defArgs s_check_order_of) (defBody s_check_order_of) (defScope s_check_order_of) .none kV_check_order_of dc_check_order_of pm_check_order_of an_check_order_of cd_check_order_of ct_check_order_of), sl_check_order_of⟩)
    (c_check_order_of : PySem.W.codeIn K cd_check_order_of "check_order_of" = true) (k_check_order_of : PySem.W.keepIn K (.ref f_check_order_of) = true)
    {f_check_call : Addr} {od_check_call an_check_call : Option Addr} {sl_check_call : Array (Option Value)} {oc_check_call kV_check_call dc_check_call pm_check_call cd_check_call ct_check_call : Value}
    (a_check_call : PySem.W.nsIn K mainGlobals "check_call" = some (some (.ref f_check_call)))
    (l_check_call : K.lookup f_check_call = some ⟨oc_check_call, od_check_call, .func (PySem.W.fnOf "check_call" "check_call" (defArgs s_check_call) (defBody s_check_call) (defScope s_check_call) .none kV_check_call dc_check_call pm_check_call an_check_call cd_check_call ct_check_call), sl_check_call⟩)
    (c_check_call : PySem.W.codeIn K cd_check_call "check_call" = true) (k_check_call : PySem.W.keepIn K (.ref f_check_call) = true)
    {f_next_call : Addr} {od_next_call an_next_call : Option Addr} {sl_next_call : Array (Option Value)} {oc_next_call kV_next_call dc_next_call pm_next_call cd_next_call ct_next_call : Value}
    (a_next_call : PySem.W.nsIn K mainGlobals "next_call" = some (some (.ref f_next_call)))
    (l_next_call : K.lookup f_next_call = some ⟨oc_next_call, od_next_call, .func (PySem.W.fnOf "next_call" "next_call" (defArgs s_next_call) (defBody s_next_call) (defScope s_next_call) .none kV_next_call dc_next_call pm_next_call an_next_call cd_next_call ct_next_call), sl_next_call⟩)
    (c_next_call : PySem.W.codeIn K cd_next_call "next_call" = true) (k_next_call : PySem.W.keepIn K (.ref f_next_call) = true)
    {f_places_of : Addr} {od_places_of an_places_of : Option Addr} {sl_places_of : Array (Option Value)} {oc_places_of kV_places_of dc_places_of pm_places_of cd_places_of ct_places_of : Value}
    (a_places_of : PySem.W.nsIn K mainGlobals "places_of" = some (some (.ref f_places_of)))
    (l_places_of : K.lookup f_places_of = some ⟨oc_places_of, od_places_of, .func (PySem.W.fnOf "places_of" "places_of" (defArgs s_places_of) (defBody s_places_of) (defScope s_places_of) .none kV_places_of dc_places_of pm_places_of an_places_of cd_places_of ct_places_of), sl_places_of⟩)
    (c_places_of : PySem.W.codeIn K cd_places_of "places_of" = true) (k_places_of : PySem.W.keepIn K (.ref f_places_of) = true)
    {f_standing_of : Addr} {od_standing_of an_standing_of : Option Addr} {sl_standing_of : Array (Option Value)} {oc_standing_of kV_standing_of dc_standing_of pm_standing_of cd_standing_of ct_standing_of : Value}
    (a_standing_of : PySem.W.nsIn K mainGlobals "standing_of" = some (some (.ref f_standing_of)))
    (l_standing_of : K.lookup f_standing_of = some ⟨oc_standing_of, od_standing_of, .func (PySem.W.fnOf "standing_of" "standing_of" (defArgs s_standing_of) (defBody s_standing_of) (defScope s_standing_of) .none kV_standing_of dc_standing_of pm_standing_of an_standing_of cd_standing_of ct_standing_of), sl_standing_of⟩)
    (c_standing_of : PySem.W.codeIn K cd_standing_of "standing_of" = true) (k_standing_of : PySem.W.keepIn K (.ref f_standing_of) = true)
    {f_turned_about : Addr} {od_turned_about an_turned_about : Option Addr} {sl_turned_about : Array (Option Value)} {oc_turned_about kV_turned_about dc_turned_about pm_turned_about cd_turned_about ct_turned_about : Value}
    (a_turned_about : PySem.W.nsIn K mainGlobals "turned_about" = some (some (.ref f_turned_about)))
    (l_turned_about : K.lookup f_turned_about = some ⟨oc_turned_about, od_turned_about, .func (PySem.W.fnOf "turned_about" "turned_about" (defArgs s_turned_about) (defBody s_turned_about) (defScope s_turned_about) .none kV_turned_about dc_turned_about pm_turned_about an_turned_about cd_turned_about ct_turned_about), sl_turned_about⟩)
    (c_turned_about : PySem.W.codeIn K cd_turned_about "turned_about" = true) (k_turned_about : PySem.W.keepIn K (.ref f_turned_about) = true)
    {f_tied_seats : Addr} {od_tied_seats an_tied_seats : Option Addr} {sl_tied_seats : Array (Option Value)} {oc_tied_seats kV_tied_seats dc_tied_seats pm_tied_seats cd_tied_seats ct_tied_seats : Value}
    (a_tied_seats : PySem.W.nsIn K mainGlobals "tied_seats" = some (some (.ref f_tied_seats)))
    (l_tied_seats : K.lookup f_tied_seats = some ⟨oc_tied_seats, od_tied_seats, .func (PySem.W.fnOf "tied_seats" "tied_seats" (defArgs s_tied_seats) (defBody s_tied_seats) (defScope s_tied_seats) .none kV_tied_seats dc_tied_seats pm_tied_seats an_tied_seats cd_tied_seats ct_tied_seats), sl_tied_seats⟩)
    (c_tied_seats : PySem.W.codeIn K cd_tied_seats "tied_seats" = true) (k_tied_seats : PySem.W.keepIn K (.ref f_tied_seats) = true)
    {f_people_called : Addr} {od_people_called an_people_called : Option Addr} {sl_people_called : Array (Option Value)} {oc_people_called kV_people_called dc_people_called pm_people_called cd_people_called ct_people_called : Value}
    (a_people_called : PySem.W.nsIn K mainGlobals "people_called" = some (some (.ref f_people_called)))
    (l_people_called : K.lookup f_people_called = some ⟨oc_people_called, od_people_called, .func (PySem.W.fnOf "people_called" "people_called" (defArgs s_people_called) (defBody s_people_called) (defScope s_people_called) .none kV_people_called dc_people_called pm_people_called an_people_called cd_people_called ct_people_called), sl_people_called⟩)
    (c_people_called : PySem.W.codeIn K cd_people_called "people_called" = true) (k_people_called : PySem.W.keepIn K (.ref f_people_called) = true)
    {f_places_after : Addr} {od_places_after an_places_after : Option Addr} {sl_places_after : Array (Option Value)} {oc_places_after kV_places_after dc_places_after pm_places_after cd_places_after ct_places_after : Value}
    (a_places_after : PySem.W.nsIn K mainGlobals "places_after" = some (some (.ref f_places_after)))
    (l_places_after : K.lookup f_places_after = some ⟨oc_places_after, od_places_after, .func (PySem.W.fnOf "places_after" "places_after" (defArgs s_places_after) (defBody s_places_after) (defScope s_places_after) .none kV_places_after dc_places_after pm_places_after an_places_after cd_places_after ct_places_after), sl_places_after⟩)
    (c_places_after : PySem.W.codeIn K cd_places_after "places_after" = true) (k_places_after : PySem.W.keepIn K (.ref f_places_after) = true)
    {f_Room_init : Addr} {od_Room_init an_Room_init : Option Addr} {sl_Room_init : Array (Option Value)} {oc_Room_init kV_Room_init dc_Room_init pm_Room_init cd_Room_init ct_Room_init : Value}
    (l_Room_init : K.lookup f_Room_init = some ⟨oc_Room_init, od_Room_init, .func (PySem.W.fnOf "__init__" "Room.__init__" (defArgs s_Room_init) (defBody s_Room_init) (defScope s_Room_init) .none kV_Room_init dc_Room_init pm_Room_init an_Room_init cd_Room_init ct_Room_init), sl_Room_init⟩)
    (c_Room_init : PySem.W.codeIn K cd_Room_init "Room.__init__" = true) (k_Room_init : PySem.W.keepIn K (.ref f_Room_init) = true)
    {f_Room_len : Addr} {od_Room_len an_Room_len : Option Addr} {sl_Room_len : Array (Option Value)} {oc_Room_len kV_Room_len dc_Room_len pm_Room_len cd_Room_len ct_Room_len : Value}
    (l_Room_len : K.lookup f_Room_len = some ⟨oc_Room_len, od_Room_len, .func (PySem.W.fnOf "__len__" "Room.__len__" (defArgs s_Room_len) (defBody s_Room_len) (defScope s_Room_len) .none kV_Room_len dc_Room_len pm_Room_len an_Room_len cd_Room_len ct_Room_len), sl_Room_len⟩)
    (c_Room_len : PySem.W.codeIn K cd_Room_len "Room.__len__" = true) (k_Room_len : PySem.W.keepIn K (.ref f_Room_len) = true)
    {f_Room_seats : Addr} {od_Room_seats an_Room_seats : Option Addr} {sl_Room_seats : Array (Option Value)} {oc_Room_seats kV_Room_seats dc_Room_seats pm_Room_seats cd_Room_seats ct_Room_seats : Value}
    (l_Room_seats : K.lookup f_Room_seats = some ⟨oc_Room_seats, od_Room_seats, .func (PySem.W.fnOf "seats" "Room.seats" (defArgs s_Room_seats) (defBody s_Room_seats) (defScope s_Room_seats) .none kV_Room_seats dc_Room_seats pm_Room_seats an_Room_seats cd_Room_seats ct_Room_seats), sl_Room_seats⟩)
    (c_Room_seats : PySem.W.codeIn K cd_Room_seats "Room.seats" = true) (k_Room_seats : PySem.W.keepIn K (.ref f_Room_seats) = true)
    {f_Room_ties : Addr} {od_Room_ties an_Room_ties : Option Addr} {sl_Room_ties : Array (Option Value)} {oc_Room_ties kV_Room_ties dc_Room_ties pm_Room_ties cd_Room_ties ct_Room_ties : Value}
    (l_Room_ties : K.lookup f_Room_ties = some ⟨oc_Room_ties, od_Room_ties, .func (PySem.W.fnOf "ties" "Room.ties" (defArgs s_Room_ties) (defBody s_Room_ties) (defScope s_Room_ties) .none kV_Room_ties dc_Room_ties pm_Room_ties an_Room_ties cd_Room_ties ct_Room_ties), sl_Room_ties⟩)
    (c_Room_ties : PySem.W.codeIn K cd_Room_ties "Room.ties" = true) (k_Room_ties : PySem.W.keepIn K (.ref f_Room_ties) = true)
    {f_Room_standing : Addr} {od_Room_standing an_Room_standing : Option Addr} {sl_Room_standing : Array (Option Value)} {oc_Room_standing kV_Room_standing dc_Room_standing pm_Room_standing cd_Room_standing ct_Room_standing : Value}
    (l_Room_standing : K.lookup f_Room_standing = some ⟨oc_Room_standing, od_Room_standing, .func (PySem.W.fnOf "standing" "Room.standing" (defArgs s_Room_standing) (defBody s_Room_standing) (defScope s_Room_standing) .none kV_Room_standing dc_Room_standing pm_Room_standing an_Room_standing cd_Room_standing ct_Room_standing), sl_Room_standing⟩)
    (c_Room_standing : PySem.W.codeIn K cd_Room_standing "Room.standing" = true) (k_Room_standing : PySem.W.keepIn K (.ref f_Room_standing) = true)
    {f_Room_changes : Addr} {od_Room_changes an_Room_changes : Option Addr} {sl_Room_changes : Array (Option Value)} {oc_Room_changes kV_Room_changes dc_Room_changes pm_Room_changes cd_Room_changes ct_Room_changes : Value}
    (l_Room_changes : K.lookup f_Room_changes = some ⟨oc_Room_changes, od_Room_changes, .func (PySem.W.fnOf "changes" "Room.changes" (defArgs s_Room_changes) (defBody s_Room_changes) (defScope s_Room_changes) .none kV_Room_changes dc_Room_changes pm_Room_changes an_Room_changes cd_Room_changes ct_Room_changes), sl_Room_changes⟩)
    (c_Room_changes : PySem.W.codeIn K cd_Room_changes "Room.changes" = true) (k_Room_changes : PySem.W.keepIn K (.ref f_Room_changes) = true)
    {f_Room_call : Addr} {od_Room_call an_Room_call : Option Addr} {sl_Room_call : Array (Option Value)} {oc_Room_call kV_Room_call dc_Room_call pm_Room_call cd_Room_call ct_Room_call : Value}
    (l_Room_call : K.lookup f_Room_call = some ⟨oc_Room_call, od_Room_call, .func (PySem.W.fnOf "call" "Room.call" (defArgs s_Room_call) (defBody s_Room_call) (defScope s_Room_call) .none kV_Room_call dc_Room_call pm_Room_call an_Room_call cd_Room_call ct_Room_call), sl_Room_call⟩)
    (c_Room_call : PySem.W.codeIn K cd_Room_call "Room.call" = true) (k_Room_call : PySem.W.keepIn K (.ref f_Room_call) = true)
    {f_Room_round : Addr} {od_Room_round an_Room_round : Option Addr} {sl_Room_round : Array (Option Value)} {oc_Room_round kV_Room_round dc_Room_round pm_Room_round cd_Room_round ct_Room_round : Value}
    (l_Room_round : K.lookup f_Room_round = some ⟨oc_Room_round, od_Room_round, .func (PySem.W.fnOf "round" "Room.round" (defArgs s_Room_round) (defBody s_Room_round) (defScope s_Room_round) .none kV_Room_round dc_Room_round pm_Room_round an_Room_round cd_Room_round ct_Room_round), sl_Room_round⟩)
    (c_Room_round : PySem.W.codeIn K cd_Room_round "Room.round" = true) (k_Room_round : PySem.W.keepIn K (.ref f_Room_round) = true)
    {f_Room_round_back : Addr} {od_Room_round_back an_Room_round_back : Option Addr} {sl_Room_round_back : Array (Option Value)} {oc_Room_round_back kV_Room_round_back dc_Room_round_back pm_Room_round_back cd_Room_round_back ct_Room_round_back : Value}
    (l_Room_round_back : K.lookup f_Room_round_back = some ⟨oc_Room_round_back, od_Room_round_back, .func (PySem.W.fnOf "round_back" "Room.round_back" (defArgs s_Room_round_back) (defBody s_Room_round_back) (defScope s_Room_round_back) .none kV_Room_round_back dc_Room_round_back pm_Room_round_back an_Room_round_back cd_Room_round_back ct_Room_round_back), sl_Room_round_back⟩)
    (c_Room_round_back : PySem.W.codeIn K cd_Room_round_back "Room.round_back" = true) (k_Room_round_back : PySem.W.keepIn K (.ref f_Room_round_back) = true)
    {f_Room_run : Addr} {od_Room_run an_Room_run : Option Addr} {sl_Room_run : Array (Option Value)} {oc_Room_run kV_Room_run dc_Room_run pm_Room_run cd_Room_run ct_Room_run : Value}
    (l_Room_run : K.lookup f_Room_run = some ⟨oc_Room_run, od_Room_run, .func (PySem.W.fnOf "run" "Room.run" (defArgs s_Room_run) (defBody s_Room_run) (defScope s_Room_run) .none kV_Room_run dc_Room_run pm_Room_run an_Room_run cd_Room_run ct_Room_run), sl_Room_run⟩)
    (c_Room_run : PySem.W.codeIn K cd_Room_run "Room.run" = true) (k_Room_run : PySem.W.keepIn K (.ref f_Room_run) = true)
    {f_Room_undo : Addr} {od_Room_undo an_Room_undo : Option Addr} {sl_Room_undo : Array (Option Value)} {oc_Room_undo kV_Room_undo dc_Room_undo pm_Room_undo cd_Room_undo ct_Room_undo : Value}
    (l_Room_undo : K.lookup f_Room_undo = some ⟨oc_Room_undo, od_Room_undo, .func (PySem.W.fnOf "undo" "Room.undo" (defArgs s_Room_undo) (defBody s_Room_undo) (defScope s_Room_undo) .none kV_Room_undo dc_Room_undo pm_Room_undo an_Room_undo cd_Room_undo ct_Room_undo), sl_Room_undo⟩)
    (c_Room_undo : PySem.W.codeIn K cd_Room_undo "Room.undo" = true) (k_Room_undo : PySem.W.keepIn K (.ref f_Room_undo) = true)
    {f_Room__make_calls : Addr} {od_Room__make_calls an_Room__make_calls : Option Addr} {sl_Room__make_calls : Array (Option Value)} {oc_Room__make_calls kV_Room__make_calls dc_Room__make_calls pm_Room__make_calls cd_Room__make_calls ct_Room__make_calls : Value}
    (l_Room__make_calls : K.lookup f_Room__make_calls = some ⟨oc_Room__make_calls, od_Room__make_calls, .func (PySem.W.fnOf "_make_calls" "Room._make_calls" (defArgs s_Room__make_calls) (defBody s_Room__make_calls) (defScope s_Room__make_calls) .none kV_Room__make_calls dc_Room__make_calls pm_Room__make_calls an_Room__make_calls cd_Room__make_calls ct_Room__make_calls), sl_Room__make_calls⟩)
    (c_Room__make_calls : PySem.W.codeIn K cd_Room__make_calls "Room._make_calls" = true) (k_Room__make_calls : PySem.W.keepIn K (.ref f_Room__make_calls) = true)
    {f_l_draws : Addr} {od_l_draws an_l_draws : Option Addr} {sl_l_draws : Array (Option Value)} {oc_l_draws kV_l_draws dc_l_draws pm_l_draws cd_l_draws ct_l_draws : Value}
    (a_l_draws : PySem.W.nsIn K mainGlobals "_law_draws" = some (some (.ref f_l_draws)))
    (l_l_draws : K.lookup f_l_draws = some ⟨oc_l_draws, od_l_draws, .func (PySem.W.fnOf "_law_draws" "_law_draws" (defArgs s_l_draws) (defBody s_l_draws) (defScope s_l_draws) .none kV_l_draws dc_l_draws pm_l_draws an_l_draws cd_l_draws ct_l_draws), sl_l_draws⟩)
    (c_l_draws : PySem.W.codeIn K cd_l_draws "_law_draws" = true) (k_l_draws : PySem.W.keepIn K (.ref f_l_draws) = true)
    {f_l_next : Addr} {od_l_next an_l_next : Option Addr} {sl_l_next : Array (Option Value)} {oc_l_next kV_l_next dc_l_next pm_l_next cd_l_next ct_l_next : Value}
    (a_l_next : PySem.W.nsIn K mainGlobals "_law_next" = some (some (.ref f_l_next)))
    (l_l_next : K.lookup f_l_next = some ⟨oc_l_next, od_l_next, .func (PySem.W.fnOf "_law_next" "_law_next" (defArgs s_l_next) (defBody s_l_next) (defScope s_l_next) .none kV_l_next dc_l_next pm_l_next an_l_next cd_l_next ct_l_next), sl_l_next⟩)
    (c_l_next : PySem.W.codeIn K cd_l_next "_law_next" = true) (k_l_next : PySem.W.keepIn K (.ref f_l_next) = true)
    {f_l_mixed : Addr} {od_l_mixed an_l_mixed : Option Addr} {sl_l_mixed : Array (Option Value)} {oc_l_mixed kV_l_mixed dc_l_mixed pm_l_mixed cd_l_mixed ct_l_mixed : Value}
    (a_l_mixed : PySem.W.nsIn K mainGlobals "_law_mixed" = some (some (.ref f_l_mixed)))
    (l_l_mixed : K.lookup f_l_mixed = some ⟨oc_l_mixed, od_l_mixed, .func (PySem.W.fnOf "_law_mixed" "_law_mixed" (defArgs s_l_mixed) (defBody s_l_mixed) (defScope s_l_mixed) .none kV_l_mixed dc_l_mixed pm_l_mixed an_l_mixed cd_l_mixed ct_l_mixed), sl_l_mixed⟩)
    (c_l_mixed : PySem.W.codeIn K cd_l_mixed "_law_mixed" = true) (k_l_mixed : PySem.W.keepIn K (.ref f_l_mixed) = true)
    {f_l_net : Addr} {od_l_net an_l_net : Option Addr} {sl_l_net : Array (Option Value)} {oc_l_net kV_l_net dc_l_net pm_l_net cd_l_net ct_l_net : Value}
    (a_l_net : PySem.W.nsIn K mainGlobals "_law_net" = some (some (.ref f_l_net)))
    (l_l_net : K.lookup f_l_net = some ⟨oc_l_net, od_l_net, .func (PySem.W.fnOf "_law_net" "_law_net" (defArgs s_l_net) (defBody s_l_net) (defScope s_l_net) .none kV_l_net dc_l_net pm_l_net an_l_net cd_l_net ct_l_net), sl_l_net⟩)
    (c_l_net : PySem.W.codeIn K cd_l_net "_law_net" = true) (k_l_net : PySem.W.keepIn K (.ref f_l_net) = true)
    {f_l_caught : Addr} {od_l_caught an_l_caught : Option Addr} {sl_l_caught : Array (Option Value)} {oc_l_caught kV_l_caught dc_l_caught pm_l_caught cd_l_caught ct_l_caught : Value}
    (a_l_caught : PySem.W.nsIn K mainGlobals "_law_caught" = some (some (.ref f_l_caught)))
    (l_l_caught : K.lookup f_l_caught = some ⟨oc_l_caught, od_l_caught, .func (PySem.W.fnOf "_law_caught" "_law_caught" (defArgs s_l_caught) (defBody s_l_caught) (defScope s_l_caught) .none kV_l_caught dc_l_caught pm_l_caught an_l_caught cd_l_caught ct_l_caught), sl_l_caught⟩)
    (c_l_caught : PySem.W.codeIn K cd_l_caught "_law_caught" = true) (k_l_caught : PySem.W.keepIn K (.ref f_l_caught) = true)
    {f_l_bent : Addr} {od_l_bent an_l_bent : Option Addr} {sl_l_bent : Array (Option Value)} {oc_l_bent kV_l_bent dc_l_bent pm_l_bent cd_l_bent ct_l_bent : Value}
    (a_l_bent : PySem.W.nsIn K mainGlobals "_law_bent" = some (some (.ref f_l_bent)))
    (l_l_bent : K.lookup f_l_bent = some ⟨oc_l_bent, od_l_bent, .func (PySem.W.fnOf "_law_bent" "_law_bent" (defArgs s_l_bent) (defBody s_l_bent) (defScope s_l_bent) .none kV_l_bent dc_l_bent pm_l_bent an_l_bent cd_l_bent ct_l_bent), sl_l_bent⟩)
    (c_l_bent : PySem.W.codeIn K cd_l_bent "_law_bent" = true) (k_l_bent : PySem.W.keepIn K (.ref f_l_bent) = true)
    {f_l_made_right : Addr} {od_l_made_right an_l_made_right : Option Addr} {sl_l_made_right : Array (Option Value)} {oc_l_made_right kV_l_made_right dc_l_made_right pm_l_made_right ct_l_made_right : Value}
    (a_l_made_right : PySem.W.nsIn K mainGlobals "_law_made_right" = some (some (.ref f_l_made_right)))
    {kc_l_made_right pt_l_made_right : Addr}
    (l_l_made_right : K.lookup f_l_made_right = some ⟨oc_l_made_right, od_l_made_right, .func (PySem.W.fnOf "_law_made_right" "_law_made_right" (defArgs s_l_made_right) (defBody s_l_made_right) (defScope s_l_made_right) .none kV_l_made_right dc_l_made_right pm_l_made_right an_l_made_right (.ref kc_l_made_right) ct_l_made_right), sl_l_made_right⟩)
    (c_l_made_right : PySem.W.codeIn K (.ref kc_l_made_right) "_law_made_right" = true) (k_l_made_right : PySem.W.keepIn K (.ref f_l_made_right) = true)
    {jc_l_made_right : Value} {jd_l_made_right : Option Addr} {jv_l_made_right : Array Value} {js_l_made_right : Array (Option Value)} (j_l_made_right : K.lookup kc_l_made_right = some ⟨jc_l_made_right, jd_l_made_right, .fields jv_l_made_right, js_l_made_right⟩) (v_l_made_right : jv_l_made_right[11]? = some (.ref pt_l_made_right)) (g_l_made_right : PySem.W.codeHdIn K kc_l_made_right pt_l_made_right = true) (o_l_made_right : K.lookup pt_l_made_right = none) (b_l_made_right : h.get? pt_l_made_right = some Vf.tab0)
    {f_l_shown : Addr} {od_l_shown an_l_shown : Option Addr} {sl_l_shown : Array (Option Value)} {oc_l_shown kV_l_shown dc_l_shown pm_l_shown cd_l_shown ct_l_shown : Value}
    (a_l_shown : PySem.W.nsIn K mainGlobals "_law_shown" = some (some (.ref f_l_shown)))
    (l_l_shown : K.lookup f_l_shown = some ⟨oc_l_shown, od_l_shown, .func (PySem.W.fnOf "_law_shown" "_law_shown" (defArgs s_l_shown) (defBody s_l_shown) (defScope s_l_shown) .none kV_l_shown dc_l_shown pm_l_shown an_l_shown cd_l_shown ct_l_shown), sl_l_shown⟩)
    (c_l_shown : PySem.W.codeIn K cd_l_shown "_law_shown" = true) (k_l_shown : PySem.W.keepIn K (.ref f_l_shown) = true)
    {f_l_deeds_right : Addr} {od_l_deeds_right an_l_deeds_right : Option Addr} {sl_l_deeds_right : Array (Option Value)} {oc_l_deeds_right kV_l_deeds_right dc_l_deeds_right pm_l_deeds_right ct_l_deeds_right : Value}
    (a_l_deeds_right : PySem.W.nsIn K mainGlobals "_law_deeds_right" = some (some (.ref f_l_deeds_right)))
    {kc_l_deeds_right pt_l_deeds_right : Addr}
    (l_l_deeds_right : K.lookup f_l_deeds_right = some ⟨oc_l_deeds_right, od_l_deeds_right, .func (PySem.W.fnOf "_law_deeds_right" "_law_deeds_right" (defArgs s_l_deeds_right) (defBody s_l_deeds_right) (defScope s_l_deeds_right) .none kV_l_deeds_right dc_l_deeds_right pm_l_deeds_right an_l_deeds_right (.ref kc_l_deeds_right) ct_l_deeds_right), sl_l_deeds_right⟩)
    (c_l_deeds_right : PySem.W.codeIn K (.ref kc_l_deeds_right) "_law_deeds_right" = true) (k_l_deeds_right : PySem.W.keepIn K (.ref f_l_deeds_right) = true)
    {jc_l_deeds_right : Value} {jd_l_deeds_right : Option Addr} {jv_l_deeds_right : Array Value} {js_l_deeds_right : Array (Option Value)} (j_l_deeds_right : K.lookup kc_l_deeds_right = some ⟨jc_l_deeds_right, jd_l_deeds_right, .fields jv_l_deeds_right, js_l_deeds_right⟩) (v_l_deeds_right : jv_l_deeds_right[11]? = some (.ref pt_l_deeds_right)) (g_l_deeds_right : PySem.W.codeHdIn K kc_l_deeds_right pt_l_deeds_right = true) (o_l_deeds_right : K.lookup pt_l_deeds_right = none) (b_l_deeds_right : h.get? pt_l_deeds_right = some Vf.tab0)
    {f_l_right : Addr} {od_l_right an_l_right : Option Addr} {sl_l_right : Array (Option Value)} {oc_l_right kV_l_right dc_l_right pm_l_right ct_l_right : Value}
    (a_l_right : PySem.W.nsIn K mainGlobals "_law_right" = some (some (.ref f_l_right)))
    {kc_l_right pt_l_right : Addr}
    (l_l_right : K.lookup f_l_right = some ⟨oc_l_right, od_l_right, .func (PySem.W.fnOf "_law_right" "_law_right" (defArgs s_l_right) (defBody s_l_right) (defScope s_l_right) .none kV_l_right dc_l_right pm_l_right an_l_right (.ref kc_l_right) ct_l_right), sl_l_right⟩)
    (c_l_right : PySem.W.codeIn K (.ref kc_l_right) "_law_right" = true) (k_l_right : PySem.W.keepIn K (.ref f_l_right) = true)
    {jc_l_right : Value} {jd_l_right : Option Addr} {jv_l_right : Array Value} {js_l_right : Array (Option Value)} (j_l_right : K.lookup kc_l_right = some ⟨jc_l_right, jd_l_right, .fields jv_l_right, js_l_right⟩) (v_l_right : jv_l_right[11]? = some (.ref pt_l_right)) (g_l_right : PySem.W.codeHdIn K kc_l_right pt_l_right = true) (o_l_right : K.lookup pt_l_right = none) (b_l_right : h.get? pt_l_right = some Vf.tab0)
    {f_law : Addr} {od_law an_law : Option Addr} {sl_law : Array (Option Value)} {oc_law kV_law dc_law pm_law cd_law ct_law : Value}
    (a_law : PySem.W.nsIn K mainGlobals "law" = some (some (.ref f_law)))
    (l_law : K.lookup f_law = some ⟨oc_law, od_law, .func (PySem.W.fnOf "law" "law" (defArgs s_law) (defBody s_law) (defScope s_law) .none kV_law dc_law pm_law an_law cd_law ct_law), sl_law⟩)
    (c_law : PySem.W.codeIn K cd_law "law" = true) (k_law : PySem.W.keepIn K (.ref f_law) = true)
    {t_LEAST_COUNT : Tok} (q_LEAST_COUNT : PySem.W.nsIn K mainGlobals "LEAST_COUNT" = some (some (.int 3 t_LEAST_COUNT)))
    {t_MOST_COUNT : Tok} (q_MOST_COUNT : PySem.W.nsIn K mainGlobals "MOST_COUNT" = some (some (.int 40 t_MOST_COUNT)))
    (z_ValueError : PySem.W.nsIn K mainGlobals "ValueError" = some none)
    (z_LookupError : PySem.W.nsIn K mainGlobals "LookupError" = some none)
    (z_isinstance : PySem.W.nsIn K mainGlobals "isinstance" = some none)
    (z_int : PySem.W.nsIn K mainGlobals "int" = some none)
    (z_bool : PySem.W.nsIn K mainGlobals "bool" = some none)
    (z_set : PySem.W.nsIn K mainGlobals "set" = some none)
    (z_enumerate : PySem.W.nsIn K mainGlobals "enumerate" = some none)
    (z_list : PySem.W.nsIn K mainGlobals "list" = some none)
    (z_len : PySem.W.nsIn K mainGlobals "len" = some none)
    (z_tuple : PySem.W.nsIn K mainGlobals "tuple" = some none)
    (z_sorted : PySem.W.nsIn K mainGlobals "sorted" = some none)
    (z_range : PySem.W.nsIn K mainGlobals "range" = some none)
    (z_property : PySem.W.nsIn K mainGlobals "property" = some none)
    (z_repr : PySem.W.nsIn K mainGlobals "repr" = some none)
    (z_zip : PySem.W.nsIn K mainGlobals "zip" = some none)
    {c_NothingToUndo : Addr} (a_NothingToUndo_init : PySem.W.nsIn K mainGlobals "NothingToUndo" = some (some (.ref c_NothingToUndo))) (x_NothingToUndo : PySem.W.excIn K c_NothingToUndo leTail "LookupError.__new__" = true) (k_NothingToUndo : PySem.W.keepIn K (.ref c_NothingToUndo) = true) (s_NothingToUndo : PySem.W.subIn K (.ref c_NothingToUndo) (.type "BaseException") = some true) (t_NothingToUndo : PySem.W.typeIn K (.ref c_NothingToUndo) = some (.type "type")) (e_NothingToUndo : ExcC K c_NothingToUndo)
    {c_Room : Addr} (r_Room : PySem.W.nsIn K mainGlobals "Room" = some (some (.ref c_Room))) (cl_Room : Cls K c_Room) (mk_Room : Mk K c_Room f_Room_init)
    (me_call : Meth K c_Room "call" f_Room_call)
    (me_round : Meth K c_Room "round" f_Room_round)
    (me_round_back : Meth K c_Room "round_back" f_Room_round_back)
    (me_run : Meth K c_Room "run" f_Room_run)
    (me_undo : Meth K c_Room "undo" f_Room_undo)
    (me__make_calls : Meth K c_Room "_make_calls" f_Room__make_calls)
    {pp_seats : Addr} (pr_seats : PropOf K c_Room "seats" pp_seats f_Room_seats)
    {pp_ties : Addr} (pr_ties : PropOf K c_Room "ties" pp_ties f_Room_ties)
    {pp_standing : Addr} (pr_standing : PropOf K c_Room "standing" pp_standing f_Room_standing)
    {pp_changes : Addr} (pr_changes : PropOf K c_Room "changes" pp_changes f_Room_changes)
    (na__changes : NoAttr K c_Room "_changes")
    (na__earlier : NoAttr K c_Room "_earlier")
    (na__places : NoAttr K c_Room "_places")
    (na__seats : NoAttr K c_Room "_seats")
    (na__tied : NoAttr K c_Room "_tied")
    (na__ties : NoAttr K c_Room "_ties")
    (lm_Room : PySem.W.findIn K (.ref c_Room) "__len__" = some (some (.ref f_Room_len))) (lt_Room : PySem.W.typeIn K (.ref f_Room_len) = some (.type "function"))
    (v_LookupError : PySem.W.findCls K (.type "LookupError") (.type "type") "__init__" = some (.val (.builtin "LookupError.__init__")))
    (v_ValueError : PySem.W.findCls K (.type "ValueError") (.type "type") "__init__" = some (.val (.builtin "ValueError.__init__"))) (tb : tabC K [c_InvalidNumber, c_InvalidTies, c_InvalidStanding, c_InvalidOrder] [c_UnknownCall, c_NothingToUndo] = true)
    (ndp : [pt_l_made_right, pt_l_deeds_right, pt_l_right].Nodup)
    : ∃ (fd : FuncData) (cs : List (Addr × Addr)) (sp : Sp), (∀ (s : Shared) (u : Value), BindsTo s fd ⟨[u], []⟩ [("_law_script", u)]) ∧ (∀ t ∈ cs.map (·.2), h.get? t = some Vf.tab0 ∧ K.lookup t = none) ∧ (∀ p ∈ cs, PySem.W.codeHdIn K p.1 p.2 = true) ∧ (∀ (H : Hp) (a : Addr) (ns : List Int), ns.length ≤ 63 → (∀ t ∈ cs.map (·.2), H t = some (.tbl #[])) → SqL K H a (ns.map V.int) → sp [.ref a] H (fun v _ => v = .bl true) fun _ _ _ => False) ∧ ∀ base : Heap, K.In base → base.Ns mainGlobals mg → (∀ p ∈ cs, LamX.TabB base mg p.1 p.2) → FnG P w K mg base CX0 18 fa fd ["_law_script"] sp := by
  have e := hfa.symm.trans (PySem.W.mg_of X G a_law)
  cases e
  have F_InvalidNumber_init := fun_mk (st := s_InvalidNumber_init) l_InvalidNumber_init c_InvalidNumber_init k_InvalidNumber_init
  have F_InvalidTies_init := fun_mk (st := s_InvalidTies_init) l_InvalidTies_init c_InvalidTies_init k_InvalidTies_init
  have F_InvalidStanding_init := fun_mk (st := s_InvalidStanding_init) l_InvalidStanding_init c_InvalidStanding_init k_InvalidStanding_init
  have F_InvalidOrder_init := fun_mk (st := s_InvalidOrder_init) l_InvalidOrder_init c_InvalidOrder_init k_InvalidOrder_init
  have F_UnknownCall_init := fun_mk (st := s_UnknownCall_init) l_UnknownCall_init c_UnknownCall_init k_UnknownCall_init
  have F_is_from_one := fun_mk (st := s_is_from_one) l_is_from_one c_is_from_one k_is_from_one
  have F_first_wrong := fun_mk (st := s_first_wrong) l_first_wrong c_first_wrong k_first_wrong
  have F_check_count := fun_mk (st := s_check_count) l_check_count c_check_count k_check_count
  have F_is_tie := fun_mk (st := s_is_tie) l_is_tie c_is_tie k_is_tie
  have F_check_ties := fun_mk (st := s_check_ties) l_check_ties c_check_ties k_check_ties
  have F_check_net := fun_mk (st := s_check_net) l_check_net c_check_net k_check_net
  have F_check_standing := fun_mk (st := s_check_standing) l_check_standing c_check_standing k_check_standing
  have F_check_order_of := fun_mk (st := s_check_order_of) l_check_order_of c_check_order_of k_check_order_of
  have F_check_call := fun_mk (st := s_check_call) l_check_call c_check_call k_check_call
  have F_next_call := fun_mk (st := s_next_call) l_next_call c_next_call k_next_call
  have F_places_of := fun_mk (st := s_places_of) l_places_of c_places_of k_places_of
  have F_standing_of := fun_mk (st := s_standing_of) l_standing_of c_standing_of k_standing_of
  have F_turned_about := fun_mk (st := s_turned_about) l_turned_about c_turned_about k_turned_about
  have F_tied_seats := fun_mk (st := s_tied_seats) l_tied_seats c_tied_seats k_tied_seats
  have F_people_called := fun_mk (st := s_people_called) l_people_called c_people_called k_people_called
  have F_places_after := fun_mk (st := s_places_after) l_places_after c_places_after k_places_after
  have F_Room_init := fun_mk (st := s_Room_init) l_Room_init c_Room_init k_Room_init
  have F_Room_len := fun_mk (st := s_Room_len) l_Room_len c_Room_len k_Room_len
  have F_Room_seats := fun_mk (st := s_Room_seats) l_Room_seats c_Room_seats k_Room_seats
  have F_Room_ties := fun_mk (st := s_Room_ties) l_Room_ties c_Room_ties k_Room_ties
  have F_Room_standing := fun_mk (st := s_Room_standing) l_Room_standing c_Room_standing k_Room_standing
  have F_Room_changes := fun_mk (st := s_Room_changes) l_Room_changes c_Room_changes k_Room_changes
  have F_Room_call := fun_mk (st := s_Room_call) l_Room_call c_Room_call k_Room_call
  have F_Room_round := fun_mk (st := s_Room_round) l_Room_round c_Room_round k_Room_round
  have F_Room_round_back := fun_mk (st := s_Room_round_back) l_Room_round_back c_Room_round_back k_Room_round_back
  have F_Room_run := fun_mk (st := s_Room_run) l_Room_run c_Room_run k_Room_run
  have F_Room_undo := fun_mk (st := s_Room_undo) l_Room_undo c_Room_undo k_Room_undo
  have F_Room__make_calls := fun_mk (st := s_Room__make_calls) l_Room__make_calls c_Room__make_calls k_Room__make_calls
  have F_l_draws := fun_mk (st := s_l_draws) l_l_draws c_l_draws k_l_draws
  have F_l_next := fun_mk (st := s_l_next) l_l_next c_l_next k_l_next
  have F_l_mixed := fun_mk (st := s_l_mixed) l_l_mixed c_l_mixed k_l_mixed
  have F_l_net := fun_mk (st := s_l_net) l_l_net c_l_net k_l_net
  have F_l_caught := fun_mk (st := s_l_caught) l_l_caught c_l_caught k_l_caught
  have F_l_bent := fun_mk (st := s_l_bent) l_l_bent c_l_bent k_l_bent
  have F_l_made_right : FunC K "_law_made_right" "_law_made_right" s_l_made_right f_l_made_right (PySem.W.fnOf "_law_made_right" "_law_made_right" (defArgs s_l_made_right) (defBody s_l_made_right) (defScope s_l_made_right) .none kV_l_made_right dc_l_made_right pm_l_made_right an_l_made_right (.ref kc_l_made_right) ct_l_made_right) kc_l_made_right := ⟨⟨_, _, _, _, _, _, _, _, rfl, l_l_made_right, c_l_made_right⟩, k_l_made_right⟩
  have F_l_shown := fun_mk (st := s_l_shown) l_l_shown c_l_shown k_l_shown
  have F_l_deeds_right : FunC K "_law_deeds_right" "_law_deeds_right" s_l_deeds_right f_l_deeds_right (PySem.W.fnOf "_law_deeds_right" "_law_deeds_right" (defArgs s_l_deeds_right) (defBody s_l_deeds_right) (defScope s_l_deeds_right) .none kV_l_deeds_right dc_l_deeds_right pm_l_deeds_right an_l_deeds_right (.ref kc_l_deeds_right) ct_l_deeds_right) kc_l_deeds_right := ⟨⟨_, _, _, _, _, _, _, _, rfl, l_l_deeds_right, c_l_deeds_right⟩, k_l_deeds_right⟩
  have F_l_right : FunC K "_law_right" "_law_right" s_l_right f_l_right (PySem.W.fnOf "_law_right" "_law_right" (defArgs s_l_right) (defBody s_l_right) (defScope s_l_right) .none kV_l_right dc_l_right pm_l_right an_l_right (.ref kc_l_right) ct_l_right) kc_l_right := ⟨⟨_, _, _, _, _, _, _, _, rfl, l_l_right, c_l_right⟩, k_l_right⟩
  have F_law := fun_mk (st := s_law) l_law c_law k_law
  let A : Ad := ⟨f_InvalidNumber_init, f_InvalidTies_init, f_InvalidStanding_init, f_InvalidOrder_init, f_UnknownCall_init, f_is_from_one, f_first_wrong, f_check_count, f_is_tie, f_check_ties, f_check_net, f_check_standing, f_check_order_of, f_check_call, f_next_call, f_places_of, f_standing_of, f_turned_about, f_tied_seats, f_people_called, f_places_after, f_Room_init, f_Room_len, f_Room_seats, f_Room_ties, f_Room_standing, f_Room_changes, f_Room_call, f_Room_round, f_Room_round_back, f_Room_run, f_Room_undo, f_Room__make_calls, f_l_draws, f_l_next, f_l_mixed, f_l_net, f_l_caught, f_l_bent, f_l_made_right, f_l_shown, f_l_deeds_right, f_l_right, fa,
    (PySem.W.fnOf "__init__" "InvalidNumber.__init__" (defArgs s_InvalidNumber_init) (defBody s_InvalidNumber_init) (defScope s_InvalidNumber_init) .none kV_InvalidNumber_init dc_InvalidNumber_init pm_InvalidNumber_init an_InvalidNumber_init cd_InvalidNumber_init ct_InvalidNumber_init),
    (PySem.W.fnOf "__init__" "InvalidTies.__init__" (defArgs s_InvalidTies_init) (defBody s_InvalidTies_init) (defScope s_InvalidTies_init) .none kV_InvalidTies_init dc_InvalidTies_init pm_InvalidTies_init an_InvalidTies_init cd_InvalidTies_init ct_InvalidTies_init),
    (PySem.W.fnOf "__init__" "InvalidStanding.__init__" (defArgs s_InvalidStanding_init) (defBody s_InvalidStanding_init) (defScope s_InvalidStanding_init) .none kV_InvalidStanding_init dc_InvalidStanding_init pm_InvalidStanding_init an_InvalidStanding_init cd_InvalidStanding_init ct_InvalidStanding_init),
    (PySem.W.fnOf "__init__" "InvalidOrder.__init__" (defArgs s_InvalidOrder_init) (defBody s_InvalidOrder_init) (defScope s_InvalidOrder_init) .none kV_InvalidOrder_init dc_InvalidOrder_init pm_InvalidOrder_init an_InvalidOrder_init cd_InvalidOrder_init ct_InvalidOrder_init),
    (PySem.W.fnOf "__init__" "UnknownCall.__init__" (defArgs s_UnknownCall_init) (defBody s_UnknownCall_init) (defScope s_UnknownCall_init) .none kV_UnknownCall_init dc_UnknownCall_init pm_UnknownCall_init an_UnknownCall_init cd_UnknownCall_init ct_UnknownCall_init),
    (PySem.W.fnOf "is_from_one" "is_from_one" (defArgs s_is_from_one) (defBody s_is_from_one) (defScope s_is_from_one) .none kV_is_from_one dc_is_from_one pm_is_from_one an_is_from_one cd_is_from_one ct_is_from_one),
    (PySem.W.fnOf "first_wrong" "first_wrong" (defArgs s_first_wrong) (defBody s_first_wrong) (defScope s_first_wrong) .none kV_first_wrong dc_first_wrong pm_first_wrong an_first_wrong cd_first_wrong ct_first_wrong),
    (PySem.W.fnOf "check_count" "check_count" (defArgs s_check_count) (defBody s_check_count) (defScope s_check_count) .none kV_check_count dc_check_count pm_check_count an_check_count cd_check_count ct_check_count),
    (PySem.W.fnOf "is_tie" "is_tie" (defArgs s_is_tie) (defBody s_is_tie) (defScope s_is_tie) .none kV_is_tie dc_is_tie pm_is_tie an_is_tie cd_is_tie ct_is_tie),
    (PySem.W.fnOf "check_ties" "check_ties" (defArgs s_check_ties) (defBody s_check_ties) (defScope s_check_ties) .none kV_check_ties dc_check_ties pm_check_ties an_check_ties cd_check_ties ct_check_ties),
    (PySem.W.fnOf "check_net" "check_net" (defArgs s_check_net) (defBody s_check_net) (defScope s_check_net) .none kV_check_net dc_check_net pm_check_net an_check_net cd_check_net ct_check_net),
    (PySem.W.fnOf "check_standing" "check_standing" (defArgs s_check_standing) (defBody s_check_standing) (defScope s_check_standing) .none kV_check_standing dc_check_standing pm_check_standing an_check_standing cd_check_standing ct_check_standing),
    (PySem.W.fnOf "check_order_of" "check_order_of" (defArgs s_check_order_of) (defBody s_check_order_of) (defScope s_check_order_of) .none kV_check_order_of dc_check_order_of pm_check_order_of an_check_order_of cd_check_order_of ct_check_order_of),
    (PySem.W.fnOf "check_call" "check_call" (defArgs s_check_call) (defBody s_check_call) (defScope s_check_call) .none kV_check_call dc_check_call pm_check_call an_check_call cd_check_call ct_check_call),
    (PySem.W.fnOf "next_call" "next_call" (defArgs s_next_call) (defBody s_next_call) (defScope s_next_call) .none kV_next_call dc_next_call pm_next_call an_next_call cd_next_call ct_next_call),
    (PySem.W.fnOf "places_of" "places_of" (defArgs s_places_of) (defBody s_places_of) (defScope s_places_of) .none kV_places_of dc_places_of pm_places_of an_places_of cd_places_of ct_places_of),
    (PySem.W.fnOf "standing_of" "standing_of" (defArgs s_standing_of) (defBody s_standing_of) (defScope s_standing_of) .none kV_standing_of dc_standing_of pm_standing_of an_standing_of cd_standing_of ct_standing_of),
    (PySem.W.fnOf "turned_about" "turned_about" (defArgs s_turned_about) (defBody s_turned_about) (defScope s_turned_about) .none kV_turned_about dc_turned_about pm_turned_about an_turned_about cd_turned_about ct_turned_about),
    (PySem.W.fnOf "tied_seats" "tied_seats" (defArgs s_tied_seats) (defBody s_tied_seats) (defScope s_tied_seats) .none kV_tied_seats dc_tied_seats pm_tied_seats an_tied_seats cd_tied_seats ct_tied_seats),
    (PySem.W.fnOf "people_called" "people_called" (defArgs s_people_called) (defBody s_people_called) (defScope s_people_called) .none kV_people_called dc_people_called pm_people_called an_people_called cd_people_called ct_people_called),
    (PySem.W.fnOf "places_after" "places_after" (defArgs s_places_after) (defBody s_places_after) (defScope s_places_after) .none kV_places_after dc_places_after pm_places_after an_places_after cd_places_after ct_places_after),
    (PySem.W.fnOf "__init__" "Room.__init__" (defArgs s_Room_init) (defBody s_Room_init) (defScope s_Room_init) .none kV_Room_init dc_Room_init pm_Room_init an_Room_init cd_Room_init ct_Room_init),
    (PySem.W.fnOf "__len__" "Room.__len__" (defArgs s_Room_len) (defBody s_Room_len) (defScope s_Room_len) .none kV_Room_len dc_Room_len pm_Room_len an_Room_len cd_Room_len ct_Room_len),
    (PySem.W.fnOf "seats" "Room.seats" (defArgs s_Room_seats) (defBody s_Room_seats) (defScope s_Room_seats) .none kV_Room_seats dc_Room_seats pm_Room_seats an_Room_seats cd_Room_seats ct_Room_seats),
    (PySem.W.fnOf "ties" "Room.ties" (defArgs s_Room_ties) (defBody s_Room_ties) (defScope s_Room_ties) .none kV_Room_ties dc_Room_ties pm_Room_ties an_Room_ties cd_Room_ties ct_Room_ties),
    (PySem.W.fnOf "standing" "Room.standing" (defArgs s_Room_standing) (defBody s_Room_standing) (defScope s_Room_standing) .none kV_Room_standing dc_Room_standing pm_Room_standing an_Room_standing cd_Room_standing ct_Room_standing),
    (PySem.W.fnOf "changes" "Room.changes" (defArgs s_Room_changes) (defBody s_Room_changes) (defScope s_Room_changes) .none kV_Room_changes dc_Room_changes pm_Room_changes an_Room_changes cd_Room_changes ct_Room_changes),
    (PySem.W.fnOf "call" "Room.call" (defArgs s_Room_call) (defBody s_Room_call) (defScope s_Room_call) .none kV_Room_call dc_Room_call pm_Room_call an_Room_call cd_Room_call ct_Room_call),
    (PySem.W.fnOf "round" "Room.round" (defArgs s_Room_round) (defBody s_Room_round) (defScope s_Room_round) .none kV_Room_round dc_Room_round pm_Room_round an_Room_round cd_Room_round ct_Room_round),
    (PySem.W.fnOf "round_back" "Room.round_back" (defArgs s_Room_round_back) (defBody s_Room_round_back) (defScope s_Room_round_back) .none kV_Room_round_back dc_Room_round_back pm_Room_round_back an_Room_round_back cd_Room_round_back ct_Room_round_back),
    (PySem.W.fnOf "run" "Room.run" (defArgs s_Room_run) (defBody s_Room_run) (defScope s_Room_run) .none kV_Room_run dc_Room_run pm_Room_run an_Room_run cd_Room_run ct_Room_run),
    (PySem.W.fnOf "undo" "Room.undo" (defArgs s_Room_undo) (defBody s_Room_undo) (defScope s_Room_undo) .none kV_Room_undo dc_Room_undo pm_Room_undo an_Room_undo cd_Room_undo ct_Room_undo),
    (PySem.W.fnOf "_make_calls" "Room._make_calls" (defArgs s_Room__make_calls) (defBody s_Room__make_calls) (defScope s_Room__make_calls) .none kV_Room__make_calls dc_Room__make_calls pm_Room__make_calls an_Room__make_calls cd_Room__make_calls ct_Room__make_calls),
    (PySem.W.fnOf "_law_draws" "_law_draws" (defArgs s_l_draws) (defBody s_l_draws) (defScope s_l_draws) .none kV_l_draws dc_l_draws pm_l_draws an_l_draws cd_l_draws ct_l_draws),
    (PySem.W.fnOf "_law_next" "_law_next" (defArgs s_l_next) (defBody s_l_next) (defScope s_l_next) .none kV_l_next dc_l_next pm_l_next an_l_next cd_l_next ct_l_next),
    (PySem.W.fnOf "_law_mixed" "_law_mixed" (defArgs s_l_mixed) (defBody s_l_mixed) (defScope s_l_mixed) .none kV_l_mixed dc_l_mixed pm_l_mixed an_l_mixed cd_l_mixed ct_l_mixed),
    (PySem.W.fnOf "_law_net" "_law_net" (defArgs s_l_net) (defBody s_l_net) (defScope s_l_net) .none kV_l_net dc_l_net pm_l_net an_l_net cd_l_net ct_l_net),
    (PySem.W.fnOf "_law_caught" "_law_caught" (defArgs s_l_caught) (defBody s_l_caught) (defScope s_l_caught) .none kV_l_caught dc_l_caught pm_l_caught an_l_caught cd_l_caught ct_l_caught),
    (PySem.W.fnOf "_law_bent" "_law_bent" (defArgs s_l_bent) (defBody s_l_bent) (defScope s_l_bent) .none kV_l_bent dc_l_bent pm_l_bent an_l_bent cd_l_bent ct_l_bent),
    (PySem.W.fnOf "_law_made_right" "_law_made_right" (defArgs s_l_made_right) (defBody s_l_made_right) (defScope s_l_made_right) .none kV_l_made_right dc_l_made_right pm_l_made_right an_l_made_right (.ref kc_l_made_right) ct_l_made_right),
    (PySem.W.fnOf "_law_shown" "_law_shown" (defArgs s_l_shown) (defBody s_l_shown) (defScope s_l_shown) .none kV_l_shown dc_l_shown pm_l_shown an_l_shown cd_l_shown ct_l_shown),
    (PySem.W.fnOf "_law_deeds_right" "_law_deeds_right" (defArgs s_l_deeds_right) (defBody s_l_deeds_right) (defScope s_l_deeds_right) .none kV_l_deeds_right dc_l_deeds_right pm_l_deeds_right an_l_deeds_right (.ref kc_l_deeds_right) ct_l_deeds_right),
    (PySem.W.fnOf "_law_right" "_law_right" (defArgs s_l_right) (defBody s_l_right) (defScope s_l_right) .none kV_l_right dc_l_right pm_l_right an_l_right (.ref kc_l_right) ct_l_right),
    (PySem.W.fnOf "law" "law" (defArgs s_law) (defBody s_law) (defScope s_law) .none kV_law dc_law pm_law an_law cd_law ct_law),t_LEAST_COUNT, t_MOST_COUNT,c_InvalidNumber, c_InvalidTies, c_InvalidStanding, c_InvalidOrder, c_UnknownCall, c_NothingToUndo, c_Room,pp_seats, pp_ties, pp_standing, pp_changes,kc_l_made_right, pt_l_made_right, kc_l_deeds_right, pt_l_deeds_right, kc_l_right, pt_l_right⟩
  have T : Txt K mg A :=
    { F_InvalidNumber_init := F_InvalidNumber_init
      b_InvalidNumber_init := F_InvalidNumber_init.binds (ps := ["self", "number"]) fun _ _ _ _ _ _ us hl => match us, hl with | [_, _], _ => rfl
      F_InvalidTies_init := F_InvalidTies_init
      b_InvalidTies_init := F_InvalidTies_init.binds (ps := ["self", "index"]) fun _ _ _ _ _ _ us hl => match us, hl with | [_, _], _ => rfl
      F_InvalidStanding_init := F_InvalidStanding_init
      b_InvalidStanding_init := F_InvalidStanding_init.binds (ps := ["self", "index"]) fun _ _ _ _ _ _ us hl => match us, hl with | [_, _], _ => rfl
      F_InvalidOrder_init := F_InvalidOrder_init
      b_InvalidOrder_init := F_InvalidOrder_init.binds (ps := ["self", "index"]) fun _ _ _ _ _ _ us hl => match us, hl with | [_, _], _ => rfl
      F_UnknownCall_init := F_UnknownCall_init
      b_UnknownCall_init := F_UnknownCall_init.binds (ps := ["self", "number"]) fun _ _ _ _ _ _ us hl => match us, hl with | [_, _], _ => rfl
      F_is_from_one := F_is_from_one
      g_is_from_one := PySem.W.mg_of X G a_is_from_one
      b_is_from_one := F_is_from_one.binds (ps := ["thing", "most"]) fun _ _ _ _ _ _ us hl => match us, hl with | [_, _], _ => rfl
      F_first_wrong := F_first_wrong
      g_first_wrong := PySem.W.mg_of X G a_first_wrong
      b_first_wrong := F_first_wrong.binds (ps := ["things", "most"]) fun _ _ _ _ _ _ us hl => match us, hl with | [_, _], _ => rfl
      F_check_count := F_check_count
      g_check_count := PySem.W.mg_of X G a_check_count
      b_check_count := F_check_count.binds (ps := ["number"]) fun _ _ _ _ _ _ us hl => match us, hl with | [_], _ => rfl
      F_is_tie := F_is_tie
      g_is_tie := PySem.W.mg_of X G a_is_tie
      b_is_tie := F_is_tie.binds (ps := ["thing", "seats"]) fun _ _ _ _ _ _ us hl => match us, hl with | [_, _], _ => rfl
      F_check_ties := F_check_ties
      g_check_ties := PySem.W.mg_of X G a_check_ties
      b_check_ties := F_check_ties.binds (ps := ["ties", "seats"]) fun _ _ _ _ _ _ us hl => match us, hl with | [_, _], _ => rfl
      F_check_net := F_check_net
      g_check_net := PySem.W.mg_of X G a_check_net
      b_check_net := F_check_net.binds (ps := ["seats", "ties"]) fun _ _ _ _ _ _ us hl => match us, hl with | [_, _], _ => rfl
      F_check_standing := F_check_standing
      g_check_standing := PySem.W.mg_of X G a_check_standing
      b_check_standing := F_check_standing.binds (ps := ["standing", "seats"]) fun _ _ _ _ _ _ us hl => match us, hl with | [_, _], _ => rfl
      F_check_order_of := F_check_order_of
      g_check_order_of := PySem.W.mg_of X G a_check_order_of
      b_check_order_of := F_check_order_of.binds (ps := ["order", "count"]) fun _ _ _ _ _ _ us hl => match us, hl with | [_, _], _ => rfl
      F_check_call := F_check_call
      g_check_call := PySem.W.mg_of X G a_check_call
      b_check_call := F_check_call.binds (ps := ["number", "count"]) fun _ _ _ _ _ _ us hl => match us, hl with | [_, _], _ => rfl
      F_next_call := F_next_call
      g_next_call := PySem.W.mg_of X G a_next_call
      b_next_call := F_next_call.binds (ps := ["call", "count"]) fun _ _ _ _ _ _ us hl => match us, hl with | [_, _], _ => rfl
      F_places_of := F_places_of
      g_places_of := PySem.W.mg_of X G a_places_of
      b_places_of := F_places_of.binds (ps := ["standing"]) fun _ _ _ _ _ _ us hl => match us, hl with | [_], _ => rfl
      F_standing_of := F_standing_of
      g_standing_of := PySem.W.mg_of X G a_standing_of
      b_standing_of := F_standing_of.binds (ps := ["places"]) fun _ _ _ _ _ _ us hl => match us, hl with | [_], _ => rfl
      F_turned_about := F_turned_about
      g_turned_about := PySem.W.mg_of X G a_turned_about
      b_turned_about := F_turned_about.binds (ps := ["row"]) fun _ _ _ _ _ _ us hl => match us, hl with | [_], _ => rfl
      F_tied_seats := F_tied_seats
      g_tied_seats := PySem.W.mg_of X G a_tied_seats
      b_tied_seats := F_tied_seats.binds (ps := ["seats", "ties"]) fun _ _ _ _ _ _ us hl => match us, hl with | [_, _], _ => rfl
      F_people_called := F_people_called
      g_people_called := PySem.W.mg_of X G a_people_called
      b_people_called := F_people_called.binds (ps := ["calls", "count"]) fun _ _ _ _ _ _ us hl => match us, hl with | [_, _], _ => rfl
      F_places_after := F_places_after
      g_places_after := PySem.W.mg_of X G a_places_after
      b_places_after := F_places_after.binds (ps := ["places", "pairs", "tied"]) fun _ _ _ _ _ _ us hl => match us, hl with | [_, _, _], _ => rfl
      F_Room_init := F_Room_init
      b_Room_init := F_Room_init.binds (ps := ["self", "seats", "ties", "standing"]) fun _ _ _ _ _ _ us hl => match us, hl with | [_, _, _, _], _ => rfl
      F_Room_len := F_Room_len
      b_Room_len := F_Room_len.binds (ps := ["self"]) fun _ _ _ _ _ _ us hl => match us, hl with | [_], _ => rfl
      F_Room_seats := F_Room_seats
      b_Room_seats := F_Room_seats.binds (ps := ["self"]) fun _ _ _ _ _ _ us hl => match us, hl with | [_], _ => rfl
      F_Room_ties := F_Room_ties
      b_Room_ties := F_Room_ties.binds (ps := ["self"]) fun _ _ _ _ _ _ us hl => match us, hl with | [_], _ => rfl
      F_Room_standing := F_Room_standing
      b_Room_standing := F_Room_standing.binds (ps := ["self"]) fun _ _ _ _ _ _ us hl => match us, hl with | [_], _ => rfl
      F_Room_changes := F_Room_changes
      b_Room_changes := F_Room_changes.binds (ps := ["self"]) fun _ _ _ _ _ _ us hl => match us, hl with | [_], _ => rfl
      F_Room_call := F_Room_call
      b_Room_call := F_Room_call.binds (ps := ["self", "number"]) fun _ _ _ _ _ _ us hl => match us, hl with | [_, _], _ => rfl
      F_Room_round := F_Room_round
      b_Room_round := F_Room_round.binds (ps := ["self", "order"]) fun _ _ _ _ _ _ us hl => match us, hl with | [_, _], _ => rfl
      F_Room_round_back := F_Room_round_back
      b_Room_round_back := F_Room_round_back.binds (ps := ["self", "order"]) fun _ _ _ _ _ _ us hl => match us, hl with | [_, _], _ => rfl
      F_Room_run := F_Room_run
      b_Room_run := F_Room_run.binds (ps := ["self", "calls"]) fun _ _ _ _ _ _ us hl => match us, hl with | [_, _], _ => rfl
      F_Room_undo := F_Room_undo
      b_Room_undo := F_Room_undo.binds (ps := ["self"]) fun _ _ _ _ _ _ us hl => match us, hl with | [_], _ => rfl
      F_Room__make_calls := F_Room__make_calls
      b_Room__make_calls := F_Room__make_calls.binds (ps := ["self", "calls"]) fun _ _ _ _ _ _ us hl => match us, hl with | [_, _], _ => rfl
      F_l_draws := F_l_draws
      g_l_draws := PySem.W.mg_of X G a_l_draws
      b_l_draws := F_l_draws.binds (ps := ["_law_cell"]) fun _ _ _ _ _ _ us hl => match us, hl with | [_], _ => rfl
      F_l_next := F_l_next
      g_l_next := PySem.W.mg_of X G a_l_next
      b_l_next := F_l_next.binds (ps := ["_law_draws_here"]) fun _ _ _ _ _ _ us hl => match us, hl with | [_], _ => rfl
      F_l_mixed := F_l_mixed
      g_l_mixed := PySem.W.mg_of X G a_l_mixed
      b_l_mixed := F_l_mixed.binds (ps := ["_law_draws_here", "_law_some"]) fun _ _ _ _ _ _ us hl => match us, hl with | [_, _], _ => rfl
      F_l_net := F_l_net
      g_l_net := PySem.W.mg_of X G a_l_net
      b_l_net := F_l_net.binds (ps := ["_law_draws_here", "_law_most"]) fun _ _ _ _ _ _ us hl => match us, hl with | [_, _], _ => rfl
      F_l_caught := F_l_caught
      g_l_caught := PySem.W.mg_of X G a_l_caught
      b_l_caught := F_l_caught.binds (ps := ["_law_ask"]) fun _ _ _ _ _ _ us hl => match us, hl with | [_], _ => rfl
      F_l_bent := F_l_bent
      g_l_bent := PySem.W.mg_of X G a_l_bent
      b_l_bent := F_l_bent.binds (ps := ["_law_row"]) fun _ _ _ _ _ _ us hl => match us, hl with | [_], _ => rfl
      F_l_made_right := F_l_made_right
      g_l_made_right := PySem.W.mg_of X G a_l_made_right
      b_l_made_right := F_l_made_right.toFun.binds (ps := ["_law_seats", "_law_ties", "_law_standing"]) fun _ _ _ _ _ _ us hl => match us, hl with | [_, _, _], _ => rfl
      F_l_shown := F_l_shown
      g_l_shown := PySem.W.mg_of X G a_l_shown
      b_l_shown := F_l_shown.binds (ps := ["_law_room"]) fun _ _ _ _ _ _ us hl => match us, hl with | [_], _ => rfl
      F_l_deeds_right := F_l_deeds_right
      g_l_deeds_right := PySem.W.mg_of X G a_l_deeds_right
      b_l_deeds_right := F_l_deeds_right.toFun.binds (ps := ["_law_room", "_law_order"]) fun _ _ _ _ _ _ us hl => match us, hl with | [_, _], _ => rfl
      F_l_right := F_l_right
      g_l_right := PySem.W.mg_of X G a_l_right
      b_l_right := F_l_right.toFun.binds (ps := ["_law_seats", "_law_ties", "_law_standing", "_law_order"]) fun _ _ _ _ _ _ us hl => match us, hl with | [_, _, _, _], _ => rfl
      F_law := F_law
      g_law := PySem.W.mg_of X G a_law
      b_law := F_law.binds (ps := ["_law_script"]) fun _ _ _ _ _ _ us hl => match us, hl with | [_], _ => rfl
      g_LEAST_COUNT := PySem.W.mg_of X G q_LEAST_COUNT
      g_MOST_COUNT := PySem.W.mg_of X G q_MOST_COUNT
      c_UnknownCall := PySem.W.mg_of X G a_UnknownCall_init
      x_UnknownCall := x_UnknownCall
      e_UnknownCall := e_UnknownCall
      y_UnknownCall := y_UnknownCall
      i_UnknownCall := i_UnknownCall
      t_UnknownCall := t_UnknownCall
      n_UnknownCall := n_UnknownCall
      c_NothingToUndo := PySem.W.mg_of X G a_NothingToUndo_init
      x_NothingToUndo := x_NothingToUndo
      k_NothingToUndo := k_NothingToUndo
      s_NothingToUndo := s_NothingToUndo
      t_NothingToUndo := t_NothingToUndo
      e_NothingToUndo := e_NothingToUndo
      r_Room := PySem.W.mg_of X G r_Room
      cl_Room := cl_Room
      mk_Room := mk_Room
      lm_Room := lm_Room
      lt_Room := lt_Room
      me_call := me_call
      me_round := me_round
      me_round_back := me_round_back
      me_run := me_run
      me_undo := me_undo
      me__make_calls := me__make_calls
      pr_seats := pr_seats
      pr_ties := pr_ties
      pr_standing := pr_standing
      pr_changes := pr_changes
      na__changes := na__changes
      na__earlier := na__earlier
      na__places := na__places
      na__seats := na__seats
      na__tied := na__tied
      na__ties := na__ties
      kb_Room_init := kbn_rev fun s us ws _ l1 l2 => match us, l1, ws, l2 with | [_], _, [_, _, _], _ => .of_eq rfl
      v_LookupError := v_LookupError
      c_InvalidNumber := PySem.W.mg_of X G a_InvalidNumber_init
      x_InvalidNumber := x_InvalidNumber
      e_InvalidNumber := e_InvalidNumber
      y_InvalidNumber := y_InvalidNumber
      i_InvalidNumber := i_InvalidNumber
      t_InvalidNumber := t_InvalidNumber
      n_InvalidNumber := n_InvalidNumber
      c_InvalidTies := PySem.W.mg_of X G a_InvalidTies_init
      x_InvalidTies := x_InvalidTies
      e_InvalidTies := e_InvalidTies
      y_InvalidTies := y_InvalidTies
      i_InvalidTies := i_InvalidTies
      t_InvalidTies := t_InvalidTies
      n_InvalidTies := n_InvalidTies
      c_InvalidStanding := PySem.W.mg_of X G a_InvalidStanding_init
      x_InvalidStanding := x_InvalidStanding
      e_InvalidStanding := e_InvalidStanding
      y_InvalidStanding := y_InvalidStanding
      i_InvalidStanding := i_InvalidStanding
      t_InvalidStanding := t_InvalidStanding
      n_InvalidStanding := n_InvalidStanding
      c_InvalidOrder := PySem.W.mg_of X G a_InvalidOrder_init
      x_InvalidOrder := x_InvalidOrder
      e_InvalidOrder := e_InvalidOrder
      y_InvalidOrder := y_InvalidOrder
      i_InvalidOrder := i_InvalidOrder
      t_InvalidOrder := t_InvalidOrder
      n_InvalidOrder := n_InvalidOrder
      v_ValueError := v_ValueError
      tb := tb
      z_ValueError := PySem.W.mg_none_of X G z_ValueError
      z_LookupError := PySem.W.mg_none_of X G z_LookupError
      z_isinstance := PySem.W.mg_none_of X G z_isinstance
      z_int := PySem.W.mg_none_of X G z_int
      z_bool := PySem.W.mg_none_of X G z_bool
      z_set := PySem.W.mg_none_of X G z_set
      z_enumerate := PySem.W.mg_none_of X G z_enumerate
      z_list := PySem.W.mg_none_of X G z_list
      z_len := PySem.W.mg_none_of X G z_len
      z_tuple := PySem.W.mg_none_of X G z_tuple
      z_sorted := PySem.W.mg_none_of X G z_sorted
      z_range := PySem.W.mg_none_of X G z_range
      z_property := PySem.W.mg_none_of X G z_property
      z_repr := PySem.W.mg_none_of X G z_repr
      z_zip := PySem.W.mg_none_of X G z_zip }
  have h1 : ∀ t ∈ ([(kc_l_made_right, pt_l_made_right), (kc_l_deeds_right, pt_l_deeds_right), (kc_l_right, pt_l_right)] : List (Addr × Addr)).map (·.2), h.get? t = some Vf.tab0 ∧ K.lookup t = none := fun t ht => by
    simp only [List.map_cons, List.map_nil, List.mem_cons, List.not_mem_nil, or_false] at ht
    rcases ht with rfl | rfl | rfl
    · exact ⟨b_l_made_right, o_l_made_right⟩
    · exact ⟨b_l_deeds_right, o_l_deeds_right⟩
    · exact ⟨b_l_right, o_l_right⟩
  have h2 : ∀ p ∈ ([(kc_l_made_right, pt_l_made_right), (kc_l_deeds_right, pt_l_deeds_right), (kc_l_right, pt_l_right)] : List (Addr × Addr)), PySem.W.codeHdIn K p.1 p.2 = true := fun p hp => by
    simp only [List.mem_cons, List.not_mem_nil, or_false] at hp
    rcases hp with rfl | rfl | rfl
    · exact g_l_made_right
    · exact g_l_deeds_right
    · exact g_l_right
  exact ⟨_, [(kc_l_made_right, pt_l_made_right), (kc_l_deeds_right, pt_l_deeds_right), (kc_l_right, pt_l_right)], sp_law K A, fun s u => .of_eq rfl, h1, h2, fun H a ns hl ht hS => ⟨a, ns, rfl, hS, hl, Vf.tabs0 (T := tabs A) ht, fun _ => rfl⟩, fun base _ _ hTB => ok_law (A := A) T { t_l_made_right := hTB (kc_l_made_right, pt_l_made_right) (by simp), t_l_deeds_right := hTB (kc_l_deeds_right, pt_l_deeds_right) (by simp), t_l_right := hTB (kc_l_right, pt_l_right) (by simp), u_l_made_right := tab_one (A := A) ndp (mem_l_made_right A), u_l_deeds_right := tab_one (A := A) ndp (mem_l_deeds_right A), u_l_right := tab_one (A := A) ndp (mem_l_right A) }⟩
end K41

open PySem PySem.W PyProof.Rows
theorem PySem.Challenge.cw_apartcalls_k41_what_rooms_refuse_holds : PySem.Challenge.rw_apartcalls_k41_what_rooms_refuse.Holds := by
  w_on
  o_law
  k_head
  (case hw => w_witness2)
  k_fill
  refine Vf.walkT_of (l := PySem.Challenge.rw_apartcalls_k41_what_rooms_refuse) (n := 63) (k := 18) (x := "_law_script") rfl (by decide) rfl ⟨rfl, by decide, by decide⟩ (fun w h Y => PySem.W.km_in_of Y) ?F
  case F =>
    intro w mg fa h Y KX G hmg
    have hT8 := PySem.W.km_tabs_of Y
    refine' K41.all_mk KX G hmg ?a_InvalidNumber_init ?i_InvalidNumber ?x_InvalidNumber ?e_InvalidNumber ?y_InvalidNumber ?t_InvalidNumber ?n_InvalidNumber ?l_InvalidNumber_init ?c_InvalidNumber_init ?k_InvalidNumber_init ?a_InvalidTies_init ?i_InvalidTies ?x_InvalidTies ?e_InvalidTies ?y_InvalidTies ?t_InvalidTies ?n_InvalidTies ?l_InvalidTies_init ?c_InvalidTies_init ?k_InvalidTies_init ?a_InvalidStanding_init ?i_InvalidStanding ?x_InvalidStanding ?e_InvalidStanding ?y_InvalidStanding ?t_InvalidStanding ?n_InvalidStanding ?l_InvalidStanding_init ?c_InvalidStanding_init ?k_InvalidStanding_init ?a_InvalidOrder_init ?i_InvalidOrder ?x_InvalidOrder ?e_InvalidOrder ?y_InvalidOrder ?t_InvalidOrder ?n_InvalidOrder ?l_InvalidOrder_init ?c_InvalidOrder_init ?k_InvalidOrder_init ?a_UnknownCall_init ?i_UnknownCall ?x_UnknownCall ?e_UnknownCall ?y_UnknownCall ?t_UnknownCall ?n_UnknownCall ?l_UnknownCall_init ?c_UnknownCall_init ?k_UnknownCall_init ?a_is_from_one ?l_is_from_one ?c_is_from_one ?k_is_from_one ?a_first_wrong ?l_first_wrong ?c_first_wrong ?k_first_wrong ?a_check_count ?l_check_count ?c_check_count ?k_check_count ?a_is_tie ?l_is_tie ?c_is_tie ?k_is_tie ?a_check_ties ?l_check_ties ?c_check_ties ?k_check_ties ?a_check_net ?l_check_net ?c_check_net ?k_check_net ?a_check_standing ?l_check_standing ?c_check_standing ?k_check_standing ?a_check_order_of ?l_check_order_of ?c_check_order_of ?k_check_order_of ?a_check_call ?l_check_call ?c_check_call ?k_check_call ?a_next_call ?l_next_call ?c_next_call ?k_next_call ?a_places_of ?l_places_of ?c_places_of ?k_places_of ?a_standing_of ?l_standing_of ?c_standing_of ?k_standing_of ?a_turned_about ?l_turned_about ?c_turned_about ?k_turned_about ?a_tied_seats ?l_tied_seats ?c_tied_seats ?k_tied_seats ?a_people_called ?l_people_called ?c_people_called ?k_people_called ?a_places_after ?l_places_after ?c_places_after ?k_places_after ?l_Room_init ?c_Room_init ?k_Room_init ?l_Room_len ?c_Room_len ?k_Room_len ?l_Room_seats ?c_Room_seats ?k_Room_seats ?l_Room_ties ?c_Room_ties ?k_Room_ties ?l_Room_standing ?c_Room_standing ?k_Room_standing ?l_Room_changes ?c_Room_changes ?k_Room_changes ?l_Room_call ?c_Room_call ?k_Room_call ?l_Room_round ?c_Room_round ?k_Room_round ?l_Room_round_back ?c_Room_round_back ?k_Room_round_back ?l_Room_run ?c_Room_run ?k_Room_run ?l_Room_undo ?c_Room_undo ?k_Room_undo ?l_Room__make_calls ?c_Room__make_calls ?k_Room__make_calls ?a_l_draws ?l_l_draws ?c_l_draws ?k_l_draws ?a_l_next ?l_l_next ?c_l_next ?k_l_next ?a_l_mixed ?l_l_mixed ?c_l_mixed ?k_l_mixed ?a_l_net ?l_l_net ?c_l_net ?k_l_net ?a_l_caught ?l_l_caught ?c_l_caught ?k_l_caught ?a_l_bent ?l_l_bent ?c_l_bent ?k_l_bent ?a_l_made_right ?l_l_made_right ?c_l_made_right ?k_l_made_right ?j_l_made_right ?v_l_made_right ?g_l_made_right ?o_l_made_right ?b_l_made_right ?a_l_shown ?l_l_shown ?c_l_shown ?k_l_shown ?a_l_deeds_right ?l_l_deeds_right ?c_l_deeds_right ?k_l_deeds_right ?j_l_deeds_right ?v_l_deeds_right ?g_l_deeds_right ?o_l_deeds_right ?b_l_deeds_right ?a_l_right ?l_l_right ?c_l_right ?k_l_right ?j_l_right ?v_l_right ?g_l_right ?o_l_right ?b_l_right ?a_law ?l_law ?c_law ?k_law ?q_LEAST_COUNT ?q_MOST_COUNT ?z_ValueError ?z_LookupError ?z_isinstance ?z_int ?z_bool ?z_set ?z_enumerate ?z_list ?z_len ?z_tuple ?z_sorted ?z_range ?z_property ?z_repr ?z_zip ?a_NothingToUndo_init ?x_NothingToUndo ?k_NothingToUndo ?s_NothingToUndo ?t_NothingToUndo ?e_NothingToUndo ?r_Room ?cl_Room ?mk_Room ?me_call ?me_round ?me_round_back ?me_run ?me_undo ?me__make_calls ?pr_seats ?pr_ties ?pr_standing ?pr_changes ?na__changes ?na__earlier ?na__places ?na__seats ?na__tied ?na__ties ?lm_Room ?lt_Room ?v_LookupError ?v_ValueError ?tb ?ndp
    (case r_Room => k_is)
    (case mk_Room => exact ⟨by k_is, by k_is, by k_is, by k_is⟩)
    (case me_call => exact ⟨by k_is, by k_is, by k_is⟩)
    (case me_round => exact ⟨by k_is, by k_is, by k_is⟩)
    (case me_round_back => exact ⟨by k_is, by k_is, by k_is⟩)
    (case me_run => exact ⟨by k_is, by k_is, by k_is⟩)
    (case me_undo => exact ⟨by k_is, by k_is, by k_is⟩)
    (case me__make_calls => exact ⟨by k_is, by k_is, by k_is⟩)
    (case pr_seats => exact ⟨by k_is, by k_is, by k_is, ⟨_, by k_is⟩⟩)
    (case pr_ties => exact ⟨by k_is, by k_is, by k_is, ⟨_, by k_is⟩⟩)
    (case pr_standing => exact ⟨by k_is, by k_is, by k_is, ⟨_, by k_is⟩⟩)
    (case pr_changes => exact ⟨by k_is, by k_is, by k_is, ⟨_, by k_is⟩⟩)
    (case lm_Room => k_is)
    (case a_InvalidNumber_init => k_is)
    (case i_InvalidNumber => k_is)
    (case x_InvalidNumber => exact ⟨⟨_, _, _, _, _, _, _, _, _, _, _, _, _, _, _, by k_is, by rfl⟩, by k_is, by k_is, by k_is, by k_is⟩)
    (case e_InvalidNumber => exact ⟨by k_is, by k_is, by k_is, by k_is, by k_is, by k_is, by k_is, by k_is⟩)
    (case y_InvalidNumber => exact ⟨by k_is, by k_is, by k_is, by k_is⟩)
    (case t_InvalidNumber => k_is)
    (case n_InvalidNumber => k_is)
    (case l_InvalidNumber_init => k_is)
    (case c_InvalidNumber_init => k_is)
    (case k_InvalidNumber_init => k_is)
    (case a_InvalidTies_init => k_is)
    (case i_InvalidTies => k_is)
    (case x_InvalidTies => exact ⟨⟨_, _, _, _, _, _, _, _, _, _, _, _, _, _, _, by k_is, by rfl⟩, by k_is, by k_is, by k_is, by k_is⟩)
    (case e_InvalidTies => exact ⟨by k_is, by k_is, by k_is, by k_is, by k_is, by k_is, by k_is, by k_is⟩)
    (case y_InvalidTies => exact ⟨by k_is, by k_is, by k_is, by k_is⟩)
    (case t_InvalidTies => k_is)
    (case n_InvalidTies => k_is)
    (case l_InvalidTies_init => k_is)
    (case c_InvalidTies_init => k_is)
    (case k_InvalidTies_init => k_is)
    (case a_InvalidStanding_init => k_is)
    (case i_InvalidStanding => k_is)
    (case x_InvalidStanding => exact ⟨⟨_, _, _, _, _, _, _, _, _, _, _, _, _, _, _, by k_is, by rfl⟩, by k_is, by k_is, by k_is, by k_is⟩)
    (case e_InvalidStanding => exact ⟨by k_is, by k_is, by k_is, by k_is, by k_is, by k_is, by k_is, by k_is⟩)
    (case y_InvalidStanding => exact ⟨by k_is, by k_is, by k_is, by k_is⟩)
    (case t_InvalidStanding => k_is)
    (case n_InvalidStanding => k_is)
    (case l_InvalidStanding_init => k_is)
    (case c_InvalidStanding_init => k_is)
    (case k_InvalidStanding_init => k_is)
    (case a_InvalidOrder_init => k_is)
    (case i_InvalidOrder => k_is)
    (case x_InvalidOrder => exact ⟨⟨_, _, _, _, _, _, _, _, _, _, _, _, _, _, _, by k_is, by rfl⟩, by k_is, by k_is, by k_is, by k_is⟩)
    (case e_InvalidOrder => exact ⟨by k_is, by k_is, by k_is, by k_is, by k_is, by k_is, by k_is, by k_is⟩)
    (case y_InvalidOrder => exact ⟨by k_is, by k_is, by k_is, by k_is⟩)
    (case t_InvalidOrder => k_is)
    (case n_InvalidOrder => k_is)
    (case l_InvalidOrder_init => k_is)
    (case c_InvalidOrder_init => k_is)
    (case k_InvalidOrder_init => k_is)
    (case a_UnknownCall_init => k_is)
    (case i_UnknownCall => k_is)
    (case x_UnknownCall => exact ⟨⟨_, _, _, _, _, _, _, _, _, _, _, _, _, _, by k_is⟩, by kernel_rfl, by k_is, by k_is, by k_is, by k_is⟩)
    (case e_UnknownCall => exact ⟨by k_is, by k_is, by k_is, by k_is, by k_is, by k_is, by k_is, by k_is⟩)
    (case y_UnknownCall => exact ⟨by k_is, by k_is, by k_is, by k_is⟩)
    (case t_UnknownCall => k_is)
    (case n_UnknownCall => k_is)
    (case l_UnknownCall_init => k_is)
    (case c_UnknownCall_init => k_is)
    (case k_UnknownCall_init => k_is)
    (case a_is_from_one => k_is)
    (case l_is_from_one => k_is)
    (case c_is_from_one => k_is)
    (case k_is_from_one => k_is)
    (case a_first_wrong => k_is)
    (case l_first_wrong => k_is)
    (case c_first_wrong => k_is)
    (case k_first_wrong => k_is)
    (case a_check_count => k_is)
    (case l_check_count => k_is)
    (case c_check_count => k_is)
    (case k_check_count => k_is)
    (case a_is_tie => k_is)
    (case l_is_tie => k_is)
    (case c_is_tie => k_is)
    (case k_is_tie => k_is)
    (case a_check_ties => k_is)
    (case l_check_ties => k_is)
    (case c_check_ties => k_is)
    (case k_check_ties => k_is)
    (case a_check_net => k_is)
    (case l_check_net => k_is)
    (case c_check_net => k_is)
    (case k_check_net => k_is)
    (case a_check_standing => k_is)
    (case l_check_standing => k_is)
    (case c_check_standing => k_is)
    (case k_check_standing => k_is)
    (case a_check_order_of => k_is)
    (case l_check_order_of => k_is)
    (case c_check_order_of => k_is)
    (case k_check_order_of => k_is)
    (case a_check_call => k_is)
    (case l_check_call => k_is)
    (case c_check_call => k_is)
    (case k_check_call => k_is)
    (case a_next_call => k_is)
    (case l_next_call => k_is)
    (case c_next_call => k_is)
    (case k_next_call => k_is)
    (case a_places_of => k_is)
    (case l_places_of => k_is)
    (case c_places_of => k_is)
    (case k_places_of => k_is)
    (case a_standing_of => k_is)
    (case l_standing_of => k_is)
    (case c_standing_of => k_is)
    (case k_standing_of => k_is)
    (case a_turned_about => k_is)
    (case l_turned_about => k_is)
    (case c_turned_about => k_is)
    (case k_turned_about => k_is)
    (case a_tied_seats => k_is)
    (case l_tied_seats => k_is)
    (case c_tied_seats => k_is)
    (case k_tied_seats => k_is)
    (case a_people_called => k_is)
    (case l_people_called => k_is)
    (case c_people_called => k_is)
    (case k_people_called => k_is)
    (case a_places_after => k_is)
    (case l_places_after => k_is)
    (case c_places_after => k_is)
    (case k_places_after => k_is)
    (case l_Room_init => k_is)
    (case c_Room_init => k_is)
    (case k_Room_init => k_is)
    (case l_Room_len => k_is)
    (case c_Room_len => k_is)
    (case k_Room_len => k_is)
    (case l_Room_seats => k_is)
    (case c_Room_seats => k_is)
    (case k_Room_seats => k_is)
    (case l_Room_ties => k_is)
    (case c_Room_ties => k_is)
    (case k_Room_ties => k_is)
    (case l_Room_standing => k_is)
    (case c_Room_standing => k_is)
    (case k_Room_standing => k_is)
    (case l_Room_changes => k_is)
    (case c_Room_changes => k_is)
    (case k_Room_changes => k_is)
    (case l_Room_call => k_is)
    (case c_Room_call => k_is)
    (case k_Room_call => k_is)
    (case l_Room_round => k_is)
    (case c_Room_round => k_is)
    (case k_Room_round => k_is)
    (case l_Room_round_back => k_is)
    (case c_Room_round_back => k_is)
    (case k_Room_round_back => k_is)
    (case l_Room_run => k_is)
    (case c_Room_run => k_is)
    (case k_Room_run => k_is)
    (case l_Room_undo => k_is)
    (case c_Room_undo => k_is)
    (case k_Room_undo => k_is)
    (case l_Room__make_calls => k_is)
    (case c_Room__make_calls => k_is)
    (case k_Room__make_calls => k_is)
    (case a_l_draws => k_is)
    (case l_l_draws => k_is)
    (case c_l_draws => k_is)
    (case k_l_draws => k_is)
    (case a_l_next => k_is)
    (case l_l_next => k_is)
    (case c_l_next => k_is)
    (case k_l_next => k_is)
    (case a_l_mixed => k_is)
    (case l_l_mixed => k_is)
    (case c_l_mixed => k_is)
    (case k_l_mixed => k_is)
    (case a_l_net => k_is)
    (case l_l_net => k_is)
    (case c_l_net => k_is)
    (case k_l_net => k_is)
    (case a_l_caught => k_is)
    (case l_l_caught => k_is)
    (case c_l_caught => k_is)
    (case k_l_caught => k_is)
    (case a_l_bent => k_is)
    (case l_l_bent => k_is)
    (case c_l_bent => k_is)
    (case k_l_bent => k_is)
    (case a_l_made_right => k_is)
    (case l_l_made_right => k_is)
    (case c_l_made_right => k_is)
    (case k_l_made_right => k_is)
    (case j_l_made_right => k_is)
    (case v_l_made_right => exact rfl)
    (case a_l_shown => k_is)
    (case l_l_shown => k_is)
    (case c_l_shown => k_is)
    (case k_l_shown => k_is)
    (case a_l_deeds_right => k_is)
    (case l_l_deeds_right => k_is)
    (case c_l_deeds_right => k_is)
    (case k_l_deeds_right => k_is)
    (case j_l_deeds_right => k_is)
    (case v_l_deeds_right => exact rfl)
    (case a_l_right => k_is)
    (case l_l_right => k_is)
    (case c_l_right => k_is)
    (case k_l_right => k_is)
    (case j_l_right => k_is)
    (case v_l_right => exact rfl)
    (case a_law => k_is)
    (case l_law => k_is)
    (case c_law => k_is)
    (case k_law => k_is)
    (case q_LEAST_COUNT => k_is)
    (case q_MOST_COUNT => k_is)
    (case z_ValueError => k_is)
    (case z_LookupError => k_is)
    (case z_isinstance => k_is)
    (case z_int => k_is)
    (case z_bool => k_is)
    (case z_set => k_is)
    (case z_enumerate => k_is)
    (case z_list => k_is)
    (case z_len => k_is)
    (case z_tuple => k_is)
    (case z_sorted => k_is)
    (case z_range => k_is)
    (case z_property => k_is)
    (case z_repr => k_is)
    (case z_zip => k_is)
    (case a_NothingToUndo_init => k_is)
    (case x_NothingToUndo => kernel_rfl)
    (case k_NothingToUndo => k_is)
    (case s_NothingToUndo => k_is)
    (case t_NothingToUndo => k_is)
    (case e_NothingToUndo => exact ⟨by k_is, by k_is, by k_is, by k_is, by k_is, by k_is, by k_is, by k_is⟩)
    (case cl_Room => exact ⟨by k_is, by k_is, by k_is, by k_is⟩)
    (case na__changes => unfold L2.NoAttr; k_is)
    (case na__earlier => unfold L2.NoAttr; k_is)
    (case na__places => unfold L2.NoAttr; k_is)
    (case na__seats => unfold L2.NoAttr; k_is)
    (case na__tied => unfold L2.NoAttr; k_is)
    (case na__ties => unfold L2.NoAttr; k_is)
    (case lt_Room => k_is)
    (case v_LookupError => k_is)
    (case v_ValueError => k_is)
    (case g_l_made_right => kernel_rfl)
    (case o_l_made_right => kernel_rfl)
    (case b_l_made_right => exact hT8 _ (by k_mem))
    (case g_l_deeds_right => kernel_rfl)
    (case o_l_deeds_right => kernel_rfl)
    (case b_l_deeds_right => exact hT8 _ (by k_mem))
    (case g_l_right => kernel_rfl)
    (case o_l_right => kernel_rfl)
    (case b_l_right => exact hT8 _ (by k_mem))
    (case tb => kernel_rfl)
    (case ndp => decide)

