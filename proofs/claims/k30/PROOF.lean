import PyProof.Rows.All
import Wide.All
import OpenK.AllK
import Wide.FinOn
import PyProof.EqAt
import PyProof.EqKinds
import PyProof.TupleCall
import PyProof.ReprRoads
import HandS.ForMost
import HandS.Evl
import HandS.Defaults
import HandS.SetFor
import HandS.Strs
import HandS.TupSets
import HandS.IsInst
import HandS.NoneIn
import HandS.Style
import HandS.TupAny
import HandS.Conv
import HandS.Ends
import PyProof.Rows.StrJoinMade
import KE.DataCmp
import PyProof.SliceList
import PyProof.Rows.RuleB_mod
import HandS.Zip
import KE.GoesZip
import KE.KDictZip
import HandS.DictComp
import HandS.Small
import HandS.Star
import HandS.Dict
import HandS.Sort
import PySem.Challenge.RW_apartcalls_k30_whole_turns
set_option Elab.async false
set_option linter.all false
set_option maxRecDepth 110000
set_option maxHeartbeats 0
/-! Rules of our own: defs that are called where no guard stands (for repr), repr of data, powers, calls by keywords alone. -/
namespace Vf
open PySem PySem.Spec PyProof.Rows L2

/-! ### defs that are called where no guard stands -/
structure FnG (P : Program) (w : World) (K : PySem.W.Frag) (mg : Str → Option Value) (base : Heap) (CX : CXT) (k : Nat) (f : Addr) (fd : FuncData) (ps : List Str) (sp : Sp) : Prop where
  lenG : ∀ vs H Q E, sp vs H Q E → vs.length = ps.length
  runG : ∀ (A : Around) (outer : List Env) (s : Shared) (H : Hp) (args : Args) (us : List Value) (vs : List V) (Q : VK) (E : XK),
    A.guards = some [] → Room k A → Env0 P w K mg base A outer s H → BindsTo s fd args (ps.zip us) → Vals vs us → sp vs H Q E →
      codeAny (model P w) A (.call (.ref f) args) (CR CX outer P w H s Q E) s

theorem FnG.of {P : Program} {w : World} {K : PySem.W.Frag} {mg : Str → Option Value} {base : Heap} {CX : CXT} {k : Nat} {f : Addr} {fd : FuncData} {ps : List Str} {sp : Sp}
    (F : FnOk P w K mg base CX k f fd ps sp) : FnG P w K mg base CX k f fd ps sp :=
  ⟨F.len, fun A outer s H args us vs Q E _ => F.run A outer s H args us vs Q E⟩

section
variable {P : Program} {w : World} {K : PySem.W.Frag} {mg : Str → Option Value} {base : Heap}
theorem okG {x qual : Str} {st : Stmt} {f : Addr} {fd : FuncData} {N ps : List Str} {k : Nat} {sp : Sp} (F : Fun K x qual st f fd) (S : FnScope N ps (defScope st))
    (len : ∀ vs H Q E, sp vs H Q E → vs.length = ps.length)
    (hbody : ∀ (cdv : Value) (A : Around) (outer : List Env) (s : Shared) (H : Hp) (vs : List V) (Q : VK) (E : XK), A.guards = some [] →
      Room k (A.deeper (envOfC qual (defScope st) s.heap.objs.size f cdv)) → sp vs H Q E →
      ∃ t, PSs (cxOf CX0 P w K mg base N qual (defScope st) f cdv A outer s H E).nox (defBody st) t ∧ t { nx := fun _ H' => Q .non H', rt := Q } (start N vs) H) :
    FnG P w K mg base CX0 (k + 1) f fd ps sp := by
  obtain ⟨oc, od, kV, doc, pm, an, cdv, ct, osl, rfl, lk, hcd⟩ := F.ex
  refine ⟨len, fun A outer s H args us vs Q E hg hr e0 hb r hsp => ?_⟩
  have KX : K.In s.heap := e0.mod.kin.keeps fun b o e => (e0.bs b o e).1
  have lim : s.heap.NoLimit := e0.mod.nolimit.keeps fun b o e => (e0.bs b o e).1
  have hkind : ∀ y ∈ ps.zip us, (defScope st).names.lookup y.1 = some .local ∨
      ((defScope st).names.lookup y.1 = some .cell ∧ ((cellsFrom (s.heap.objs.size + 1) (defScope st).names []).lookup y.1).isSome = true) := by
    rintro ⟨n, v⟩ hy
    rcases S.par n (List.of_mem_zip hy).1 with q | q
    · exact .inl q
    · exact .inr ⟨q, PySem.W.cellsFrom_some _ _ _ (.inl q)⟩
  refine codeAny_call_function hr.depth (KX _ _ lk) rfl S.co S.gen rfl (PySem.W.codeRec_of KX hcd)
    (hb _ _ _ _ (wpAny_newFunctionEnv_cells S.kind hkind fun env he s1 x => ?_))
  subst he
  refine ⟨lim.keeps x.toInCall.keep, codeAny_func ?_⟩
  obtain ⟨t, ht0, hq⟩ := hbody cdv A outer s H vs Q E hg (hr.deeper _) hsp
  have ht := ht0.nox
  have I := inv_start (CX := CX0) (E := E) S hr.hd e0 (len _ _ _ _ hsp) r x
  refine wpAny_mono (ht.run [] s1 (start N vs) H _ I hq) ?_ (fun e s' hs => hs)
  intro fl s' hs
  cases fl with
  | ret u =>
    obtain ⟨v, σ', H', J, rv, q⟩ := hs
    exact ⟨v, H', J.os, J.bare, J.base, J.hok, rv, q⟩
  | next =>
    obtain ⟨σ', H', J, q⟩ := hs
    exact ⟨V.non, H', J.os, J.bare, J.base, J.hok, rfl, q⟩
  | brk =>
    obtain ⟨_, _, _, q⟩ := hs
    exact q.elim
  | cont =>
    obtain ⟨_, _, _, q⟩ := hs
    exact q.elim
end

section
variable {X : Cx} {CX : CXT} {k : Nat} {f : Addr} {fd : FuncData} {ps : List Str} {sp : Sp} {dvs : List V} {ds : List Value} {E : XK} {x : Str} {p pos : Pos} {e : Expr} {es : List Expr} {t : TA}
theorem runG_fn {pins : List (Addr × Obj)} {σ : L2.St} {H : Hp} {s : Shared} {Q : VK} {us : List Value} {vs : List V}
    (F : FnG X.prog X.w X.K X.mg X.base CX0 k f fd ps sp) (hgd : X.A.guards = some []) (hr : Room k X.A) (hb : Binds X.K fd ps []) (I : Inv X pins σ H s) (r : Vals vs us) (h : sp vs H Q E0) :
    wpAny (model X.prog X.w) X.A (call (.ref f) us) (EP X pins σ Q) X.xe s := by
  have hl : us.length = ps.length := by rw [← r.length]; exact F.lenG _ _ _ _ h
  have hb' := hb s us I.kIn (by rw [List.append_nil]; exact hl)
  rw [List.append_nil] at hb'
  refine wpAny_call (codeAny_mono (F.runG X.A X.stack s H ⟨us, []⟩ us vs Q E0 hgd hr I.env0 hb' r h) ?_)
  intro r s' hq
  cases r with
  | error e => exact False.elim hq
  | ok fl =>
    cases fl with
    | ret u => exact I.after hq
    | next => exact False.elim hq
    | brk => exact False.elim hq
    | cont => exact False.elim hq
/-- f(e, ..), f such a def -/
theorem pe_callG (F : FnG X.prog X.w X.K X.mg X.base CX0 k f fd ps sp) (hgd : X.A.guards = some []) (hr : Room k X.A) (hg : Gl X x) (hm : X.mg x = some (.ref f)) (hk : PySem.W.keepIn X.K (.ref f) = true) (hb : Binds X.K fd ps [])
    (ha : PA X (e :: es) t) (hdb : (x == ("__debug__" : Str)) = false := by decide) (he : starEach (e :: es) X.env = (false, eval e X.env) :: starEach es X.env := by rfl)
    (hpl : (backTo pos (starEach es X.env)).any (·.1) = false := by rfl) :
    PE X (.Call (.Name x p) (e :: es) [] pos) (tCall sp [] E0 t) := by
  refine ⟨fun pins s σ H Q I h => wpAny_Call_Name_kw (ld_glob I hg hm ?_ hdb)⟩
  refine PySem.W.callWith_K (h₀ := X.base) I.ok.mod.kin hk (thn (ha.run pos pins s σ H _ I h) fun us s1 ⟨vs, H1, I1, r, q⟩ => ⟨I1.kIn, ?_⟩) he hpl
  simp only [List.append_nil] at q
  exact runG_fn F hgd hr hb I1 r q
end

/-! ### calls by keywords alone -/
section
variable {X : Cx} {CX : CXT} {k : Nat} {f : Addr} {fd : FuncData} {ps ks : List Str} {sp : Sp} {E : XK} {x : Str} {p pos : Pos} {kws : List Keyword} {tk : TA}
variable {g : List Value → List Value → List Value} {gV : List V → List V → List V}
/-- f(k = v, ..) -/
theorem pe_callK0 (F : FnOk X.prog X.w X.K X.mg X.base CX k f fd ps sp) (hr : Room k X.A) (hg : Gl X x) (hm : X.mg x = some (.ref f)) (hk : PySem.W.keepIn X.K (.ref f) = true) (hb : KBinds X.K fd ps ks g gV) (hx : Passes CX X E)
    (hkw : PK X kws tk) (hall : (backToKw pos (keywordEach kws X.env)).all (·.1.isSome) = true := by rfl) (hks : (backToKw pos (keywordEach kws X.env)).filterMap (·.1) = ks := by rfl)
    (hdb : (x == ("__debug__" : Str)) = false := by decide) :
    PE X (.Call (.Name x p) [] kws pos) (tCallK sp gV E tNil tk) := by
  refine ⟨fun pins s σ H Q I h => wpAny_Call_Name_kw (ld_glob I hg hm ?_ hdb)⟩
  refine PySem.W.callWith_KW0 (h₀ := X.base) I.ok.mod.kin hk hall (thn (hkw.run pos pins s σ H _ I h) fun ws s2 ⟨zs, H2, I2, rz, q2⟩ => ⟨I2.kIn, ?_⟩) (by
    show (false || (backToKw pos (keywordEach kws X.env)).any (·.1.isNone)) = false
    have h1 := List.all_eq_true.mp hall
    simp only [Bool.false_or, List.any_eq_false]
    intro y hy hz
    have h2 := h1 y hy
    cases hh : y.1 with
    | none => rw [hh] at h2; exact absurd h2 (by decide)
    | some z => rw [hh] at hz; simp at hz)
  rw [hks]
  exact run_fnk (us := []) F hr hb hx I2 .nil rz q2
end

/-- two parameters, told by name in the other order -/
def swap2 {α : Type} : List α → List α → List α
  | [], [a, b] => [b, a]
  | _, _ => []
theorem swap2_binds {K : PySem.W.Frag} {fd : FuncData} {p1 p2 : Str} (h : ∀ a b : Value, bindArgs fd ⟨[], [(p2, a), (p1, b)]⟩ = pure [(p1, b), (p2, a)]) :
    KBinds K fd [p1, p2] [p2, p1] swap2 swap2 := by
  refine ⟨fun s us ws _ hl => ?_, fun {vs us zs ws} r1 r2 => ?_⟩
  · match us, ws, hl with
    | [], [a, b], _ => exact .of_eq (h a b)
    | [], [], hl => exact absurd hl (by simp [swap2])
    | [], [_], hl => exact absurd hl (by simp [swap2])
    | [], _ :: _ :: _ :: _, hl => exact absurd hl (by simp [swap2])
    | _ :: _, _, hl => exact absurd hl (by simp [swap2])
  · cases r1 with
    | cons _ _ => exact .nil
    | nil =>
      cases r2 with
      | nil => exact .nil
      | cons a ra =>
        cases ra with
        | nil => exact .nil
        | cons b rb =>
          cases rb with
          | nil => exact .cons b (.cons a .nil)
          | cons _ _ => exact .nil

/-! ### powers of any size -/
section
variable {X : Cx}
def CPowW (i j : Int) : Prop := 0 ≤ j ∧ (Builtin.Int.intBits i : Int) * j ≤ 2 ^ 27
theorem op_powW : OpR X (binaryOp .Pow) (rI CPowW fun i j => .int (i ^ j.toNat)) := opI fun _ _ _ _ _ _ _ hc q => pow_int hc.1 hc.2 q
end

/-! ### repr of data -/
section
variable {X : Cx}
def rRepr (K : PySem.W.Frag) : List V → Hp → VK → Prop := fun xs H Q => ∃ (a : Addr) (d : PyData), xs = [.ref a] ∧ Dp K H (.ref a) d ∧ d.showable = true ∧ d.hasDict = false ∧ d.depth ≤ 60 ∧ d.shown.length ≤ sizeLine ∧ Q (.str d.shown) H
theorem call_repr_D {k : Nat} (hgd : X.A.guards = some []) (hr : Room k X.A) : CallR X (.builtin "repr") (rRepr X.K) := by
  intro pins s σ H xs us Q I r h
  obtain ⟨a, d, rfl, hd, hs, hn, hdp, hz, q⟩ := h
  obtain ⟨u, rfl, ru⟩ := vals1 r
  cases (show u = Value.ref a from ru)
  obtain ⟨as, rd⟩ := Dp.reads I d (.ref a) (.ref a) hd rfl
  refine PySem.repr_of_reads' rd hs (fun z => absurd z (by rw [hn]; decide)) hgd (by have := hr.un; omega) (fun _ _ e => e) (fun h' u tk hk => ?_) hz
  exact ⟨.str d.shown, H, I.kept (t' := tk) hk, ⟨u, rfl⟩, q⟩
end
end Vf

/-! set(xs) of a list of ints, kept as an object. -/
namespace Vf
open PySem PySem.Spec PyProof.Rows L2

/-- an empty set, as it is made -/
abbrev freshSet (w : World) : Obj := { cls := .type "set", dict := none, data := .set #[] 0 (.fresh 0 0 (!w.params.followText "set-order")) }
section
variable {P : Program} {w : World} {A : Around} {E : Value → Shared → Prop} {s : Shared}
theorem mk_set_list {l : Addr} {items : Array Value} (ns : List Int) {Q : Value → Shared → Prop} (hh : A.handled = none) (hl : s.heap.IsList l items)
    (hit : IntsAre items.toList ns) (hb : ns.length + 1 < scanBound)
    (h : ∀ (h' : Heap) (tk c : Nat), SetR w h' s.heap.objs.size (fun j => decide (j ∈ ns)) c → c ≤ ns.length →
      (∀ b o, s.heap.get? b = some o → h'.get? b = some o) → Q (.ref s.heap.objs.size) { s with heap := h', toks := tk }) :
    wpAny (model P w) A (call (.type "set") [.ref l]) Q E s := by
  have hisz : items.size = ns.length := (Array.length_toList (xs := items)).symm.trans (IntsAre.length hit)
  obtain ⟨c, tl, hmro⟩ := F.called_set.mro
  have hmade := F.called_set.made
  have hsub := F.called_set.sub
  refine wpAny_call (codeAny_of_tree ?_)
  show wpAny _ _ (callAny (.type "set") _) _ _ _
  refine wpAny_pure ⟨Code.quiet_builtin _ (by decide +kernel), codeAny_builtin F.entry_type_call ?_⟩
  rw [Around.under_plain (weight_type_call_type "set" [.ref l] []) rfl]
  have k1 := F.called_set.notType
  have k2 := F.called_set.canCreate
  have k3 := F.typeCall_set_1 (.ref l)
  repeat (any_goals (first | assumption | wp_step))
  refine codeAny_mono (code_set_led1 (.ref l) (E := E) (Q₁ := fun obj s₁ => obj = .ref s.heap.objs.size ∧ s₁ = { s with heap := s.heap.push (freshSet w) }) ⟨rfl, rfl⟩) ?_
  intro r s₁ hr
  cases r with
  | error e => exact hr
  | ok fl =>
    cases fl with
    | ret obj =>
      obtain ⟨rfl, rfl⟩ := hr
      have hS : (s.heap.push (freshSet w)).get? s.heap.objs.size = some (freshSet w) := Heap.get?_push_size _ rfl
      have hT : Shared.TypeIs { s with heap := s.heap.push (freshSet w) } (.ref s.heap.objs.size) "set" := ⟨_, hS, rfl⟩
      have k4 := F.called_set.init.lookup
      have k5 := F.called_set.init.bind (.ref s.heap.objs.size)
      repeat (any_goals (first | assumption | wp_step))
      let G : Value → Shared → Prop := fun r s₂ => r = .none ∧ ∃ h' tk c, s₂ = { s with heap := h', toks := tk } ∧
        SetR w h' s.heap.objs.size (fun j => decide (j ∈ ns)) c ∧ c ≤ ns.length ∧ (∀ b o, s.heap.get? b = some o → h'.get? b = some o)
      refine codeAny_mono (codeAny_call_builtin (R := wants G E) F.called_set.init.plain F.entry_set_init (check_set_init_1 hT ?_)) ?_
      · obtain ⟨ol, hol, hcl, nl, hdl⟩ := hl
        obtain ⟨ocls, odict, odata, oslots⟩ := ol
        simp only at hcl hdl
        subst hcl
        subst hdl
        have hol' : (s.heap.push (freshSet w)).get? l = some { cls := .type "list", dict := odict, data := .seq items nl, slots := oslots } := Heap.get?_push_of_some _ hol
        have k6 := F.sub_list_set
        have k7 := F.sub_list_frozenset
        have k8 : (Value.type "list" == Value.type "dict") = false := by decide
        have hl1 : (s.heap.push (freshSet w)).IsList l items := ⟨_, hol', rfl, nl, rfl⟩
        unfold Builtin.«set.__init__» noKeywords Builtin.Frozenset.updateFrom
        generalize hPI : pyIter = PI
        wp_walk
        subst hPI
        refine wpAny_pyIter_list hl1 (wpAny_bind (wpAny_runValue ?_))
        have hlS : l < s.heap.objs.size := Heap.lt_size hol
        have hh3 : A.in1.in1.in1.handled = none := by simp [hh]
        have hz : (s.heap.push (freshSet w)).objs.size = s.heap.objs.size + 1 := Heap.size_push ..
        have hneI : l ≠ (s.heap.push (freshSet w)).objs.size := by rw [hz]; exact Nat.ne_of_lt (Nat.lt_succ_of_lt hlS)
        have hSf : s.heap.objs.size ∉ [(s.heap.push (freshSet w)).objs.size, l] := by
          rw [hz]
          intro hm
          rcases List.mem_cons.mp hm with e | hm
          · exact absurd e (Nat.ne_of_lt (Nat.lt_succ_self _))
          · exact absurd (List.mem_singleton.mp hm) (Nat.ne_of_gt hlS)
        have hval : ∀ (i : Nat) (v : Value), items[i]? = some v → ∃ k t, ns[i]? = some k ∧ v = .int k t := by
          intro i v hv
          have hi : i < ns.length := hisz ▸ (Array.getElem?_eq_some_iff.mp hv).1
          obtain ⟨t, e⟩ := PyProof.Rows.IntsAre.int_at hit i v (by rw [Array.getElem?_toList]; exact hv)
          exact ⟨ns[i], t, List.getElem?_eq_getElem hi, by rw [e, List.getD_eq_getElem?_getD, List.getElem?_eq_getElem hi] <;> rfl⟩
        refine set_update_ints ((Walks.list hh3 _ l hneI items).toS) s.heap.objs.size hSf ns hisz hb hval (items.size - 0) 0 _ (by omega) (Nat.zero_le _)
          ⟨⟨_, Heap.get?_push_size _ rfl, rfl, rfl⟩, (hl1.push _)⟩ ⟨0, Nat.le_refl 0, setR_new_at (Heap.get?_push_of_some _ hS)⟩ ?_
        intro s' c' hm hc' hS'
        obtain ⟨h', g2, d', tk', os'⟩ := s'
        obtain rfl : g2 = s.gens := hm.gens
        obtain rfl : d' = s.drawn := hm.drawn
        obtain rfl : os' = s.os := hm.os
        show wpAny _ _ _ _ _ _
        refine wpAny_pure ?_
        show wpAny _ _ (ret Value.none) _ _ _
        rw [hisz] at hc'
        refine wpAny_pure ⟨rfl, h', tk', c', rfl, hS', hc', fun b o e => ?_⟩
        have hb0 : b < s.heap.objs.size := Heap.lt_size e
        refine hm.heap b o (fun hmem => ?_) (Heap.get?_push_of_some _ (Heap.get?_push_of_some _ e))
        rcases List.mem_cons.mp hmem with e1 | hmem
        · exact absurd e1 (Nat.ne_of_lt hb0)
        · have e1 := List.mem_singleton.mp hmem
          rw [hz] at e1
          exact absurd e1 (Nat.ne_of_lt (Nat.lt_succ_of_lt hb0))
      · intro r₂ s₂ hr₂
        cases r₂ with
        | error e => exact hr₂
        | ok fl₂ =>
          cases fl₂ with
          | ret r =>
            obtain ⟨rfl, h', tk, c', rfl, hS', hc', hk'⟩ := hr₂
            repeat (any_goals (first | assumption | wp_step))
            exact h _ _ _ hS' hc' hk'
          | _ => exact hr₂.elim
    | _ => exact hr.elim
end
section
variable {X : Cx}
/-- set(xs), ints -/
def rSetOfI (K : PySem.W.Frag) (w : World) : List V → Hp → VK → Prop := fun xs H Q => ∃ (p : Addr) (ns : List Int), xs = [.ref p] ∧ SqL K H p (ns.map V.int) ∧ ns.length ≤ 1000 ∧
  ∀ a c, H a = none → c ≤ ns.length → Q (.ref a) (upd H a (SetO w a (fun j => decide (j ∈ ns)) c))
theorem cr_setOfI (hc : X.calm = true) : CallR X (.type "set") (rSetOfI X.K X.w) := by
  intro pins s σ H xs us Q I r h
  obtain ⟨p, ns, rfl, hs, hl, q⟩ := h
  obtain ⟨its, rv, pl, _⟩ := I.list hs
  rw [Vals.ref1 r]
  refine mk_set_list ns (I.ok.hd hc) pl.isList rv.ints (by unfold scanBound; omega) fun h' tk c R hcn k => ?_
  have hf : H s.heap.objs.size = none := I.hok.fresh (Nat.le_refl _)
  exact ⟨.ref s.heap.objs.size, _, I.laid (t' := tk) k (Nat.le_refl _) (setO_new R), rfl, q _ c hf hcn⟩
end
end Vf

/-! Sets of tuples of ints, of more than a thousand members: in, add. -/
namespace Vf
open PySem PySem.Spec PyProof.Rows L2

/-! ### the round of a table's slots, larger tables -/
def MaskW (m : Nat) : Prop := m = 7 ∨ m = 31 ∨ m = 127 ∨ m = 511 ∨ m = 2047
def mark (m : Nat) : Nat → Nat → Nat → Nat
  | 0, _, acc => acc
  | k + 1, x, acc => mark m k ((x * 5 + 1) % (m + 1)) (acc ||| (1 <<< x))
def walkT (m : Nat) : Nat → Nat → Nat
  | 0, x => x
  | k + 1, x => walkT m k ((x * 5 + 1) % (m + 1))
theorem lcgI_shift (m x : Nat) : ∀ k, lcgI m ((x * 5 + 1) % (m + 1)) k = lcgI m x (k + 1)
  | 0 => rfl
  | k + 1 => by
    have ih := lcgI_shift m x k
    show (lcgI m ((x * 5 + 1) % (m + 1)) k * 5 + 1) % (m + 1) = (lcgI m x (k + 1) * 5 + 1) % (m + 1)
    rw [ih]
theorem lcgI_plus (m x a : Nat) : ∀ k, lcgI m (lcgI m x a) k = lcgI m x (a + k)
  | 0 => rfl
  | k + 1 => by
    have ih := lcgI_plus m x a k
    show (lcgI m (lcgI m x a) k * 5 + 1) % (m + 1) = (lcgI m x (a + k) * 5 + 1) % (m + 1)
    rw [ih]
theorem walkT_eq (m : Nat) : ∀ k x, walkT m k x = lcgI m x k
  | 0, _ => rfl
  | k + 1, x => by
    show walkT m k ((x * 5 + 1) % (m + 1)) = _
    rw [walkT_eq m k, lcgI_shift]
theorem mark_bit (m j : Nat) : ∀ k x acc, (mark m k x acc).testBit j = true → acc.testBit j = true ∨ ∃ c, c < k ∧ lcgI m x c = j
  | 0, _, _, h => .inl h
  | k + 1, x, acc, h => by
    rcases mark_bit m j k _ _ h with h1 | ⟨c, hc, e⟩
    · rw [Nat.testBit_or, Bool.or_eq_true] at h1
      rcases h1 with h1 | h1
      · exact .inl h1
      · refine .inr ⟨0, Nat.succ_pos _, ?_⟩
        rw [Nat.one_shiftLeft, Nat.testBit_two_pow] at h1
        exact of_decide_eq_true h1
    · exact .inr ⟨c + 1, Nat.succ_lt_succ hc, by rw [← lcgI_shift]; exact e⟩
theorem mark_all {m : Nat} (h : mark m (m + 1) 0 0 = 2 ^ (m + 1) - 1) {j : Nat} (hj : j ≤ m) : ∃ c, c ≤ m ∧ lcgI m 0 c = j := by
  have hb : (mark m (m + 1) 0 0).testBit j = true := by
    rw [h, Nat.testBit_two_pow_sub_one]
    exact decide_eq_true (Nat.lt_succ_of_le hj)
  rcases mark_bit m j _ _ _ hb with h1 | ⟨c, hc, e⟩
  · rw [Nat.zero_testBit] at h1
    exact absurd h1 (by decide)
  · exact ⟨c, Nat.le_of_lt_succ hc, e⟩
theorem seen_slots {m : Nat} (hm : MaskW m) {j : Nat} (hj : j ≤ m) : ∃ c, c ≤ m ∧ lcgI m 0 c = j := by
  rcases hm with e | e | e | e | e
  · subst e; exact mark_all (by decide +kernel) hj
  · subst e; exact mark_all (by decide +kernel) hj
  · subst e; exact mark_all (by decide +kernel) hj
  · subst e; exact mark_all (by decide +kernel) hj
  · subst e; exact mark_all (by decide +kernel) hj
theorem round_slots {m : Nat} (hm : MaskW m) : lcgI m 0 (m + 1) = 0 := by
  rw [← walkT_eq]
  rcases hm with e | e | e | e | e
  · subst e; decide +kernel
  · subst e; decide +kernel
  · subst e; decide +kernel
  · subst e; decide +kernel
  · subst e; decide +kernel
theorem from_any {m : Nat} (hm : MaskW m) {i j : Nat} (hi : i ≤ m) (hj : j ≤ m) : ∃ k, k ≤ m ∧ lcgI m i k = j := by
  obtain ⟨a, ha, ea⟩ := seen_slots hm hi
  obtain ⟨b, hb, eb⟩ := seen_slots hm hj
  by_cases c : a ≤ b
  · refine ⟨b - a, Nat.le_trans (Nat.sub_le _ _) hb, ?_⟩
    rw [← ea, lcgI_plus, Nat.add_sub_cancel' c, eb]
  · refine ⟨m + 1 + b - a, by omega, ?_⟩
    rw [← ea, lcgI_plus, Nat.add_sub_cancel' (by omega), ← lcgI_plus, round_slots hm, eb]
theorem runs_meet {m : Nat} (hm : MaskW m) (h : Int) {j : Nat} (hj : j ≤ m) : ∃ n, n ≤ m + 12 ∧ runI m (SetTable.bits h) n = j := by
  obtain ⟨k, hk, e⟩ := from_any hm (runI_le m (SetTable.bits h) 12) hj
  refine ⟨12 + k, by omega, ?_⟩
  rw [runI_tail (bits_lt h), e]
theorem way_top (m : Nat) (h : Int) (k : Nat) : way m h k ≤ m := by
  have h0 : SetTable.bits h % (m + 1) ≤ m := Nat.le_of_lt_succ (Nat.mod_lt _ (Nat.succ_pos m))
  have h1 := runEnd_bd h0
  have h2 := nth_in (m := m) k (runAt m (SetTable.bits h % (m + 1)) (SetTable.bits h)) (by
    simp only [runAt]
    omega)
  exact Nat.le_trans (Nat.le_add_right _ _) h2
theorem way_meets {m : Nat} (hm : MaskW m) (h : Int) {j : Nat} (hj : j ≤ m) : ∃ k, k < 10 * SetTable.turns m ∧ way m h k = j := by
  obtain ⟨n, hn, e⟩ := runs_meet hm h hj
  obtain ⟨k, hk, e2⟩ := run_nth m (SetTable.bits h) n
  refine ⟨k, by unfold SetTable.turns; omega, ?_⟩
  unfold way
  rw [e2]
  exact e

/-! ### the table -/
structure TabW (t : SetTable) (hs : List Int) : Prop where
  ris : Ris t.place.toList
  dm : t.dummies = #[]
  sz : t.place.size = hs.length
  msk : MaskW t.mask
  top : ∀ x ∈ t.place.toList, x ≤ t.mask
  led : ∀ (i : Nat) (h : Int) (j : Nat), hs[i]? = some h → t.place.toList[i]? = some j → ∃ k, way t.mask h k = j ∧ ∀ c, c < k → way t.mask h c ∈ t.place.toList
theorem TabW.free {t : SetTable} {hs : List Int} (T : TabW t hs) (hl : hs.length ≤ t.mask) (h : Int) :
    ∃ K, K < 10 * SetTable.turns t.mask ∧ way t.mask h K ∉ t.place.toList ∧ ∀ c, c < K → way t.mask h c ∈ t.place.toList := by
  obtain ⟨j, hj, hn⟩ := st_missing t.place.toList (t.mask + 1) (by rw [Array.length_toList, T.sz]; omega)
  obtain ⟨k, hk, e⟩ := way_meets T.msk h (Nat.le_of_lt_succ hj)
  obtain ⟨K, a1, a2, a3⟩ := st_least (p := fun c => way t.mask h c ∉ t.place.toList) k (fun z => hn (e ▸ z))
  exact ⟨K, Nat.lt_of_le_of_lt a1 hk, a2, fun c hc => Classical.byContradiction (a3 c hc)⟩
theorem TabW.ahead {t : SetTable} {hs : List Int} (T : TabW t hs) {h : Int} {K i j : Nat} (hK : way t.mask h K ∉ t.place.toList) (hi : hs[i]? = some h) (hj : t.place.toList[i]? = some j) :
    ∃ c, c < K ∧ way t.mask h c = j := by
  obtain ⟨c, e, hb⟩ := T.led i h j hi hj
  refine ⟨c, Nat.lt_of_not_le fun z => hK ?_, e⟩
  rcases Nat.lt_or_eq_of_le z with y | y
  · exact hb K y
  · rw [y, e]
    exact List.mem_of_getElem? hj
theorem TabW.put {t : SetTable} {hs : List Int} (T : TabW t hs) {h : Int} {K : Nat} (hK : way t.mask h K ∉ t.place.toList) (hb : ∀ c, c < K → way t.mask h c ∈ t.place.toList) :
    SetTable.below t.place (way t.mask h K) ≤ hs.length ∧ (t.put (way t.mask h K)).1.fill = hs.length + 1 ∧
    TabW (t.put (way t.mask h K)).1 (hs.take (SetTable.below t.place (way t.mask h K)) ++ h :: hs.drop (SetTable.below t.place (way t.mask h K))) := by
  have top := way_top t.mask h K
  have cut := (below_cut T.ris (way t.mask h K)).1
  generalize hw : way t.mask h K = j at *
  have e1 : SetTable.below t.place j ≤ t.place.toList.length := by rw [Array.length_toList]; exact cut
  have e2 : SetTable.below t.place j ≤ hs.length := T.sz ▸ cut
  have pp := put_place t j
  have sz : (t.put j).1.place.size = hs.length + 1 := by
    rw [← Array.length_toList, pp, len_ins _ e1, Array.length_toList, T.sz]
  have nw : t.place[SetTable.below t.place j]? ≠ some j := fun e => hK (List.mem_of_getElem? ((Array.getElem?_toList (xs := t.place)).trans e))
  have more : ∀ x, x ∈ t.place.toList → x ∈ (t.put j).1.place.toList := fun x hx => by
    rw [pp]
    exact mem_ins.2 (.inr hx)
  refine ⟨e2, ?_, ris_insert T.ris nw, put_dm T.dm j, ?_, T.msk, ?_, ?_⟩
  · show (t.put j).1.place.size + (t.put j).1.dummies.size = _
    rw [sz, put_dm T.dm j]
    rfl
  · rw [sz, len_ins _ e2]
  · intro x hx
    rw [pp] at hx
    rcases mem_ins.1 hx with z | z
    · rw [z]; exact top
    · exact T.top x z
  · intro i h' j' h1 h2
    rw [tins_get hs e2] at h1
    rw [pp, tins_get _ e1] at h2
    show ∃ k, way t.mask h' k = j' ∧ _
    split at h1
    · rename_i c
      rw [if_pos c] at h2
      obtain ⟨k, a, b⟩ := T.led i h' j' h1 h2
      exact ⟨k, a, fun c hc => more _ (b c hc)⟩
    · rename_i c
      rw [if_neg c] at h2
      split at h1
      · rename_i d
        rw [if_pos d] at h2
        cases h1
        cases h2
        exact ⟨K, hw, fun c hc => more _ (hb c hc)⟩
      · rename_i d
        rw [if_neg d] at h2
        obtain ⟨k, a, b⟩ := T.led (i - 1) h' j' h1 h2
        exact ⟨k, a, fun c hc => more _ (b c hc)⟩

/-! ### the table laid anew -/
theorem slot_free {m : Nat} (hm : MaskW m) (owner : Array (Option Nat)) (h : Int) {j : Nat} (hj : j ≤ m) (hf : oAt owner j = none) :
    ∃ K, SetTable.layClean.free m owner (SetTable.turns m) (SetTable.bits h % (m + 1)) (SetTable.bits h) = some (way m h K) ∧ oAt owner (way m h K) = none ∧ ∀ k, k < K → oAt owner (way m h k) ≠ none := by
  obtain ⟨n, hn, e⟩ := runs_meet hm h hj
  have e2 : way m h (off m (SetTable.bits h % (m + 1)) (SetTable.bits h) n) = j := by
    unfold way
    rw [nth_off, itL_run]
    exact e
  obtain ⟨K, a1, a2, a3⟩ := st_least (p := fun k => oAt owner (way m h k) = none) _ (show oAt owner (way m h (off m (SetTable.bits h % (m + 1)) (SetTable.bits h) n)) = none by rw [e2]; exact hf)
  refine ⟨K, free_spec m owner _ n _ _ K (by unfold SetTable.turns; omega) a1 (fun k hk => ?_) ?_, a2, a3⟩
  · have z := a3 k hk
    revert z
    unfold way
    cases oAt owner (nth m (runAt m (SetTable.bits h % (m + 1)) (SetTable.bits h)) k).j with
    | none => intro z; exact absurd rfl z
    | some _ => intro _; rfl
  · have z : oAt owner (nth m (runAt m (SetTable.bits h % (m + 1)) (SetTable.bits h)) K).j = none := a2
    rw [z]
    rfl
theorem own_next {m : Nat} (hm : MaskW m) {done : List Int} {owner : Array (Option Nat)} (W : Own m done owner) (hl : done.length ≤ m) (h : Int) :
    ∃ j, SetTable.layClean.free m owner (SetTable.turns m) (SetTable.bits h % (m + 1)) (SetTable.bits h) = some j ∧ Own m (done ++ [h]) (owner.setIfInBounds j (some done.length)) := by
  obtain ⟨ps, hps, hin⟩ := W.ps
  obtain ⟨j0, h0, hn0⟩ := st_missing ps (m + 1) (by omega)
  have hj0 : oAt owner j0 = none := by
    cases z : oAt owner j0 with
    | none => rfl
    | some k => exact absurd (hin j0 (Nat.le_of_lt_succ h0) (fun e => by rw [z] at e; cases e)) hn0
  obtain ⟨K, e1, e2, e3⟩ := slot_free hm owner h (Nat.le_of_lt_succ h0) hj0
  have hjm := way_top m h K
  refine ⟨way m h K, e1, ?_⟩
  have self : oAt (owner.setIfInBounds (way m h K) (some done.length)) (way m h K) = some done.length := oAt_set_self _ (by rw [W.sz]; exact Nat.lt_succ_of_le hjm)
  have other : ∀ i, i ≠ way m h K → oAt (owner.setIfInBounds (way m h K) (some done.length)) i = oAt owner i := fun i hi => oAt_set_ne _ hi
  have size2 : (owner.setIfInBounds (way m h K) (some done.length)).size = m + 1 := by rw [Array.size_setIfInBounds]; exact W.sz
  generalize owner.setIfInBounds (way m h K) (some done.length) = own2 at *
  have keep : ∀ i, oAt owner i ≠ none → oAt own2 i ≠ none := fun i hi => by
    by_cases c : i = way m h K
    · rw [c, self]
      exact fun z => nomatch z
    · rw [other i c]
      exact hi
  refine ⟨size2, ?_, ?_, way m h K :: ps, by simp [hps], ?_⟩
  · intro j k hj e
    by_cases c : j = way m h K
    · rw [c, self] at e
      cases e
      exact ⟨h, K, by simp, c.symm, fun k' hk' => keep _ (e3 k' hk')⟩
    · rw [other j c] at e
      obtain ⟨h', K', a1, a2, a3⟩ := W.at_ j k hj e
      have hk : k < done.length := (List.getElem?_eq_some_iff.mp a1).1
      exact ⟨h', K', by rw [List.getElem?_append_left hk]; exact a1, a2, fun k' hk' => keep _ (a3 k' hk')⟩
  · intro k hk
    by_cases c : k < done.length
    · obtain ⟨j, hj, e⟩ := W.all k c
      exact ⟨j, hj, by rw [other j (fun z => by rw [z, e2] at e; cases e)]; exact e⟩
    · have ek : k = done.length := by
        rw [List.length_append, List.length_singleton] at hk
        omega
      exact ⟨way m h K, hjm, by rw [ek]; exact self⟩
  · intro j hj e
    by_cases c : j = way m h K
    · rw [c]; exact List.mem_cons_self
    · rw [other j c] at e
      exact List.mem_cons_of_mem _ (hin j hj e)
theorem owns_all {m : Nat} (hm : MaskW m) : ∀ (rest done : List Int) (owner : Array (Option Nat)), Own m done owner → done.length + rest.length ≤ m →
    ∃ own2, rest.foldl (stepF m) (some (owner, done.length)) = some (own2, (done ++ rest).length) ∧ Own m (done ++ rest) own2
  | [], done, owner, W, _ => ⟨owner, by simp, by simpa using W⟩
  | h :: rest, done, owner, W, hl => by
    simp only [List.length_cons] at hl
    obtain ⟨j, e, W2⟩ := own_next hm W (by omega) h
    obtain ⟨own2, a, b⟩ := owns_all hm rest (done ++ [h]) _ W2 (by simp; omega)
    have e1 : done ++ [h] ++ rest = done ++ h :: rest := by simp
    have e2 : (done ++ [h]).length = done.length + 1 := by simp
    rw [e1, e2] at a
    rw [e1] at b
    exact ⟨own2, by rw [List.foldl_cons, stepF_some e]; exact a, b⟩
theorem clean_all {m : Nat} (hm : MaskW m) {hs : Array Int} (hn : hs.size ≤ m) : ∃ owner, SetTable.layClean m hs = some owner ∧ Own m hs.toList owner := by
  obtain ⟨owner, a, b⟩ := owns_all hm hs.toList [] _ (Own.init m) (by simpa using hn)
  refine ⟨owner, ?_, by simpa using b⟩
  have a2 : hs.toList.foldl (stepF m) (some (Array.replicate (m + 1) none, 0)) = some (owner, ([] ++ hs.toList).length) := a
  rw [layClean_eq, a2]
  rfl
theorem relaid_all (t : SetTable) {hs : Array Int} {wanted M : Nat} (hw : SetTable.sizeAbove wanted - 1 = M) (hM : MaskW M) (hn : hs.size ≤ M) :
    ∃ t2 order, t.relaid hs wanted = some (t2, order) ∧ order.toList.Perm (List.range hs.size) ∧ TabW t2 (order.toList.map fun i => hs.getD i 0) ∧ t2.mask = M ∧ t2.led = t.led ∧ t2.plain = t.plain := by
  obtain ⟨owner, e, W⟩ := clean_all hM hn
  have two := ris_live (fun j => owner.getD j none) (List.range (M + 1)) (by
    unfold Ris
    exact List.pairwise_lt_range)
  have up : Ris ((liveOf M owner).map (·.1)) := two.1
  have inr : ∀ x ∈ (liveOf M owner).map (·.1), x ∈ List.range (M + 1) := two.2
  have mem : ∀ j k, (j, k) ∈ liveOf M owner ↔ j ≤ M ∧ oAt owner j = some k := fun j k => mem_live W.sz
  have every : ∀ k, k < hs.size → k ∈ (liveOf M owner).map (·.2) := fun k hk => by
    obtain ⟨j, a, b⟩ := W.all k (by simpa using hk)
    exact List.mem_map.mpr ⟨(j, k), (mem j k).2 ⟨a, b⟩, rfl⟩
  have len : (liveOf M owner).length = hs.size := by
    refine Nat.le_antisymm ?_ ?_
    · obtain ⟨ps, a, b⟩ := W.ps
      have nd : ((liveOf M owner).map (·.1)).Nodup := List.Pairwise.imp (fun z => Nat.ne_of_lt z) up
      have z := nat_nodup_len _ ps nd (by
        intro x hx
        obtain ⟨⟨y, k⟩, hq, rfl⟩ := List.mem_map.mp hx
        obtain ⟨c1, c2⟩ := (mem y k).1 hq
        exact b y c1 (fun z => by rw [z] at c2; cases c2))
      simpa [a] using z
    · have z := nat_nodup_len (List.range hs.size) ((liveOf M owner).map (·.2)) List.nodup_range fun k hk => every k (List.mem_range.mp hk)
      simpa using z
  refine ⟨tabOf t M owner, ((liveOf M owner).map (·.2)).toArray, ?_, perm_range hs.size _ (by simpa using len) every, ⟨up, rfl, ?_, hM, ?_, ?_⟩, rfl, rfl, rfl⟩
  · rw [relaid_eq, hw, e]
    rfl
  · show ((liveOf M owner).map (·.1)).toArray.size = _
    simp
  · intro x hx
    exact Nat.le_of_lt_succ (List.mem_range.mp (inr x hx))
  · intro i h j h1 h2
    have h1' : (((liveOf M owner).map (·.2)).map fun i => hs.getD i 0)[i]? = some h := h1
    have h2' : ((liveOf M owner).map (·.1))[i]? = some j := h2
    simp only [List.getElem?_map, Option.map_eq_some_iff] at h1' h2'
    obtain ⟨k, ⟨⟨y, k'⟩, g1, rfl⟩, rfl⟩ := h1'
    obtain ⟨q, g2, rfl⟩ := h2'
    rw [g1] at g2
    cases g2
    obtain ⟨c1, c2⟩ := (mem y k').1 (List.mem_of_getElem? g1)
    obtain ⟨h0, K, a1, a2, a3⟩ := W.at_ y k' c1 c2
    have eh : hs.getD k' 0 = h0 := by
      rw [Array.getElem?_toList] at a1
      rw [Array.getD_eq_getD_getElem?, a1]
      rfl
    refine ⟨K, by show way M (hs.getD k' 0) K = y; rw [eh]; exact a2, fun c hc => ?_⟩
    show way M (hs.getD k' 0) c ∈ (liveOf M owner).map (·.1)
    rw [eh]
    cases z : oAt owner (way M h0 c) with
    | none => exact absurd z (a3 c hc)
    | some k2 => exact List.mem_map.mpr ⟨(way M h0 c, k2), (mem _ _).2 ⟨way_top M h0 c, z⟩, rfl⟩

/-! ### the set -/
/-- what the object at a holds: the tuples at L's addresses, told by their ints -/
def SetW0 (P : Program) (w : World) (h : Heap) (a : Addr) (L : List (Addr × List Int)) (es : Array (Int × Value)) (ep : Nat) (t : SetTable) : Prop :=
  (∃ o, h.get? a = some o ∧ o.ExactSet ∧ o.data = .set es ep t) ∧ es.toList = rowsOf P w L ∧ TabW t (L.map fun p => thash P w p.2) ∧ t.plain = true ∧
    (w.params.followText "set-order" = true ∨ t.led = true) ∧ L.length * 5 < t.mask * 3 ∧ L.length ≤ 1200
section
variable {P : Program} {w : World} {A : Around} {E : Value → Shared → Prop} {s : Shared} {a : Addr} {L : List (Addr × List Int)} {es : Array (Int × Value)} {ep : Nat} {t : SetTable}
theorem rows_size (h : es.toList = rowsOf P w L) : es.size = L.length := by
  rw [← Array.length_toList, h]
  simp [rowsOf]
theorem rows_at (h : es.toList = rowsOf P w L) {i : Nat} {p : Addr × List Int} (hp : L[i]? = some p) : es[i]? = some (thash P w p.2, Value.ref p.1) := by
  rw [← Array.getElem?_toList, h]
  simp [rowsOf, hp]
theorem fits_of (T : TabW t (L.map fun p => thash P w p.2)) (hr : es.toList = rowsOf P w L) (hl : L.length ≤ t.mask) : t.fits es.size = true := by
  have h1 := T.sz
  rw [List.length_map] at h1
  unfold SetTable.fits SetTable.fill
  rw [T.dm, Bool.and_eq_true, beq_iff_eq, decide_eq_true_eq, rows_size hr, h1]
  exact ⟨rfl, hl⟩
theorem stands (T : TabW t (L.map fun p => thash P w p.2)) : ¬ t.gaveWay = true := by
  unfold SetTable.gaveWay
  rcases T.msk with e | e | e | e | e <;> rw [e] <;> decide
/-- the search, from the c-th slot of its way on -/
theorem seek (R : SetW0 P w s.heap a L es ep t) (tup : ∀ p ∈ L, IsT P w s.heap p.2 p.1) (ad : Bool) {x : Addr} {k : List Int} (hx : IsT P w s.heap k x) (hu : A.units < cLine) {K : Nat} (hf0 : K < 10 * SetTable.turns t.mask)
    (hK : way t.mask (thash P w k) K ∉ t.place.toList) (hKb : ∀ c, c < K → way t.mask (thash P w k) c ∈ t.place.toList) {Q : SetFound → Shared → Prop}
    (hin : k ∈ L.map (·.2) → ∀ oi, (ad = false → oi ≠ none) → Q (.there oi) s) (hout : k ∉ L.map (·.2) → Q (.free (way t.mask (thash P w k) K) false) s) :
    ∀ (f c : Nat) (stand : Option SetTable.Probe), stand.getD (t.probeStart (thash P w k)) = nth t.mask (runAt t.mask (SetTable.bits (thash P w k) % (t.mask + 1)) (SetTable.bits (thash P w k))) c → c ≤ K → K - c < f →
      (∀ (i : Nat) p, L[i]? = some p → p.2 = k → ∃ c', c ≤ c' ∧ c' < K ∧ t.place.toList[i]? = some (way t.mask (thash P w k) c')) →
      wpAny (model P w) A (setSearchFrom a (.ref x) (thash P w k) ad f stand) Q E s
  | 0, c, stand, _, _, hf, _ => absurd hf (Nat.not_lt_zero _)
  | f + 1, c, stand, hst, hc, hf, hre => by
    obtain ⟨⟨o, ho, hex, hd⟩, rows, T, pl, ld, room, few⟩ := id R
    have fit : t.fits es.size = true := fits_of T rows (by omega)
    generalize hpr : runAt t.mask (SetTable.bits (thash P w k) % (t.mask + 1)) (SetTable.bits (thash P w k)) = pr at hst
    have wy : ∀ q, (nth t.mask pr q).j = way t.mask (thash P w k) q := fun q => by rw [← hpr]
    have shift : ∀ q, nth t.mask (nth t.mask pr c) q = nth t.mask pr (c + q) := fun q => (nth_add t.mask c pr q).symm
    have nodummy : ∀ (n : Nat) (p : SetTable.Probe), p.dummy = none → (nth t.mask p n).dummy = none := by
      intro n
      induction n with
      | zero => exact fun p h => h
      | succ n ih =>
        refine fun p h => ih (adv t.mask p) ?_
        unfold adv
        split <;> exact h
    have spec := go_spec t T.ris T.dm (fun i => (es[i]?.map (·.1)).getD 0) (thash P w k) (10 * SetTable.turns t.mask) (K - c) (nth t.mask pr c) (nodummy c pr (by rw [← hpr]; rfl)) (by omega)
      (fun q hq => by rw [shift, wy]; exact hKb _ (by omega)) (by rw [shift, wy, Nat.add_sub_cancel' hc]; exact hK)
    have hashAt : ∀ (i : Nat) p, L[i]? = some p → ((es[i]?.map (·.1)).getD 0) = thash P w p.2 := fun i p hp => by rw [rows_at rows hp]; rfl
    rw [setSearchFrom_succ]
    refine wpAny_bind (wpAny_setState_of ho hd fit ?_)
    dsimp only
    refine wp_if_neg (stands T) ?_
    try refine wpAny_bind (wpAny_pure ?_)
    have probe_is : ∀ r, SetTable.probe.go t (fun i => (es[i]?.map (·.1)).getD 0) (thash P w k) (10 * SetTable.turns t.mask) (nth t.mask pr c) = r →
        t.probe (fun i => (es[i]?.map (·.1)).getD 0) (thash P w k) (stand.getD (t.probeStart (thash P w k))) = r := fun r e => by rw [hst]; exact e
    rcases spec with ⟨q, i, hq, hi, hh, hno, pe⟩ | ⟨hno, pe⟩
    · rw [probe_is _ pe]
      dsimp only
      rw [shift, wy] at hi
      have hil : i < L.length := by
        have h1 : i < t.place.toList.length := (List.getElem?_eq_some_iff.mp hi).1
        rw [Array.length_toList, T.sz, List.length_map] at h1
        exact h1
      obtain ⟨p, hp⟩ : ∃ p, L[i]? = some p := ⟨_, List.getElem?_eq_getElem hil⟩
      have hm : p ∈ L := List.mem_of_getElem? hp
      have rest : wpAny (model P w) A (searchRest a (.ref x) (thash P w k) ad f es t (nth t.mask (nth t.mask pr c) q).j i (nth t.mask (nth t.mask pr c) (q + 1))) Q E s := by
        unfold searchRest
        rw [rows_at rows hp]
        dsimp only
        refine wpAny_bind (wpAny_holding (wpAny_eqBool_tuple hu (tup p hm) hx ?_))
        refine wpAny_bind (wpAny_setState_of ho hd fit ?_)
        dsimp only
        have slot : t.slot (nth t.mask (nth t.mask pr c) q).j = .live i := by
          rw [shift, wy]
          exact slot_live T.ris hi
        by_cases hkk : p.2 = k
        · have mem : k ∈ L.map (·.2) := List.mem_map.mpr ⟨p, hm, hkk⟩
          cases ad with
          | true =>
            refine wp_if_pos (by simp [hkk]) ?_
            exact wpAny_pure (hin mem none (fun z => nomatch z))
          | false =>
            refine wp_if_neg (by simp) ?_
            try refine wpAny_bind (wpAny_pure ?_)
            rw [sameMem]
            dsimp only
            simp only [if_true, slot, rows_at rows hp]
            refine wpAny_bind (wpAny_isSame_ref_self (wpAny_bind (wpAny_pure ?_)))
            simp only [if_true]
            refine wp_if_pos (by simp [hkk]) ?_
            exact wpAny_pure (hin mem (some i) (fun _ z => nomatch z))
        · refine wp_if_neg (by simp [hkk]) ?_
          try refine wpAny_bind (wpAny_pure ?_)
          rw [sameMem]
          dsimp only
          simp only [if_true, slot, rows_at rows hp]
          refine wpAny_bind (wpAny_isSame_ref_self (wpAny_bind (wpAny_pure ?_)))
          simp only [if_true]
          refine wp_if_neg (by simp [hkk]) ?_
          refine seek R tup ad hx hu hf0 hK hKb hin hout f (c + (q + 1)) _ (by rw [hpr]; exact shift (q + 1)) (by omega) (by omega) fun i0 p0 h0 hk0 => ?_
          obtain ⟨c', a1, a2, a3⟩ := hre i0 p0 h0 hk0
          refine ⟨c', ?_, a2, a3⟩
          have z1 : ¬ c' < c + q := fun y => by
            refine hno (c' - c) i0 (by omega) (by rw [shift, wy, Nat.add_sub_cancel' a1]; exact a3) ?_
            exact (hashAt i0 p0 h0).trans (congrArg (thash P w) hk0)
          have z2 : c' ≠ c + q := fun y => by
            have s1 := slot_live T.ris a3
            rw [y, slot_live T.ris hi] at s1
            cases s1
            rw [hp] at h0
            cases h0
            exact hkk hk0
          omega
      by_cases hl : t.led = true
      · refine wp_if_neg (by simp [hl]) ?_
        try refine wpAny_bind (wpAny_pure ?_)
        exact rest
      · refine wp_if_pos (by simp [hl]) ?_
        refine wpAny_bind (seen_tup hx (fun y hy => ?_) ?_)
        · obtain ⟨e, he, rfl⟩ := List.mem_map.mp hy
          have he2 : e ∈ es.toList := by
            have z : e ∈ es ∧ e.1 = thash P w k := by simpa using he
            simpa using z.1
          rw [rows] at he2
          obtain ⟨p2, hp2, rfl⟩ := List.mem_map.mp he2
          exact ⟨p2.2, p2.1, rfl, tup p2 hp2⟩
        · refine wp_if_neg (by decide) ?_
          try refine wpAny_bind (wpAny_pure ?_)
          exact rest
    · rw [probe_is _ pe]
      dsimp only
      rw [shift, wy, Nat.add_sub_cancel' hc]
      refine wpAny_pure (hout fun hm => ?_)
      obtain ⟨p0, h0, hk0⟩ := List.mem_map.mp hm
      obtain ⟨i0, hi0, e0⟩ := List.getElem_of_mem h0
      have h00 : L[i0]? = some p0 := by rw [List.getElem?_eq_getElem hi0, e0]
      obtain ⟨c', a1, a2, a3⟩ := hre i0 p0 h00 hk0
      refine hno (c' - c) i0 (by omega) (by rw [shift, wy, Nat.add_sub_cancel' a1]; exact a3) ?_
      exact (hashAt i0 p0 h00).trans (congrArg (thash P w) hk0)
theorem seek_all (R : SetW0 P w s.heap a L es ep t) (tup : ∀ p ∈ L, IsT P w s.heap p.2 p.1) (ad : Bool) {x : Addr} {k : List Int} (hx : IsT P w s.heap k x) (hu : A.units < cLine) {Q : SetFound → Shared → Prop}
    (hin : k ∈ L.map (·.2) → ∀ oi, (ad = false → oi ≠ none) → Q (.there oi) s)
    (hout : ∀ K, k ∉ L.map (·.2) → way t.mask (thash P w k) K ∉ t.place.toList → (∀ c, c < K → way t.mask (thash P w k) c ∈ t.place.toList) → Q (.free (way t.mask (thash P w k) K) false) s) :
    wpAny (model P w) A (setSearch a (.ref x) (thash P w k) ad) Q E s := by
  obtain ⟨_, rows, T, _, _, room, _⟩ := id R
  obtain ⟨K, a1, a2, a3⟩ := T.free (by rw [List.length_map]; omega) (thash P w k)
  have big : K < 100000 := by
    have z : 10 * SetTable.turns t.mask < 100000 := by
      unfold SetTable.turns
      rcases T.msk with e | e | e | e | e <;> omega
    omega
  unfold setSearch
  refine seek R tup ad hx hu a1 a2 a3 hin (fun z => hout K z a2 a3) 100000 0 none rfl (Nat.zero_le _) (by omega) fun i p hp hk => ?_
  have hil : i < t.place.toList.length := by
    rw [Array.length_toList, T.sz, List.length_map]
    exact (List.getElem?_eq_some_iff.mp hp).1
  obtain ⟨c, hc, e⟩ := T.ahead (h := thash P w k) a2 (by rw [List.getElem?_map, hp, ← hk]; rfl) (List.getElem?_eq_getElem hil)
  exact ⟨c, Nat.zero_le _, hc, by rw [e]; exact List.getElem?_eq_getElem hil⟩
end

/-! ### adding -/
section
variable {P : Program} {w : World} {A : Around} {E : Value → Shared → Prop} {s : Shared} {a : Addr} {L : List (Addr × List Int)} {es : Array (Int × Value)} {ep : Nat} {t : SetTable}
theorem size_w20 : SetTable.sizeAbove (SetTable.grown 5) = 32 := by decide +kernel
theorem size_w76 : SetTable.sizeAbove (SetTable.grown 19) = 128 := by decide +kernel
theorem size_w308 : SetTable.sizeAbove (SetTable.grown 77) = 512 := by decide +kernel
theorem size_w1228 : SetTable.sizeAbove (SetTable.grown 307) = 2048 := by decide +kernel
theorem relay_all {o : Obj} (ho : s.heap.get? a = some o) (hex : o.ExactSet) (hd : o.data = .set es ep t) (rows : es.toList = rowsOf P w L) (T : TabW t (L.map fun p => thash P w p.2)) (pl : t.plain = true)
    (ld : w.params.followText "set-order" = true ∨ t.led = true) (few : L.length ≤ 1200) (hlm : L.length ≤ t.mask) {wanted M : Nat} (hw : SetTable.sizeAbove wanted = M + 1) (hM : MaskW M) (hn : L.length * 5 < M * 3) {Q : Unit → Shared → Prop}
    (hQ : ∀ h' L' es' ep' t', Heap.SameBut a s.heap h' → SetW0 P w h' a L' es' ep' t' → L'.Perm L → Q () { s with heap := h' }) : wpAny (model P w) A (setRelay a wanted) Q E s := by
  have hsz := rows_size rows
  have bigM : M ≤ 2047 := by rcases hM with e | e | e | e | e <;> omega
  obtain ⟨t2, order, e, pm, T2, m2, l2, p2⟩ := relaid_all t (hs := es.map (·.1)) (wanted := wanted) (M := M) (by rw [hw]; rfl) hM (by rw [Array.size_map, hsz]; omega)
  rw [Array.size_map, hsz] at pm
  obtain ⟨L2, r1, r2, r3⟩ := order_rows L es order rows pm
  rw [← r3] at T2
  have hs2 : (order.filterMap (es[·]?)).size = es.size := by rw [rows_size r1, r2.length_eq, hsz]
  rw [setRelay_eq]
  refine wpAny_bind (wpAny_setState_of ho hd (fits_of T rows hlm) ?_)
  dsimp only
  refine wp_if_neg (by rw [hw, sizeLine_eq]; omega) ?_
  try refine wpAny_bind (wpAny_pure ?_)
  rw [e]
  dsimp only
  refine wpAny_bind ?_
  refine wp_if_neg (by rw [hs2]; simp) ?_
  try refine wpAny_bind (wpAny_pure ?_)
  refine wpAny_pure ?_
  dsimp only
  refine wpAny_storeSet_of ho hd ?_ (by rw [hs2, hsz, sizeLine_eq]; omega)
  refine hQ _ L2 (order.filterMap (es[·]?)) (ep + 1) t2 (Heap.SameBut.update ..) ⟨⟨_, store_at ho hd, ⟨hex.1, hex.2.1, hex.2.2⟩, rfl⟩, r1, T2, by rw [p2]; exact pl, by rw [l2]; exact ld, ?_, ?_⟩ r2
  · rw [r2.length_eq, m2]; exact hn
  · rw [r2.length_eq]; exact few
theorem add_all (R : SetW0 P w s.heap a L es ep t) (tup : ∀ p ∈ L, IsT P w s.heap p.2 p.1) {x : Addr} {k : List Int} (hx : IsT P w s.heap k x) (hu : A.units < cLine) (hfew : L.length < 1200) {Q : Bool → Shared → Prop}
    (hQ : ∀ b h' L' es' ep' t', Heap.SameBut a s.heap h' → SetW0 P w h' a L' es' ep' t' → (k ∈ L.map (·.2) → L' = L) → (k ∉ L.map (·.2) → L'.Perm ((x, k) :: L)) → Q b { s with heap := h' }) :
    wpAny (model P w) A (setAddHashed a (.ref x) (thash P w k)) Q E s := by
  obtain ⟨⟨o, ho, hex, hd⟩, rows, T, pl, ld, room, few⟩ := id R
  have fit : t.fits es.size = true := fits_of T rows (by omega)
  have hsl := rows_size rows
  unfold setAddHashed
  refine wpAny_holding ?_
  rw [show (100000 : Nat) = 99999 + 1 from rfl, setAddHashedIn_succ]
  refine wpAny_bind (wpAny_setState_of ho hd fit ?_)
  dsimp only
  refine wp_if_neg (by simp [byScan, Value.scannable]) ?_
  try refine wpAny_bind (wpAny_pure ?_)
  refine wpAny_bind (seek_all R tup true hx hu (fun hm oi _ => ?_) fun K hm hK hb => ?_)
  · dsimp only
    exact wpAny_pure (hQ false s.heap L es ep t (Heap.SameBut.refl a s.heap) R (fun _ => rfl) fun z => absurd hm z)
  · dsimp only
    refine wpAny_bind (wpAny_setState_of ho hd fit ?_)
    dsimp only
    obtain ⟨q1, q2, q3⟩ := T.put hK hb
    have b1 : (t.put (way t.mask (thash P w k) K)).1.plain = true := pl
    have b2 : (t.put (way t.mask (thash P w k) K)).1.mask = t.mask := rfl
    have b3 : (t.put (way t.mask (thash P w k) K)).1.led = t.led := rfl
    have b4 : (t.put (way t.mask (thash P w k) K)).2 = SetTable.below t.place (way t.mask (thash P w k) K) := rfl
    generalize hpt : t.put (way t.mask (thash P w k) K) = pt at q2 q3 b1 b2 b3 b4 ⊢
    obtain ⟨t1, p⟩ := pt
    dsimp only at q2 q3 b1 b2 b3 b4 ⊢
    rw [← b4] at q1 q3
    clear b4
    first
      | (refine wpAny_bind ?_; refine wp_if_pos b1 ?_; refine hashBy_tup hx ?_)
      | refine wp_if_pos b1 (wpAny_bind (hashBy_tup hx ?_))
    simp only [if_true]
    rw [List.length_map] at q1 q2
    have r1 : (SetTable.insertAt es p (thash P w k, Value.ref x)).toList = rowsOf P w (L.take p ++ (x, k) :: L.drop p) := by
      rw [SetTable.toList_insertAt, rows_put, rows]
    have pm := put_perm L p (x, k)
    have hl1 : (L.take p ++ (x, k) :: L.drop p).length = L.length + 1 := pm.length_eq
    have q4 : TabW t1 ((L.take p ++ (x, k) :: L.drop p).map fun p => thash P w p.2) := by
      rw [List.map_append, List.map_cons, List.map_take, List.map_drop]
      exact q3
    have s1 := rows_size r1
    rw [hl1] at s1
    generalize SetTable.insertAt es p (thash P w k, Value.ref x) = es1 at r1 s1 ⊢
    generalize L.take p ++ (x, k) :: L.drop p = L1 at r1 pm hl1 q4
    refine wpAny_bind (wpAny_storeSet_of ho hd ?_ (by rw [s1, sizeLine_eq]; omega))
    have sb : Heap.SameBut a s.heap (s.heap.update a (Obj.putSet es1 t1)) := Heap.SameBut.update ..
    have ho1 := store_at (es' := es1) (t' := t1) ho hd
    generalize s.heap.update a (Obj.putSet es1 t1) = h1 at sb ho1 ⊢
    have ex1 : ({ o with data := .set es1 (ep + 1) t1 } : Obj).ExactSet := ⟨hex.1, hex.2.1, hex.2.2⟩
    have ld1 : w.params.followText "set-order" = true ∨ t1.led = true := by rw [b3]; exact ld
    by_cases hf : t1.tooFull = true
    · first
        | (refine wpAny_bind ?_; refine wp_if_pos (by simp [hf]) ?_)
        | (refine wp_if_pos (by simp [hf]) ?_; refine wpAny_bind ?_)
      have full : (L.length + 1) * 5 ≥ t.mask * 3 := by
        have z := hf
        unfold SetTable.tooFull at z
        rw [decide_eq_true_eq, q2, b2] at z
        exact z
      rw [hsl]
      have go : ∀ M, SetTable.sizeAbove (SetTable.grown (L.length + 1)) = M + 1 → MaskW M → (L.length + 1) * 5 < M * 3 →
          wpAny (model P w) A (setRelay a (SetTable.grown (L.length + 1))) (fun _ s' => wpAny (model P w) A (pure true) Q E s') E { s with heap := h1 } := fun M e1 e2 e3 => by
        refine relay_all (s := { s with heap := h1 }) ho1 ex1 rfl r1 q4 b1 ld1 (by rw [hl1]; exact hfew) (by rw [hl1, b2]; omega) e1 e2 (by rw [hl1]; exact e3) fun h2 L2 es2 ep2 t2 sb2 R2 pm2 => ?_
        exact wpAny_pure (hQ true h2 L2 es2 ep2 t2 (sb.trans sb2) R2 (fun z => absurd z hm) fun _ => pm2.trans pm)
      rcases T.msk with e | e | e | e | e
      · have e2 : L.length + 1 = 5 := by omega
        exact go 31 (by rw [e2, size_w20]) (.inr (.inl rfl)) (by omega)
      · have e2 : L.length + 1 = 19 := by omega
        exact go 127 (by rw [e2, size_w76]) (.inr (.inr (.inl rfl))) (by omega)
      · have e2 : L.length + 1 = 77 := by omega
        exact go 511 (by rw [e2, size_w308]) (.inr (.inr (.inr (.inl rfl)))) (by omega)
      · have e2 : L.length + 1 = 307 := by omega
        exact go 2047 (by rw [e2, size_w1228]) (.inr (.inr (.inr (.inr rfl)))) (by omega)
      · exfalso
        omega
    · first
        | refine wp_if_neg (by simp [hf]) ?_
        | (refine wpAny_bind ?_; refine wp_if_neg (by simp [hf]) ?_; refine wpAny_pure ?_)
      refine wpAny_pure (hQ true h1 L1 es1 (ep + 1) t1 sb ⟨⟨_, ho1, ex1, rfl⟩, r1, q4, b1, ld1, ?_, by rw [hl1]; exact hfew⟩ (fun z => absurd z hm) fun _ => pm)
      have z := hf
      unfold SetTable.tooFull at z
      rw [decide_eq_true_eq, q2, b2] at z
      rw [hl1, b2]
      omega
end
end Vf

/-! Sets of tuples of ints over the layer: set(), add, in, not in. -/
namespace Vf
open PySem PySem.Spec PyProof.Rows L2
def SetWO (P : Program) (w : World) (a : Addr) (L : List (Addr × List Int)) : HO := .ext fun h => ∃ es ep t, SetW0 P w h a L es ep t
theorem setW_at {P : Program} {w : World} {h h' : Heap} {a : Addr} {L : List (Addr × List Int)} (R : ∃ es ep t, SetW0 P w h a L es ep t) (k : ∀ o, h.get? a = some o → h'.get? a = some o) : ∃ es ep t, SetW0 P w h' a L es ep t := by
  obtain ⟨es, ep, t, ⟨o, ho, r⟩, z⟩ := R
  exact ⟨es, ep, t, ⟨o, k o ho, r⟩, z⟩
theorem setWO_new {w : World} {P : Program} {H : Hp} {h : Heap} {a : Addr} {L : List (Addr × List Int)} (R : ∃ es ep t, SetW0 P w h a L es ep t) : ObjOk P w H h a (SetWO P w a L) := by
  refine ⟨R, ?_, fun h1 h2 p k => setW_at p k⟩
  obtain ⟨es, ep, t, ⟨o, ho, r⟩, z⟩ := R
  exact ⟨o, ho⟩
section
variable {X : Cx}
theorem setWO_get {pins : List (Addr × Obj)} {σ : L2.St} {H : Hp} {s : Shared} {a : Addr} {L : List (Addr × List Int)} (I : Inv X pins σ H s) (ha : H a = some (SetWO X.prog X.w a L)) : ∃ es ep t, SetW0 X.prog X.w s.heap a L es ep t := (I.hok a _ ha).1
/-- set() -/
def rSet0W (P : Program) (w : World) : List V → Hp → VK → Prop := fun xs H Q => xs = [] ∧ ∀ p, H p = none → Q (.ref p) (upd H p (SetWO P w p []))
theorem cr_set0W : CallR X (.type "set") (rSet0W X.prog X.w) := by
  intro pins s σ H xs us Q I r h
  obtain ⟨rfl, q⟩ := h
  cases r
  refine setR_new fun new => ?_
  refine ⟨.ref s.heap.objs.size, upd H s.heap.objs.size (SetWO X.prog X.w s.heap.objs.size []), I.laid (t' := s.toks) (fun b u e => Heap.get?_push_of_some _ e) (Nat.le_refl _) (setWO_new ?_), rfl, q _ (I.hok.fresh (Nat.le_refl _))⟩
  refine ⟨#[], 0, .fresh 0 0 (!X.w.params.followText "set-order"), ⟨_, Heap.get?_push_size _ rfl, ⟨rfl, rfl, rfl⟩, rfl⟩, rfl, ⟨List.Pairwise.nil, rfl, rfl, .inl rfl, (fun x hx => by cases hx), (fun i h j h1 _ => by simp at h1)⟩, rfl, ?_, (by show 0 * 5 < 7 * 3; decide), (by show 0 ≤ 1200; decide)⟩
  cases X.w.params.followText "set-order"
  · exact .inr rfl
  · exact .inl rfl
/-- found.add(t) -/
def rSAddW (K : PySem.W.Frag) (P : Program) (w : World) : V → List V → Hp → VK → Prop := fun x xs H Q => ∃ (a b : Addr) (k : List Int) (L : List (Addr × List Int)), x = V.ref a ∧ xs = [V.ref b] ∧
  H a = some (SetWO P w a L) ∧ SqT K H b (k.map V.int) ∧ (∀ p ∈ L, SqT K H p.1 (p.2.map V.int)) ∧ L.length < 1200 ∧
  ∀ L', (k ∈ L.map (·.2) → L' = L) → (k ∉ L.map (·.2) → L'.Perm ((b, k) :: L)) → Q .non (upd H a (SetWO P w a L'))
theorem mt_saddW (hu : X.A.units + 10 < cLine) : MtR X "set.add" (rSAddW X.K X.prog X.w) := by
  intro pins s σ H x xs v us Q I rx rxs h
  obtain ⟨a, b, k, L, rfl, rfl, ha, hb, hL, few, q⟩ := h
  cases rx
  cases rxs with
  | cons ry rt =>
    cases rt
    cases (show _ = Value.ref b from ry)
    obtain ⟨es, ep, t, R⟩ := setWO_get I ha
    obtain ⟨⟨o, ho, hex, hd⟩, _⟩ := id R
    have ty : s.TypeIs (.ref a) "set" := ⟨o, ho, hex.1⟩
    refine wpAny_call_entry F.slot_set_add ty F.entry_set_add ?_ (F.args_set_add_2 _ _)
    unfold Builtin.«set.add» Builtin.Frozenset.oneOther
    simp only [List.isEmpty_nil, bind_assoc]
    unfold Builtin.Frozenset.addrOf setAdd
    refine wpAny_bind (wpAny_pure ?_)
    try dsimp only
    refine wpAny_bind (wpAny_pure ?_)
    try dsimp only
    refine wpAny_bind ?_
    refine wpAny_holding ?_
    refine wpAny_bind (wpAny_pyHash_tuple (by show X.A.units + 1 < cLine; omega) (I.isT hb) ?_)
    refine add_all (s := { s with toks := s.toks + (k.length + 1) }) R (fun p hp => I.isT (hL p hp)) (I.isT hb) (by show X.A.units + 1 < cLine; omega) few fun bb h' L' es' ep' t' sb R' z1 z2 => ?_
    show wpAny _ _ (ret Value.none) _ _ _
    refine wpAny_pure ⟨_, rfl, ?_⟩
    have he : ∃ u, h'.get? a = some u := by
      obtain ⟨⟨o', ho', _⟩, _⟩ := R'
      exact ⟨o', ho'⟩
    exact ⟨.non, _, I.write (e := a) (t' := s.toks + (k.length + 1)) (by rw [ha]; trivial) (.inl rfl) (fun c u hc hu => (sb.2 c hc).trans hu) he (setWO_new ⟨es', ep', t', R'⟩), rfl, q L' z1 z2⟩
def tSAddW (K : PySem.W.Frag) (P : Program) (w : World) (to : TE) (t : TA) : TE := fun σ H Q => to σ H fun x H1 => (∃ a L, x = V.ref a ∧ H1 a = some (SetWO P w a L)) ∧ t σ H1 fun xs H2 => rSAddW K P w x xs H2 Q
variable {o e : Expr} {es : List Expr} {to : TE} {t : TA} {apos cpos : Pos}
theorem pe_saddW (hu : X.A.units + 10 < cLine) (ho : PE X o to) (ha : PA X (e :: es) t)
    (hbase : attributeBase o "add" X.env (eval o X.env) = eval o X.env := by rfl)
    (hfew : ((backTo cpos (starEach (e :: es) X.env)).all (fun x => !x.1) && (backToKw cpos (keywordEach [] X.env)).all (fun x => x.1.isSome)
      && decide ((e :: es).length + ([] : List Keyword).length + (if ([] : List Keyword).isEmpty then 0 else 1) < 30)) = true := by rfl)
    (hline : (apos.endLine == cpos.line) = true := by rfl) (hs : starEach (e :: es) X.env = (false, eval e X.env) :: starEach es X.env := by rfl)
    (hplain : (backTo cpos (starEach es X.env)).any (·.1) = false := by rfl) :
    PE X (.Call (.Attribute o "add" apos) (e :: es) [] cpos) (tSAddW X.K X.prog X.w to t) := by
  refine ⟨fun pins s σ H Q I h => wpAny_Call_method_late hbase hfew hline rfl (thn (ho.run pins s σ H _ I h) fun v s1 ⟨x, H1, I1, r1, ty, q1⟩ => ?_)⟩
  obtain ⟨a, L, rfl, hka⟩ := ty
  obtain ⟨es', ep, tb, R⟩ := setWO_get I1 hka
  obtain ⟨⟨oo, hoo, hex, hd⟩, _⟩ := id R
  cases r1
  refine ⟨"set", "set.add", F.plainAttrs_set, F.slot_set_add, F.type_set_add, ⟨oo, hoo, hex.1⟩, ?_, ?_⟩
  · intro c e
    injection e with e
    subst e
    exact ⟨oo, hoo, hex.2.1⟩
  have hA := ha.run cpos pins s1 σ H1 _ I1 q1
  rw [hs] at hA ⊢
  refine Calls.callWith_builtin (by
    show (false || (backTo cpos (starEach es X.env)).any (·.1)) = false
    rw [hplain]
    rfl) (Calls.evalArgs_plain (thn hA ?_))
  exact fun us s2 ⟨vs, H2, I2, r2, q2⟩ => mt_saddW hu pins s2 σ H2 (.ref a) vs (.ref a) us Q I2 rfl r2 q2
/-- t in found -/
def rInW (K : PySem.W.Frag) (P : Program) (w : World) : R2 := fun x y H Q => ∃ (a b : Addr) (k : List Int) (L : List (Addr × List Int)), x = V.ref b ∧ y = V.ref a ∧
  H a = some (SetWO P w a L) ∧ SqT K H b (k.map V.int) ∧ (∀ p ∈ L, SqT K H p.1 (p.2.map V.int)) ∧ Q (.bl (decide (k ∈ L.map (·.2)))) H
theorem op_inW (hu : X.A.units + 10 < cLine) : OpR X (compareOp .In) (rInW X.K X.prog X.w) := by
  intro pins s σ H x y v u Q I rx ry h
  obtain ⟨a, b, k, L, rfl, rfl, ha, hb, hL, q⟩ := h
  cases rx
  cases ry
  obtain ⟨es, ep, t, R⟩ := setWO_get I ha
  obtain ⟨⟨o, ho, hex, hd⟩, rows, T, pl, ld, room, few⟩ := id R
  have ty : s.TypeIs (.ref a) "set" := ⟨o, ho, hex.1⟩
  show wpAny _ _ (do return Value.bool (← contains (.ref a) (.ref b))) _ _ s
  refine wpAny_bind ?_
  unfold contains
  try with_reducible refine wpAny_holding ?_
  refine wpAny_bind (wpAny_specialOf ty F.slot_set_contains.lookup ?_)
  show wpAny _ _ (if (some (Value.builtin "set.__contains__") == some Value.none) = true then _ else _) _ _ s
  rw [if_neg (by rw [beq_builtin_none]; exact Bool.false_ne_true)]
  refine wpAny_bind (wpAny_callSpecialUnlessNone?_slot (name := Str.ofString "__contains__") ty F.slot_set_contains
    (wpAny_call_entry F.slot_set_contains ty entry_set_contains ?_ (F.args_set_contains_2 _ _)))
  unfold Builtin.«frozenset.__contains__» Builtin.Frozenset.oneOther
  simp only [List.isEmpty_nil, bind_assoc]
  unfold Builtin.Frozenset.addrOf Builtin.Frozenset.withSetAsKey setContains
  refine wpAny_bind (wpAny_pure ?_)
  try dsimp only
  refine wpAny_bind (wpAny_pure ?_)
  try dsimp only
  refine wpAny_bind (wpAny_tryCatch ?_)
  refine wpAny_holding ?_
  refine wpAny_bind (wpAny_pyHash_tuple (by show X.A.units + 1 < cLine; omega) (I.isT hb) ?_)
  have tup : ∀ p ∈ L, IsT X.prog X.w s.heap p.2 p.1 := fun p hp => I.isT (hL p hp)
  have hx : IsT X.prog X.w s.heap k b := I.isT hb
  have fit : ∀ n : Nat, t.fits es.size = true := fun _ => fits_of T rows (by omega)
  refine wpAny_bind ?_
  unfold setFind
  rw [show (100000 : Nat) = 99999 + 1 from rfl]
  unfold setFindIn
  refine wpAny_bind (wpAny_setState_of (s := { s with toks := s.toks + (k.length + 1) }) ho hd (fit 0) ?_)
  dsimp only
  refine wp_if_neg (by simp [byScan, Value.scannable]) ?_
  have fin : ∀ oi : Option Nat, oi.isSome = decide (k ∈ L.map (·.2)) → ∃ v, Fin.done (Flow.ret (Value.bool oi.isSome)) = Fin.done (Flow.ret v) ∧
      wpAny (model X.prog X.w) X.A (truthy v) (fun c s' => wpAny (model X.prog X.w) X.A (pure (Value.bool c)) (EP X pins σ Q) X.xe s') X.xe { s with toks := s.toks + (k.length + 1) } := fun oi e =>
    ⟨_, rfl, wpAny_truthy_bool (wpAny_pure ⟨.bl _, H, I.tok _, rfl, by rw [e]; exact q⟩)⟩
  refine wpAny_bind (seek_all (s := { s with toks := s.toks + (k.length + 1) }) R tup false hx (by show X.A.units + 1 < cLine; omega) (fun hm oi hoi => ?_) fun K hm _ _ => ?_)
  · dsimp only
    refine wpAny_pure (wpAny_pure ?_)
    show wpAny _ _ (ret (Value.bool oi.isSome)) _ _ _
    refine wpAny_pure (fin oi ?_)
    have ne := hoi rfl
    cases oi with
    | none => exact absurd rfl ne
    | some z => exact (decide_eq_true hm).symm
  · dsimp only
    refine wpAny_pure (wpAny_pure ?_)
    show wpAny _ _ (ret (Value.bool (none : Option Nat).isSome)) _ _ _
    exact wpAny_pure (fin none (decide_eq_false hm).symm)
end
end Vf

/-! Loops and small readings. -/
namespace Vf
open PySem PySem.Spec PyProof.Rows L2 Evl
theorem hu10 {A : Around} {k : Nat} (hr : Room k A) : A.units + 10 < cLine := Nat.lt_of_le_of_lt (Nat.add_le_add_left (by decide : 10 ≤ 64) _) hr.units
/-- for i, x in enumerate(xs) -/
theorem for_enumL {K : PySem.W.Frag} {a : Addr} {xs : List V} {g : TG} {tb : TS} {D : Ends} {σ : L2.St} {H : Hp} (Pv : Nat → L2.St → Hp → Prop) (h0 : Pv 0 σ H) (hl : ∀ i σ H, Pv i σ H → SqL K H a xs)
    (hs : ∀ (i : Nat) (x : V) (T : Addr) (σ : L2.St) (H : Hp), xs[i]? = some x → Pv i σ H → H T = none → g (.ref T) σ (upd H T (.tup [.int (i : Nat), x])) fun σ2 H2 => tb { D with nx := Pv (i + 1), ct := Pv (i + 1), bk := D.nx } σ2 H2)
    (hd : ∀ σ H, Pv xs.length σ H → D.nx σ H) :
    ∃ W : Nat → Nat → L2.St → Hp → Prop, (∃ m, W 0 m σ H) ∧ ∀ i m σ H, W i m σ H →
      ((Ite K a).stop i H ∧ D.nx σ H) ∨ ((Ite K a).go i H ∧ ∃ N : L2.St → Hp → Prop, (∀ σ' H', N σ' H' → ∃ m', m' < m ∧ W (i + 1) m' σ' H') ∧
        ∀ v H', (Ite K a).yld i H v H' → g v σ H' fun σ2 H2 => tb { D with nx := N, ct := N, bk := D.nx } σ2 H2) := by
  refine ⟨fun i m σ H => i + m = xs.length ∧ Pv i σ H, ⟨xs.length, Nat.zero_add _, h0⟩, ?_⟩
  rintro i m σ H ⟨him, p⟩
  have q := hl i σ H p
  rcases Nat.lt_or_ge i xs.length with hi | hi
  · refine .inr ⟨⟨xs, xs[i], q, List.getElem?_eq_getElem hi⟩, Pv (i + 1), fun σ' H' p' => ⟨m - 1, by omega, by omega, p'⟩, fun v H' y => ?_⟩
    obtain ⟨T, x, rfl, nT, rfl, f⟩ := y
    exact hs i x T σ H (f xs q) p nT
  · refine .inl ⟨⟨xs, q, hi⟩, hd σ H ?_⟩
    have e : i = xs.length := by omega
    rwa [← e]
theorem Ex.set {H H' : Hp} {p : Addr} {o : HO} (e : Ex H H') (h : H p = none) : Ex H (upd H' p o) := Ex.mut e h
theorem take_snoc {α : Type} {l : List α} {i : Nat} {x : α} (h : l[i]? = some x) : l.take (i + 1) = l.take i ++ [x] := by
  rw [List.take_add_one, h]
  rfl
theorem map_at {α : Type} {ns : List α} {f : α → V} {i : Nat} {x : V} (h : (ns.map f)[i]? = some x) : ∃ n, ns[i]? = some n ∧ x = f n := by
  rw [List.getElem?_map, Option.map_eq_some_iff] at h
  obtain ⟨n, h1, h2⟩ := h
  exact ⟨n, h1, h2.symm⟩
theorem nodup_at {α : Type} {l : List α} (nd : l.Nodup) {i : Nat} {x : α} (h : l[i]? = some x) : x ∉ l.take i := by
  intro hm
  obtain ⟨j, hj, e⟩ := List.getElem_of_mem hm
  obtain ⟨hi, e2⟩ := List.getElem?_eq_some_iff.mp h
  have hj2 : j < i := by
    rw [List.length_take] at hj
    omega
  rw [List.getElem_take] at e
  exact absurd ((List.getElem_inj nd).mp (e.trans e2.symm)) (Nat.ne_of_lt hj2)
/-- a tuple stays while another object changes -/
theorem sqT_upd {K : PySem.W.Frag} {H : Hp} {a p : Addr} {xs : List V} {o o' : HO} (h : SqT K H a xs) (hp : H p = some o) (no : ∀ ys, o ≠ .tup ys) (nf : ∀ ob u, o ≠ .frz ob u) : SqT K (upd H p o') a xs := by
  rcases h with (h | ⟨ob, h⟩) | h
  · have ne : a ≠ p := fun e => by
      rw [e, hp] at h
      exact no _ (Option.some.inj h)
    exact .inl (.inl (by rw [upd_ne ne]; exact h))
  · have ne : a ≠ p := fun e => by
      rw [e, hp] at h
      exact nf _ _ (Option.some.inj h)
    exact .inl (.inr ⟨ob, by rw [upd_ne ne]; exact h⟩)
  · exact .inr h
/-- a list stays while another object, that is no list, changes; or a new one -/
theorem sqL_upd {K : PySem.W.Frag} {H : Hp} {a p : Addr} {xs : List V} {o o' : HO} (h : SqL K H a xs) (hp : H p = some o) (no : ∀ ys, o ≠ .lst ys) (nf : ∀ ob u, o ≠ .frz ob u) : SqL K (upd H p o') a xs := by
  rcases h with (h | ⟨ob, h⟩) | h
  · have ne : a ≠ p := fun e => by
      rw [e, hp] at h
      exact no _ (Option.some.inj h)
    exact .inl (.inl (by rw [upd_ne ne]; exact h))
  · have ne : a ≠ p := fun e => by
      rw [e, hp] at h
      exact nf _ _ (Option.some.inj h)
    exact .inl (.inr ⟨ob, by rw [upd_ne ne]; exact h⟩)
  · exact .inr h
end Vf

/-! The end of a law's row whose defs want that no guard stands. -/
namespace Vf
open PySem PySem.Spec PyProof.Rows L2
theorem law_runs {P : Program} {w : World} {K : PySem.W.Frag} {mg mb : Str → Option Value} {k : Nat} {fa a : Addr} {fd : FuncData} {x : Str} {sp : Sp} {s₁ : Shared} {vs : List Value} {ns : List Int}
    (KX : K.In s₁.heap) (hns : s₁.heap.Ns mainGlobals mg) (hb : s₁.heap.Ns builtinsNs mb) (hbb : ∀ x : Str, x ≠ "__name__" → mb x = bootBuiltins x) (hlim : s₁.heap.NoLimit) (hg : s₁.gens = #[])
    (ha : s₁.heap.get? a = some { cls := .type "list", data := .seq vs.toArray }) (hi : IntsAre vs ns) (hl : ns.length ≤ sizeLine) (hr : Room k callerA)
    (F : ∀ base : Heap, K.In base → base.Ns mainGlobals mg → FnG P w K mg base CX0 k fa fd [x] sp) (hbind : ∀ (s : Shared) (u : Value), BindsTo s fd ⟨[u], []⟩ [(x, u)])
    (hsp : ∀ H : Hp, Only H → SqL K H a (ns.map V.int) → sp [.ref a] H (fun v _ => v = .bl true) fun _ _ _ => False) :
    codeAny (model P w) callerA (.call (.ref fa) ⟨[.ref a], []⟩) (fun r s' => r = .ok (.ret (.bool true)) ∧ OldK s₁.heap s'.heap ∧ s'.os = s₁.os ∧ AllBare s'.gens) s₁ := by
  let ob : Obj := { cls := .type "list", data := .seq vs.toArray }
  have main : ∀ H : Hp, (∀ b, H b = none ∨ (b = a ∧ K.lookup a = none ∧ H b = some (.frz ob (.lst (ns.map V.int))))) → SqL K H a (ns.map V.int) →
      codeAny (model P w) callerA (.call (.ref fa) ⟨[.ref a], []⟩) (fun r s' => r = .ok (.ret (.bool true)) ∧ OldK s₁.heap s'.heap ∧ s'.os = s₁.os ∧ AllBare s'.gens) s₁ := by
    intro H hH hS
    have only : Only H := fun b => (hH b).elim .inl fun z => .inr ⟨_, _, z.2.2⟩
    have hok : HOk P w H s₁.heap := by
      intro b o e
      rcases hH b with z | ⟨rfl, _, z⟩
      · rw [z] at e; cases e
      · rw [z] at e
        cases e
        exact ⟨ha, by rw [List.length_map]; exact hl, vs, _, vals_ints hi, ha⟩
    have free : ∀ {b : Addr} {o : Obj}, s₁.heap.get? b = some o → (∀ it n, o.data ≠ .seq it n) → H b = none := by
      intro b o e d
      rcases hH b with z | ⟨rfl, _, _⟩
      · exact z
      · rw [ha] at e
        cases e
        exact absurd rfl (d _ _)
    have ns_at : ∀ {b : Addr} {m : Str → Option Value}, s₁.heap.Ns b m → (hidT s₁.heap H).Ns b m := by
      rintro b m ⟨o, es, ep, e, d, r⟩
      exact ⟨o, es, ep, hidT_get e (free e fun it n z => by rw [d] at z; cases z), d, r⟩
    have Kb : K.In (hidT s₁.heap H) := by
      intro b o e
      refine hidT_get (KX b o e) ?_
      rcases hH b with z | ⟨rfl, z, _⟩
      · exact z
      · rw [z] at e; cases e
    obtain ⟨mc, c1, c2⟩ := hlim
    have hM : Mod K mg (hidT s₁.heap H) := ⟨Kb, ns_at hns, ⟨mb, ns_at hb, hbb⟩, ⟨mc, ns_at c1, c2⟩⟩
    have none0 : ∀ b ∈ frs [], H b = none := fun b z => nomatch (show b ∈ ([] : List Addr) from z)
    have e0 : Env0 P w K mg (hidT s₁.heap H) callerA [] s₁ H := ⟨rfl, hM, fun b o e => of_hidT e, Nat.le_of_eq (hidT_size _ _), trivial, none0, hok, .of_eq hg⟩
    refine codeAny_mono ((F _ Kb (ns_at hns)).runG callerA [] s₁ H ⟨[.ref a], []⟩ [.ref a] [.ref a] _ _ rfl hr e0 (hbind s₁ (.ref a)) (.cons rfl .nil) (hsp H only hS)) ?_
    intro r s' h
    cases r with
    | error e => exact False.elim h
    | ok fl =>
      cases fl with
      | next => exact False.elim h
      | brk => exact False.elim h
      | cont => exact False.elim h
      | ret u =>
        obtain ⟨v, H', os, bare, un, hok', rv, rfl⟩ := h
        cases (show u = Value.bool true from rv)
        refine ⟨rfl, OldK.of_keep ?_, os, bare⟩
        intro b o e
        rcases hH b with z | ⟨rfl, _, z⟩
        · exact un.keep b o e z (fun y => nomatch (show b ∈ ([] : List Addr) from y)) (fun y => nomatch y)
        · obtain ⟨e2, _⟩ := hok' _ _ (un.frzs _ _ _ z)
          rw [ha] at e
          cases e
          exact e2
  cases hk : K.lookup a with
  | some o =>
    have e := KX a o hk
    rw [ha] at e
    cases e
    refine main (fun _ => none) (fun _ => .inl rfl) (.inr ⟨ob, vs.toArray, _, hk, rfl, rfl, rfl, ?_, by simpa using vals_ints hi⟩)
    rw [List.size_toArray, hi.length]
    exact hl
  | none =>
    refine main (fun b => if b = a then some (.frz ob (.lst (ns.map V.int))) else none) (fun b => ?_) (.inl (.inr ⟨ob, if_pos rfl⟩))
    by_cases c : b = a
    · exact .inr ⟨c, hk, if_pos c⟩
    · exact .inl (if_neg c)
/-- the goal that k_head leaves -/
theorem walkG_of {l : PySem.W.OpenLaw} {n k : Nat} {q : Program} {loose : List Str} {XP : (Str → Option Value) → Heap → Prop} {YP : World → Heap → Prop} {d : DefRec} {K : Params → PySem.W.Frag} {sp : PySem.W.Frag → Sp} {x : Str}
    (hn : l.most = some n) (hn2 : n ≤ sizeLine) (hdf : d.params.defaults = []) (hr : Room k callerA) (hY : ∀ (w : World) (h : Heap), YP w h → (K w.params).In h)
    (F : ∀ (w : World) (mg : Str → Option Value) (fa : Addr) (h : Heap), (K w.params).In h → h.Ns mainGlobals mg → mg d.name = some (.ref fa) →
      ∃ fd : FuncData, (∀ (s : Shared) (u : Value), BindsTo s fd ⟨[u], []⟩ [(x, u)]) ∧
        ∀ base : Heap, (K w.params).In base → base.Ns mainGlobals mg → FnG l.prog w (K w.params) mg base CX0 k fa fd [x] (sp (K w.params)))
    (hsp : ∀ (K : PySem.W.Frag) (H : Hp) (a : Addr) (ns : List Int), ns.length ≤ n → Only H → SqL K H a (ns.map V.int) → sp K [.ref a] H (fun v _ => v = .bl true) fun _ _ _ => False) :
    PySem.W.WalkO q loose XP YP l.row.toRowW d [] (fun f vs => PySem.call f vs) := by
  refine Att.attach_call hn hdf fun w s₀ s₁ mg mb fa o pm cd doc a vs ns G Y ho hd hcd hmg hobj hints hlen hg => ?_
  obtain ⟨fd, hb, hF⟩ := F w mg fa _ (hY w _ Y) G.T.g hmg
  exact law_runs (hY w _ Y) G.T.g G.T.b G.T.builtins G.T.nolimit hg hobj hints (Nat.le_trans hlen hn2) hr hF hb (fun H hO hS => hsp _ H a ns hlen hO hS)
end Vf

/-! Comprehensions over ranges; a new list of new lists. -/
namespace Vf
open PySem PySem.Spec PyProof.Rows L2 Evl
section
variable {K : PySem.W.Frag} {σ : L2.St} {H H' : Hp} {ta : TA} {te : TE} {t : TT}
theorem el_lcR2 {j : Nat} {vs : List Nat} {lo n : Int} (f : Nat → Bool) (v : Nat → V) (h : EvA ta σ H [.int lo, .int n]) (hn : -40000 ≤ lo ∧ lo ≤ 40000 ∧ -40000 ≤ n ∧ n - lo ≤ 40000)
    (hw : ∀ x, wipe ((wipe σ vs).set j (some x)) vs = wipe σ vs) (ht : ∀ (i : Nat) H1, Ex H H1 → lo + (i : Int) < n → EvT t ((wipe σ vs).set j (some (.int (lo + (i : Int))))) H1 (f i))
    (he : ∀ (i : Nat) H1, Ex H H1 → lo + (i : Int) < n → f i = true → Ev te ((wipe σ vs).set j (some (.int (lo + (i : Int))))) H1 (v i)) :
    EvL (tLc (iRng2 ta) (gName j) t te vs) σ H (given (n - lo).toNat f v) := by
  intro H0 e Q q
  refine h H0 e _ fun H1 e1 => ⟨lo, n, rfl, by omega, fun Dl hD => ?_⟩
  refine lc_range (lo := lo) (n := (n - lo).toNat) (Cw H1 f v Dl) ⟨hD, Ex.new hD, upd_same⟩ (fun i H' hi p => ⟨hw _, ?_⟩) fun H' p => q Dl H' (fresh_back e1 p.1) (e1.trans p.2.1) p.2.2
  exact cw_turn p (by omega) (ht i H1 (e.trans e1) (by omega)) fun hf => he i H1 (e.trans e1) (by omega) hf

/-- a new list of new lists, seen from H -/
def LLAt (H H2 : Hp) (D : Addr) (ls : List (List V)) : Prop :=
  ∃ ps : List Addr, H2 D = some (.lst (ps.map V.ref)) ∧ ps.length = ls.length ∧ D ∉ ps ∧ ∀ (i : Nat) (p : Addr) (l : List V), ps[i]? = some p → ls[i]? = some l → H p = none ∧ H2 p = some (.lst l)
def EvLL (te : TE) (σ : L2.St) (H : Hp) (ls : List (List V)) : Prop := ∀ H1, Ex H H1 → ∀ Q : VK, (∀ D H2, H1 D = none → Ex H1 H2 → LLAt H1 H2 D ls → Q (.ref D) H2) → te σ H1 Q
def RetLL (ls : List (List V)) (H : Hp) (Q : VK) : Prop := ∀ D H2, H D = none → Ex H H2 → LLAt H H2 D ls → Q (.ref D) H2
theorem LLAt.back {H H1 H2 : Hp} {D : Addr} {ls : List (List V)} (e : Ex H H1) (h : LLAt H1 H2 D ls) : LLAt H H2 D ls := by
  obtain ⟨ps, a, b, c, d⟩ := h
  exact ⟨ps, a, b, c, fun i p l x y => ⟨fresh_back e (d i p l x y).1, (d i p l x y).2⟩⟩
theorem LLAt.on {H H2 H3 : Hp} {D : Addr} {ls : List (List V)} (h : LLAt H H2 D ls) (e : Ex H2 H3) : LLAt H H3 D ls := by
  obtain ⟨ps, a, b, c, d⟩ := h
  exact ⟨ps, e _ _ a, b, c, fun i p l x y => ⟨(d i p l x y).1, e _ _ (d i p l x y).2⟩⟩
theorem RetLL.go {ls : List (List V)} {Q : VK} (k : RetLL ls H Q) (e : Ex H H') {D : Addr} {H2 : Hp} (hD : H' D = none) (e2 : Ex H' H2) (h : LLAt H' H2 D ls) : Q (.ref D) H2 :=
  k D H2 (fresh_back e hD) (e.trans e2) (h.back e)
/-- the rows so far -/
def Rw (H : Hp) (f : Nat → Bool) (L : Nat → List V) (Dl : Addr) (i : Nat) (H' : Hp) : Prop := H Dl = none ∧ Ex H H' ∧ LLAt H H' Dl (((List.range i).filter f).map L)
theorem rw_turn {H H' : Hp} {f : Nat → Bool} {L : Nat → List V} {Dl : Addr} {i : Nat} {σ2 : L2.St} (p : Rw H f L Dl i H') (hi : i < 50000) (ht : EvT t σ2 H (f i)) (he : f i = true → EvL te σ2 H (L i)) :
    t σ2 H' fun b H3 => if b = true then te σ2 H3 fun y H4 => ∃ acc, H4 Dl = some (.lst acc) ∧ acc.length < sizeLine ∧ Rw H f L Dl (i + 1) (upd H4 Dl (.lst (acc ++ [y]))) else Rw H f L Dl (i + 1) H3 := by
  obtain ⟨p1, p2, p3⟩ := p
  refine ht H' p2 _ fun H3 e3 => ?_
  cases hf : f i with
  | true =>
    show te σ2 H3 fun y H4 => ∃ acc, H4 Dl = some (.lst acc) ∧ acc.length < sizeLine ∧ Rw H f L Dl (i + 1) (upd H4 Dl (.lst (acc ++ [y])))
    refine he hf H3 (p2.trans e3) _ fun q H4 nq e4 hq => ?_
    obtain ⟨ps, a, b, c, d⟩ := (p3.on e3).on e4
    have len : ps.length ≤ i := by
      rw [b, List.length_map]
      have z := List.length_filter_le f (List.range i)
      rwa [List.length_range] at z
    have neD : q ≠ Dl := fun z => by
      have a3 := (p3.on e3)
      obtain ⟨_, a3, _⟩ := a3
      rw [← z, nq] at a3
      cases a3
    refine ⟨ps.map V.ref, a, sz_lt (by rw [List.length_map]; omega), p1, Ex.mut ((p2.trans e3).trans e4) p1, ps ++ [q], ?_, ?_, ?_, ?_⟩
    · rw [upd_same, List.map_append]
      rfl
    · rw [List.range_succ, List.filter_append, List.filter_cons, if_pos (by rw [hf])]
      simp [b]
    · intro z
      rcases List.mem_append.mp z with z | z
      · exact c z
      · exact neD (List.mem_singleton.mp z).symm
    · intro k pp l hk hl
      rw [List.range_succ, List.filter_append, List.filter_cons, if_pos (by rw [hf])] at hl
      simp only [List.filter_nil, List.map_append, List.map_cons, List.map_nil] at hl
      by_cases hk2 : k < ps.length
      · rw [List.getElem?_append_left hk2] at hk
        rw [List.getElem?_append_left (by rw [← b]; exact hk2)] at hl
        obtain ⟨d1, d2⟩ := d k pp l hk hl
        exact ⟨d1, by rw [upd_ne (show pp ≠ Dl from fun z => c (by rw [← z]; exact List.mem_of_getElem? hk))]; exact d2⟩
      · have ek : k = ps.length := by
          have z := (List.getElem?_eq_some_iff.mp hk).1
          rw [List.length_append, List.length_singleton] at z
          omega
        rw [ek, List.getElem?_append_right (Nat.le_refl _), Nat.sub_self] at hk
        rw [ek, b, List.getElem?_append_right (Nat.le_refl _), Nat.sub_self] at hl
        cases hk
        cases hl
        exact ⟨fresh_back (p2.trans e3) nq, by rw [upd_ne neD]; exact hq⟩
  | false =>
    show Rw H f L Dl (i + 1) H3
    refine ⟨p1, p2.trans e3, ?_⟩
    rw [List.range_succ, List.filter_append, List.filter_cons, if_neg (by rw [hf]; decide)]
    simpa using p3.on e3
theorem ell_lcR2 {j : Nat} {vs : List Nat} {lo n : Int} (f : Nat → Bool) (L : Nat → List V) (h : EvA ta σ H [.int lo, .int n]) (hn : -40000 ≤ lo ∧ lo ≤ 40000 ∧ -40000 ≤ n ∧ n - lo ≤ 40000)
    (hw : ∀ x, wipe ((wipe σ vs).set j (some x)) vs = wipe σ vs) (ht : ∀ (i : Nat) H1, Ex H H1 → lo + (i : Int) < n → EvT t ((wipe σ vs).set j (some (.int (lo + (i : Int))))) H1 (f i))
    (he : ∀ (i : Nat) H1, Ex H H1 → lo + (i : Int) < n → f i = true → EvL te ((wipe σ vs).set j (some (.int (lo + (i : Int))))) H1 (L i)) :
    EvLL (tLc (iRng2 ta) (gName j) t te vs) σ H (((List.range (n - lo).toNat).filter f).map L) := by
  intro H0 e Q q
  refine h H0 e _ fun H1 e1 => ⟨lo, n, rfl, by omega, fun Dl hD => ?_⟩
  refine lc_range (lo := lo) (n := (n - lo).toNat) (Rw H1 f L Dl) ⟨hD, Ex.new hD, [], upd_same, rfl, (by simp), (fun i p l x => by simp at x)⟩ (fun i H' hi p => ⟨hw _, ?_⟩)
    fun H' p => q Dl H' (fresh_back e1 p.1) (e1.trans p.2.1) (p.2.2.back e1)
  exact rw_turn p (by omega) (ht i H1 (e.trans e1) (by omega)) fun hf => he i H1 (e.trans e1) (by omega) hf
/-- over a list -/
theorem ell_lcL {a : Addr} {xs : List V} {tl : TE} {j : Nat} {vs : List Nat} (f : Nat → Bool) (L : Nat → List V) (h : Ev tl σ H (.ref a)) (hx : SqL K H a xs) (hz : xs.length ≤ 40000) (hw : ∀ x, wipe ((wipe σ vs).set j (some x)) vs = wipe σ vs)
    (ht : ∀ (i : Nat) (x : V) H1, Ex H H1 → xs[i]? = some x → EvT t ((wipe σ vs).set j (some x)) H1 (f i)) (he : ∀ (i : Nat) (x : V) H1, Ex H H1 → xs[i]? = some x → f i = true → EvL te ((wipe σ vs).set j (some x)) H1 (L i)) :
    EvLL (tLc (iList K tl) (gName j) t te vs) σ H (((List.range xs.length).filter f).map L) := by
  intro H0 e Q q
  refine h H0 e _ fun H1 e1 => ⟨a, rfl, ⟨xs, ex_l (e.trans e1) hx⟩, fun Dl hD => ?_⟩
  refine lc_list (xs := xs) (Rw H1 f L Dl) ⟨hD, Ex.new hD, [], upd_same, rfl, (by simp), (fun i p l x => by simp at x)⟩ (fun i H' _ p => ex_l ((e.trans e1).trans p.2.1) hx) (fun i x H' hi p => ⟨hw x, ?_⟩)
    fun H' p => q Dl H' (fresh_back e1 p.1) (e1.trans p.2.1) (p.2.2.back e1)
  have hlt := (List.getElem?_eq_some_iff.mp hi).1
  exact rw_turn p (by omega) (ht i x H1 (e.trans e1) hi) fun hf => he i x H1 (e.trans e1) hi hf
theorem et_yes : EvT tYes σ H true := fun H1 _ _ q => q H1 (Ex.refl H1)
theorem atI_int {l : List Int} {i : Int} (h0 : 0 ≤ i) (h1 : i < l.length) : atI (l.map V.int) i = some (.int (l.getD i.toNat 0)) := by
  obtain ⟨k, rfl⟩ : ∃ k : Nat, i = (k : Int) := ⟨i.toNat, by omega⟩
  have hk : k < l.length := by omega
  refine atI_nat ?_
  rw [List.getElem?_map, List.getElem?_eq_getElem hk, List.getD_eq_getElem?_getD, show ((k : Int)).toNat = k from rfl, List.getElem?_eq_getElem hk]
  rfl
/-- a built-in's call upon a new list -/
theorem ev_cbL {r : List V → Hp → VK → Prop} {xs : List V} {z : V} (h : EvL te σ H xs) (hr : ∀ p H1, Ex H H1 → H1 p = some (.lst xs) → RC r [.ref p] H1 z) : Ev (tCB r (tCons te tNil)) σ H z :=
  fun H1 e Q q => h H1 e _ fun p H2 _ e2 hp => hr p H2 (e.trans e2) hp H2 (Ex.refl H2) Q fun H3 e3 => q H3 (e2.trans e3)
theorem dec_vi (a b : Int) : decide (V.int a = V.int b) = decide (a = b) := by
  by_cases c : a = b
  · rw [decide_eq_true c, decide_eq_true (congrArg V.int c)]
  · rw [decide_eq_false c, decide_eq_false fun z => c (V.int.inj z)]
theorem given_ints (n : Nat) (f : Nat → Bool) (g : Nat → Int) : given n f (fun i => V.int (g i)) = (((List.range n).filter f).map g).map V.int := by
  unfold given
  rw [List.map_map]
  rfl
/-- [y for x in xs for y in x], the rows lists that stand -/
theorem el_flat {a : Addr} {as : List Addr} {rows : List (List V)} {tl : TE} {j j2 : Nat} {vs vs1 : List Nat} (h : Ev tl σ H (.ref a)) (hx : SqL K H a (as.map V.ref)) (hl : as.length = rows.length)
    (hr : ∀ (i : Nat) (b : Addr) (r : List V), as[i]? = some b → rows[i]? = some r → SqL K H b r) (hz : rows.flatten.length ≤ 40000) (hw : ∀ x, wipe ((wipe σ vs).set j (some x)) vs = wipe σ vs)
    (hw1 : ∀ x y, wipe ((wipe ((wipe σ vs).set j (some x)) vs1).set j2 (some y)) vs1 = wipe ((wipe σ vs).set j (some x)) vs1) (hj : ∀ x, ((wipe σ vs).set j (some x))[j]? = some (some x))
    (hj2 : ∀ x y, ((wipe ((wipe σ vs).set j (some x)) vs1).set j2 (some y))[j2]? = some (some y)) :
    EvL (tLc2 (iList K tl) (gName j) tYes (iList K (tVar j)) (gName j2) tYes (tVar j2) vs vs1) σ H rows.flatten := by
  intro H0 e Q q
  refine h H0 e _ fun H1 e1 => ⟨a, rfl, ⟨_, ex_l (e.trans e1) hx⟩, fun D hD => ?_⟩
  refine ⟨fun i m H' => i + m = rows.length ∧ Ex H1 H' ∧ H' D = some (.lst (rows.take i).flatten), ⟨rows.length, Nat.zero_add _, Ex.new hD, upd_same⟩, ?_⟩
  rintro i m H2 ⟨him, e2, h2⟩
  have hS2 : SqL K H2 a (as.map V.ref) := ex_l ((e.trans e1).trans e2) hx
  rcases Nat.lt_or_ge i rows.length with hi | hi
  · have hia : i < as.length := hl ▸ hi
    refine .inr ⟨⟨_, .ref as[i], hS2, by rw [List.getElem?_map, List.getElem?_eq_getElem hia]; rfl⟩, fun H' => Ex H1 H' ∧ H' D = some (.lst (rows.take (i + 1)).flatten), fun H' p => ⟨m - 1, by omega, by omega, p⟩, fun x H' hy => ?_⟩
    obtain ⟨rfl, hy⟩ := hy
    have ex : x = .ref as[i] := Option.some.inj ((hy _ hS2).symm.trans (by rw [List.getElem?_map, List.getElem?_eq_getElem hia]; rfl))
    subst ex
    have hb : as[i]? = some as[i] := List.getElem?_eq_getElem hia
    have hrow : rows[i]? = some rows[i] := List.getElem?_eq_getElem hi
    have hR : ∀ H', Ex H1 H' → SqL K H' as[i] rows[i] := fun H' e' => ex_l ((e.trans e1).trans e') (hr i _ _ hb hrow)
    refine ⟨hw _, ⟨_, hj _, as[i], rfl, ⟨_, hR _ e2⟩, ?_⟩⟩
    refine ⟨fun c k H' => c + k = rows[i].length ∧ Ex H1 H' ∧ H' D = some (.lst ((rows.take i).flatten ++ rows[i].take c)), ⟨rows[i].length, Nat.zero_add _, e2, by simpa using h2⟩, ?_⟩
    rintro c k H3 ⟨hck, e3, h3⟩
    rcases Nat.lt_or_ge c rows[i].length with hc | hc
    · refine .inr ⟨⟨_, rows[i][c], hR _ e3, List.getElem?_eq_getElem hc⟩, fun H' => Ex H1 H' ∧ H' D = some (.lst ((rows.take i).flatten ++ rows[i].take (c + 1))), fun H' p => ⟨k - 1, by omega, by omega, p⟩, fun y H' hy => ?_⟩
      obtain ⟨rfl, hy⟩ := hy
      have ey : y = rows[i][c] := Option.some.inj ((hy _ (hR _ e3)).symm.trans (List.getElem?_eq_getElem hc))
      subst ey
      refine ⟨hw1 _ _, ⟨_, hj2 _ _, _, h3, ?_, ?_, ?_⟩⟩
      · refine sz_lt ?_
        have z0 : rows.flatten = (rows.take (i + 1)).flatten ++ (rows.drop (i + 1)).flatten := by rw [← List.flatten_append, List.take_append_drop]
        rw [take_snoc hrow, List.flatten_append] at z0
        have z := congrArg List.length z0
        simp only [List.length_append, List.flatten_cons, List.flatten_nil, List.append_nil] at z
        rw [List.length_append, List.length_take]
        omega
      · exact Ex.mut e3 hD
      · rw [upd_same, take_snoc (List.getElem?_eq_getElem hc), List.append_assoc]
    · refine .inl ⟨⟨_, hR _ e3, hc⟩, e3, ?_⟩
      show H3 D = _
      rw [h3, List.take_of_length_le hc, take_snoc hrow, List.flatten_append]
      simp
  · refine .inl ⟨⟨_, hS2, by rw [List.length_map, hl]; exact hi⟩, q D H2 (fresh_back e1 hD) (e1.trans e2) ?_⟩
    rw [h2, List.take_of_length_le hi]
end
/-! ### rules told by the module's facts (a comprehension's block has them from its def) -/
section
variable {X : Cx} {K : PySem.W.Frag}
theorem ix_listK (h : X.K = K) : IxR X (rIxL K) := by subst h; exact ix_list
theorem ix_tupK (h : X.K = K) : IxR X (rIxT K) := by subst h; exact ix_tup
theorem op_inK (h : X.K = K) : OpR X (compareOp .In) (rIn K false) := by subst h; exact op_in_seq
theorem op_notInK (h : X.K = K) : OpR X (compareOp .NotIn) (rIn K true) := by subst h; exact op_notIn_seq
theorem sl_listK (h : X.K = K) : SlR X (rSlL K) := by subst h; exact sl_list
theorem call_lenK (h : X.K = K) : CallR X (.builtin "len") (rLenS K) := by subst h; exact call_len_seq
theorem call_listK (h : X.K = K) : CallR X (.type "list") (rListS K) := by subst h; exact call_list_of
theorem cr_sortedK (h : X.K = K) : CallR X (.builtin "sorted") (rSorted K) := by subst h; exact cr_sorted
theorem cr_maxK (hc : X.calm = true) (h : X.K = K) : CallR X (.builtin "max") (rMax K) := by subst h; exact cr_max hc
theorem cr_allK (hc : X.calm = true) (h : X.K = K) : CallR X (.builtin "all") (rAll K) := by subst h; exact cr_all hc
theorem mt_countK (h : X.K = K) : MtR X "list.count" (rCntI K) := by subst h; exact mt_lcount
theorem pe_revK {e : Expr} {te : TE} {k : Nat} {p1 p2 p3 pos : Pos} (h : X.K = K) (he : PE X e te) : PE X (.Subscript e (.Slice none none (some (.UnaryOp .USub (.Constant (.int 1) k p1) p2)) p3) pos) (tRevL K te) := by subst h; exact pe_revL he
theorem pi_listK {tg l : Expr} {tl : TE} (h : X.K = K) (hl : PE X l tl) : PI X tg l (iList K tl) := by subst h; exact pi_list hl
theorem pg_unlK {pos : Pos} {es : List Expr} {k : Nat} {t : TGs} {n : Nat} (h : X.K = K) (hc : X.calm = true) (hs : PGs X es t)
    (hn : (assignEach es X.env).length = n := by rfl) (hst : (assignEach es X.env).findIdx? (·.1) = none := by rfl) : PG X (.Tuple es k pos) (gUnl K n t) := by subst h; exact pg_unl hc hs hn hst
theorem pg_tupK {pos : Pos} {es : List Expr} {k : Nat} {t : TGs} {n : Nat} (h : X.K = K) (hc : X.calm = true) (hs : PGs X es t)
    (hn : (assignEach es X.env).length = n := by rfl) (hst : (assignEach es X.env).findIdx? (·.1) = none := by rfl) : PG X (.Tuple es k pos) (gTup K n t) := by subst h; exact pg_tup hc hs hn hst
theorem pe_bmK {o e : Expr} {es : List Expr} {to : TE} {t : TA} {apos cpos : Pos} {T id : String} {name : Str} {r : V → List V → Hp → VK → Prop} (h : X.K = K) (pa : PlainAttrs T) (slot : Slot T name id)
    (hty : typeOf (.builtin id) = pure (.type "method_descriptor")) (hm : MtR X id r) (ho : PE X o to) (ha : PA X (e :: es) t)
    (k1 : attributeBase o name X.env (eval o X.env) = eval o X.env := by rfl)
    (k2 : ((backTo cpos (starEach (e :: es) X.env)).all (fun x => !x.1) && (backToKw cpos (keywordEach [] X.env)).all (fun x => x.1.isSome) &&
      decide ((e :: es).length + ([] : List Keyword).length + (if ([] : List Keyword).isEmpty then 0 else 1) < 30)) = true := by rfl)
    (k3 : (apos.endLine == cpos.line) = true := by rfl) (k4 : starEach (e :: es) X.env = (false, eval e X.env) :: starEach es X.env := by rfl)
    (k5 : (backTo cpos (starEach es X.env)).any (·.1) = false := by rfl) : PE X (.Call (.Attribute o name apos) (e :: es) [] cpos) (tBM K T r to t) := by
  subst h
  exact pe_bm pa slot hty hm ho ha k1 k2 k3 k4 k5
end
end Vf

/-! Data at any depth: what may be compared and shown. -/
namespace Vf
open PySem PySem.Spec PyProof.Rows L2 Evl
/-- data of at most dep lists one in the other, shown by at most len signs -/
structure Dn (d : PyData) (len dep : Nat) : Prop where
  len_ : d.shown.length ≤ len
  show_ : d.showable = true
  dict_ : d.hasDict = false
  lay_ : d.canLay0 = true
  dep_ : d.depth ≤ dep
theorem Dn.mono {d : PyData} {len dep len' dep' : Nat} (h : Dn d len dep) (h1 : len ≤ len') (h2 : dep ≤ dep') : Dn d len' dep' :=
  ⟨Nat.le_trans h.len_ h1, h.show_, h.dict_, h.lay_, Nat.le_trans h.dep_ h2⟩
theorem Dn.int {i : Int} (h0 : 0 ≤ i) (h1 : i < 10 ^ 10) : Dn (.int i) 10 0 := by
  refine ⟨toString_length_le h0 (by decide) h1, ?_, rfl, rfl, Nat.le_refl _⟩
  refine decide_eq_true ?_
  have h2 : i.natAbs < 2 ^ 40 := by omega
  by_cases c : i.natAbs = 0
  · rw [c]; decide
  · exact Nat.lt_of_lt_of_le ((Nat.log2_lt c).2 h2) (by decide)
theorem Dn.bool (b : Bool) : Dn (.bool b) 5 0 := by
  refine ⟨?_, rfl, rfl, rfl, Nat.le_refl _⟩
  cases b <;> decide
theorem textFrom_le : ∀ (ts : List Str) (k : Nat) (acc : Str), (textFrom k acc ts).length ≤ acc.length + piled ts
  | [], _, _ => Nat.le_add_right _ _
  | t :: r, k, acc => by
    have h := textFrom_le r (k + 1) (acc ++ (if k > 0 then ", " else "" : String) ++ t)
    have e : (acc ++ (if k > 0 then ", " else "" : String) ++ t).length ≤ acc.length + 2 + t.length := by
      rw [strLen_append, strLen_append]
      split
      · exact Nat.le_refl _
      · show acc.length + 0 + t.length ≤ _
        omega
    rw [piled_cons]
    show (textFrom (k + 1) _ r).length ≤ _
    omega
theorem dn_all {len dep : Nat} : ∀ {ds : List PyData}, (∀ d ∈ ds, Dn d len dep) →
    piled (PyData.shownAll ds) ≤ (len + 2) * ds.length ∧ PyData.showableAll ds = true ∧ PyData.hasDictAll ds = false ∧ PyData.canLayAll0 ds = true ∧ PyData.depthAll ds ≤ dep
  | [], _ => ⟨Nat.zero_le _, rfl, rfl, rfl, Nat.zero_le _⟩
  | d :: ds, h => by
    obtain ⟨a1, a2, a3, a4, a5⟩ := h d List.mem_cons_self
    obtain ⟨b1, b2, b3, b4, b5⟩ := dn_all (ds := ds) fun x hx => h x (List.mem_cons_of_mem _ hx)
    refine ⟨?_, ?_, ?_, ?_, ?_⟩
    · show piled (d.shown :: PyData.shownAll ds) ≤ _
      rw [piled_cons, List.length_cons, Nat.mul_add]
      omega
    · show (d.showable && PyData.showableAll ds) = true
      rw [a2, b2]; rfl
    · show (d.hasDict || PyData.hasDictAll ds) = false
      rw [a3, b3]; rfl
    · show (d.canLay0 && PyData.canLayAll0 ds) = true
      rw [a4, b4]; rfl
    · show max d.depth (PyData.depthAll ds) ≤ dep
      omega
theorem Dn.list {ds : List PyData} {len dep : Nat} (h : ∀ d ∈ ds, Dn d len dep) : Dn (.list ds) ((len + 2) * ds.length + 2) (dep + 1) := by
  obtain ⟨b1, b2, b3, b4, b5⟩ := dn_all h
  refine ⟨?_, b2, b3, b4, Nat.succ_le_succ b5⟩
  show (textFrom 0 "[" (PyData.shownAll ds) ++ "]").length ≤ _
  have z := textFrom_le (PyData.shownAll ds) 0 "["
  rw [strLen_append]
  have e1 : (Str.ofString "[").length = 1 := by decide
  have e2 : (Str.ofString "]").length = 1 := by decide
  rw [e1] at z
  rw [e2]
  omega
abbrev dInts (ns : List Int) : PyData := .list (ns.map .int)
abbrev dRows (ls : List (List Int)) : PyData := .list (ls.map dInts)
theorem dn_ints {ns : List Int} (h : ∀ x ∈ ns, 0 ≤ x ∧ x < 10 ^ 10) : Dn (dInts ns) (12 * ns.length + 2) 1 := by
  have z := Dn.list (ds := ns.map .int) (len := 10) (dep := 0) fun d hd => by
    obtain ⟨x, hx, rfl⟩ := List.mem_map.mp hd
    exact Dn.int (h x hx).1 (h x hx).2
  rw [List.length_map] at z
  exact z
theorem dn_rows {ls : List (List Int)} {m : Nat} (h : ∀ l ∈ ls, l.length ≤ m ∧ ∀ x ∈ l, 0 ≤ x ∧ x < 10 ^ 10) : Dn (dRows ls) ((12 * m + 4) * ls.length + 2) 2 := by
  have z := Dn.list (ds := ls.map dInts) (len := 12 * m + 2) (dep := 1) fun d hd => by
    obtain ⟨l, hl, rfl⟩ := List.mem_map.mp hd
    exact (dn_ints (h l hl).2).mono (by have := (h l hl).1; omega) (Nat.le_refl _)
  rw [List.length_map] at z
  exact z
section
variable {K : PySem.W.Frag} {H H' : Hp}
theorem dp_list (ns : List Int) : DpAll K H (ns.map V.int) (ns.map .int) := by
  induction ns with
  | nil => exact .nil
  | cons n ns ih => exact .cons (.int n) ih
theorem dp_ints {a : Addr} {ns : List Int} (h : SqL K H a (ns.map V.int)) : Dp K H (.ref a) (dInts ns) := .lst h (dp_list ns)
theorem dp_rows {a : Addr} {ps : List Addr} {ls : List (List Int)} (h : SqL K H a (ps.map V.ref)) (hl : ps.length = ls.length) (hr : ∀ (i : Nat) (p : Addr) (l : List Int), ps[i]? = some p → ls[i]? = some l → SqL K H p (l.map V.int)) :
    Dp K H (.ref a) (dRows ls) := by
  refine .lst h ?_
  clear h
  induction ps generalizing ls with
  | nil =>
    cases ls with
    | nil => exact .nil
    | cons l ls => cases hl
  | cons p ps ih =>
    cases ls with
    | nil => cases hl
    | cons l ls =>
      exact .cons (dp_ints (hr 0 p l rfl rfl)) (ih (by simpa using hl) fun i p' l' h1 h2 => hr (i + 1) p' l' h1 h2)
mutual
theorem Dp.on (e : Ex H H') : ∀ (d : PyData) (v : V), Dp K H v d → Dp K H' v d
  | .none, _, h => by cases h; exact .non
  | .bool b, _, h => by cases h; exact .bl b
  | .int i, _, h => by cases h; exact .int i
  | .str x, _, h => by cases h; exact .str x
  | .list ds, _, h => by
    cases h with
    | lst hs ha => exact .lst (ex_l e hs) (DpAll.on e ds _ ha)
  | .tuple ds, _, h => by
    cases h with
    | tup hs ha => exact .tup (ex_t e hs) (DpAll.on e ds _ ha)
  | .dict _, _, h => by cases h
theorem DpAll.on (e : Ex H H') : ∀ (ds : List PyData) (vs : List V), DpAll K H vs ds → DpAll K H' vs ds
  | [], _, h => by cases h; exact .nil
  | d :: ds, _, h => by
    cases h with
    | cons h1 h2 => exact .cons (Dp.on e d _ h1) (DpAll.on e ds _ h2)
end
/-- what may be compared, item by item -/
def Sh (K : PySem.W.Frag) (H : Hp) (x : V) : Prop := ∃ e, Dp K H x e ∧ PyData.canLay0 e = true ∧ PyData.depth e ≤ 8
theorem Sh.int (i : Int) : Sh K H (.int i) := ⟨.int i, .int i, rfl, by simp [PyData.depth]⟩
theorem Sh.pair {a : Addr} {x y : Int} (h : SqL K H a [.int x, .int y]) : Sh K H (.ref a) :=
  ⟨dInts [x, y], dp_ints h, rfl, by simp [dInts, PyData.depth, PyData.depthAll]⟩
theorem sh_all : ∀ {xs : List V}, (∀ x ∈ xs, Sh K H x) → ∃ ds, DpAll K H xs ds ∧ ds.length = xs.length ∧ PyData.canLayAll0 ds = true ∧ PyData.depthAll ds ≤ 8
  | [], _ => ⟨[], .nil, rfl, rfl, by simp [PyData.depthAll]⟩
  | x :: xs, h => by
    obtain ⟨e, e1, e2, e3⟩ := h x List.mem_cons_self
    obtain ⟨ds, d1, d2, d3, d4⟩ := sh_all (xs := xs) fun y hy => h y (List.mem_cons_of_mem _ hy)
    refine ⟨e :: ds, .cons e1 d1, by simp [d2], ?_, ?_⟩
    · simp [PyData.canLayAll0, e2, d3]
    · simp only [PyData.depthAll]
      omega
/-- xs != [], the empty list new -/
theorem ne_nil {l p : Addr} {xs : List V} {Q : VK} (hl : SqL K H l xs) (hp : H p = some (.lst [])) (hx : ∀ x ∈ xs, Sh K H x) (q : Q (.bl (!xs.isEmpty)) H) : rNeD K (.ref l) (.ref p) H Q := by
  obtain ⟨ds, d1, d2, d3, d4⟩ := sh_all hx
  refine ⟨.list ds, .list [], .lst hl d1, .lst (.inl (.inl hp)) .nil, ?_, rfl, ?_⟩
  · refine Bool.and_eq_true_iff.mpr ⟨d3, decide_eq_true ?_⟩
    have z : (PyData.list ds).depth = PyData.depthAll ds + 1 := by simp only [PyData.depth]
    omega
  · have e : PyData.eqv (.list ds) (.list []) = xs.isEmpty := by
      cases ds with
      | nil =>
        cases xs with
        | nil => rfl
        | cons _ _ => cases d2
      | cons _ _ =>
        cases xs with
        | nil => cases d2
        | cons _ _ => rfl
    rw [e]
    exact q
end
end Vf

/-! a > b for data that are alike; lists of whole numbers by their first places that part. -/
namespace Vf
open PySem PySem.Spec PyProof.Rows L2 Evl
section
variable {X : Cx}
def rGtD (K : PySem.W.Frag) : R2 := fun x y H Q => ∃ d e, Dp K H x d ∧ Dp K H y e ∧ PySem.W.alike d e = true ∧ d ≠ .none ∧ d.depth ≤ 60 ∧ Q (.bl (PySem.W.dataLt e d)) H
theorem op_gtD (hu : X.A.units + 64 < cLine) : OpR X (compareOp .Gt) (rGtD X.K) := by
  intro pins s σ H x y v u Q I rx ry h
  obtain ⟨d, e, hd, he, ha, hn, hdp, q⟩ := h
  obtain ⟨as, r1⟩ := Dp.reads I d x v hd rx
  obtain ⟨bs, r2⟩ := Dp.reads I e y u he ry
  exact PySem.W.gt_data r1 r2 ha hn (Nat.lt_of_le_of_lt (Nat.add_le_add_left (Nat.le_trans (Nat.min_le_left _ _) (Nat.le_trans hdp (by decide : 60 ≤ 64))) _) hu) ⟨.bl _, H, I, rfl, q⟩
end
theorem alike_ints : ∀ (a b : List Int), PySem.W.alike (dInts a) (dInts b) = true := by
  have key : ∀ a b : List Int, PySem.W.alikeAll (a.map .int) (b.map .int) = true := by
    intro a
    induction a with
    | nil => intro b; cases b <;> rfl
    | cons x a ih =>
      intro b
      cases b with
      | nil => rfl
      | cons y b => exact ih b
  exact fun a b => key a b
/-- a is b, or less where they part first -/
def LexLe : List Int → List Int → Prop
  | [], _ => True
  | _ :: _, [] => False
  | a :: as, b :: bs => a < b ∨ (a = b ∧ LexLe as bs)
theorem not_gt : ∀ {a b : List Int}, LexLe a b → PySem.W.dataLt (dInts b) (dInts a) = false := by
  have key : ∀ {a b : List Int}, LexLe a b → PyProof.Rows.lexLt itemOrd (PySem.W.keyToksAll (b.map .int)) (PySem.W.keyToksAll (a.map .int)) = false := by
    intro a
    induction a with
    | nil =>
      intro b _
      cases b with
      | nil => rfl
      | cons y b =>
        show PyProof.Rows.lexLt itemOrd (.inl 1 :: _) (.inl 0 :: []) = false
        rw [lex_diff (O := itemOrd) (by decide)]
        rfl
    | cons x a ih =>
      intro b h
      cases b with
      | nil => exact h.elim
      | cons y b =>
        show PyProof.Rows.lexLt itemOrd (.inl 1 :: .inl y :: _) (.inl 1 :: .inl x :: _) = false
        rw [lex_self (O := itemOrd)]
        rcases h with h | ⟨h, k⟩
        · rw [lex_diff (O := itemOrd) (by intro z; injection z; omega)]
          show decide (y < x) = false
          exact decide_eq_false (by omega)
        · subst h
          rw [lex_self (O := itemOrd)]
          exact ih k
  intro a b h
  exact key h
end Vf

/-! Slices with a step, left %= made, calls by keywords in the other order, defaults. -/
namespace Vf
open PySem PySem.Spec PyProof.Rows L2 Evl
/-! ### xs[lo:hi:st] -/
def idxF (lo hi st : Option Int) (n : Nat) : List Nat := sliceRange (sliceBounds lo hi st n).1 (sliceBounds lo hi st n).2.1 (sliceBounds lo hi st n).2.2
def pickL {α : Type} (xs : List α) (lo hi st : Option Int) : List α := (idxF lo hi st xs.length).filterMap (xs[·]?)
theorem pick_map {α β : Type} (f : α → β) (xs : List α) (lo hi st : Option Int) : pickL (xs.map f) lo hi st = (pickL xs lo hi st).map f := by
  unfold pickL
  rw [List.length_map, List.map_filterMap]
  refine congrArg (fun g => List.filterMap g _) (funext fun i => ?_)
  rw [List.getElem?_map]
theorem vals_at {xs : List V} {its : List Value} (r : Vals xs its) : ∀ i : Nat, RelO (xs[i]?) (its[i]?) := by
  induction r with
  | nil => intro i; exact True.intro
  | cons h _ ih =>
    intro i
    cases i with
    | zero => exact h
    | succ i => simpa using ih i
theorem vals_pick {xs : List V} {its : List Value} (r : Vals xs its) : ∀ idx : List Nat, Vals (idx.filterMap (xs[·]?)) (idx.filterMap (its[·]?))
  | [] => .nil
  | i :: idx => by
    have a := vals_at r i
    rw [List.filterMap_cons, List.filterMap_cons]
    cases hx : xs[i]? with
    | none =>
      cases hi : its[i]? with
      | none => exact vals_pick r idx
      | some u => rw [hx, hi] at a; exact a.elim
    | some x =>
      cases hi : its[i]? with
      | none => rw [hx, hi] at a; exact a.elim
      | some u => rw [hx, hi] at a; exact .cons a (vals_pick r idx)
theorem pick_le (its : List Value) (lo hi st : Option Int) : (pickL its lo hi st).length ≤ its.length := by
  have := slicePick_size_le its.toArray lo hi st
  unfold slicePick at this
  rw [List.size_toArray, List.size_toArray] at this
  unfold pickL idxF
  have e : (fun i : Nat => its.toArray[i]?) = fun i : Nat => its[i]? := funext fun i => by simp
  rw [e] at this
  exact this
theorem slice_is (its : List Value) (lo hi st : Option Int) : slicePick its.toArray lo hi st = (pickL its lo hi st).toArray := by
  unfold slicePick pickL idxF
  rw [List.size_toArray]
  refine congrArg List.toArray (congrArg (fun g => List.filterMap g _) (funext fun i => ?_))
  simp
def tSl3 (K : PySem.W.Frag) (te : TE) (tl th ts : TO) : TE := fun σ H Q => te σ H fun x H1 => ∃ a, x = .ref a ∧ tl σ H1 fun lo H2 => th σ H2 fun hi H3 => ts σ H3 fun st H4 =>
  ∃ xs, SqL K H4 a xs ∧ st ≠ some 0 ∧ ∀ p, H4 p = none → Q (.ref p) (upd H4 p (.lst (pickL xs lo hi st)))
section
variable {X : Cx} {K : PySem.W.Frag}
theorem pe_slice3 {e es : Expr} {lo hi : Option Expr} {te : TE} {tl th ts : TO} {p2 pos : Pos} (hK : X.K = K) (he : PE X e te) (hl : PO X lo tl) (hu : PO X hi th) (hs : PO X (some es) ts) :
    PE X (.Subscript e (.Slice lo hi (some es) p2) pos) (tSl3 K te tl th ts) := by
  subst hK
  refine ⟨fun pins s σ H Q I h => ?_⟩
  refine Subscript_ (thn (he.run pins s σ H _ I h) fun v s1 ⟨x, H1, I1, r1, q1⟩ => ?_)
  obtain ⟨a, ex, q1⟩ := q1
  subst ex
  cases r1
  refine wpAny_Slice (thn (hl.run pins s1 σ H1 _ I1 q1) fun vl s2 ⟨l, H2, I2, pl, q2⟩ => thn (hu.run pins s2 σ H2 _ I2 q2) fun vu s3 ⟨u, H3, I3, pu, q3⟩ => ?_)
  refine thn (hs.run pins s3 σ H3 _ I3 q3) fun vs s4 ⟨st, H4, I4, ps, q4⟩ => ?_
  obtain ⟨xs, hx, h0, q⟩ := q4
  have I5 : Inv X pins σ H4 { s4 with heap := s4.heap.push { cls := .type "slice", data := .fields #[vl, vu, vs] } } := I4.kept (t' := s4.toks) fun b ob q => Heap.get?_push_of_some _ q
  obtain ⟨its, r, ht, hz⟩ := I5.list hx
  have hlen := r.length
  show wpAny (model X.prog X.w) X.A (subscriptTail e (.Slice lo hi (some es) p2) (.ref a) (.ref s4.heap.objs.size)) (EP X pins σ Q) X.xe { s4 with heap := s4.heap.push { cls := .type "slice", data := .fields #[vl, vu, vs] } }
  refine tail_any (ops := [.ref a, .ref s4.heap.objs.size]) ht.isList.typeIs (PySem.slot_list_getitem.lookup) ?_ (by with_unfolding_all rfl)
  refine wpAny_getItem_list_slice ht.isList (Heap.IsSliceOf.new _ vl vu vs) pl pu ps h0 ?_ (by rw [List.size_toArray]; omega)
  rw [slice_is]
  refine ⟨.ref _, _, I5.laid (t' := s4.toks) (o := .lst (pickL xs l u st)) (fun b ob q => Heap.get?_push_of_some _ q) (Nat.le_refl _) ?_, rfl, q _ (I5.hok.fresh (Nat.le_refl _))⟩
  have rp : Vals (pickL xs l u st) (pickL its l u st) := by
    unfold pickL
    rw [hlen]
    exact vals_pick r _
  exact ⟨by rw [rp.length]; have := pick_le its l u st; omega, _, 0, rp, Heap.get?_push_size _ rfl⟩
theorem el_sl3 {σ : L2.St} {H : Hp} {te : TE} {tl th ts : TO} {a : Addr} {xs : List V} {lo hi st : Option Int} (h : Ev te σ H (.ref a)) (hl : EvO tl σ H lo) (hu : EvO th σ H hi) (hs : EvO ts σ H st) (hx : SqL K H a xs) (h0 : st ≠ some 0) :
    EvL (tSl3 K te tl th ts) σ H (pickL xs lo hi st) := fun H1 e Q q =>
  h H1 e _ fun H2 e2 => ⟨a, rfl, hl H2 (e.trans e2) _ fun H3 e3 => hu H3 ((e.trans e2).trans e3) _ fun H4 e4 => hs H4 (((e.trans e2).trans e3).trans e4) _ fun H5 e5 =>
    ⟨xs, ex_l ((((e.trans e2).trans e3).trans e4).trans e5) hx, h0, fun p np => q p _ (fresh_back (((e2.trans e3).trans e4).trans e5) np) ((((e2.trans e3).trans e4).trans e5).trans (Ex.new np)) upd_same⟩⟩
/-! ### left %= made -/
def ipM : TIp := fun x y H Q => ∃ i j, x = .int i ∧ y = .int j ∧ j ≠ 0 ∧ Q (.int (i.fmod j)) H
theorem ip_modN : PIp X .Mod ipM := by
  intro pins s σ H x y v u Q I r1 r2 h
  obtain ⟨i, j, e1, e2, hj, q⟩ := h
  subst e1; subst e2
  obtain ⟨t, rfl⟩ := r1
  obtain ⟨t', rfl⟩ := r2
  exact imod_int hj ⟨.int _, H, I.tok _, ⟨_, rfl⟩, q⟩
end
/-! ### parameters told by name, in the other order -/
def rev3 {α : Type} : List α → List α → List α
  | [], [a, b, c] => [c, b, a]
  | _, _ => []
def rev4 {α : Type} : List α → List α → List α
  | [], [a, b, c, d] => [d, c, b, a]
  | _, _ => []
def rev5 {α : Type} : List α → List α → List α
  | [], [a, b, c, d, e] => [e, d, c, b, a]
  | _, _ => []
theorem rev3_len {α : Type} {us ws : List α} (h : (rev3 us ws).length = 3) : us = [] ∧ ∃ a b c, ws = [a, b, c] := by
  unfold rev3 at h
  split at h
  · exact ⟨rfl, _, _, _, rfl⟩
  · cases h
theorem rev4_len {α : Type} {us ws : List α} (h : (rev4 us ws).length = 4) : us = [] ∧ ∃ a b c d, ws = [a, b, c, d] := by
  unfold rev4 at h
  split at h
  · exact ⟨rfl, _, _, _, _, rfl⟩
  · cases h
theorem rev5_len {α : Type} {us ws : List α} (h : (rev5 us ws).length = 5) : us = [] ∧ ∃ a b c d e, ws = [a, b, c, d, e] := by
  unfold rev5 at h
  split at h
  · exact ⟨rfl, _, _, _, _, _, rfl⟩
  · cases h
theorem rev3_rel {vs : List V} {us : List Value} {zs : List V} {ws : List Value} (r1 : Vals vs us) (r2 : Vals zs ws) : Vals (rev3 vs zs) (rev3 us ws) := by
  cases r1 with
  | cons _ _ => cases r2 <;> exact .nil
  | nil =>
    cases r2 with
    | nil => exact .nil
    | cons a r => cases r with
      | nil => exact .nil
      | cons b r => cases r with
        | nil => exact .nil
        | cons c r => cases r with
          | nil => exact .cons c (.cons b (.cons a .nil))
          | cons _ _ => exact .nil
theorem rev4_rel {vs : List V} {us : List Value} {zs : List V} {ws : List Value} (r1 : Vals vs us) (r2 : Vals zs ws) : Vals (rev4 vs zs) (rev4 us ws) := by
  cases r1 with
  | cons _ _ => cases r2 <;> exact .nil
  | nil =>
    cases r2 with
    | nil => exact .nil
    | cons a r => cases r with
      | nil => exact .nil
      | cons b r => cases r with
        | nil => exact .nil
        | cons c r => cases r with
          | nil => exact .nil
          | cons d r => cases r with
            | nil => exact .cons d (.cons c (.cons b (.cons a .nil)))
            | cons _ _ => exact .nil
theorem rev5_rel {vs : List V} {us : List Value} {zs : List V} {ws : List Value} (r1 : Vals vs us) (r2 : Vals zs ws) : Vals (rev5 vs zs) (rev5 us ws) := by
  cases r1 with
  | cons _ _ => cases r2 <;> exact .nil
  | nil =>
    cases r2 with
    | nil => exact .nil
    | cons a r => cases r with
      | nil => exact .nil
      | cons b r => cases r with
        | nil => exact .nil
        | cons c r => cases r with
          | nil => exact .nil
          | cons d r => cases r with
            | nil => exact .nil
            | cons e r => cases r with
              | nil => exact .cons e (.cons d (.cons c (.cons b (.cons a .nil))))
              | cons _ _ => exact .nil
theorem rev3_binds {K : PySem.W.Frag} {fd : FuncData} {p1 p2 p3 : Str} (h : ∀ a b c : Value, bindArgs fd ⟨[], [(p3, a), (p2, b), (p1, c)]⟩ = pure [(p1, c), (p2, b), (p3, a)]) :
    KBinds K fd [p1, p2, p3] [p3, p2, p1] rev3 rev3 := by
  refine ⟨fun s us ws _ hl => ?_, rev3_rel⟩
  obtain ⟨rfl, a, b, c, rfl⟩ := rev3_len hl
  exact .of_eq (h a b c)
theorem rev4_binds {K : PySem.W.Frag} {fd : FuncData} {p1 p2 p3 p4 : Str} (h : ∀ a b c d : Value, bindArgs fd ⟨[], [(p4, a), (p3, b), (p2, c), (p1, d)]⟩ = pure [(p1, d), (p2, c), (p3, b), (p4, a)]) :
    KBinds K fd [p1, p2, p3, p4] [p4, p3, p2, p1] rev4 rev4 := by
  refine ⟨fun s us ws _ hl => ?_, rev4_rel⟩
  obtain ⟨rfl, a, b, c, d, rfl⟩ := rev4_len hl
  exact .of_eq (h a b c d)
/-- a def with defaults, all of its parameters told by name -/
theorem rev5_bindsD {K : PySem.W.Frag} {x qual : Str} {params : Arguments} {body : List Stmt} {scope : Scope} {dvs : List V} {kws : List (Str × V)} {f : Addr} {fd : FuncData} {p1 p2 p3 p4 p5 : Str} (F : FunD K x qual params body scope dvs kws f fd) (hd : dvs ≠ [])
    (h : ∀ (T : Addr) (kV doc pm : Value) (an : Option Addr) (cdv ct : Value) (a b c d e : Value) (its : List Value), its.length = dvs.length →
      ∃ k, bindArgs (PySem.W.fnOf x qual params body scope (.ref T) kV doc pm an cdv ct) ⟨[], [(p5, a), (p4, b), (p3, c), (p2, d), (p1, e)]⟩ = seqItems? (.ref T) >>= k ∧ k (some its.toArray) = pure [(p1, e), (p2, d), (p3, c), (p4, b), (p5, a)]) :
    KBinds K fd [p1, p2, p3, p4, p5] [p5, p4, p3, p2, p1] rev5 rev5 := by
  obtain ⟨oc, od, dV, kV, doc, pm, an, cdv, ct, osl, rfl, lk, hcd, hD, hK⟩ := F.ex
  rcases hD with ⟨e, _⟩ | ⟨_, T, o, its, m, rfl, lT, oT, rT⟩
  · exact absurd e hd
  · refine ⟨fun s us ws X hl => ?_, rev5_rel⟩
    obtain ⟨rfl, a, b, c, d, e, rfl⟩ := rev5_len hl
    obtain ⟨k, e1, e2⟩ := h T kV doc pm an cdv ct a b c d e its rT.length.symm
    refine BindsTo.of_looks fun M => ?_
    show PySem.W.Looks M s.heap (bindArgs _ ⟨[], [(p5, a), (p4, b), (p3, c), (p2, d), (p1, e)]⟩) _
    rw [e1]
    exact looks_items X lT oT (.of_pure e2)
/-- every parameter written, though there are defaults -/
theorem bindsD0 {K : PySem.W.Frag} {x qual : Str} {params : Arguments} {body : List Stmt} {scope : Scope} {dvs : List V} {kws : List (Str × V)} {f : Addr} {fd : FuncData} {ps : List Str} (F : FunD K x qual params body scope dvs kws f fd) (hd : dvs ≠ [])
    (h : ∀ (T : Addr) (kV doc pm : Value) (an : Option Addr) (cdv ct : Value) (us its : List Value), us.length = ps.length → its.length = dvs.length →
      ∃ k, bindArgs (PySem.W.fnOf x qual params body scope (.ref T) kV doc pm an cdv ct) ⟨us, []⟩ = seqItems? (.ref T) >>= k ∧ k (some its.toArray) = pure (ps.zip us)) : Binds K fd ps [] := by
  obtain ⟨ds, r, b⟩ := F.binds1 (ps := ps) ps.length dvs.length hd (by rw [Nat.sub_self]; rfl) fun T kV doc pm an cdv ct us its h1 h2 => by
    obtain ⟨k, e1, e2⟩ := h T kV doc pm an cdv ct us its h1 h2
    exact ⟨k, e1, by rw [e2, ← h2, List.drop_length, List.append_nil]⟩
  rw [List.drop_length] at r
  cases r
  exact b
end Vf

/-! A new list of new lists, all different, whose rows are changed. -/
namespace Vf
open PySem PySem.Spec PyProof.Rows L2 Evl
def LLN (H H2 : Hp) (D : Addr) (ls : List (List V)) : Prop :=
  ∃ ps : List Addr, H2 D = some (.lst (ps.map V.ref)) ∧ ps.length = ls.length ∧ D ∉ ps ∧ ps.Nodup ∧ ∀ (i : Nat) (p : Addr) (l : List V), ps[i]? = some p → ls[i]? = some l → H p = none ∧ H2 p = some (.lst l)
theorem LLN.on {H H2 H3 : Hp} {D : Addr} {ls : List (List V)} (h : LLN H H2 D ls) (e : Ex H2 H3) : LLN H H3 D ls := by
  obtain ⟨ps, a, b, c, n, d⟩ := h
  exact ⟨ps, e _ _ a, b, c, n, fun i p l x y => ⟨(d i p l x y).1, e _ _ (d i p l x y).2⟩⟩
theorem LLN.back {H H1 H2 : Hp} {D : Addr} {ls : List (List V)} (e : Ex H H1) (h : LLN H1 H2 D ls) : LLN H H2 D ls := by
  obtain ⟨ps, a, b, c, n, d⟩ := h
  exact ⟨ps, a, b, c, n, fun i p l x y => ⟨fresh_back e (d i p l x y).1, (d i p l x y).2⟩⟩
theorem LLN.row {H H2 : Hp} {D : Addr} {ls : List (List V)} (h : LLN H H2 D ls) {i : Nat} {row : List V} (hi : ls[i]? = some row) :
    ∃ (ps : List Addr) (p : Addr), H2 D = some (.lst (ps.map V.ref)) ∧ ps[i]? = some p ∧ H p = none ∧ H2 p = some (.lst row) := by
  obtain ⟨ps, a, b, c, n, d⟩ := h
  have hl : i < ps.length := by rw [b]; exact (List.getElem?_eq_some_iff.mp hi).1
  exact ⟨ps, ps[i], a, List.getElem?_eq_getElem hl, (d i _ _ (List.getElem?_eq_getElem hl) hi).1, (d i _ _ (List.getElem?_eq_getElem hl) hi).2⟩
theorem LLN.put {H H2 : Hp} {D : Addr} {ls : List (List V)} (h : LLN H H2 D ls) {i : Nat} {row : List V} (hi : ls[i]? = some row) :
    ∃ (ps : List Addr) (p : Addr), H2 D = some (.lst (ps.map V.ref)) ∧ ps[i]? = some p ∧ H p = none ∧ H2 p = some (.lst row) ∧ ∀ row', LLN H (upd H2 p (.lst row')) D (ls.set i row') := by
  obtain ⟨ps, a, b, c, n, d⟩ := h
  have hl : i < ps.length := by rw [b]; exact (List.getElem?_eq_some_iff.mp hi).1
  have hp : ps[i]? = some ps[i] := List.getElem?_eq_getElem hl
  obtain ⟨d1, d2⟩ := d i _ _ hp hi
  refine ⟨ps, ps[i], a, hp, d1, d2, fun row' => ⟨ps, ?_, by rw [List.length_set, b], c, n, fun k q l hk hl' => ?_⟩⟩
  · rw [upd_ne (fun z : D = ps[i] => c (by rw [z]; exact List.getElem_mem hl))]
    exact a
  · by_cases e : k = i
    · subst e
      rw [hp] at hk
      cases hk
      rw [List.getElem?_set_self (by rw [← b]; exact hl)] at hl'
      cases hl'
      exact ⟨d1, upd_same⟩
    · rw [List.getElem?_set_ne (fun z => e z.symm)] at hl'
      obtain ⟨x, y⟩ := d k q l hk hl'
      refine ⟨x, ?_⟩
      rw [upd_ne]
      · exact y
      · intro z
        obtain ⟨hk1, hk2⟩ := List.getElem?_eq_some_iff.mp hk
        exact e ((List.getElem_inj n).mp (hk2.trans z))
section
variable {K : PySem.W.Frag} {σ : L2.St} {H H' : Hp} {ta : TA} {te : TE} {t : TT}
def RwN (H : Hp) (L : Nat → List V) (Dl : Addr) (i : Nat) (H' : Hp) : Prop := H Dl = none ∧ Ex H H' ∧ LLN H H' Dl ((List.range i).map L)
theorem rwn_turn {H H' : Hp} {L : Nat → List V} {Dl : Addr} {i : Nat} {σ2 : L2.St} (p : RwN H L Dl i H') (hi : i < 50000) (he : EvL te σ2 H (L i)) :
    te σ2 H' fun y H4 => ∃ acc, H4 Dl = some (.lst acc) ∧ acc.length < sizeLine ∧ RwN H L Dl (i + 1) (upd H4 Dl (.lst (acc ++ [y]))) := by
  obtain ⟨p1, p2, p3⟩ := p
  refine he H' p2 _ fun q H4 nq e4 hq => ?_
  obtain ⟨_, a3, _⟩ := id p3
  obtain ⟨ps, a, b, c, n, d⟩ := p3
  have a4 := e4 _ _ a
  have neD : q ≠ Dl := fun z => by
    rw [← z, nq] at a
    cases a
  have len : ps.length = i := by rw [b, List.length_map, List.length_range]
  have nin : q ∉ ps := fun z => by
    obtain ⟨k, hk, e⟩ := List.getElem_of_mem z
    have := (d k q (((List.range i).map L)[k]'(by rw [← b]; exact hk)) (by rw [List.getElem?_eq_getElem hk, e]) (List.getElem?_eq_getElem _)).2
    rw [nq] at this
    cases this
  refine ⟨ps.map V.ref, a4, sz_lt (by rw [List.length_map]; omega), p1, Ex.mut (p2.trans e4) p1, ps ++ [q], ?_, ?_, ?_, ?_, ?_⟩
  · rw [upd_same, List.map_append]
    rfl
  · rw [List.range_succ, List.map_append, List.length_append, List.length_append, b]
    rfl
  · intro z
    rcases List.mem_append.mp z with z | z
    · exact c z
    · exact neD (List.mem_singleton.mp z).symm
  · refine List.nodup_append.mpr ⟨n, by simp, fun x hx y hy e => ?_⟩
    rw [List.mem_singleton.mp hy] at e
    exact nin (e ▸ hx)
  · intro k pp l hk hl
    rw [List.range_succ, List.map_append] at hl
    by_cases hk2 : k < ps.length
    · rw [List.getElem?_append_left hk2] at hk
      rw [List.getElem?_append_left (by rw [← b]; exact hk2)] at hl
      obtain ⟨d1, d2⟩ := d k pp l hk hl
      exact ⟨d1, by rw [upd_ne (show pp ≠ Dl from fun z => c (by rw [← z]; exact List.mem_of_getElem? hk))]; exact e4 _ _ d2⟩
    · have ek : k = ps.length := by
        have z := (List.getElem?_eq_some_iff.mp hk).1
        rw [List.length_append, List.length_singleton] at z
        omega
      rw [ek, List.getElem?_append_right (Nat.le_refl _), Nat.sub_self] at hk
      rw [ek, b, List.getElem?_append_right (Nat.le_refl _), Nat.sub_self] at hl
      cases hk
      cases hl
      exact ⟨fresh_back p2 nq, by rw [upd_ne neD]; exact hq⟩
def EvLN (te : TE) (σ : L2.St) (H : Hp) (ls : List (List V)) : Prop := ∀ H1, Ex H H1 → ∀ Q : VK, (∀ D H2, H1 D = none → Ex H1 H2 → LLN H1 H2 D ls → Q (.ref D) H2) → te σ H1 Q
theorem eln_lcR1 {j : Nat} {vs : List Nat} {n : Int} (L : Nat → List V) (h : EvA ta σ H [.int n]) (hn : 0 ≤ n ∧ n ≤ 40000)
    (hw : ∀ x, wipe ((wipe σ vs).set j (some x)) vs = wipe σ vs)
    (he : ∀ (i : Nat) H1, Ex H H1 → (i : Int) < n → EvL te ((wipe σ vs).set j (some (.int (i : Int)))) H1 (L i)) :
    EvLN (tLc (iRng1 ta) (gName j) tYes te vs) σ H ((List.range n.toNat).map L) := by
  intro H0 e Q q
  refine h H0 e _ fun H1 e1 => ⟨n, rfl, by omega, by omega, fun Dl hD => ?_⟩
  refine lc_range (lo := 0) (n := n.toNat) (RwN H1 L Dl) ⟨hD, Ex.new hD, [], upd_same, rfl, (by simp), List.nodup_nil, (fun i p l x => by simp at x)⟩ (fun i H' hi p => ?_)
    fun H' p => q Dl H' (fresh_back e1 p.1) (e1.trans p.2.1) (p.2.2.back e1)
  have e0 : (0 : Int) + (i : Int) = (i : Int) := Int.zero_add _
  show wipe ((wipe σ vs).set j (some (.int ((0 : Int) + (i : Int))))) vs = wipe σ vs ∧ tYes ((wipe σ vs).set j (some (.int ((0 : Int) + (i : Int))))) H' fun b H3 => if b = true then te ((wipe σ vs).set j (some (.int ((0 : Int) + (i : Int))))) H3 fun y H4 => ∃ acc, H4 Dl = some (.lst acc) ∧ acc.length < sizeLine ∧ RwN H1 L Dl (i + 1) (upd H4 Dl (.lst (acc ++ [y]))) else RwN H1 L Dl (i + 1) H3
  rw [e0]
  exact ⟨hw _, rwn_turn p (by omega) (he i H1 (e.trans e1) (by omega))⟩
end
end Vf
namespace Vf
open PySem PySem.Spec PyProof.Rows L2 Evl
/-! ### a new list of new tuples; a list many times over -/
section
variable {K : PySem.W.Frag} {σ : L2.St} {H H' : Hp} {ta : TA} {te tb tl : TE} {t : TT}
def TLAt (H2 : Hp) (D : Addr) (us : List (List V)) : Prop := ∃ ps : List Addr, H2 D = some (.lst (ps.map V.ref)) ∧ ps.length = us.length ∧ ∀ (i : Nat) (p : Addr) (u : List V), ps[i]? = some p → us[i]? = some u → H2 p = some (.tup u)
theorem TLAt.on {H2 H3 : Hp} {D : Addr} {us : List (List V)} (h : TLAt H2 D us) (e : Ex H2 H3) : TLAt H3 D us := by
  obtain ⟨ps, a, b, c⟩ := h
  exact ⟨ps, e _ _ a, b, fun i p l x y => e _ _ (c i p l x y)⟩
def RwT (H : Hp) (L : Nat → List V) (Dl : Addr) (i : Nat) (H' : Hp) : Prop := H Dl = none ∧ Ex H H' ∧ TLAt H' Dl ((List.range i).map L)
theorem rwt_turn {H H' : Hp} {L : Nat → List V} {Dl : Addr} {i : Nat} {σ2 : L2.St} (p : RwT H L Dl i H') (hi : i < 50000) (he : EvU te σ2 H (L i)) :
    te σ2 H' fun y H4 => ∃ acc, H4 Dl = some (.lst acc) ∧ acc.length < sizeLine ∧ RwT H L Dl (i + 1) (upd H4 Dl (.lst (acc ++ [y]))) := by
  obtain ⟨p1, p2, p3⟩ := p
  refine he H' p2 _ fun q H4 nq e4 hq => ?_
  obtain ⟨ps, a, b, d⟩ := p3
  have a4 := e4 _ _ a
  have neD : q ≠ Dl := fun z => by
    rw [← z, nq] at a
    cases a
  have len : ps.length = i := by rw [b, List.length_map, List.length_range]
  refine ⟨ps.map V.ref, a4, sz_lt (by rw [List.length_map]; omega), p1, Ex.mut (p2.trans e4) p1, ps ++ [q], ?_, ?_, ?_⟩
  · rw [upd_same, List.map_append]
    rfl
  · rw [List.range_succ, List.map_append, List.length_append, List.length_append, b]
    rfl
  · intro k pp l hk hl
    rw [List.range_succ, List.map_append] at hl
    by_cases hk2 : k < ps.length
    · rw [List.getElem?_append_left hk2] at hk
      rw [List.getElem?_append_left (by rw [← b]; exact hk2)] at hl
      have d2 := d k pp l hk hl
      have nD : pp ≠ Dl := fun z => by
        rw [z, a] at d2
        cases d2
      rw [upd_ne nD]
      exact e4 _ _ d2
    · have ek : k = ps.length := by
        have z := (List.getElem?_eq_some_iff.mp hk).1
        rw [List.length_append, List.length_singleton] at z
        omega
      rw [ek, List.getElem?_append_right (Nat.le_refl _), Nat.sub_self] at hk
      rw [ek, b, List.getElem?_append_right (Nat.le_refl _), Nat.sub_self] at hl
      cases hk
      cases hl
      rw [upd_ne neD]
      exact hq
def EvLT (te : TE) (σ : L2.St) (H : Hp) (us : List (List V)) : Prop := ∀ H1, Ex H H1 → ∀ Q : VK, (∀ D H2, H1 D = none → Ex H1 H2 → TLAt H2 D us → Q (.ref D) H2) → te σ H1 Q
theorem elt_lcL {a : Addr} {xs : List V} {j : Nat} {vs : List Nat} (L : Nat → List V) (h : Ev tl σ H (.ref a)) (hx : SqL K H a xs) (hz : xs.length ≤ 40000) (hw : ∀ x, wipe ((wipe σ vs).set j (some x)) vs = wipe σ vs)
    (he : ∀ (i : Nat) (x : V) H1, Ex H H1 → xs[i]? = some x → EvU te ((wipe σ vs).set j (some x)) H1 (L i)) :
    EvLT (tLc (iList K tl) (gName j) tYes te vs) σ H ((List.range xs.length).map L) := by
  intro H0 e Q q
  refine h H0 e _ fun H1 e1 => ⟨a, rfl, ⟨xs, ex_l (e.trans e1) hx⟩, fun Dl hD => ?_⟩
  refine lc_list (xs := xs) (RwT H1 L Dl) ⟨hD, Ex.new hD, [], upd_same, rfl, (fun i p l x => by simp at x)⟩ (fun i H' _ p => ex_l ((e.trans e1).trans p.2.1) hx) (fun i x H' hi p => ⟨hw x, ?_⟩)
    fun H' p => q Dl H' (fresh_back e1 p.1) (e1.trans p.2.1) p.2.2
  have hlt := (List.getElem?_eq_some_iff.mp hi).1
  show tYes ((wipe σ vs).set j (some x)) H' fun b H3 => if b = true then te ((wipe σ vs).set j (some x)) H3 fun y H4 => ∃ acc, H4 Dl = some (.lst acc) ∧ acc.length < sizeLine ∧ RwT H1 L Dl (i + 1) (upd H4 Dl (.lst (acc ++ [y]))) else RwT H1 L Dl (i + 1) H3
  exact rwt_turn p (by omega) (he i x H1 (e.trans e1) hi)
theorem el_rep {ta' : TE} {xs : List V} {k : Int} (h : EvL ta' σ H xs) (hk : Ev tb σ H (.int k)) (h0 : -100000 ≤ k ∧ k ≤ 100000) (hz : xs.length * k.toNat ≤ 100000) : EvL (tOp rRep ta' tb) σ H (List.replicate k.toNat xs).flatten := fun H1 e Q q =>
  h H1 e _ fun p H2 np e2 hp => hk H2 (e.trans e2) _ fun H3 e3 => ⟨p, k, xs, rfl, rfl, e3 _ _ hp, by omega, by omega, sz_of hz, fun p2 np2 => q p2 _ (fresh_back (e2.trans e3) np2) ((e2.trans e3).trans (Ex.new np2)) upd_same⟩
theorem q_asgLN {D : Ends} {tz : TS} {i : Nat} {ls : List (List V)} (h : EvLN te σ H ls) (k : ∀ A H1, H A = none → Ex H H1 → LLN H H1 A ls → tz D (σ.set i (some (.ref A))) H1) : tSeq (tAsg te (gName i)) tz D σ H :=
  h H (Ex.refl H) _ fun A H1 nA e1 hA => k A H1 nA e1 hA
theorem s_retLT {D : Ends} {us : List (List V)} (h : EvLT te σ H us) (k : ∀ A H1, H A = none → Ex H H1 → TLAt H1 A us → D.rt (.ref A) H1) : tRet te D σ H :=
  h H (Ex.refl H) _ fun A H1 nA e1 hA => k A H1 nA e1 hA
end
end Vf

/-! Lists of whole numbers: == and != as data. -/
namespace Vf
open PySem PySem.Spec PyProof.Rows L2 Evl
theorem eqv_ints : ∀ (a b : List Int), PyData.eqv (dInts a) (dInts b) = decide (a = b) := by
  have key : ∀ a b : List Int, PyData.eqvAll (a.map .int) (b.map .int) = decide (a = b) := by
    intro a
    induction a with
    | nil =>
      intro b
      cases b with
      | nil => rfl
      | cons y b => exact (decide_eq_false (by simp)).symm
    | cons x a ih =>
      intro b
      cases b with
      | nil => exact (decide_eq_false (by simp)).symm
      | cons y b =>
        show ((x == y) && PyData.eqvAll (a.map .int) (b.map .int)) = _
        rw [ih b, Bool.eq_iff_iff]
        simp
  exact key
theorem shaped_ints (a : List Int) : SeqAt.shaped (dInts a) = true := by
  have key : ∀ a : List Int, PyData.canLayAll0 (a.map .int) = true ∧ PyData.depthAll (a.map .int) = 0 := by
    intro a
    induction a with
    | nil => exact ⟨rfl, rfl⟩
    | cons x a ih =>
      refine ⟨?_, ?_⟩
      · show (PyData.canLay0 (.int x) && PyData.canLayAll0 (a.map .int)) = true
        rw [ih.1]
        rfl
      · show max (PyData.depth (.int x)) (PyData.depthAll (a.map .int)) = 0
        rw [ih.2]
        rfl
  refine Bool.and_eq_true_iff.mpr ⟨(key a).1, decide_eq_true ?_⟩
  show PyData.depthAll (a.map .int) + 1 ≤ 64
  rw [(key a).2]
  decide
section
variable {K : PySem.W.Frag} {H : Hp} {p q : Addr} {a b : List Int} {Q : VK}
theorem eq_ints (hp : SqL K H p (a.map V.int)) (hq : SqL K H q (b.map V.int)) (h : Q (.bl (decide (a = b))) H) : rEqD K (.ref p) (.ref q) H Q :=
  ⟨dInts a, dInts b, dp_ints hp, dp_ints hq, shaped_ints a, shaped_ints b, by rw [eqv_ints]; exact h⟩
theorem ne_ints (hp : SqL K H p (a.map V.int)) (hq : SqL K H q (b.map V.int)) (h : Q (.bl (!decide (a = b))) H) : rNeD K (.ref p) (.ref q) H Q :=
  ⟨dInts a, dInts b, dp_ints hp, dp_ints hq, shaped_ints a, shaped_ints b, by rw [eqv_ints]; exact h⟩
end
end Vf

/-! list(zip(xs, ys)): a new list of new tuples. -/
namespace Vf
open PySem PySem.Spec PyProof.Rows L2
section
variable {X : Cx}
/-- the zip's own cells -/
structure ZAt (h : Heap) (z TI TO i1 i2 l1 l2 : Addr) (i : Nat) : Prop where
  ti : IsPair h TI (.ref i1) (.ref i2)
  it1 : h.IsListIter i1 l1 i
  it2 : h.IsListIter i2 l2 i
  to : ∃ o, h.get? TO = some o
  st : (i = 0 ∧ IsZip h z TI TO .none ∧ ∃ a b, IsPair h TO a b) ∨ ∃ T f oT, IsZipHeld h z TI TO T f ∧ h.get? T = some oT ∧ T ≠ z ∧ T ≠ i1 ∧ T ≠ i2
theorem ZAt.on {h h' : Heap} {z TI TO i1 i2 l1 l2 S : Addr} {i : Nat} (Z : ZAt h z TI TO i1 i2 l1 l2 i) (hS : S ≠ z ∧ S ≠ TI ∧ S ≠ TO ∧ S ≠ i1 ∧ S ≠ i2) (e : ∀ b o, b ≠ S → h.get? b = some o → h'.get? b = some o) (hs : ∃ o, h'.get? S = some o) : ZAt h' z TI TO i1 i2 l1 l2 i := by
  obtain ⟨a, ⟨o1, b1, b2⟩, ⟨o2, c1, c2⟩, ⟨o3, t1⟩, d⟩ := Z
  refine ⟨e _ _ hS.2.1.symm a, ⟨o1, e _ _ hS.2.2.2.1.symm b1, b2⟩, ⟨o2, e _ _ hS.2.2.2.2.symm c1, c2⟩, ⟨o3, e _ _ hS.2.2.1.symm t1⟩, ?_⟩
  rcases d with ⟨d1, d2, x, y, d3⟩ | ⟨T, f, oT, d1, d2, d3, d4, d5⟩
  · exact .inl ⟨d1, e _ _ hS.1.symm d2, x, y, e _ _ hS.2.2.1.symm d3⟩
  · by_cases c : T = S
    · obtain ⟨o, hs⟩ := hs
      exact .inr ⟨T, f, o, e _ _ hS.1.symm d1, by rw [c]; exact hs, d3, d4, d5⟩
    · exact .inr ⟨T, f, oT, e _ _ hS.1.symm d1, e _ _ c d2, d3, d4, d5⟩
/-- one more pair drawn -/
theorem zip_draw {P : Program} {w : World} {A : Around} {E : Value → Shared → Prop} {s : Shared} {z TI TO i1 i2 l1 l2 : Addr} {i : Nat} {xs ys : Array Value} {x y : Value} {Q : Option Value → Shared → Prop} (ap : ZipApart z TI TO i1 i2 l1 l2)
    (Z : ZAt s.heap z TI TO i1 i2 l1 l2 i) (h1 : s.heap.IsList l1 xs) (h2 : s.heap.IsList l2 ys) (hx : xs[i]? = some x) (hy : ys[i]? = some y)
    (h : ∀ h' : Heap, ZAt h' z TI TO i1 i2 l1 l2 (i + 1) → IsPair h' s.heap.objs.size x y → h'.objs.size = s.heap.objs.size + 1 → (∀ (c : Addr) (o : Obj), c ≠ z → c ≠ TO → c ≠ i1 → c ≠ i2 → s.heap.get? c = some o → h'.get? c = some o) →
      Q (some (.ref s.heap.objs.size)) { heap := h', gens := s.gens, drawn := s.drawn, toks := s.toks, os := s.os }) :
    wpAny (model P w) A (pyNext (.ref z)) Q E s := by
  obtain ⟨a, b, c, ⟨o3, t1⟩, d⟩ := Z
  have lz : ∀ {q o}, s.heap.get? q = some o → s.heap.objs.size ≠ q := fun {q o} e z => absurd (Heap.lt_size e) (by rw [← z]; exact Nat.lt_irrefl _)
  obtain ⟨o1, b1, b2⟩ := b
  obtain ⟨o2, c1, c2⟩ := c
  rcases d with ⟨rfl, d2, u, v, d3⟩ | ⟨T, f, oT, d1, d2, d3, d4, d5⟩
  · refine wpAny_pyNext_zip_item ap d2 a d3 ⟨o1, b1, b2⟩ ⟨o2, c1, c2⟩ h1 h2 hx hy fun h' g1 g2 g3 g4 g5 g6 g7 => ?_
    exact h h' ⟨g7 _ _ ap.TIz ap.TITO ap.TIi1 ap.TIi2 a, g3, g4, ⟨_, g2⟩, .inr ⟨_, _, _, g1, g5, lz d2, lz b1, lz c1⟩⟩ g5 g6 g7
  · refine wpAny_pyNext_zip_item_held ap d1 d2 a ⟨o1, b1, b2⟩ ⟨o2, c1, c2⟩ h1 h2 hx hy fun h' g1 g3 g4 g5 g6 g7 => ?_
    exact h h' ⟨g7 _ _ ap.TIz ap.TIi1 ap.TIi2 a, g3, g4, ⟨_, g7 _ _ ap.TOz ap.TOi1 ap.TOi2 t1⟩, .inr ⟨T, _, _, g1, g7 _ _ d3 d4 d5 d2, d3, d4, d5⟩⟩ g5 g6 fun c o e1 _ e3 e4 => g7 c o e1 e3 e4
theorem zip_stop {P : Program} {w : World} {A : Around} {E : Value → Shared → Prop} {s : Shared} {z TI TO i1 i2 l1 l2 : Addr} {i : Nat} {xs ys : Array Value} {Q : Option Value → Shared → Prop} (hh : A.handled = none) (ap : ZipApart z TI TO i1 i2 l1 l2)
    (Z : ZAt s.heap z TI TO i1 i2 l1 l2 i) (h1 : s.heap.IsList l1 xs) (h2 : s.heap.IsList l2 ys) (hx : xs[i]? = none)
    (h : ∀ h' : Heap, (∀ (c : Addr) (o : Obj), c ≠ z → c ≠ TO → c ≠ i1 → c ≠ i2 → s.heap.get? c = some o → h'.get? c = some o) →
      Q none { heap := h', gens := s.gens, drawn := s.drawn, toks := s.toks, os := s.os }) :
    wpAny (model P w) A (pyNext (.ref z)) Q E s := by
  obtain ⟨a, b, c, _, d⟩ := Z
  rcases d with ⟨rfl, d2, u, v, d3⟩ | ⟨T, f, oT, d1, d2, d3, d4, d5⟩
  · exact wpAny_pyNext_zip_end hh ap d2 a d3 b c h1 h2 (.inl hx) h
  · exact wpAny_pyNext_zip_end_held hh ap d1 d2 a b c h1 h2 (.inl hx) fun h' g => h h' fun c o e1 _ e3 e4 => g c o e1 e3 e4
theorem zip_loop {pins : List (Addr × Obj)} {σ : L2.St} {z TI TO i1 i2 l1 l2 S : Addr} {xs ys : List V} {H0 : Hp} (ap : ZipApart z TI TO i1 i2 l1 l2) (hl : xs.length = ys.length) (hx : xs.length ≤ 1000) {A : Around} (hh : A.in1.handled = none)
    (fp : ∀ H s, L2.Inv X pins σ H s → (∀ b ∈ [z, TO, i1, i2], H b = none) → ∀ b ∈ [z, TO, i1, i2], FpOk X pins H b) {R : Result → Shared → Prop}
    (hS : S ≠ z ∧ S ≠ TI ∧ S ≠ TO ∧ S ≠ i1 ∧ S ≠ i2) (hX : ∀ H, (∀ b o, b ≠ S → H0 b = some o → H b = some o) → SqL X.K H l1 xs ∧ SqL X.K H l2 ys)
    (h : ∀ s' H' (ps : List Addr), L2.Inv X pins σ H' s' → (∀ b o, b ≠ S → H0 b = some o → H' b = some o) → H' S = some (.lst (ps.map V.ref)) → ps.length = xs.length →
      (∀ (j : Nat) (p : Addr), ps[j]? = some p → ∃ x y, xs[j]? = some x ∧ ys[j]? = some y ∧ H' p = some (.tup [x, y])) → R (.ok (.ret .none)) s') :
    ∀ (k i : Nat) (s : Shared) (H : Hp) (ps : List Addr), xs.length - i = k → i ≤ xs.length → L2.Inv X pins σ H s → (∀ b o, b ≠ S → H0 b = some o → H b = some o) → H S = some (.lst (ps.map V.ref)) → ps.length = i →
      (∀ (j : Nat) (p : Addr), ps[j]? = some p → ∃ x y, xs[j]? = some x ∧ ys[j]? = some y ∧ H p = some (.tup [x, y])) → (∀ b ∈ [z, TO, i1, i2], H b = none) → ZAt s.heap z TI TO i1 i2 l1 l2 i →
      codeAny (model X.prog X.w) A (Code.builtin "list.extend.loop" { pos := [.ref S, .ref z, .none] }) R s := by
  intro k
  induction k with
  | zero =>
    intro i s H ps hk hi I e hs hp ht hf Z
    obtain ⟨s1, s2⟩ := hX H e
    obtain ⟨its1, r1, p1, _⟩ := I.list s1
    obtain ⟨its2, r2, p2, _⟩ := I.list s2
    have f4 := fp H s I hf
    refine codeAny_builtin F.entry_extend_loop ?_
    rw [Around.under_plain (by rfl) (by rfl)]
    unfold Builtin.«list.extend.loop»
    refine wpAny_bind (zip_stop hh ap Z p1.isList p2.isList ?_ fun h' g => ?_)
    · have := r1.length
      simp
      omega
    · refine wpAny_pure ?_
      have I2 := I.turnedL (h' := h') (t' := s.toks) (ch := [z, TO, i1, i2]) (fun b o hb e => g b o (fun z => hb (by simp [z])) (fun z => hb (by simp [z])) (fun z => hb (by simp [z])) (fun z => hb (by simp [z])) e) f4
      exact h _ H ps I2 e hs (by omega) ht
  | succ k ih =>
    intro i s H ps hk hi I e hs hp ht hf Z
    obtain ⟨s1, s2⟩ := hX H e
    obtain ⟨its1, r1, p1, _⟩ := I.list s1
    obtain ⟨its2, r2, p2, _⟩ := I.list s2
    have f4 := fp H s I hf
    obtain ⟨x, hx⟩ : ∃ x, xs[i]? = some x := ⟨_, List.getElem?_eq_getElem (by omega)⟩
    obtain ⟨y, hy⟩ : ∃ y, ys[i]? = some y := ⟨_, List.getElem?_eq_getElem (by omega)⟩
    have q1 := vals_at r1 i
    have q2 := vals_at r2 i
    rw [hx] at q1
    rw [hy] at q2
    obtain ⟨u, hu, ru⟩ : ∃ u, its1[i]? = some u ∧ RelV x u := by
      cases hu : its1[i]? with
      | none => rw [hu] at q1; exact q1.elim
      | some u => rw [hu] at q1; exact ⟨u, rfl, q1⟩
    obtain ⟨v, hv, rv⟩ : ∃ v, its2[i]? = some v ∧ RelV y v := by
      cases hv : its2[i]? with
      | none => rw [hv] at q2; exact q2.elim
      | some v => rw [hv] at q2; exact ⟨v, rfl, q2⟩
    refine codeAny_builtin F.entry_extend_loop ?_
    rw [Around.under_plain (by rfl) (by rfl)]
    unfold Builtin.«list.extend.loop»
    refine wpAny_bind (zip_draw (x := u) (y := v) ap Z p1.isList p2.isList (by simpa using hu) (by simpa using hv) fun h' Z' hpair hsz g => ?_)
    have nT : H s.heap.objs.size = none := I.fresh
    have I2 := I.turnedNew (h' := h') (t' := s.toks) (ch := [z, TO, i1, i2]) (T := s.heap.objs.size) (ob := .tup [x, y]) (fun b o hb e => g b o (fun z => hb (by simp [z])) (fun z => hb (by simp [z])) (fun z => hb (by simp [z])) (fun z => hb (by simp [z])) e) f4 (Nat.le_refl _)
      ⟨by show 2 ≤ sizeLine; decide, [u, v], .cons ru (.cons rv .nil), ⟨_, hpair, rfl, _, rfl⟩⟩
    have nST : S ≠ s.heap.objs.size := ne_of_none hs nT
    have hs2 : upd H s.heap.objs.size (.tup [x, y]) S = some (.lst (ps.map V.ref)) := by rw [upd_ne nST]; exact hs
    obtain ⟨its, n, rs, hgS, _⟩ := I2.lst hs2
    have hlen := rs.length
    rw [List.length_map] at hlen
    have I3 := I2.lset (ys := (ps ++ [s.heap.objs.size]).map V.ref) (its' := its ++ [.ref s.heap.objs.size]) (f := fun x_1 => x_1.push (.ref s.heap.objs.size)) (t' := s.toks) hs2 hgS (by simp) (by rw [List.map_append]; exact rs.append (.cons rfl .nil)) (by rw [List.length_map, List.length_append]; show ps.length + 1 ≤ _; unfold sizeLine; omega)
    refine wpAny_bind (listUpdate_at hgS rfl ?_ (by unfold sizeLine; simp; omega) (by unfold sizeLine; simp; omega))
    refine wpAny_pure ⟨Code.quiet_builtin _ (by decide +kernel), ?_⟩
    have hT3 : ∀ b o, b ≠ S → upd H s.heap.objs.size (.tup [x, y]) b = some o → upd (upd H s.heap.objs.size (.tup [x, y])) S (.lst ((ps ++ [s.heap.objs.size]).map V.ref)) b = some o := fun b o nb hb => by rw [upd_ne nb]; exact hb
    have up1 : ∀ b o, H b = some o → upd H s.heap.objs.size (.tup [x, y]) b = some o := fun b o hb => by rw [upd_ne (ne_of_none hb nT)]; exact hb
    refine ih (i + 1) _ _ (ps ++ [s.heap.objs.size]) (by omega) (by omega) I3 (fun b o nb hb => hT3 b o nb (up1 b o (e b o nb hb))) upd_same (by rw [List.length_append]; show ps.length + 1 = i + 1; omega) (fun j p hp => ?_) (fun b hb => ?_) (Z'.on hS (fun b o nb hb => ?_) ?_)
    · by_cases c : j < ps.length
      · rw [List.getElem?_append_left c] at hp
        obtain ⟨x', y', h1, h2, h3⟩ := ht j p hp
        have np : p ≠ S := fun z => by rw [z, hs] at h3; cases h3
        exact ⟨x', y', h1, h2, hT3 p _ np (up1 p _ h3)⟩
      · rw [List.getElem?_append_right (by omega)] at hp
        have ej : j - ps.length = 0 := by
          rcases Nat.eq_zero_or_pos (j - ps.length) with z | z
          · exact z
          · rw [List.getElem?_eq_none (by show 1 ≤ _; exact z)] at hp; cases hp
        rw [ej] at hp
        cases hp
        refine ⟨x, y, ?_, ?_, hT3 _ _ nST.symm upd_same⟩
        · rw [show j = i by omega]; exact hx
        · rw [show j = i by omega]; exact hy
    · have nb0 := hf b hb
      have nbS : b ≠ S := fun z => by rw [z, hs] at nb0; cases nb0
      have hbT : b ≠ s.heap.objs.size := by
        obtain ⟨za, ⟨o1, zb, _⟩, ⟨o2, zc, _⟩, ⟨o3, zt⟩, zd⟩ := Z
        have lt : ∀ {q o}, s.heap.get? q = some o → q ≠ s.heap.objs.size := fun {q o} e z => absurd (Heap.lt_size e) (by rw [z]; exact Nat.lt_irrefl _)
        simp only [List.mem_cons, List.not_mem_nil, or_false] at hb
        rcases hb with rfl | rfl | rfl | rfl
        · rcases zd with ⟨_, d2, _⟩ | ⟨T, f, oT, d1, _⟩
          · exact lt d2
          · exact lt d1
        · exact lt zt
        · exact lt zb
        · exact lt zc
      rw [upd_ne nbS, upd_ne hbT]
      exact nb0
    · show (h'.update S _).get? b = some o
      rw [Heap.get?_update_ne _ _ _ _ nb]
      exact hb
    · exact ⟨_, Heap.get?_update_self _ hgS rfl⟩
end
end Vf

/-! list(zip(xs, ys)), the call. -/
namespace Vf
open PySem PySem.Spec PyProof.Rows L2 Evl
theorem zip_no_len : typeLookup (Value.type "zip") (Str.ofString "__len__") = pure none := by kernel_rfl
theorem zip_no_hint : typeLookup (Value.type "zip") (Str.ofString "__length_hint__") = pure none := by kernel_rfl
theorem wp_hint_zip {M : Model} {A : Around} {E : Value → Shared → Prop} {s : Shared} {z : Value} {Q : Bool → Shared → Prop} (hT : s.TypeIs z "zip") (h : Q true s) : wpAny M A (Builtin.List.listLengthHint z) Q E s := by
  unfold Builtin.List.listLengthHint
  refine wpAny_bind (wpAny_specialOf hT zip_no_len ?_)
  dsimp only
  rw [if_neg (by decide), if_neg (by decide)]
  refine wpAny_bind (wpAny_specialOf hT zip_no_hint ?_)
  exact wpAny_pure h
theorem ext_zip {P : Program} {w : World} {A : Around} {s : Shared} {R : Result → Shared → Prop} {z TI TO S : Addr} (hz : IsZip s.heap z TI TO .none) (hS : s.heap.get? S = some { cls := .type "list", data := .seq #[] }) (hne : S ≠ z)
    (h : codeAny (model P w) A (Code.builtin "list.extend.loop" { pos := [.ref S, .ref z, .none] }) R { s with heap := (s.heap.update S (Obj.mapSeq fun x => x.push .none)).update S (Obj.mapSeq fun x => x.pop) }) :
    wpAny (model P w) A.in1 (Builtin.List.listExtendWith (.ref S) (.ref z) .none)
      (fun fin s' => match fin with
        | .done f => R (.ok f) s'
        | .again c' => c'.quiet = true ∧ codeAny (model P w) A c' R s')
      (fun e s' => R (.error e) s') s := by
  have hT2 : Shared.TypeIs s (.ref z) "zip" := ⟨_, hz, rfl⟩
  have k7 : Builtin.List.listSameRef (.ref S) (.ref z) = false := by
    unfold Builtin.List.listSameRef
    simp [hne]
  unfold Builtin.List.listExtendWith
  generalize hPI : pyIter = PI
  generalize hLT : Builtin.List.listTouch = LT
  generalize hLH : Builtin.List.listLengthHint = LH
  wp_walk
  subst hPI
  refine wpAny_pyIter_zip hz ?_
  wp_walk
  subst hLH
  refine wp_hint_zip hT2 ?_
  wp_walk
  subst hLT
  unfold Builtin.List.listTouch
  refine wpAny_bind (listUpdate_at hS rfl ?_ (by decide) (by decide))
  refine listUpdate_at (Heap.get?_update_self _ hS rfl) rfl ?_ (by decide) (by decide)
  exact wpAny_pure ⟨Code.quiet_builtin _ (by decide +kernel), h⟩
theorem li_kind : builtinKind "list.__init__" = some .slot := by kernel_rfl
theorem li_split : splitId "list.__init__" = some ("list", "__init__") := by kernel_rfl
theorem check_list_init_1 {M : Model} {A : Around} {E : Value → Shared → Prop} {s : Shared} {self a : Value} {Q : Unit → Shared → Prop} (hT : s.TypeIs self "list") (h : Q () s) : wpAny M A (checkBuiltinCall "list.__init__" { pos := [self, a] }) Q E s := by
  have k := F.args_list_init_2 self a
  unfold argsOk at k
  unfold checkBuiltinCall
  rw [li_kind, li_split]
  dsimp only
  have ks : isSubtype (.type "list") (.type "list") = pure true := F.called_list.sub
  repeat (any_goals (first | assumption | wp_step))
section
variable {X : Cx}
theorem zip_run {pins : List (Addr × Obj)} {σ : L2.St} {z TI TO i1 i2 l1 l2 : Addr} {xs ys : List V} {H : Hp} {s : Shared} {R : Result → Shared → Prop} (ap : ZipApart z TI TO i1 i2 l1 l2) (hl : xs.length = ys.length) (hx : xs.length ≤ 1000) {A : Around} (hh : A.in1.handled = none)
    (I : L2.Inv X pins σ H s) (fp : ∀ b ∈ [z, TO, i1, i2], FpOk X pins H b) (Z : ZAt s.heap z TI TO i1 i2 l1 l2 0) (hz : IsZip s.heap z TI TO .none) (s1 : SqL X.K H l1 xs) (s2 : SqL X.K H l2 ys)
    (h : ∀ (s' : Shared) (H' : Hp) (ps : List Addr), L2.Inv X pins σ H' s' → (∀ b o, b ≠ s.heap.objs.size → H b = some o → H' b = some o) → H' s.heap.objs.size = some (.lst (ps.map V.ref)) → ps.length = xs.length →
      (∀ (j : Nat) (p : Addr), ps[j]? = some p → ∃ x y, xs[j]? = some x ∧ ys[j]? = some y ∧ H' p = some (.tup [x, y])) → R (.ok (.ret .none)) s') :
    codeAny (model X.prog X.w) A (Code.builtin "list.extend.loop" { pos := [.ref s.heap.objs.size, .ref z, .none] }) R
      { s with heap := (((s.heap.push { cls := .type "list", data := .seq #[] }).update s.heap.objs.size (Obj.mapSeq fun x => #[])).update s.heap.objs.size (Obj.mapSeq fun x => x.push .none)).update s.heap.objs.size (Obj.mapSeq fun x => x.pop) } := by
  have hS : (s.heap.push { cls := .type "list", data := .seq #[] }).get? s.heap.objs.size = some { cls := .type "list", data := .seq #[] } := Heap.get?_push_size _ rfl
  have g1 : ((s.heap.push { cls := .type "list", data := .seq #[] }).update s.heap.objs.size (Obj.mapSeq fun x => #[])).get? s.heap.objs.size = some { cls := .type "list", data := .seq #[] } := Heap.get?_update_self _ hS rfl
  have nS : H s.heap.objs.size = none := I.fresh
  have lt : ∀ {q o}, s.heap.get? q = some o → s.heap.objs.size ≠ q := fun {q o} e z => absurd (Heap.lt_size e) (by rw [← z]; exact Nat.lt_irrefl _)
  obtain ⟨o1, zb, _⟩ := Z.it1
  obtain ⟨o2, zc, _⟩ := Z.it2
  obtain ⟨o3, zt⟩ := Z.to
  have hall : s.heap.objs.size ≠ z ∧ s.heap.objs.size ≠ TI ∧ s.heap.objs.size ≠ TO ∧ s.heap.objs.size ≠ i1 ∧ s.heap.objs.size ≠ i2 := ⟨lt hz, lt Z.ti, lt zt, lt zb, lt zc⟩
  have I1 := I.lnew (ys := []) (its := []) (t' := s.toks) .nil (Nat.zero_le _)
  have I2 := I1.lset (ys := []) (its' := []) (f := fun x => #[]) (t' := s.toks) upd_same hS rfl .nil (Nat.zero_le _)
  have I3 := I2.lset (ys := [.non]) (its' := [.none]) (f := fun x => x.push .none) (t' := s.toks) upd_same g1 rfl (.cons rfl .nil) (by decide)
  have g3 := Heap.get?_update_self (Obj.mapSeq fun x => x.push .none) g1 rfl
  have I4 := I3.lset (ys := []) (its' := []) (f := fun x => x.pop) (t' := s.toks) upd_same g3 rfl .nil (Nat.zero_le _)
  have Z4 : ZAt ((((s.heap.push { cls := .type "list", data := .seq #[] }).update s.heap.objs.size (Obj.mapSeq fun x => #[])).update s.heap.objs.size (Obj.mapSeq fun x => x.push .none)).update s.heap.objs.size (Obj.mapSeq fun x => x.pop)) z TI TO i1 i2 l1 l2 0 := by
    refine Z.on hall (fun b o nb hb => ?_) ⟨_, Heap.get?_update_self _ g3 rfl⟩
    rw [Heap.get?_update_ne _ _ _ _ nb, Heap.get?_update_ne _ _ _ _ nb, Heap.get?_update_ne _ _ _ _ nb]
    exact Heap.get?_push_of_some _ hb
  have hE : ∀ b (o : HO), b ≠ s.heap.objs.size → H b = some o → upd (upd (upd (upd H s.heap.objs.size (HO.lst [])) s.heap.objs.size (HO.lst [])) s.heap.objs.size (HO.lst [V.non])) s.heap.objs.size (HO.lst []) b = some o := fun b o nb hb => by
    rw [upd_ne nb, upd_ne nb, upd_ne nb, upd_ne nb]
    exact hb
  have hf : ∀ b ∈ [z, TO, i1, i2], upd (upd (upd (upd H s.heap.objs.size (HO.lst [])) s.heap.objs.size (HO.lst [])) s.heap.objs.size (HO.lst [V.non])) s.heap.objs.size (HO.lst []) b = none := fun b hb => by
    have nb : b ≠ s.heap.objs.size := by
      simp only [List.mem_cons, List.not_mem_nil, or_false] at hb
      rcases hb with rfl | rfl | rfl | rfl
      · exact hall.1.symm
      · exact hall.2.2.1.symm
      · exact hall.2.2.2.1.symm
      · exact hall.2.2.2.2.symm
    rw [upd_ne nb, upd_ne nb, upd_ne nb, upd_ne nb]
    exact (fp b hb).1
  have hup : upd (upd (upd (upd H s.heap.objs.size (HO.lst [])) s.heap.objs.size (HO.lst [])) s.heap.objs.size (HO.lst [V.non])) s.heap.objs.size (HO.lst []) s.heap.objs.size = some (HO.lst []) := upd_same
  generalize upd (upd (upd (upd H s.heap.objs.size (HO.lst [])) s.heap.objs.size (HO.lst [])) s.heap.objs.size (HO.lst [V.non])) s.heap.objs.size (HO.lst []) = H4 at I4 hE hf hup
  exact zip_loop (X := X) (pins := pins) (σ := σ) (H0 := H) (S := s.heap.objs.size) (xs := xs) (ys := ys) ap hl hx hh (fun H s _ hf b hb => ⟨hf b hb, (fp b hb).2⟩) hall (fun H2 e => ⟨ex_l (fun b o hb => e b o (ne_of_none hb nS) hb) s1, ex_l (fun b o hb => e b o (ne_of_none hb nS) hb) s2⟩) h
    xs.length 0 _ H4 [] (by omega) (Nat.zero_le _) I4 hE hup rfl (fun j p hp => nomatch hp) hf Z4
theorem call_list_zip {pins : List (Addr × Obj)} {σ : L2.St} {z TI TO i1 i2 l1 l2 : Addr} {xs ys : List V} {H : Hp} {s : Shared} {Q : Value → Shared → Prop} {E : Value → Shared → Prop} (ap : ZipApart z TI TO i1 i2 l1 l2) (hl : xs.length = ys.length) (hx : xs.length ≤ 1000) {A : Around} (hh : A.handled = none)
    (I : L2.Inv X pins σ H s) (fp : ∀ b ∈ [z, TO, i1, i2], FpOk X pins H b) (Z : ZAt s.heap z TI TO i1 i2 l1 l2 0) (hz : IsZip s.heap z TI TO .none) (s1 : SqL X.K H l1 xs) (s2 : SqL X.K H l2 ys)
    (h : ∀ (s' : Shared) (H' : Hp) (S : Addr) (ps : List Addr), L2.Inv X pins σ H' s' → Ex H H' → H S = none → H' S = some (.lst (ps.map V.ref)) → ps.length = xs.length →
      (∀ (j : Nat) (p : Addr), ps[j]? = some p → ∃ x y, xs[j]? = some x ∧ ys[j]? = some y ∧ H' p = some (.tup [x, y])) → Q (.ref S) s') :
    wpAny (model X.prog X.w) A (call (.type "list") [.ref z]) Q E s := by
  obtain ⟨c, tl, hmro⟩ := F.called_list.mro
  have hmade := F.called_list.made
  have hsub := F.called_list.sub
  refine wpAny_call (codeAny_of_tree ?_)
  show wpAny _ _ (callAny (.type "list") _) _ _ _
  refine wpAny_pure ⟨Code.quiet_builtin _ (by decide +kernel), codeAny_builtin F.entry_type_call ?_⟩
  rw [Around.under_plain (weight_type_call_type "list" [.ref z] []) rfl]
  have k1 := F.called_list.notType
  have k2 := F.called_list.canCreate
  have k3 := F.typeCall_list_1 (.ref z)
  repeat (any_goals (first | assumption | wp_step))
  refine codeAny_mono (code_list_new (.ref z) (E := E) (Q₁ := fun obj s₁ => obj = .ref s.heap.objs.size ∧ s₁ = { s with heap := s.heap.push { cls := .type "list", data := .seq #[] } }) ⟨rfl, rfl⟩) ?_
  intro r s₁ hr
  cases r with
  | error e => exact hr
  | ok fl =>
    cases fl with
    | ret obj =>
      obtain ⟨rfl, rfl⟩ := hr
      have hS : (s.heap.push { cls := .type "list", data := .seq #[] }).get? s.heap.objs.size = some { cls := .type "list", data := .seq #[] } := Heap.get?_push_size _ rfl
      have hT : Shared.TypeIs { s with heap := s.heap.push { cls := .type "list", data := .seq #[] } } (.ref s.heap.objs.size) "list" := ⟨_, hS, rfl⟩
      have k4 := F.called_list.init.lookup
      have k5 := F.called_list.init.bind (.ref s.heap.objs.size)
      repeat (any_goals (first | assumption | wp_step))
      let G : Value → Shared → Prop := fun r s₂ => r = .none ∧ ∃ (H' : Hp) (ps : List Addr), L2.Inv X pins σ H' s₂ ∧ (∀ b o, b ≠ s.heap.objs.size → H b = some o → H' b = some o) ∧ H' s.heap.objs.size = some (.lst (ps.map V.ref)) ∧ ps.length = xs.length ∧
        (∀ (j : Nat) (p : Addr), ps[j]? = some p → ∃ x y, xs[j]? = some x ∧ ys[j]? = some y ∧ H' p = some (.tup [x, y]))
      refine codeAny_mono (codeAny_call_builtin (R := wants G E) F.called_list.init.plain F.entry_list_init (check_list_init_1 hT ?_)) ?_
      · have hne : s.heap.objs.size ≠ z := fun e => absurd (Heap.lt_size hz) (by rw [e]; exact Nat.lt_irrefl _)
        have hz2 : IsZip (s.heap.push { cls := .type "list", data := .seq #[] }) z TI TO .none := Heap.get?_push_of_some _ hz
        unfold Builtin.«list.__init__»
        generalize hEW : Builtin.List.listExtendWith = EW
        wp_walk
        subst hEW
        have g1 : ((s.heap.push { cls := .type "list", data := .seq #[] }).update s.heap.objs.size (Obj.mapSeq fun x => #[])).get? s.heap.objs.size = some { cls := .type "list", data := .seq #[] } := Heap.get?_update_self _ hS rfl
        have g2 : IsZip ((s.heap.push { cls := .type "list", data := .seq #[] }).update s.heap.objs.size (Obj.mapSeq fun x => #[])) z TI TO .none := by
          show Heap.get? _ _ = _
          rw [Heap.get?_update_ne _ _ _ _ hne.symm]
          exact hz2
        refine ext_zip g2 g1 hne ?_
        exact zip_run ap hl hx (by simp [hh]) I fp Z hz s1 s2 fun s' H' ps J e hp hlen ht => ⟨rfl, H', ps, J, e, hp, hlen, ht⟩
      · intro r₂ s₂ hr₂
        cases r₂ with
        | error e => exact hr₂
        | ok fl₂ =>
          cases fl₂ with
          | ret r =>
            obtain ⟨rfl, H', ps, J, e, hp, hlen, ht⟩ := hr₂
            have nS : H s.heap.objs.size = none := I.fresh
            repeat (any_goals (first | assumption | wp_step))
            exact h _ H' _ ps J (fun b o hb => e b o (ne_of_none hb nS) hb) nS hp hlen ht
          | _ => exact hr₂.elim
    | _ => exact hr.elim
end
end Vf

/-! list(zip(xs, ys)), the rule; sums of bools. -/
namespace Vf
open PySem PySem.Spec PyProof.Rows L2 Evl
section
variable {X : Cx} {K : PySem.W.Frag}
def tLstZip (K : PySem.W.Frag) (ta : TA) : TE := fun σ H Q => ta σ H fun vs H1 => ∃ (a b : Addr) (xs ys : List V), vs = [.ref a, .ref b] ∧ SqL K H1 a xs ∧ SqL K H1 b ys ∧ xs.length = ys.length ∧ xs.length ≤ 1000 ∧
  ∀ (l : Addr) (ps : List Addr) (H2 : Hp), H1 l = none → Ex H1 H2 → H2 l = some (.lst (ps.map V.ref)) → ps.length = xs.length → (∀ (j : Nat) (p : Addr), ps[j]? = some p → ∃ x y, xs[j]? = some x ∧ ys[j]? = some y ∧ H2 p = some (.tup [x, y])) → Q (.ref l) H2
theorem pe_listZip {e e2 : Expr} {ta : TA} {p p2 pos pos2 : Pos} (hK : X.K = K) (hc : X.calm = true) (hg : Gl X "list") (hm : X.mg "list" = none) (hg2 : Gl X "zip") (hm2 : X.mg "zip" = none) (he : PA X [e, e2] ta)
    (hs : starEach [e, e2] X.env = (false, eval e X.env) :: starEach [e2] X.env := by rfl) (hs2 : ((backTo pos2 (starEach [e2] X.env)).any fun x => x.fst) = false := by rfl)
    (hs3 : starEach [Expr.Call (.Name "zip" p2) [e, e2] [] pos2] X.env = [(false, eval (.Call (.Name "zip" p2) [e, e2] [] pos2) X.env)] := by rfl) :
    PE X (.Call (.Name "list" p) [.Call (.Name "zip" p2) [e, e2] [] pos2] [] pos) (tLstZip K ta) := by
  subst hK
  refine ⟨fun pins s σ H Q I h => Call_Name1 (ld_blt I hg hm (u := .type "list") (by decide +kernel) (PySem.callWith_type1 ?_) (by decide) (by decide)) hs3⟩
  refine Call_Name rfl (ld_blt I hg2 hm2 (u := .type "zip") (by decide +kernel) (PyProof.Rows.callWith_type1 ?_ hs hs2) (by decide) (by decide))
  refine thn (he.run pos2 pins s σ H _ I h) fun us s2 ⟨vs, H1, I1, rv, a, b, xs, ys, hvs, s1, s2', hl, hx, k⟩ => ?_
  subst hvs
  obtain ⟨its1, r1, p1, _⟩ := I1.list s1
  obtain ⟨its2, r2, p2, _⟩ := I1.list s2'
  have hus : us = [.ref a, .ref b] := by
    cases rv with
    | cons h1 t =>
      cases t with
      | cons h2 t =>
        cases t
        rw [show _ = Value.ref a from h1, show _ = Value.ref b from h2]
  rw [hus]
  refine call_zip_2 p1.isList p2.isList fun h' g1 g2 g3 g4 g5 g6 g7 => ?_
  have I2 := I1.kept (h' := h') (t' := s2.toks) g7
  have nn : ∀ q, s2.heap.objs.size ≤ q → H1 q = none := fun q hq => I1.hok.fresh hq
  have fo : ∀ q, s2.heap.objs.size ≤ q → FpOk X pins H1 q := fun q hq => I1.fpOk hq (nn q hq)
  have L1 : a < s2.heap.objs.size := p1.lt
  have L2' : b < s2.heap.objs.size := p2.lt
  refine call_list_zip (zipApart_new L1 L2') hl hx (I.ok.hd hc) I2 (fun q hq => ?_) ⟨g2, g4, g5, ⟨_, g3⟩, .inl ⟨rfl, g1, _, _, g3⟩⟩ g1 s1 s2' (fun s' H' S ps J e nS hp hlen ht => ⟨.ref S, H', J, rfl, k S ps H' nS e hp hlen ht⟩)
  simp only [List.mem_cons, List.not_mem_nil, or_false] at hq
  rcases hq with rfl | rfl | rfl | rfl
  · exact fo _ (Nat.le_add_right _ _)
  · exact fo _ (Nat.le_add_right _ _)
  · exact fo _ (Nat.le_refl _)
  · exact fo _ (Nat.le_add_right _ _)
def bcnt (bs : List Bool) : Int := (bs.filter id).length
def rSumB (K : PySem.W.Frag) : List V → Hp → VK → Prop := fun vs H Q => ∃ (a : Addr) (bs : List Bool), vs = [.ref a] ∧ SqL K H a (bs.map V.bl) ∧ Q (.int (bcnt bs)) H
theorem pre_cnt (bs : List Bool) : ∀ n, n ≤ bs.length → preSum (fun i => if bs.getD i false = true then 1 else 0) n = bcnt (bs.take n) := by
  intro n
  induction n with
  | zero => intro _; rfl
  | succ n ih =>
    intro hn
    have hx : bs[n]? = some bs[n] := List.getElem?_eq_getElem (by omega)
    have e : preSum (fun i => if bs.getD i false = true then (1 : Int) else 0) (n + 1) = preSum (fun i => if bs.getD i false = true then 1 else 0) n + if bs.getD n false = true then 1 else 0 := rfl
    rw [e, ih (by omega), take_snoc hx, List.getD_eq_getElem?_getD, hx]
    unfold bcnt
    rw [List.filter_append, List.length_append]
    cases bs[n] <;> simp
theorem cr_sumB (hc : X.calm = true) (hK : X.K = K) : CallR X (.builtin "sum") (rSumB K) := by
  subst hK
  intro pins s σ H xs us Q I r h
  obtain ⟨a, bs, rfl, hs, q⟩ := h
  obtain ⟨its, rv, pl, _⟩ := I.list hs
  rw [Vals.ref1 r]
  have hlen := rv.length
  rw [List.length_map] at hlen
  refine call_sum_walkAnyB (wpAny_pyIter_list pl.isList ?_)
  have hls : a < s.heap.objs.size := pl.lt
  refine ⟨_, _, _, _, _, _, _, fun i => if bs.getD i false = true then 1 else 0, rfl, (Walks.list (by simp [I.ok.hd hc]) _ a (Nat.ne_of_lt hls) its.toArray).toS, ⟨⟨_, Heap.get?_push_size _ rfl, rfl, rfl⟩, pl.isList.push _⟩, fun b hb => ?_, fun i v hv => ?_, fun s' t' M => ?_⟩
  · show b < (s.heap.push _).objs.size
    rw [Heap.size_push]
    simp only [List.mem_cons, List.not_mem_nil, or_false] at hb
    rcases hb with rfl | rfl
    · exact Nat.lt_succ_self _
    · exact Nat.lt_succ_of_lt hls
  · have z := vals_at rv i
    have hv : its[i]? = some v := by simpa using hv
    rw [hv] at z
    have hi : i < bs.length := by
      rw [hlen]
      exact (List.getElem?_eq_some_iff.mp hv).1
    have hx : bs[i]? = some bs[i] := List.getElem?_eq_getElem hi
    rw [List.getElem?_map, hx] at z
    refine .inr ⟨bs[i], z, ?_⟩
    show (if bs.getD i false = true then (1 : Int) else 0) = _
    rw [List.getD_eq_getElem?_getD, hx]
    rfl
  · obtain ⟨h', g2, d', tk', os'⟩ := s'
    obtain rfl : g2 = s.gens := M.gens
    obtain rfl : d' = s.drawn := M.drawn
    obtain rfl : os' = s.os := M.os
    have e : preSum (fun i => if bs.getD i false = true then (1 : Int) else 0) its.toArray.size = bcnt bs := by
      rw [List.size_toArray, ← hlen, pre_cnt bs _ (Nat.le_refl _), List.take_length]
    rw [e]
    refine ⟨.int (bcnt bs), H, I.kept (fun b u hb => M.heap b u (fun hm => ?_) (Heap.get?_push_of_some _ hb)), ⟨_, rfl⟩, q⟩
    have := Heap.lt_size hb
    rw [List.mem_singleton.mp hm] at this
    exact Nat.lt_irrefl _ this
end
end Vf

/-! {t: v}, t a tuple; xs[i] read where it is changed. -/
namespace Vf
open PySem PySem.Spec PyProof.Rows L2 Evl
section
variable {X : Cx} {K : PySem.W.Frag}
def rGetL (K : PySem.W.Frag) : V → V → Hp → VK → Prop := fun o i H Q => ∃ (p : Addr) (xs : List V) (j : Nat) (v : V), o = .ref p ∧ i = .int (j : Int) ∧ SqL K H p xs ∧ xs[j]? = some v ∧ Q v H
theorem get_listK (hK : X.K = K) : PGet X (rGetL K) := by
  subst hK
  intro pins s σ H o i ov iv Q I ro ri h
  obtain ⟨p, xs, j, v, rfl, rfl, hs, hx, q⟩ := h
  obtain ⟨its, rv, pl, hz⟩ := I.list hs
  cases (show ov = Value.ref p from ro)
  obtain ⟨t, rfl⟩ : ∃ t, iv = Value.int (j : Int) t := ri
  have z := vals_at rv j
  rw [hx] at z
  cases hu : its[j]? with
  | none => rw [hu] at z; exact z.elim
  | some u =>
    rw [hu] at z
    have hj : j < xs.length := (List.getElem?_eq_some_iff.mp hx).1
    refine wpAny_getItem_list pl.isList (by omega) (by unfold sizeLine at hz; omega) (by simpa using hu) ⟨v, H, I, z, q⟩
theorem eval_disp1 (k v : Expr) (env : Env) (pos : Pos) : eval (Expr.Dict [some k] [v] pos) env = (do standAt pos; let d ← subDict (pairTrees [some k] [v] env pos); pure (Value.ref d)) := by
  rw [arm_eval_Dict, ← dictDisplay_pairs _ (by simp [pairTrees]) (by simp [pairTrees])]
  rfl
/-- {t: v}, t a tuple -/
def tDisp1T (tk tv : TE) : TE := fun σ H Q => ∀ p, H p = none → tk σ (upd H p (.dT [])) fun x H1 => tv σ H1 fun y H2 => ∃ (b : Addr) (k : List Key), x = .ref b ∧ H2 b = some (.tup (k.map kV)) ∧ H2 p = some (.dT []) ∧ Q (.ref p) (upd H2 p (.dT [(k, y)]))
theorem pe_disp1T {k v : Expr} {tk tv : TE} {pos : Pos} (hu : X.A.units < cLine) (hk : PE X k tk) (hv : PE X v tv) : PE X (.Dict [some k] [v] pos) (tDisp1T tk tv) := by
  refine ⟨fun pins s σ H Q I h => ?_⟩
  rw [eval_disp1]
  refine wpAny_bind ?_
  wp_step
  refine wpAny_bind (wpAny_subDict_any (pairs := pairTrees [some k] [v] X.env pos) (by show 1 ≤ 15; decide) ?_)
  have nD : H s.heap.objs.size = none := I.fresh
  have hD : (s.heap.push { cls := .type "dict", data := .dict #[] }).get? s.heap.objs.size = some { cls := .type "dict", data := .dict #[] } := Heap.get?_push_size _ rfl
  have nsm : (s.heap.objs.size == sysModules) = false := by
    have := I.big
    exact beq_eq_false_iff_ne.mpr fun z => absurd this (by rw [z]; exact Nat.lt_irrefl _)
  have I1 : L2.Inv X pins σ (upd H s.heap.objs.size (.dT [])) { s with heap := s.heap.push { cls := .type "dict", data := .dict #[] } } :=
    I.laid (t' := s.toks) (fun b u e => Heap.get?_push_of_some _ e) (Nat.le_refl _) ⟨Nat.zero_le _, nsm, [], .nil, _, _, _, hD, ⟨rfl, rfl, rfl⟩, rfl, rfl, .nil⟩
  have T := h s.heap.objs.size nD
  have P2 : PPs X pos [some k] [v] [(tk, tv)] := pps_cons hk hv pps_nil
  refine thn (P2.run pins _ σ _ (fun ps H2 => match ps with | [(x, y)] => ∃ (b : Addr) (k : List Key), x = .ref b ∧ H2 b = some (.tup (k.map kV)) ∧ H2 s.heap.objs.size = some (.dT []) ∧ Q (.ref s.heap.objs.size) (upd H2 s.heap.objs.size (.dT [(k, y)])) | _ => False) I1 T) fun vs s2 ⟨ps, H2, I2, vv, z⟩ => ?_
  · match ps, vv, z with
    | [(x, y)], vv, ⟨b, kk, hx, hb, hp, q⟩ =>
    subst hx
    obtain ⟨u, r, rfl, hu1, hr1⟩ : ∃ u r, vs = [(u, r)] ∧ RelV (.ref b) u ∧ RelV y r := by
      cases vv with
      | cons h1 t =>
        cases t
        exact ⟨_, _, rfl, h1.1, h1.2⟩
    cases (show u = Value.ref b from hu1)
    obtain ⟨_, _, xs, kt, dh⟩ := dt_of I2.hok hp
    have e0 : xs = [] := by cases kt; rfl
    subst e0
    unfold storeAll
    rw [List.forIn_cons]
    refine wpAny_bind (wpAny_bind (wpAny_dictSet_heap (knd := tupleKind (mixKind X.prog X.w)) hu (key_of I2.hok hb) dh (fun h' dh' sb => ?_) (by decide)))
    refine wpAny_pure ?_
    refine wpAny_pure ?_
    refine wpAny_pure ?_
    obtain ⟨o, es, ep, d1, d2, d3, d4, _, d6⟩ := dh'
    have nbD : b ≠ s.heap.objs.size := fun z => by rw [z, hp] at hb; cases hb
    refine ⟨.ref s.heap.objs.size, _, I2.write (h' := h') (x := s.heap.objs.size) (e := s.heap.objs.size) (o := .dT [(kk, y)]) (t' := s2.toks + (tupleKind (mixKind X.prog X.w)).draws kk) (by rw [hp]; trivial) (.inl rfl) (fun q u nq e => ?_) ⟨_, d1⟩ ⟨by show 1 ≤ sizeLine; decide, nsm, [(kk, b, r)], .cons ⟨rfl, ?_, hr1⟩ .nil, o, es, ep, d1, d2, d3, d4, d6⟩, rfl, q⟩
    · exact (sb.2 q nq).trans e
    · show upd H2 s.heap.objs.size _ b = _
      rw [upd_ne nbD]
      exact hb
theorem mt_indexK (h : X.K = K) : MtR X "list.index" (rIndex K) := by subst h; exact mt_index
end
end Vf

/-! Rounds: where the people sit (places), calls, rounds, when all sit as at first. -/
namespace MR
abbrev g0 (l : List Int) (i : Int) : Int := l.getD i.toNat 0
def nxt (n c : Int) : Int := c % n + 1
def stepP (td : Int → Int → Bool) (pl : List Int) (c : Int × Int) : List Int :=
  if td (g0 pl c.1) (g0 pl c.2) = true then pl else (pl.set c.1.toNat (g0 pl c.2)).set c.2.toNat (g0 pl c.1)
def runP (td : Int → Int → Bool) (pl : List Int) (cs : List (Int × Int)) : List Int := cs.foldl (stepP td) pl
def pairsF (n : Int) (cs : List Int) : List (Int × Int) := cs.map fun c => (c, nxt n c)
def tdF (ts : List (Int × Int)) (a b : Int) : Bool := decide ((a, b) ∈ ts ∨ (b, a) ∈ ts)
theorem tdF_sym (ts : List (Int × Int)) (a b : Int) : tdF ts a b = tdF ts b a := by
  unfold tdF
  by_cases h : (a, b) ∈ ts ∨ (b, a) ∈ ts
  · rw [decide_eq_true h, decide_eq_true h.symm]
  · rw [decide_eq_false h, decide_eq_false fun z => h z.symm]
/-! ### lists of so many numbers, each once -/
theorem nodup_len : ∀ (N : Nat) (l : List Nat), l.Nodup → (∀ x ∈ l, x < N) → l.length ≤ N
  | 0, l, _, h => by
    cases l with
    | nil => exact Nat.le_refl _
    | cons x l => exact absurd (h x List.mem_cons_self) (Nat.not_lt_zero _)
  | N + 1, l, nd, h => by
    have e := nodup_len N (l.filter fun x => decide (x ≠ N)) (nd.filter _) fun x hx => by
      have a := List.mem_filter.mp hx
      have b := h x a.1
      have c := of_decide_eq_true a.2
      omega
    have f : l.length ≤ (l.filter fun x => decide (x ≠ N)).length + 1 := by
      clear e h
      induction l with
      | nil => exact Nat.zero_le _
      | cons x l ih =>
        have nd := List.nodup_cons.mp nd
        by_cases c : x = N
        · rw [List.filter_cons_of_neg (by simp [c])]
          have e : l.filter (fun x => decide (x ≠ N)) = l := List.filter_eq_self.mpr fun y hy => decide_eq_true fun e => nd.1 (by rw [c, ← e]; exact hy)
          rw [e]
          exact Nat.le_refl _
        · rw [List.filter_cons_of_pos (by simp [c])]
          have := ih nd.2
          simp only [List.length_cons]
          omega
    omega
theorem nodup_all {N : Nat} {l : List Nat} (nd : l.Nodup) (h : ∀ x ∈ l, x < N) (hl : l.length = N) : ∀ i, i < N → i ∈ l := by
  intro i hi
  refine Decidable.byContradiction fun c => ?_
  have := nodup_len N (i :: l) (List.nodup_cons.mpr ⟨c, nd⟩) fun x hx => by
    rcases List.mem_cons.mp hx with rfl | hx
    · exact hi
    · exact h x hx
  rw [List.length_cons] at this
  omega
/-- a row of the numbers 0 .. N - 1, each once -/
structure Row (N : Nat) (r : List Int) : Prop where
  len : r.length = N
  lo : ∀ x ∈ r, 0 ≤ x ∧ x < N
  nd : r.Nodup
theorem Row.nat {N : Nat} {r : List Int} (h : Row N r) : (r.map Int.toNat).Nodup ∧ ∀ x ∈ r.map Int.toNat, x < N := by
  constructor
  · have nd := h.nd
    have lo := h.lo
    clear h
    induction r with
    | nil => exact List.nodup_nil
    | cons x r ih =>
      have nd := List.nodup_cons.mp nd
      refine List.nodup_cons.mpr ⟨fun z => ?_, ih nd.2 fun y hy => lo y (List.mem_cons_of_mem _ hy)⟩
      obtain ⟨y, hy, e⟩ := List.mem_map.mp z
      have a := lo x List.mem_cons_self
      have b := lo y (List.mem_cons_of_mem _ hy)
      have : y = x := by omega
      exact nd.1 (this ▸ hy)
  · intro x hx
    obtain ⟨y, hy, rfl⟩ := List.mem_map.mp hx
    have := h.lo y hy
    omega
theorem Row.all {N : Nat} {r : List Int} (h : Row N r) {i : Int} (h0 : 0 ≤ i) (h1 : i < N) : i ∈ r := by
  have := nodup_all h.nat.1 h.nat.2 (by rw [List.length_map, h.len]) i.toNat (by omega)
  obtain ⟨y, hy, e⟩ := List.mem_map.mp this
  have := h.lo y hy
  have : y = i := by omega
  exact this ▸ hy
theorem Row.at_ {N : Nat} {r : List Int} (h : Row N r) {i : Nat} (hi : i < N) : ∃ x, r[i]? = some x ∧ 0 ≤ x ∧ x < N := by
  have : i < r.length := by rw [h.len]; exact hi
  exact ⟨_, List.getElem?_eq_getElem this, h.lo _ (List.getElem_mem this)⟩
theorem Row.inj {N : Nat} {r : List Int} (h : Row N r) {i j : Nat} {x : Int} (a : r[i]? = some x) (b : r[j]? = some x) : i = j := by
  obtain ⟨h1, e1⟩ := List.getElem?_eq_some_iff.mp a
  obtain ⟨h2, e2⟩ := List.getElem?_eq_some_iff.mp b
  have z := List.pairwise_iff_getElem.mp (List.nodup_iff_pairwise_ne.mp h.nd)
  refine Decidable.byContradiction fun c => ?_
  rcases Nat.lt_or_gt_of_ne c with d | d
  · exact z i j h1 h2 d (e1.trans e2.symm)
  · exact z j i h2 h1 d (e2.trans e1.symm)
/-! ### turned about -/
def turnS (r f : List Int) (k : Nat) : List Int := (List.range k).foldl (fun f i => f.set (r.getD i 0).toNat (i : Int)) f
def turnF (r : List Int) : List Int := turnS r r r.length
theorem turnS_succ (r f : List Int) (k : Nat) : turnS r f (k + 1) = (turnS r f k).set (r.getD k 0).toNat (k : Int) := by
  unfold turnS
  rw [List.range_succ, List.foldl_append]
  rfl
theorem turnS_len (r f : List Int) : ∀ k, (turnS r f k).length = f.length
  | 0 => rfl
  | k + 1 => by rw [turnS_succ, List.length_set, turnS_len r f k]
theorem turnS_at {N : Nat} {r f : List Int} (h : Row N r) (hf : f.length = N) : ∀ k, k ≤ N → ∀ i x, i < k → r[i]? = some x → (turnS r f k)[x.toNat]? = some (i : Int)
  | 0, _, i, x, hi, _ => absurd hi (Nat.not_lt_zero _)
  | k + 1, hk, i, x, hi, hx => by
    rw [turnS_succ]
    obtain ⟨y, hy, y0, y1⟩ := h.at_ (i := k) (by omega)
    rw [List.getD_eq_getElem?_getD, hy, Option.getD_some]
    have lx := h.lo x (List.mem_of_getElem? hx)
    by_cases c : i = k
    · subst c
      have : x = y := Option.some.inj (hx.symm.trans hy)
      subst this
      rw [List.getElem?_set_self (by rw [turnS_len, hf]; omega)]
    · rw [List.getElem?_set_ne]
      · exact turnS_at h hf k (by omega) i x (by omega) hx
      · intro e
        have : x = y := by omega
        subst this
        exact c (h.inj hx hy)
theorem turn_at {N : Nat} {r : List Int} (h : Row N r) {i : Nat} {x : Int} (hx : r[i]? = some x) : (turnF r)[x.toNat]? = some (i : Int) := by
  have : i < N := by rw [← h.len]; exact (List.getElem?_eq_some_iff.mp hx).1
  unfold turnF
  rw [h.len]
  exact turnS_at h h.len N (Nat.le_refl _) i x this hx
theorem turn_len (r : List Int) : (turnF r).length = r.length := turnS_len r r _
theorem turn_row {N : Nat} {r : List Int} (h : Row N r) : Row N (turnF r) := by
  have key : ∀ j, j < N → ∃ i : Nat, i < N ∧ (turnF r)[j]? = some (i : Int) ∧ r[i]? = some (j : Int) := by
    intro j hj
    obtain ⟨i, hi, e⟩ := List.mem_iff_getElem.mp (h.all (i := (j : Int)) (by omega) (by omega))
    have hr : r[i]? = some (j : Int) := by rw [List.getElem?_eq_getElem hi, e]
    exact ⟨i, by rw [← h.len]; exact hi, turn_at h hr, hr⟩
  refine ⟨by rw [turn_len, h.len], fun x hx => ?_, ?_⟩
  · obtain ⟨j, hj, e⟩ := List.mem_iff_getElem.mp hx
    rw [turn_len, h.len] at hj
    obtain ⟨i, hi, e2, _⟩ := key j hj
    rw [List.getElem?_eq_getElem (by rw [turn_len, h.len]; exact hj), e] at e2
    have := Option.some.inj e2
    omega
  · rw [List.nodup_iff_pairwise_ne, List.pairwise_iff_getElem]
    intro i j hi hj hij e
    rw [turn_len, h.len] at hi hj
    obtain ⟨a, _, a2, a3⟩ := key i hi
    obtain ⟨b, _, b2, b3⟩ := key j hj
    rw [List.getElem?_eq_getElem (by rw [turn_len, h.len]; exact hi)] at a2
    rw [List.getElem?_eq_getElem (by rw [turn_len, h.len]; exact hj)] at b2
    have e1 := Option.some.inj a2
    have e2 := Option.some.inj b2
    have : a = b := by omega
    subst this
    have := Option.some.inj (a3.symm.trans b3)
    omega
theorem turn_turn {N : Nat} {r : List Int} (h : Row N r) : turnF (turnF r) = r := by
  refine List.ext_getElem? fun i => ?_
  by_cases hi : i < N
  · obtain ⟨x, hx, x0, x1⟩ := h.at_ hi
    have := turn_at (turn_row h) (turn_at h hx)
    rw [Int.toNat_natCast] at this
    rw [this, hx]
    exact congrArg some (by omega)
  · rw [List.getElem?_eq_none (by rw [turn_len, turn_len, h.len]; omega), List.getElem?_eq_none (by rw [h.len]; omega)]
/-! ### standings -/
structure Stn (n : Nat) (s : List Int) : Prop where
  len : s.length = n
  lo : ∀ x ∈ s, 1 ≤ x ∧ x ≤ n
  nd : s.Nodup
def plOf (s : List Int) : List Int := turnF (0 :: s)
def stOf (p : List Int) : List Int := (turnF p).tail
/-- places: the seat of each person, at index 0 the number 0 -/
structure Plc (n : Nat) (p : List Int) : Prop where
  row : Row (n + 1) p
  zero : p[0]? = some 0
theorem Stn.row {n : Nat} {s : List Int} (h : Stn n s) : Row (n + 1) (0 :: s) := by
  refine ⟨by rw [List.length_cons, h.len], fun x hx => ?_, List.nodup_cons.mpr ⟨fun z => ?_, h.nd⟩⟩
  · rcases List.mem_cons.mp hx with rfl | hx
    · omega
    · have := h.lo x hx
      omega
  · have := h.lo 0 z
    omega
theorem Stn.plc {n : Nat} {s : List Int} (h : Stn n s) : Plc n (plOf s) := ⟨turn_row h.row, turn_at h.row (i := 0) (x := 0) rfl⟩
theorem cons_tail {l : List Int} (h : l[0]? = some 0) : l = 0 :: l.tail := by
  cases l with
  | nil => cases h
  | cons x l => rw [List.getElem?_cons_zero] at h; rw [Option.some.inj h]; rfl
theorem Plc.turn {n : Nat} {p : List Int} (h : Plc n p) : turnF p = 0 :: stOf p := cons_tail (turn_at h.row h.zero)
theorem Plc.stn {n : Nat} {p : List Int} (h : Plc n p) : Stn n (stOf p) := by
  have r := turn_row h.row
  rw [h.turn] at r
  have nd := List.nodup_cons.mp r.nd
  refine ⟨by have := r.len; rw [List.length_cons] at this; omega, fun x hx => ?_, nd.2⟩
  have a := r.lo x (List.mem_cons_of_mem _ hx)
  have : x ≠ 0 := fun e => nd.1 (e ▸ hx)
  omega
theorem Plc.back {n : Nat} {p : List Int} (h : Plc n p) : plOf (stOf p) = p := by
  unfold plOf
  rw [← h.turn, turn_turn h.row]
theorem Stn.back {n : Nat} {s : List Int} (h : Stn n s) : stOf (plOf s) = s := by
  unfold stOf plOf
  rw [turn_turn h.row]
  rfl
theorem Plc.of {n : Nat} {p : List Int} (h : Plc n p) {i : Int} (h0 : 1 ≤ i) (h1 : i ≤ n) : 1 ≤ g0 p i ∧ g0 p i ≤ n ∧ p[i.toNat]? = some (g0 p i) := by
  obtain ⟨x, hx, x0, x1⟩ := h.row.at_ (i := i.toNat) (by omega)
  have e : g0 p i = x := by unfold g0; rw [List.getD_eq_getElem?_getD, hx]; rfl
  rw [e]
  refine ⟨?_, by omega, hx⟩
  have : x ≠ 0 := fun z => by
    have := h.row.inj (hx.trans (by rw [z])) h.zero
    omega
  omega
theorem Plc.inj {n : Nat} {p : List Int} (h : Plc n p) {i j : Int} (h0 : 1 ≤ i) (h1 : i ≤ n) (j0 : 1 ≤ j) (j1 : j ≤ n) (e : g0 p i = g0 p j) : i = j := by
  have a := (h.of h0 h1).2.2
  have b := (h.of j0 j1).2.2
  rw [e] at a
  have := h.row.inj a b
  omega
/-! ### calls -/
def CallOk (n : Nat) (c : Int × Int) : Prop := (1 ≤ c.1 ∧ c.1 ≤ n) ∧ (1 ≤ c.2 ∧ c.2 ≤ n) ∧ c.1 ≠ c.2
theorem g0_set {l : List Int} {i j : Nat} {v : Int} (hi : i < l.length) : (l.set i v).getD j 0 = if j = i then v else l.getD j 0 := by
  rw [List.getD_eq_getElem?_getD, List.getD_eq_getElem?_getD]
  by_cases c : j = i
  · subst c
    rw [if_pos rfl, List.getElem?_set_self hi]
    rfl
  · rw [if_neg c, List.getElem?_set_ne (fun z => c z.symm)]
theorem plc_ext {n : Nat} {p q : List Int} (hp : p.length = n + 1) (hq : q.length = n + 1) (h : ∀ i : Nat, i ≤ n → p.getD i 0 = q.getD i 0) : p = q := by
  refine List.ext_getElem? fun i => ?_
  by_cases c : i ≤ n
  · have := h i c
    rw [List.getD_eq_getElem?_getD, List.getD_eq_getElem?_getD, List.getElem?_eq_getElem (by omega), List.getElem?_eq_getElem (by omega)] at this
    rw [List.getElem?_eq_getElem (by omega), List.getElem?_eq_getElem (by omega)]
    exact congrArg some this
  · rw [List.getElem?_eq_none (by omega), List.getElem?_eq_none (by omega)]
theorem step_len (td : Int → Int → Bool) (p : List Int) (c : Int × Int) : (stepP td p c).length = p.length := by
  unfold stepP
  split
  · rfl
  · rw [List.length_set, List.length_set]
theorem swap_at {n : Nat} {p : List Int} (hp : p.length = n + 1) {c : Int × Int} (hc : CallOk n c) (i : Nat) :
    ((p.set c.1.toNat (g0 p c.2)).set c.2.toNat (g0 p c.1)).getD i 0 = if i = c.2.toNat then g0 p c.1 else if i = c.1.toNat then g0 p c.2 else p.getD i 0 := by
  obtain ⟨a, b, d⟩ := hc
  rw [g0_set (by rw [List.length_set]; omega), g0_set (by omega)]
theorem step_plc {td : Int → Int → Bool} {n : Nat} {p : List Int} (h : Plc n p) {c : Int × Int} (hc : CallOk n c) : Plc n (stepP td p c) := by
  unfold stepP
  split
  · exact h
  · have sw := swap_at h.row.len hc
    obtain ⟨a, b, d⟩ := hc
    have A := h.of a.1 a.2
    have B := h.of b.1 b.2
    have len : ((p.set c.1.toNat (g0 p c.2)).set c.2.toNat (g0 p c.1)).length = n + 1 := by rw [List.length_set, List.length_set, h.row.len]
    have val : ∀ i : Nat, i ≤ n → ∀ x, ((p.set c.1.toNat (g0 p c.2)).set c.2.toNat (g0 p c.1))[i]? = some x → x = if i = c.2.toNat then g0 p c.1 else if i = c.1.toNat then g0 p c.2 else p.getD i 0 := by
      intro i hi x hx
      rw [← sw i, List.getD_eq_getElem?_getD, hx]
      rfl
    have old : ∀ i : Nat, i ≤ n → p[i]? = some (p.getD i 0) := fun i hi => by
      rw [List.getD_eq_getElem?_getD, List.getElem?_eq_getElem (by rw [h.row.len]; omega)]
      rfl
    refine ⟨⟨len, fun x hx => ?_, ?_⟩, ?_⟩
    · obtain ⟨i, hi, e⟩ := List.mem_iff_getElem.mp hx
      have v := val i (by omega) x (by rw [List.getElem?_eq_getElem hi, e])
      rw [v]
      split
      · omega
      · split
        · omega
        · exact h.row.lo _ (List.mem_of_getElem? (old i (by omega)))
    · rw [List.nodup_iff_pairwise_ne, List.pairwise_iff_getElem]
      intro i j hi hj hij e
      have v := val i (by omega) _ (List.getElem?_eq_getElem hi)
      have u := val j (by omega) _ (List.getElem?_eq_getElem hj)
      rw [e] at v
      have z := v.symm.trans u
      -- where each stood before
      have key : ∀ k : Nat, k ≤ n → (if k = c.2.toNat then g0 p c.1 else if k = c.1.toNat then g0 p c.2 else p.getD k 0) = p.getD (if k = c.2.toNat then c.1.toNat else if k = c.1.toNat then c.2.toNat else k) 0 := by
        intro k hk
        split
        · rfl
        · split
          · rfl
          · rfl
      rw [key i (by omega), key j (by omega)] at z
      have li : i ≤ n := by omega
      have lj : j ≤ n := by omega
      have le3 : ∀ {k : Nat}, k ≤ n → (if k = c.2.toNat then c.1.toNat else if k = c.1.toNat then c.2.toNat else k) ≤ n := by
        intro k hk
        split
        · omega
        · split
          · omega
          · exact hk
      have inj := h.row.inj (i := if i = c.2.toNat then c.1.toNat else if i = c.1.toNat then c.2.toNat else i) (j := if j = c.2.toNat then c.1.toNat else if j = c.1.toNat then c.2.toNat else j) (old _ (le3 li)) ((old _ (le3 lj)).trans (by rw [z]))
      clear z key u v old val sw e le3
      split at inj <;> split at inj <;> (try split at inj) <;> (try split at inj) <;> omega
    · have e := sw 0
      rw [if_neg (by omega), if_neg (by omega)] at e
      have o := old 0 (by omega)
      rw [h.zero] at o
      rw [← Option.some.inj o, List.getD_eq_getElem?_getD, List.getElem?_eq_getElem (by omega)] at e
      rw [List.getElem?_eq_getElem (by omega)]
      exact congrArg some e
/-- a call made twice does nothing -/
theorem step_step {td : Int → Int → Bool} (sym : ∀ a b, td a b = td b a) {n : Nat} {p : List Int} (hp : p.length = n + 1) {c : Int × Int} (hc : CallOk n c) : stepP td (stepP td p c) c = p := by
  by_cases t : td (g0 p c.1) (g0 p c.2) = true
  · have e : stepP td p c = p := by unfold stepP; rw [if_pos t]
    rw [e, e]
  · have e : stepP td p c = (p.set c.1.toNat (g0 p c.2)).set c.2.toNat (g0 p c.1) := by unfold stepP; rw [if_neg t]
    have sw := swap_at hp hc
    have hl : (stepP td p c).length = n + 1 := by rw [step_len, hp]
    have g1 : g0 (stepP td p c) c.1 = g0 p c.2 := by
      rw [e]
      show ((p.set c.1.toNat (g0 p c.2)).set c.2.toNat (g0 p c.1)).getD c.1.toNat 0 = _
      obtain ⟨a, b, d⟩ := hc
      rw [sw, if_neg (by omega), if_pos rfl]
    have g2 : g0 (stepP td p c) c.2 = g0 p c.1 := by
      rw [e]
      show ((p.set c.1.toNat (g0 p c.2)).set c.2.toNat (g0 p c.1)).getD c.2.toNat 0 = _
      rw [sw, if_pos rfl]
    have e2 : stepP td (stepP td p c) c = ((stepP td p c).set c.1.toNat (g0 (stepP td p c) c.2)).set c.2.toNat (g0 (stepP td p c) c.1) := by
      conv => lhs; unfold stepP
      rw [if_neg]
      · show ((stepP td p c).set _ _).set _ _ = _
        rfl
      · show ¬ td (g0 (stepP td p c) c.1) (g0 (stepP td p c) c.2) = true
        rw [g1, g2, sym]
        exact t
    have sw2 := swap_at hl hc
    refine plc_ext (n := n) (by rw [step_len, hl]) hp fun i hi => ?_
    rw [e2, sw2, g1, g2]
    split
    · rename_i z
      rw [z]
    · split
      · rename_i z
        rw [z]
      · rename_i z1 z2
        rw [e, sw, if_neg z1, if_neg z2]
theorem run_plc {td : Int → Int → Bool} {n : Nat} : ∀ {cs : List (Int × Int)} {p : List Int}, Plc n p → (∀ c ∈ cs, CallOk n c) → Plc n (runP td p cs)
  | [], p, h, _ => h
  | c :: cs, p, h, hc => run_plc (cs := cs) (step_plc h (hc c List.mem_cons_self)) fun d hd => hc d (List.mem_cons_of_mem _ hd)
theorem run_append (td : Int → Int → Bool) (p : List Int) (a b : List (Int × Int)) : runP td p (a ++ b) = runP td (runP td p a) b := List.foldl_append
theorem run_back {td : Int → Int → Bool} (sym : ∀ a b, td a b = td b a) {n : Nat} : ∀ {cs : List (Int × Int)} {p : List Int}, Plc n p → (∀ c ∈ cs, CallOk n c) → runP td (runP td p cs) cs.reverse = p
  | [], p, _, _ => rfl
  | c :: cs, p, h, hc => by
    have h1 := step_plc (td := td) h (hc c List.mem_cons_self)
    have ih := run_back sym (cs := cs) h1 fun d hd => hc d (List.mem_cons_of_mem _ hd)
    rw [List.reverse_cons, run_append]
    show stepP td (runP td (runP td (stepP td p c) cs) cs.reverse) c = p
    rw [ih]
    exact step_step sym h.row.len (hc c List.mem_cons_self)
theorem pairs_ok {n : Nat} (hn : 2 ≤ n) {cs : List Int} (h : ∀ c ∈ cs, 1 ≤ c ∧ c ≤ n) : ∀ c ∈ pairsF n cs, CallOk n c := by
  intro c hc
  obtain ⟨x, hx, rfl⟩ := List.mem_map.mp hc
  have a := h x hx
  have b := Int.emod_nonneg x (show (n : Int) ≠ 0 by omega)
  have d := Int.emod_lt_of_pos x (show (0 : Int) < n by omega)
  refine ⟨a, ⟨?_, ?_⟩, ?_⟩
  · show 1 ≤ x % n + 1
    omega
  · show x % n + 1 ≤ n
    omega
  · show x ≠ x % n + 1
    by_cases e : x = n
    · subst e
      rw [Int.emod_self]
      omega
    · rw [Int.emod_eq_of_lt (by omega) (by omega)]
      omega
theorem pairs_rev (n : Int) (cs : List Int) : pairsF n cs.reverse = (pairsF n cs).reverse := List.map_reverse
/-! ### rounds -/
def it (f : List Int → List Int) : Nat → List Int → List Int
  | 0, x => x
  | k + 1, x => it f k (f x)
theorem it_add (f : List Int → List Int) : ∀ (a b : Nat) (x : List Int), it f (a + b) x = it f b (it f a x)
  | 0, b, x => by rw [Nat.zero_add]; rfl
  | a + 1, b, x => by
    rw [Nat.add_right_comm]
    exact it_add f a b (f x)
theorem it_succ (f : List Int → List Int) (k : Nat) (x : List Int) : it f (k + 1) x = f (it f k x) := by
  rw [it_add]
  rfl
theorem it_mul (f : List Int → List Int) {L : Nat} {x : List Int} (h : it f L x = x) : ∀ q, it f (L * q) x = x
  | 0 => rfl
  | q + 1 => by rw [Nat.mul_succ, it_add, it_mul f h q, h]
theorem it_mod (f : List Int → List Int) {L : Nat} {x : List Int} (h : it f L x = x) (k : Nat) : it f (k % L) x = it f k x := by
  conv => rhs; rw [← Nat.div_add_mod k L, it_add, it_mul f h]
def roundP (td : Int → Int → Bool) (cs : List (Int × Int)) (p : List Int) : List Int := runP td p cs
theorem it_plc {td : Int → Int → Bool} {n : Nat} {cs : List (Int × Int)} (hc : ∀ c ∈ cs, CallOk n c) : ∀ (k : Nat) {p : List Int}, Plc n p → Plc n (it (roundP td cs) k p)
  | 0, p, h => h
  | k + 1, p, h => it_plc hc k (p := roundP td cs p) (run_plc h hc)
theorem run_rep (td : Int → Int → Bool) (cs : List (Int × Int)) : ∀ (k : Nat) (p : List Int), runP td p (List.replicate k cs).flatten = it (roundP td cs) k p
  | 0, p => rfl
  | k + 1, p => by
    rw [List.replicate_succ, List.flatten_cons, run_append]
    exact run_rep td cs k _
theorem it_undo {td : Int → Int → Bool} (sym : ∀ a b, td a b = td b a) {n : Nat} {cs : List (Int × Int)} (hc : ∀ c ∈ cs, CallOk n c) : ∀ (k : Nat) {p : List Int}, Plc n p → it (roundP td cs.reverse) k (it (roundP td cs) k p) = p
  | 0, p, _ => rfl
  | k + 1, p, h => by
    rw [it_succ (roundP td cs)]
    show it (roundP td cs.reverse) k (roundP td cs.reverse (roundP td cs (it (roundP td cs) k p))) = p
    have : roundP td cs.reverse (roundP td cs (it (roundP td cs) k p)) = it (roundP td cs) k p := run_back sym (it_plc hc k h) hc
    rw [this]
    exact it_undo sym hc k h
/-- what comes back behind L rounds comes back behind L rounds backwards -/
theorem back_rev {td : Int → Int → Bool} (sym : ∀ a b, td a b = td b a) {n : Nat} {cs : List (Int × Int)} (hc : ∀ c ∈ cs, CallOk n c) {p : List Int} (hp : Plc n p) {L : Nat} (h : it (roundP td cs) L p = p) : it (roundP td cs.reverse) L p = p := by
  have := it_undo (cs := cs) sym hc L hp
  rw [h] at this
  exact this
/-- k rounds backwards are L - k % L rounds forwards -/
theorem rev_mod {td : Int → Int → Bool} (sym : ∀ a b, td a b = td b a) {n : Nat} {cs : List (Int × Int)} (hc : ∀ c ∈ cs, CallOk n c) {p : List Int} (hp : Plc n p) {L : Nat} (hL : 0 < L) (h : it (roundP td cs) L p = p) (k : Nat) {j : Nat} (hj : (j + k) % L = 0) : it (roundP td cs.reverse) k p = it (roundP td cs) j p := by
  have e : it (roundP td cs) (j + k) p = p := by rw [← it_mod _ h, hj]; rfl
  rw [it_add] at e
  have z := it_undo (cs := cs) sym hc k (it_plc (td := td) hc j hp)
  rw [e] at z
  exact z
end MR

namespace MR
/-! ### all sit again as at first -/
theorem not_nodup : ∀ {l : List Nat}, ¬ l.Nodup → ∃ i j : Nat, i < j ∧ j < l.length ∧ l[i]? = l[j]?
  | [], h => absurd List.nodup_nil h
  | x :: l, h => by
    by_cases hx : x ∈ l
    · obtain ⟨j, hj, e⟩ := List.mem_iff_getElem.mp hx
      exact ⟨0, j + 1, by omega, by rw [List.length_cons]; omega, by rw [List.getElem?_cons_zero, List.getElem?_cons_succ, List.getElem?_eq_getElem hj, e]⟩
    · obtain ⟨i, j, h1, h2, e⟩ := not_nodup (l := l) fun z => h (List.nodup_cons.mpr ⟨hx, z⟩)
      exact ⟨i + 1, j + 1, by omega, by rw [List.length_cons]; omega, by rw [List.getElem?_cons_succ, List.getElem?_cons_succ, e]⟩
def code (b : Nat) (l : List Int) : Nat := l.foldl (fun a x => a * b + x.toNat) 0
theorem code_go (b : Nat) : ∀ (l m : List Int) (a c : Nat), l.length = m.length → (∀ x ∈ l, 0 ≤ x ∧ x < b) → (∀ x ∈ m, 0 ≤ x ∧ x < b) → l.foldl (fun a x => a * b + x.toNat) a = m.foldl (fun a x => a * b + x.toNat) c → a = c ∧ l = m
  | [], [], a, c, _, _, _, e => ⟨e, rfl⟩
  | [], _ :: _, _, _, h, _, _, _ => by cases h
  | _ :: _, [], _, _, h, _, _, _ => by cases h
  | x :: l, y :: m, a, c, h, h1, h2, e => by
    obtain ⟨e1, e2⟩ := code_go b l m _ _ (Nat.succ.inj h) (fun z hz => h1 z (List.mem_cons_of_mem _ hz)) (fun z hz => h2 z (List.mem_cons_of_mem _ hz)) e
    have a1 := h1 x List.mem_cons_self
    have a2 := h2 y List.mem_cons_self
    have b1 : x.toNat < b := by omega
    have b2 : y.toNat < b := by omega
    have d1 := congrArg (· / b) e1
    have d2 := congrArg (· % b) e1
    simp only [Nat.mul_add_mod_of_lt b1, Nat.mul_add_mod_of_lt b2, Nat.mul_comm a, Nat.mul_comm c, Nat.mul_add_mod, Nat.mod_eq_of_lt b1, Nat.mod_eq_of_lt b2] at d2
    simp only [Nat.mul_comm a, Nat.mul_comm c, Nat.mul_add_div (show 0 < b by omega), Nat.div_eq_of_lt b1, Nat.div_eq_of_lt b2, Nat.add_zero] at d1
    refine ⟨d1, ?_⟩
    rw [e2, show x = y by omega]
theorem code_lt (b : Nat) : ∀ (l : List Int) (a : Nat), (∀ x ∈ l, 0 ≤ x ∧ x < b) → l.foldl (fun a x => a * b + x.toNat) a < (a + 1) * b ^ l.length
  | [], a, _ => by simp
  | x :: l, a, h => by
    have ih := code_lt b l (a * b + x.toNat) fun z hz => h z (List.mem_cons_of_mem _ hz)
    have hx := h x List.mem_cons_self
    refine Nat.lt_of_lt_of_le ih ?_
    rw [List.length_cons, Nat.pow_succ, Nat.mul_comm (b ^ l.length) b, ← Nat.mul_assoc]
    refine Nat.mul_le_mul_right _ ?_
    rw [Nat.add_mul, Nat.one_mul]
    omega
theorem code_inj {b : Nat} {l m : List Int} (h : l.length = m.length) (h1 : ∀ x ∈ l, 0 ≤ x ∧ x < b) (h2 : ∀ x ∈ m, 0 ≤ x ∧ x < b) (e : code b l = code b m) : l = m := (code_go b l m 0 0 h h1 h2 e).2
section
variable {td : Int → Int → Bool} {n : Nat} {cs : List (Int × Int)}
/-- how soon all sit as at first -/
structure Per (td : Int → Int → Bool) (cs : List (Int × Int)) (p : List Int) (L : Nat) : Prop where
  pos : 0 < L
  back : it (roundP td cs) L p = p
  least : ∀ k, 0 < k → k < L → it (roundP td cs) k p ≠ p
theorem per_of {p : List Int} : ∀ (N : Nat), 0 < N → it (roundP td cs) N p = p → ∃ L, L ≤ N ∧ Per td cs p L := by
  intro N
  induction N using Nat.strongRecOn with
  | ind N ih =>
    intro h0 hb
    by_cases c : ∃ k, 0 < k ∧ k < N ∧ it (roundP td cs) k p = p
    · obtain ⟨k, k0, k1, kb⟩ := c
      obtain ⟨L, hL, P⟩ := ih k k1 k0 kb
      exact ⟨L, by omega, P⟩
    · exact ⟨N, Nat.le_refl _, h0, hb, fun k k0 k1 e => c ⟨k, k0, k1, e⟩⟩
theorem it_cancel (sym : ∀ a b, td a b = td b a) (hc : ∀ c ∈ cs, CallOk n c) {p : List Int} (hp : Plc n p) {i j : Nat} (h : i < j) (e : it (roundP td cs) i p = it (roundP td cs) j p) : it (roundP td cs) (j - i) p = p := by
  have e2 : it (roundP td cs) j p = it (roundP td cs) i (it (roundP td cs) (j - i) p) := by rw [← it_add, show j - i + i = j by omega]
  have u1 := it_undo (cs := cs) sym hc i hp
  have u2 := it_undo (cs := cs) sym hc i (it_plc (td := td) hc (j - i) hp)
  rw [← e2, ← e, u1] at u2
  exact u2.symm
/-- on few seats all sit soon as at first -/
theorem back_soon (sym : ∀ a b, td a b = td b a) (hc : ∀ c ∈ cs, CallOk n c) {p : List Int} (hp : Plc n p) : ∃ L, L ≤ (n + 1) ^ (n + 1) ∧ Per td cs p L := by
  have bound : ∀ k, code (n + 1) (it (roundP td cs) k p) < (n + 1) ^ (n + 1) := fun k => by
    have q := (it_plc (td := td) hc k hp).row
    have := code_lt (n + 1) (it (roundP td cs) k p) 0 q.lo
    rw [q.len] at this
    unfold code
    omega
  have nn : ¬ ((List.range ((n + 1) ^ (n + 1) + 1)).map fun k => code (n + 1) (it (roundP td cs) k p)).Nodup := fun nd => by
    have := nodup_len ((n + 1) ^ (n + 1)) _ nd fun x hx => by
      obtain ⟨k, _, rfl⟩ := List.mem_map.mp hx
      exact bound k
    rw [List.length_map, List.length_range] at this
    omega
  obtain ⟨i, j, hij, hj, e⟩ := not_nodup nn
  rw [List.length_map, List.length_range] at hj
  rw [List.getElem?_map, List.getElem?_map, List.getElem?_range hj, List.getElem?_range (by omega)] at e
  have e := Option.some.inj e
  have q1 := (it_plc (td := td) hc i hp).row
  have q2 := (it_plc (td := td) hc j hp).row
  have e := code_inj (by rw [q1.len, q2.len]) q1.lo q2.lo e
  have b := it_cancel sym hc hp hij e
  obtain ⟨L, hL, P⟩ := per_of (td := td) (cs := cs) (j - i) (by omega) b
  exact ⟨L, by omega, P⟩
theorem Per.dvd {p : List Int} {L : Nat} (P : Per td cs p L) (k : Nat) : it (roundP td cs) k p = p ↔ k % L = 0 := by
  constructor
  · intro h
    rw [← it_mod _ P.back] at h
    exact Decidable.byContradiction fun c => P.least (k % L) (Nat.pos_of_ne_zero c) (Nat.mod_lt _ P.pos) h
  · intro h
    rw [← it_mod _ P.back, h]
    rfl
theorem Per.rev (sym : ∀ a b, td a b = td b a) (hc : ∀ c ∈ cs, CallOk n c) {p : List Int} (hp : Plc n p) {L : Nat} (P : Per td cs p L) : Per td cs.reverse p L := by
  refine ⟨P.pos, back_rev sym hc hp P.back, fun k k0 k1 e => ?_⟩
  have hc' : ∀ c ∈ cs.reverse, CallOk n c := fun c h => hc c (List.mem_reverse.mp h)
  have := back_rev (cs := cs.reverse) sym hc' hp e
  rw [List.reverse_reverse] at this
  exact P.least k k0 k1 this
/-- the rounds as the program counts them: what is left is taken anew whenever all sit as at first -/
theorem left_mod {p : List Int} {k left many : Nat} (h : it (roundP td cs) left (it (roundP td cs) k p) = it (roundP td cs) many p) (b : it (roundP td cs) k p = p) : it (roundP td cs) (left % k) (it (roundP td cs) k p) = it (roundP td cs) many p := by
  rw [b] at h ⊢
  rw [it_mod _ b, h]
end
end MR

/-! Breaks led round the clock: how far, told in two ways (sums over the breaks, sums over the calls). -/
namespace M30
def sumN (m : Nat) (f : Nat → Nat) : Nat := ((List.range m).map f).sum
theorem sumN_zero (f : Nat → Nat) : sumN 0 f = 0 := rfl
theorem sumN_succ (m : Nat) (f : Nat → Nat) : sumN (m + 1) f = sumN m f + f m := by
  unfold sumN
  rw [List.range_succ, List.map_append, List.sum_append]
  simp
theorem sumN_congr {m : Nat} {f g : Nat → Nat} (h : ∀ i, i < m → f i = g i) : sumN m f = sumN m g := by
  unfold sumN
  exact congrArg List.sum (List.map_congr_left fun i hi => h i (List.mem_range.mp hi))
theorem sumN_add (m : Nat) (f g : Nat → Nat) : sumN m (fun i => f i + g i) = sumN m f + sumN m g := by
  induction m with
  | zero => rfl
  | succ m ih => rw [sumN_succ, sumN_succ, sumN_succ, ih]; omega
theorem sumN_const (m : Nat) : sumN m (fun _ => 0) = 0 := by
  induction m with
  | zero => rfl
  | succ m ih => rw [sumN_succ, ih]
theorem sumN_comm (m k : Nat) (f : Nat → Nat → Nat) : sumN m (fun i => sumN k fun j => f i j) = sumN k fun j => sumN m fun i => f i j := by
  induction m with
  | zero => exact (sumN_const k).symm
  | succ m ih =>
    rw [sumN_succ, ih, ← sumN_add]
    exact sumN_congr fun j _ => (sumN_succ m fun i => f i j).symm
theorem sumN_append (m k : Nat) (f : Nat → Nat) : sumN (m + k) f = sumN m f + sumN k fun j => f (m + j) := by
  induction k with
  | zero => rw [Nat.add_zero, sumN_zero, Nat.add_zero]
  | succ k ih => rw [← Nat.add_assoc, sumN_succ, ih, sumN_succ, Nat.add_assoc]
theorem sumN_mul (q n : Nat) (f : Nat → Nat) : sumN (q * n) f = sumN q fun i => sumN n fun r => f (i * n + r) := by
  induction q with
  | zero => rw [Nat.zero_mul]; rfl
  | succ q ih => rw [Nat.succ_mul, sumN_append, ih, sumN_succ]
/-- the other way through -/
theorem sumN_rev (m : Nat) (f : Nat → Nat) : sumN m f = sumN m fun i => f (m - 1 - i) := by
  induction m with
  | zero => rfl
  | succ m ih =>
    rw [sumN_succ, ih, Nat.add_comm m 1, sumN_append, Nat.add_comm]
    congr 1
    · show f m = sumN 1 _
      unfold sumN
      simp
    · exact sumN_congr fun j hj => congrArg f (by omega)
/-! ### two marks on a line -/
def xr (p q : Bool) : Nat := if p = q then 0 else 1
def dst (u v : Nat) : Nat := max u v - min u v
theorem xr_sum (u v : Nat) : ∀ m, u ≤ m → v ≤ m → sumN m (fun j => xr (decide (j < u)) (decide (j < v))) = dst u v := by
  have key : ∀ m, sumN m (fun j => xr (decide (j < u)) (decide (j < v))) = dst (min u m) (min v m) := by
    intro m
    induction m with
    | zero => simp [sumN_zero, dst]
    | succ m ih =>
      rw [sumN_succ, ih]
      unfold xr dst
      by_cases a : m < u <;> by_cases b : m < v <;> simp only [a, b, decide_true, decide_false, if_true, reduceCtorEq, if_false] <;> omega
  intro m hu hv
  rw [key m, Nat.min_eq_left hu, Nat.min_eq_left hv]
theorem xr_le (a b X : Nat) (ha : a ≤ X) (hb : b ≤ X) : sumN X (fun x => xr (decide (a ≤ x)) (decide (b ≤ x))) = dst a b := by
  rw [← xr_sum a b X ha hb]
  refine sumN_congr fun j _ => ?_
  unfold xr
  by_cases c : j < a <;> by_cases d : j < b <;> simp [c, d, Nat.not_le.mpr, Nat.not_lt.mp] <;> omega
/-! ### breaks round the clock -/
/-- breaks, ascending, each from 1 to n -/
structure Brk (n : Nat) (a : List Nat) : Prop where
  lo : ∀ x ∈ a, 1 ≤ x ∧ x ≤ n
  up : a.Pairwise (· < ·)
/-- the j-th break, gone on round the clock -/
def ext (n : Nat) (a : List Nat) (j : Nat) : Nat := a.getD (j % a.length) 0 + n * (j / a.length)
/-- how many are not beyond r -/
def cnt (a : List Nat) (r : Nat) : Nat := (a.filter fun x => decide (x ≤ r)).length
theorem cnt_le (a : List Nat) (r : Nat) : cnt a r ≤ a.length := List.length_filter_le _ _
theorem cnt_at {r : Nat} : ∀ {a : List Nat}, a.Pairwise (· < ·) → ∀ i, i < a.length → (a.getD i 0 ≤ r ↔ i < cnt a r)
  | [], _, i, hi => absurd hi (Nat.not_lt_zero _)
  | x :: a, up, i, hi => by
    have up2 := List.pairwise_cons.mp up
    have c0 : ¬ x ≤ r → cnt a r = 0 := fun h => by
      unfold cnt
      rw [List.filter_eq_nil_iff.mpr fun y hy => by have := up2.1 y hy; simp; omega]
      rfl
    have cc : cnt (x :: a) r = if x ≤ r then cnt a r + 1 else cnt a r := by
      unfold cnt
      by_cases h : x ≤ r
      · rw [List.filter_cons_of_pos (by simpa using h), if_pos h, List.length_cons]
      · rw [List.filter_cons_of_neg (by simpa using h), if_neg h]
    cases i with
    | zero =>
      rw [cc]
      show x ≤ r ↔ _
      by_cases h : x ≤ r
      · rw [if_pos h]
        exact ⟨fun _ => Nat.succ_pos _, fun _ => h⟩
      · rw [if_neg h, c0 h]
        exact ⟨fun z => absurd z h, fun z => absurd z (Nat.lt_irrefl 0)⟩
    | succ i =>
      have ih := cnt_at (r := r) up2.2 i (by simpa using hi)
      rw [List.getD_cons_succ, ih, cc]
      by_cases h : x ≤ r
      · rw [if_pos h]
        omega
      · rw [if_neg h, c0 h]
        omega
theorem ext_le {n : Nat} {a : List Nat} (A : Brk n a) {q r j : Nat} (hd : 0 < a.length) (hr : r < n) : ext n a j ≤ q * n + r ↔ j < cnt a r + q * a.length := by
  have hj := Nat.div_add_mod j a.length
  have hm := Nat.mod_lt j hd
  have cl := cnt_le a r
  have hmem : a.getD (j % a.length) 0 ∈ a := by
    rw [List.getD_eq_getElem?_getD, List.getElem?_eq_getElem hm]
    exact List.getElem_mem hm
  have lo := A.lo _ hmem
  have hc := cnt_at (r := r) A.up (j % a.length) hm
  unfold ext
  generalize hJ : j / a.length = J at hj ⊢
  generalize hM : j % a.length = M at hj hm hc lo ⊢
  generalize hV : a.getD M 0 = v at hc lo ⊢
  generalize hD : a.length = d at hj hm cl hd ⊢
  rcases Nat.lt_trichotomy J q with h | h | h
  · have e1 : n * J + n ≤ q * n := by
      rw [Nat.mul_comm q n, ← Nat.mul_succ]
      exact Nat.mul_le_mul_left n h
    have e2 : d * J + d ≤ q * d := by
      rw [Nat.mul_comm q d, ← Nat.mul_succ]
      exact Nat.mul_le_mul_left d h
    constructor
    · intro _; omega
    · intro _; omega
  · subst h
    rw [Nat.mul_comm J n, Nat.mul_comm J d]
    constructor
    · intro z
      have := hc.mp (by omega)
      omega
    · intro z
      have := hc.mpr (by omega)
      omega
  · have e1 : q * n + n ≤ n * J := by
      rw [Nat.mul_comm q n, ← Nat.mul_succ]
      exact Nat.mul_le_mul_left n h
    have e2 : q * d + d ≤ d * J := by
      rw [Nat.mul_comm q d, ← Nat.mul_succ]
      exact Nat.mul_le_mul_left d h
    constructor
    · intro _; omega
    · intro _; omega
theorem ext_lt {n : Nat} {a : List Nat} (A : Brk n a) {q j : Nat} (hd : 0 < a.length) (hj : j < q * a.length) : ext n a j ≤ q * n := by
  have hm := Nat.mod_lt j hd
  have hmem : a.getD (j % a.length) 0 ∈ a := by
    rw [List.getD_eq_getElem?_getD, List.getElem?_eq_getElem hm]
    exact List.getElem_mem hm
  have lo := A.lo _ hmem
  have h1 : j / a.length < q := (Nat.div_lt_iff_lt_mul hd).mpr hj
  have e1 : n * (j / a.length) + n ≤ q * n := by
    rw [Nat.mul_comm q n, ← Nat.mul_succ]
    exact Nat.mul_le_mul_left n h1
  unfold ext
  omega
/-- the two ways to tell how far the breaks go, T - 2 d places on -/
theorem far_is {n : Nat} {a b : List Nat} (A : Brk n a) (B : Brk n b) (hl : b.length = a.length) (hd : 0 < a.length) {T : Nat} (h1 : a.length ≤ T) (h2 : T ≤ 3 * a.length) :
    sumN a.length (fun i => dst (ext n a (i + 2 * a.length)) (ext n b (i + T))) = sumN n fun r => dst (cnt a r + T) (cnt b r + 2 * a.length) := by
  generalize hD : a.length = d at *
  have s1 : ∀ i, i < d → dst (ext n a (i + 2 * d)) (ext n b (i + T)) = sumN 6 fun q => sumN n fun r => xr (decide (i + 2 * d < cnt a r + q * d)) (decide (i + T < cnt b r + q * d)) := by
    intro i hi
    rw [← xr_le _ _ (6 * n) (Nat.le_trans (ext_lt A (q := 3) (by omega) (by rw [hD]; omega)) (Nat.mul_le_mul_right n (by decide))) (Nat.le_trans (ext_lt B (q := 4) (by omega) (by rw [hl]; omega)) (Nat.mul_le_mul_right n (by decide))), sumN_mul]
    refine sumN_congr fun q _ => sumN_congr fun r hr => ?_
    have x1 := ext_le A (q := q) (j := i + 2 * d) (by omega) hr
    have x2 := ext_le B (q := q) (j := i + T) (by omega) hr
    rw [hD] at x1
    rw [hl] at x2
    rw [decide_eq_decide.mpr x1, decide_eq_decide.mpr x2]
  rw [sumN_congr s1]
  have s2 : sumN d (fun i => sumN 6 fun q => sumN n fun r => xr (decide (i + 2 * d < cnt a r + q * d)) (decide (i + T < cnt b r + q * d))) =
      sumN n fun r => sumN 6 fun q => sumN d fun i => xr (decide (i + 2 * d < cnt a r + q * d)) (decide (i + T < cnt b r + q * d)) := by
    rw [sumN_comm d 6]
    have e : ∀ q, q < 6 → sumN d (fun i => sumN n fun r => xr (decide (i + 2 * d < cnt a r + q * d)) (decide (i + T < cnt b r + q * d))) = sumN n fun r => sumN d fun i => xr (decide (i + 2 * d < cnt a r + q * d)) (decide (i + T < cnt b r + q * d)) := fun q _ => sumN_comm d n _
    rw [sumN_congr e, sumN_comm 6 n]
  rw [s2]
  refine sumN_congr fun r hr => ?_
  have ca := cnt_le a r
  have cb := cnt_le b r
  rw [hD] at ca
  rw [hl] at cb
  have s3 : sumN 6 (fun q => sumN d fun i => xr (decide (i + 2 * d < cnt a r + q * d)) (decide (i + T < cnt b r + q * d))) = sumN (6 * d) fun j => xr (decide (j < cnt a r + 3 * d)) (decide (j < cnt b r + 5 * d - T)) := by
    rw [sumN_rev, sumN_mul]
    refine sumN_congr fun q hq => sumN_congr fun i hi => ?_
    have e1 : (6 - 1 - q) * d = 5 * d - q * d := by rw [Nat.sub_mul]
    have e2 : q * d ≤ 5 * d := Nat.mul_le_mul_right d (by omega)
    rw [e1, decide_eq_decide.mpr (show i + 2 * d < cnt a r + (5 * d - q * d) ↔ q * d + i < cnt a r + 3 * d by omega), decide_eq_decide.mpr (show i + T < cnt b r + (5 * d - q * d) ↔ q * d + i < cnt b r + 5 * d - T by omega)]
  rw [s3, xr_sum _ _ (6 * d) (by omega) (by omega)]
  unfold dst
  omega
end M30

/-! Calls made when they are due: how the breaks are led from one order's to the other's. -/
namespace M30
def b2 (b : Bool) : Int := if b then 1 else 0
def pr (n i : Nat) : Nat := (i + n - 1) % n
def nx (n i : Nat) : Nat := (i + 1) % n
/-- the mark at i and the one ahead of it change places -/
def sw (n i : Nat) (f : Nat → Bool) : Nat → Bool := fun k => if k = i then f (pr n i) else if k = pr n i then f i else f k
def ad (i : Nat) (d : Int) (l : Nat → Int) : Nat → Int := fun k => if k = i then l k + d else l k
def E (n : Nat) (f g : Nat → Bool) (l : Nat → Int) : Prop := ∀ k, k < n → b2 (f k) - b2 (g k) = l (nx n k) - l k
def due (l : Int) (a h : Bool) : Bool := if 0 < l then a && !h else decide (l < 0) && (h && !a)
theorem pr_lt {n i : Nat} (h : i < n) : pr n i < n := Nat.mod_lt _ (by omega)
theorem nx_lt {n i : Nat} (h : i < n) : nx n i < n := Nat.mod_lt _ (by omega)
theorem pr_eq {n i : Nat} (h : i < n) : pr n i = if i = 0 then n - 1 else i - 1 := by
  unfold pr
  split
  · rename_i h0; subst h0; rw [Nat.mod_eq_of_lt (by omega)]; omega
  · rw [show i + n - 1 = (i - 1) + n by omega, Nat.add_mod_right, Nat.mod_eq_of_lt (by omega)]
theorem nx_eq {n i : Nat} (h : i < n) : nx n i = if i + 1 = n then 0 else i + 1 := by
  unfold nx
  split
  · rename_i h0; rw [h0, Nat.mod_self]
  · rw [Nat.mod_eq_of_lt (by omega)]
theorem nx_pr {n i : Nat} (h : i < n) : nx n (pr n i) = i := by
  rw [nx_eq (pr_lt h), pr_eq h]
  split <;> split <;> omega
theorem pr_nx {n i : Nat} (h : i < n) : pr n (nx n i) = i := by
  rw [pr_eq (nx_lt h), nx_eq h]
  split <;> split <;> omega
theorem pr_ne {n i : Nat} (h : i < n) (h2 : 2 ≤ n) : pr n i ≠ i := by
  rw [pr_eq h]; split <;> omega
theorem sw_sw {n i : Nat} (h : i < n) (h2 : 2 ≤ n) (f : Nat → Bool) : sw n i (sw n i f) = f := by
  have := pr_ne h h2
  funext k
  unfold sw
  by_cases c : k = i
  · subst c
    simp [this]
  · by_cases d : k = pr n i
    · subst d
      simp [c]
    · simp [c, d]
theorem E_sw {n i : Nat} {f g : Nat → Bool} {l : Nat → Int} (e : E n f g l) (h : i < n) (h2 : 2 ≤ n) : E n (sw n i f) g (ad i (b2 (f i) - b2 (f (pr n i))) l) := by
  intro k hk
  have e1 := e k hk
  have hp := pr_ne h h2
  have hpl := pr_lt h
  unfold sw ad
  by_cases c : k = i
  · subst c
    have : nx n k ≠ k := fun z => hp (by rw [← z, pr_nx hk]; exact z.symm ▸ rfl)
    simp [this]
    omega
  · by_cases d : k = pr n i
    · subst d
      rw [nx_pr h] at e1 ⊢
      simp [c]
      omega
    · have : nx n k ≠ i := fun z => d (by rw [← z, pr_nx hk])
      simp [c, d, this]
      omega
theorem all_on {n : Nat} {p : Nat → Prop} (k : Nat) (hk : k < n) (h0 : p k) (hs : ∀ i, i < n → p i → p (nx n i)) : ∀ i, i < n → p i := by
  have go : ∀ j, p ((k + j) % n) := by
    intro j
    induction j with
    | zero => rw [Nat.add_zero, Nat.mod_eq_of_lt hk]; exact h0
    | succ j ih =>
      have z := hs _ (Nat.mod_lt _ (by omega)) ih
      unfold nx at z
      rwa [Nat.mod_add_mod] at z
  intro i hi
  have z := go (i + n - k)
  rwa [show k + (i + n - k) = i + n by omega, Nat.add_mod_right, Nat.mod_eq_of_lt hi] at z
theorem all_back {n : Nat} {p : Nat → Prop} (k : Nat) (hk : k < n) (h0 : p k) (hs : ∀ i, i < n → p i → p (pr n i)) : ∀ i, i < n → p i := by
  have go : ∀ j, p ((k + j * (n - 1)) % n) := by
    intro j
    induction j with
    | zero => rw [Nat.zero_mul, Nat.add_zero, Nat.mod_eq_of_lt hk]; exact h0
    | succ j ih =>
      have z := hs _ (Nat.mod_lt _ (by omega)) ih
      unfold pr at z
      rw [Nat.add_sub_assoc (by omega), Nat.mod_add_mod] at z
      rwa [Nat.succ_mul, ← Nat.add_assoc]
  intro i hi
  have z := go (k + n - i)
  have e : k + (k + n - i) * (n - 1) = i + n * (k + n - i - 1) + (if k + n - i = 0 then 0 else 0) := by
    obtain ⟨a, ha⟩ : ∃ a, a = k + n - i := ⟨_, rfl⟩
    rw [← ha]
    obtain ⟨m, rfl⟩ : ∃ m, n = m + 1 := ⟨n - 1, by omega⟩
    obtain ⟨a', rfl⟩ : ∃ a', a = a' + 1 := ⟨a - 1, by omega⟩
    simp only [Nat.add_sub_cancel, ite_self, Nat.add_zero]
    rw [Nat.succ_mul, Nat.mul_comm (m + 1) a', Nat.mul_succ]
    omega
  rw [e] at z
  simp only [ite_self, Nat.add_zero] at z
  rwa [Nat.add_mul_mod_self_left, Nat.mod_eq_of_lt hi] at z
theorem some_due {n : Nat} {f g : Nat → Bool} {l : Nat → Int} (e : E n f g l) (hT : ∃ k, k < n ∧ f k = true) (hF : ∃ k, k < n ∧ f k = false) (hl : ∃ k, k < n ∧ l k ≠ 0) : ∃ i, i < n ∧ due (l i) (f (pr n i)) (f i) = true := by
  refine Decidable.byContradiction fun no => ?_
  have no : ∀ i, i < n → due (l i) (f (pr n i)) (f i) = false := fun i hi => by
    cases z : due (l i) (f (pr n i)) (f i) with
    | false => rfl
    | true => exact absurd ⟨i, hi, z⟩ no
  obtain ⟨kt, ht, hT⟩ := hT
  obtain ⟨kf, hf, hF⟩ := hF
  obtain ⟨k, hk, hl⟩ := hl
  have b01 : ∀ b, 0 ≤ b2 b ∧ b2 b ≤ 1 := fun b => by cases b <;> decide
  rcases Int.lt_or_gt_of_ne hl with c | c
  · -- below 0
    have nd : ∀ i, i < n → l i < 0 → f i = true → f (pr n i) = true := fun i hi h1 h2 => by
      have z := no i hi
      unfold due at z
      rw [if_neg (by omega), decide_eq_true h1, h2] at z
      cases y : f (pr n i) with
      | true => rfl
      | false => rw [y] at z; exact absurd z (by decide)
    cases y : f k with
    | true =>
      have z := all_back (p := fun i => l i < 0 ∧ f i = true) k hk ⟨c, y⟩ (fun i hi h => by
        have f1 := nd i hi h.1 h.2
        refine ⟨?_, f1⟩
        have e1 := e (pr n i) (pr_lt hi)
        rw [nx_pr hi, f1] at e1
        have := b01 (g (pr n i))
        have : b2 true = 1 := rfl
        omega) kf hf
      rw [hF] at z
      exact absurd z.2 (by decide)
    | false =>
      have z := all_on (p := fun i => l i < 0 ∧ f i = false) k hk ⟨c, y⟩ (fun i hi h => by
        have e1 := e i hi
        rw [h.2] at e1
        have := b01 (g i)
        have : b2 false = 0 := rfl
        have h1 : l (nx n i) < 0 := by have := h.1; omega
        refine ⟨h1, ?_⟩
        cases q : f (nx n i) with
        | false => rfl
        | true =>
          have := nd _ (nx_lt hi) h1 q
          rw [pr_nx hi, h.2] at this
          exact absurd this (by decide)) kt ht
      rw [hT] at z
      exact absurd z.2 (by decide)
  · have nd : ∀ i, i < n → 0 < l i → f (pr n i) = true → f i = true := fun i hi h1 h2 => by
      have z := no i hi
      unfold due at z
      rw [if_pos h1, h2] at z
      cases y : f i with
      | true => rfl
      | false => rw [y] at z; exact absurd z (by decide)
    cases y : f k with
    | true =>
      have z := all_on (p := fun i => 0 < l i ∧ f i = true) k hk ⟨c, y⟩ (fun i hi h => by
        have e1 := e i hi
        rw [h.2] at e1
        have := b01 (g i)
        have : b2 true = 1 := rfl
        have h1 : 0 < l (nx n i) := by have := h.1; omega
        refine ⟨h1, nd _ (nx_lt hi) h1 ?_⟩
        rw [pr_nx hi]
        exact h.2) kf hf
      rw [hF] at z
      exact absurd z.2 (by decide)
    | false =>
      have z := all_back (p := fun i => 0 < l i ∧ f i = false) k hk ⟨c, y⟩ (fun i hi h => by
        have f1 : f (pr n i) = false := by
          cases q : f (pr n i) with
          | false => rfl
          | true =>
            have := nd i hi h.1 q
            rw [h.2] at this
            exact absurd this (by decide)
        refine ⟨?_, f1⟩
        have e1 := e (pr n i) (pr_lt hi)
        rw [nx_pr hi, f1] at e1
        have := b01 (g (pr n i))
        have : b2 false = 0 := rfl
        have := h.1
        omega) kt ht
      rw [hT] at z
      exact absurd z.2 (by decide)
theorem E_zero {n : Nat} {f g : Nat → Bool} {l : Nat → Int} (e : E n f g l) (z : ∀ k, k < n → l k = 0) : ∀ k, k < n → f k = g k := fun k hk => by
  have e1 := e k hk
  rw [z k hk, z _ (nx_lt hk)] at e1
  cases h1 : f k <;> cases h2 : g k <;> rw [h1, h2] at e1 <;> first | rfl | exact absurd e1 (by decide)
/-- a way of calls, each of which may be turned on when its turn comes -/
inductive Pth (n : Nat) : (Nat → Bool) → List Nat → (Nat → Bool) → Prop
  | nil (f) : Pth n f [] f
  | snoc {f m h i} : Pth n f m h → i < n → h i ≠ h (pr n i) → Pth n f (m ++ [i]) (sw n i h)
theorem Pth.bound {n : Nat} {f h : Nat → Bool} {m : List Nat} (p : Pth n f m h) : ∀ i ∈ m, i < n := by
  induction p with
  | nil => intro i hi; cases hi
  | snoc p hi ne ih =>
    intro j hj
    rcases List.mem_append.mp hj with hj | hj
    · exact ih j hj
    · rw [List.mem_singleton.mp hj]; exact hi
def far (n : Nat) (l : Nat → Int) : Nat := sumN n fun k => (l k).natAbs
theorem far_ad {n i : Nat} {l : Nat → Int} {d : Int} (hi : i < n) (hd : (l i + d).natAbs + 1 = (l i).natAbs) : far n (ad i d l) + 1 = far n l := by
  unfold far
  obtain ⟨r, rfl⟩ : ∃ r, n = (i + 1) + r := ⟨n - (i + 1), by omega⟩
  rw [sumN_append (i + 1) r, sumN_append (i + 1) r, sumN_succ i, sumN_succ i]
  have e1 : sumN i (fun k => (ad i d l k).natAbs) = sumN i fun k => (l k).natAbs := sumN_congr fun k hk => by
    unfold ad; rw [if_neg (by omega)]
  have e2 : sumN r (fun j => (ad i d l (i + 1 + j)).natAbs) = sumN r fun j => (l (i + 1 + j)).natAbs := sumN_congr fun k hk => by
    unfold ad; rw [if_neg (by omega)]
  rw [e1, e2]
  have e3 : (ad i d l i).natAbs = (l i + d).natAbs := by unfold ad; rw [if_pos rfl]
  rw [e3]
  omega
theorem far_ad_le {n i : Nat} {l : Nat → Int} {d : Int} (hi : i < n) (hd : d.natAbs ≤ 1) : far n (ad i d l) ≤ far n l + 1 := by
  unfold far
  obtain ⟨r, rfl⟩ : ∃ r, n = (i + 1) + r := ⟨n - (i + 1), by omega⟩
  rw [sumN_append (i + 1) r, sumN_append (i + 1) r, sumN_succ i, sumN_succ i]
  have e1 : sumN i (fun k => (ad i d l k).natAbs) = sumN i fun k => (l k).natAbs := sumN_congr fun k hk => by
    unfold ad; rw [if_neg (by omega)]
  have e2 : sumN r (fun j => (ad i d l (i + 1 + j)).natAbs) = sumN r fun j => (l (i + 1 + j)).natAbs := sumN_congr fun k hk => by
    unfold ad; rw [if_neg (by omega)]
  rw [e1, e2]
  have e3 : (ad i d l i).natAbs = (l i + d).natAbs := by unfold ad; rw [if_pos rfl]
  rw [e3]
  omega
theorem far_zero {n : Nat} {l : Nat → Int} (h : far n l = 0) : ∀ k, k < n → l k = 0 := by
  induction n with
  | zero => intro k hk; omega
  | succ n ih =>
    unfold far at h ih
    rw [sumN_succ] at h
    intro k hk
    rcases Nat.lt_or_eq_of_le (Nat.le_of_lt_succ hk) with c | c
    · exact ih (by omega) k c
    · subst c; omega
theorem due_far {n i : Nat} {f : Nat → Bool} {l : Nat → Int} (hi : i < n) (h : due (l i) (f (pr n i)) (f i) = true) :
    f i ≠ f (pr n i) ∧ far n (ad i (b2 (f i) - b2 (f (pr n i))) l) + 1 = far n l ∧ b2 (f i) - b2 (f (pr n i)) = if 0 < l i then -1 else 1 := by
  unfold due at h
  by_cases c : 0 < l i
  · rw [if_pos c] at h
    rw [if_pos c]
    cases y : f (pr n i) <;> cases z : f i <;> rw [y, z] at h <;> first | exact absurd h (by decide) | skip
    refine ⟨by decide, ?_, rfl⟩
    exact far_ad hi (by show (l i + (0 - 1)).natAbs + 1 = _; omega)
  · rw [if_neg c] at h
    rw [if_neg c]
    obtain ⟨c1, h⟩ := Bool.and_eq_true_iff.mp h
    have c1 := of_decide_eq_true c1
    cases y : f (pr n i) <;> cases z : f i <;> rw [y, z] at h <;> first | exact absurd h (by decide) | skip
    refine ⟨by decide, ?_, rfl⟩
    exact far_ad hi (by show (l i + (1 - 0)).natAbs + 1 = _; omega)
theorem sw_some {n i : Nat} {f : Nat → Bool} {b : Bool} (hi : i < n) (h : ∃ k, k < n ∧ f k = b) : ∃ k, k < n ∧ sw n i f k = b := by
  obtain ⟨k, hk, e⟩ := h
  by_cases c : k = i
  · subst c
    by_cases c2 : pr n k = k
    · refine ⟨k, hk, ?_⟩
      unfold sw
      rw [if_pos rfl, c2]
      exact e
    · refine ⟨pr n k, pr_lt hk, ?_⟩
      unfold sw
      rw [if_neg c2, if_pos rfl]
      exact e
  · by_cases d : k = pr n i
    · subst d
      refine ⟨i, hi, ?_⟩
      unfold sw
      rw [if_pos rfl]
      exact e
    · refine ⟨k, hk, ?_⟩
      unfold sw
      rw [if_neg c, if_neg d]
      exact e
/-! ### the least way -/
/-- how far it is from f to g -/
def IsD (n : Nat) (f g : Nat → Bool) (k : Nat) : Prop := (∃ l, E n f g l ∧ far n l = k) ∧ ∀ l, E n f g l → k ≤ far n l
theorem IsD.one {n : Nat} {f g : Nat → Bool} {k j : Nat} (a : IsD n f g k) (b : IsD n f g j) : k = j := by
  obtain ⟨⟨l1, e1, h1⟩, m1⟩ := a
  obtain ⟨⟨l2, e2, h2⟩, m2⟩ := b
  have := m1 l2 e2
  have := m2 l1 e1
  omega
theorem E.neg {n : Nat} {f g : Nat → Bool} {l : Nat → Int} (e : E n f g l) : E n g f fun k => -(l k) := fun k hk => by
  have := e k hk
  show _ = -(l (nx n k)) - -(l k)
  omega
theorem far_neg (n : Nat) (l : Nat → Int) : far n (fun k => -(l k)) = far n l := sumN_congr fun k _ => Int.natAbs_neg _
theorem IsD.symm {n : Nat} {f g : Nat → Bool} {k : Nat} (a : IsD n f g k) : IsD n g f k := by
  obtain ⟨⟨l, e, h⟩, m⟩ := a
  refine ⟨⟨_, e.neg, by rw [far_neg]; exact h⟩, fun l2 e2 => ?_⟩
  have := m _ e2.neg
  rwa [far_neg] at this
theorem IsD.self (n : Nat) (f : Nat → Bool) : IsD n f f 0 := by
  refine ⟨⟨fun _ => 0, fun k _ => by show _ = (0 : Int) - 0; omega, sumN_const n⟩, fun _ _ => Nat.zero_le _⟩
theorem IsD.zero {n : Nat} {f g : Nat → Bool} (a : IsD n f g 0) : ∀ k, k < n → f k = g k := by
  obtain ⟨⟨l, e, h⟩, _⟩ := a
  exact E_zero e (far_zero h)
theorem isD_of {n : Nat} {f g : Nat → Bool} {l : Nat → Int} (e : E n f g l) : ∃ k, IsD n f g k := by
  have go : ∀ b, ∀ l, E n f g l → far n l ≤ b → ∃ k, IsD n f g k := by
    intro b
    induction b with
    | zero => exact fun l e h => ⟨0, ⟨l, e, by omega⟩, fun _ _ => Nat.zero_le _⟩
    | succ b ih =>
      intro l e h
      by_cases c : ∃ l2, E n f g l2 ∧ far n l2 ≤ b
      · obtain ⟨l2, e2, h2⟩ := c
        exact ih l2 e2 h2
      · refine ⟨far n l, ⟨l, e, rfl⟩, fun l2 e2 => ?_⟩
        refine Decidable.byContradiction fun z => c ⟨l2, e2, by omega⟩
  exact go _ l e (Nat.le_refl _)
/-- one call turned on changes how far it is by one at most -/
theorem IsD.near {n i : Nat} {f g : Nat → Bool} {k j : Nat} (a : IsD n f g k) (b : IsD n f (sw n i g) j) (hi : i < n) (h2 : 2 ≤ n) : j ≤ k + 1 := by
  obtain ⟨⟨l, e, h⟩, _⟩ := a.symm
  have := b.symm.2 _ (E_sw e hi h2)
  have b01 : ∀ b, 0 ≤ b2 b ∧ b2 b ≤ 1 := fun b => by cases b <;> decide
  have := far_ad_le (l := l) (d := b2 (g i) - b2 (g (pr n i))) hi (by have := b01 (g i); have := b01 (g (pr n i)); omega)
  omega
/-- and where it is not 0, one call brings nearer -/
theorem IsD.nearer {n : Nat} {f g : Nat → Bool} {k : Nat} (a : IsD n f g (k + 1)) (h2 : 2 ≤ n) (hT : ∃ k, k < n ∧ g k = true) (hF : ∃ k, k < n ∧ g k = false) :
    ∃ i, i < n ∧ g i ≠ g (pr n i) ∧ IsD n f (sw n i g) k := by
  obtain ⟨⟨l, e, h⟩, m⟩ := a.symm
  have hl : ∃ k, k < n ∧ l k ≠ 0 := by
    refine Decidable.byContradiction fun z => ?_
    have : far n l = sumN n fun _ => 0 := sumN_congr fun k hk => by
      have : l k = 0 := Decidable.byContradiction fun y => z ⟨k, hk, y⟩
      rw [this]; rfl
    rw [sumN_const] at this
    omega
  obtain ⟨i, hi, hd⟩ := some_due e hT hF hl
  obtain ⟨ne, fa, _⟩ := due_far hi hd
  refine ⟨i, hi, ne, ?_⟩
  have e2 := E_sw e hi h2
  obtain ⟨j, hj⟩ := isD_of e2
  have hle := hj.2 _ e2
  have := IsD.near (i := i) hj.symm (by rw [sw_sw hi h2]; exact a) hi h2
  have : j = k := by omega
  subst this
  exact hj.symm
end M30

/-! The middle one of the sums makes the least way; the law's way to tell it. -/
namespace M30
/-! ### the middle one -/
def dsum (xs : List Int) (y : Int) : Nat := (xs.map fun x => (x - y).natAbs).sum
theorem dsum_cons (x : Int) (xs : List Int) (y : Int) : dsum (x :: xs) y = (x - y).natAbs + dsum xs y := rfl
theorem dsum_append (xs zs : List Int) (y : Int) : dsum (xs ++ zs) y = dsum xs y + dsum zs y := by
  unfold dsum
  rw [List.map_append, List.sum_append]
theorem dsum_perm {xs zs : List Int} (h : xs.Perm zs) (y : Int) : dsum xs y = dsum zs y := by
  unfold dsum
  exact (h.map _).foldr_eq' (fun a _ b _ c => by omega) 0
theorem dsum_above {m y : Int} (hy : m ≤ y) : ∀ {xs : List Int}, (∀ x ∈ xs, x ≤ m) → dsum xs y = dsum xs m + xs.length * (y - m).natAbs
  | [], _ => by simp [dsum]
  | x :: xs, h => by
    have ih := dsum_above hy fun z hz => h z (List.mem_cons_of_mem _ hz)
    have h1 := h x List.mem_cons_self
    rw [dsum_cons, dsum_cons, ih, List.length_cons, Nat.succ_mul]
    omega
theorem dsum_below {m y : Int} (hy : y ≤ m) : ∀ {xs : List Int}, (∀ x ∈ xs, m ≤ x) → dsum xs y = dsum xs m + xs.length * (y - m).natAbs
  | [], _ => by simp [dsum]
  | x :: xs, h => by
    have ih := dsum_below hy fun z hz => h z (List.mem_cons_of_mem _ hz)
    have h1 := h x List.mem_cons_self
    rw [dsum_cons, dsum_cons, ih, List.length_cons, Nat.succ_mul]
    omega
theorem dsum_any (m y : Int) : ∀ xs : List Int, dsum xs m ≤ dsum xs y + xs.length * (y - m).natAbs
  | [] => by simp [dsum]
  | x :: xs => by
    have ih := dsum_any m y xs
    rw [dsum_cons, dsum_cons, List.length_cons, Nat.succ_mul]
    omega
theorem med_least {xs ns : List Int} (pm : ns.Perm xs) (sr : ns.Pairwise (· ≤ ·)) {m : Int} (hm : ns[ns.length / 2]? = some m) (y : Int) : dsum xs m ≤ dsum xs y := by
  rw [← dsum_perm pm, ← dsum_perm pm]
  obtain ⟨a, b, split, l1⟩ : ∃ a b, ns = a ++ m :: b ∧ a.length = ns.length / 2 := by
    obtain ⟨hlt, hm⟩ := List.getElem?_eq_some_iff.mp hm
    refine ⟨ns.take (ns.length / 2), ns.drop (ns.length / 2 + 1), ?_, by rw [List.length_take]; omega⟩
    rw [← hm, ← List.drop_eq_getElem_cons hlt, List.take_append_drop]
  clear hm
  have hn : ns.length = a.length + (b.length + 1) := by rw [split, List.length_append, List.length_cons]
  rw [split] at sr ⊢
  generalize ns.length = n at hn l1
  have p1 := List.pairwise_append.mp sr
  have p2 := List.pairwise_cons.mp p1.2.1
  have ha : ∀ x ∈ a, x ≤ m := fun x hx => p1.2.2 x hx m List.mem_cons_self
  rw [dsum_append, dsum_append, dsum_cons, dsum_cons, show (m - m).natAbs = 0 by omega]
  rcases Int.le_total m y with c | c
  · have e1 := dsum_above c ha
    have e2 := dsum_any m y b
    rw [e1]
    have : b.length * (y - m).natAbs ≤ a.length * (y - m).natAbs := Nat.mul_le_mul_right _ (by omega)
    omega
  · have e1 := dsum_below c (xs := b) (fun x hx => p2.1 x hx)
    have e2 := dsum_any m y a
    rw [e1]
    have e3 : (b.length + 1) * (y - m).natAbs = b.length * (y - m).natAbs + (y - m).natAbs := Nat.succ_mul _ _
    have : a.length * (y - m).natAbs ≤ (b.length + 1) * (y - m).natAbs := Nat.mul_le_mul_right _ (by omega)
    omega
/-! ### breaks of marks -/
def bl (n : Nat) (f : Nat → Bool) : List Nat := ((List.range n).filter f).map (· + 1)
theorem bl_succ (n : Nat) (f : Nat → Bool) : bl (n + 1) f = bl n f ++ if f n then [n + 1] else [] := by
  unfold bl
  rw [List.range_succ, List.filter_append, List.map_append]
  by_cases c : f n
  · rw [if_pos c, List.filter_cons_of_pos (by simpa using c)]; rfl
  · rw [if_neg c, List.filter_cons_of_neg (by simpa using c)]; rfl
theorem mem_bl {n : Nat} {f : Nat → Bool} {x : Nat} : x ∈ bl n f ↔ ∃ k, k < n ∧ f k = true ∧ x = k + 1 := by
  unfold bl
  rw [List.mem_map]
  constructor
  · rintro ⟨k, hk, rfl⟩
    have := List.mem_filter.mp hk
    exact ⟨k, List.mem_range.mp this.1, this.2, rfl⟩
  · rintro ⟨k, h1, h2, rfl⟩
    exact ⟨k, List.mem_filter.mpr ⟨List.mem_range.mpr h1, h2⟩, rfl⟩
theorem bl_brk (n : Nat) (f : Nat → Bool) : Brk n (bl n f) := by
  refine ⟨fun x hx => ?_, ?_⟩
  · obtain ⟨k, h1, _, rfl⟩ := mem_bl.mp hx
    omega
  · unfold bl
    rw [List.pairwise_map]
    exact (List.pairwise_lt_range.filter _).imp fun h => by omega
theorem cnt_append (a b : List Nat) (r : Nat) : cnt (a ++ b) r = cnt a r + cnt b r := by
  unfold cnt
  rw [List.filter_append, List.length_append]
theorem cnt_all {a : List Nat} {r : Nat} (h : ∀ x ∈ a, x ≤ r) : cnt a r = a.length := by
  unfold cnt
  rw [List.filter_eq_self.mpr fun x hx => by simpa using h x hx]
theorem cnt_bl {n r : Nat} (f : Nat → Bool) (h : r ≤ n) : cnt (bl n f) r = (bl r f).length := by
  induction n with
  | zero => rw [show r = 0 by omega]; rfl
  | succ n ih =>
    rcases Nat.lt_or_eq_of_le h with c | c
    · rw [bl_succ, cnt_append, ih (by omega)]
      split
      · unfold cnt
        rw [List.filter_cons_of_neg (by simp; omega)]
        rfl
      · rfl
    · subst c
      exact cnt_all fun x hx => ((bl_brk (n + 1) f).lo x hx).2
theorem cnt_bl_succ {n x : Nat} (f : Nat → Bool) (h : x < n) : (cnt (bl n f) (x + 1) : Int) = cnt (bl n f) x + b2 (f x) := by
  rw [cnt_bl f (by omega), cnt_bl f (by omega), bl_succ, List.length_append]
  unfold b2
  split <;> simp
def dif (n : Nat) (f g : Nat → Bool) (x : Nat) : Int := (cnt (bl n f) x : Int) - cnt (bl n g) x
theorem dif_succ {n x : Nat} {f g : Nat → Bool} (h : x < n) : dif n f g (x + 1) = dif n f g x + b2 (f x) - b2 (g x) := by
  have e1 := cnt_bl_succ f h
  have e2 := cnt_bl_succ g h
  unfold dif
  omega
theorem dif_zero (n : Nat) (f g : Nat → Bool) : dif n f g 0 = 0 := by
  unfold dif
  rw [cnt_bl f (Nat.zero_le n), cnt_bl g (Nat.zero_le n)]
  rfl
theorem dif_top {n : Nat} {f g : Nat → Bool} (h : (bl n f).length = (bl n g).length) : dif n f g n = 0 := by
  unfold dif
  rw [cnt_bl f (Nat.le_refl n), cnt_bl g (Nat.le_refl n), h]
  omega
theorem dif_E {n : Nat} {f g : Nat → Bool} (h : (bl n f).length = (bl n g).length) (t : Int) : E n f g fun k => dif n f g k + t := by
  intro k hk
  show _ = dif n f g (nx n k) + t - (dif n f g k + t)
  have e := dif_succ (f := f) (g := g) hk
  rw [nx_eq hk]
  split
  · rename_i c
    rw [c, dif_top h] at e
    rw [dif_zero]
    omega
  · omega
theorem E_is {n : Nat} {f g : Nat → Bool} {l : Nat → Int} (e : E n f g l) : ∀ k, k < n → l k = dif n f g k + l 0 := by
  intro k
  induction k with
  | zero => intro _; rw [dif_zero]; omega
  | succ k ih =>
    intro hk
    have e1 := e k (by omega)
    rw [nx_eq (by omega), if_neg (by omega)] at e1
    rw [dif_succ (by omega)]
    have := ih (by omega)
    omega
theorem far_congr {n : Nat} {l m : Nat → Int} (h : ∀ k, k < n → l k = m k) : far n l = far n m := sumN_congr fun k hk => by rw [h k hk]
theorem far_dsum (n : Nat) (l : Nat → Int) (y : Int) : far n (fun k => l k + y) = dsum ((List.range n).map l) (-y) := by
  unfold far sumN dsum
  rw [List.map_map]
  exact congrArg List.sum (List.map_congr_left fun k _ => by show (l k + y).natAbs = (l k - -y).natAbs; omega)
theorem dif_bound (n : Nat) (f g : Nat → Bool) (h : (bl n f).length = (bl n g).length) (x : Nat) : -((bl n f).length : Int) ≤ dif n f g x ∧ dif n f g x ≤ (bl n f).length := by
  have := cnt_le (bl n f) x
  have := cnt_le (bl n g) x
  unfold dif
  omega
/-- the middle one makes the least way -/
theorem med_isD {n : Nat} {f g : Nat → Bool} (h : (bl n f).length = (bl n g).length) (hn : 0 < n) {ns : List Int} (pm : ns.Perm ((List.range n).map (dif n f g))) (sr : ns.Pairwise (· ≤ ·)) {m : Int} (hm : ns[n / 2]? = some m) :
    IsD n f g (far n fun k => dif n f g k + -m) ∧ (-((bl n f).length : Int) ≤ m ∧ m ≤ (bl n f).length) := by
  have hl : ns.length = n := by rw [pm.length_eq, List.length_map, List.length_range]
  refine ⟨⟨⟨_, dif_E h (-m), rfl⟩, fun l e => ?_⟩, ?_⟩
  · rw [far_congr (E_is e), far_dsum, far_dsum]
    have z := med_least pm sr (m := m) (by rw [hl]; exact hm) (-(l 0))
    rwa [Int.neg_neg]
  · obtain ⟨k, hk, e⟩ := List.mem_map.mp (pm.mem_iff.mp (List.mem_of_getElem? hm))
    rw [← e]
    exact dif_bound n f g h k
/-! ### the law's way -/
/-- the law's far: the breaks led t places on -/
def lgoal (n : Nat) (b : List Nat) (d : Nat) (s : Int) : Int := ((b.getD (s.fmod d).toNat 0 : Nat) : Int) + n * s.fdiv d
def lfar (n : Nat) (a b : List Nat) (t : Int) : Nat := sumN a.length fun i => (((a.getD i 0 : Nat) : Int) - lgoal n b a.length ((i : Int) + t)).natAbs
theorem lfar_is {n : Nat} {f g : Nat → Bool} (h : (bl n f).length = (bl n g).length) (hd : 0 < (bl n f).length) {t : Int} (h1 : -((bl n f).length : Int) ≤ t) (h2 : t ≤ (bl n f).length) :
    lfar n (bl n f) (bl n g) t = far n fun k => dif n f g k + t := by
  have z := far_is (bl_brk n f) (bl_brk n g) h.symm hd (T := (t + 2 * (bl n f).length).toNat) (by omega) (by omega)
  unfold lfar lgoal
  have e1 : far n (fun k => dif n f g k + t) = sumN n fun r => dst (cnt (bl n f) r + (t + 2 * (bl n f).length).toNat) (cnt (bl n g) r + 2 * (bl n f).length) := sumN_congr fun k hk => by
    show (dif n f g k + t).natAbs = _
    unfold dif dst
    omega
  rw [e1, ← z]
  refine sumN_congr fun i hi => ?_
  generalize hD : (bl n f).length = d at *
  have s1 : (i + 2 * d) % d = i := by rw [Nat.add_mul_mod_self_right, Nat.mod_eq_of_lt hi]
  have s2 : (i + 2 * d) / d = 2 := by rw [Nat.add_mul_div_right _ _ hd, Nat.div_eq_of_lt hi]
  have s3 : (((i + (t + 2 * d).toNat) % d : Nat) : Int) = ((i : Int) + t).fmod d := by
    rw [Int.fmod_eq_emod_of_nonneg _ (by omega), Int.natCast_emod, show ((i + (t + 2 * d).toNat : Nat) : Int) = (i : Int) + t + d * 2 by omega, Int.add_mul_emod_self_left]
  have s4 : (((i + (t + 2 * d).toNat) / d : Nat) : Int) = ((i : Int) + t).fdiv d + 2 := by
    rw [Int.fdiv_eq_ediv_of_nonneg _ (by omega), Int.natCast_ediv, show ((i + (t + 2 * d).toNat : Nat) : Int) = (i : Int) + t + d * 2 by omega, Int.add_mul_ediv_left _ _ (by omega)]
  unfold ext dst
  rw [hD, ← h, s1, s2]
  generalize (i + (t + 2 * d).toNat) % d = u at s3
  generalize (i + (t + 2 * d).toNat) / d = v at s4
  rw [← s3, Int.toNat_natCast]
  have e : ((i : Int) + t).fdiv d = (v : Int) - 2 := by omega
  rw [e, Int.mul_sub]
  generalize (bl n f).getD i 0 = x
  generalize (bl n g).getD u 0 = y
  have : (n : Int) * (v : Int) = ((n * v : Nat) : Int) := (Int.natCast_mul n v).symm
  rw [this]
  generalize n * v = w
  omega
end M30

/-! One call turned on, as the law does it; the law's search, layer by layer. -/
namespace M30
theorem bl_nodup (n : Nat) (f : Nat → Bool) : (bl n f).Nodup := by
  rw [List.nodup_iff_pairwise_ne]
  exact (bl_brk n f).up.imp fun h => by omega
theorem bl_at {n k : Nat} {f : Nat → Bool} (h : k < n) : k + 1 ∈ bl n f ↔ f k = true := by
  rw [mem_bl]
  constructor
  · rintro ⟨j, _, h2, e⟩
    rw [show k = j by omega]
    exact h2
  · exact fun z => ⟨k, h, z, rfl⟩
theorem bl_congr {n : Nat} {f g : Nat → Bool} (h : ∀ k, k < n → f k = g k) : bl n f = bl n g := by
  unfold bl
  rw [List.filter_congr fun x hx => h x (List.mem_range.mp hx)]
theorem bl_inj {n : Nat} {f g : Nat → Bool} (h : bl n f = bl n g) : ∀ k, k < n → f k = g k := fun k hk => by
  have a := bl_at (f := f) hk
  have b := bl_at (f := g) hk
  rw [h] at a
  have := a.symm.trans b
  cases h1 : f k <;> cases h2 : g k <;> rw [h1, h2] at this <;> first | rfl | exact absurd this (by decide)
theorem sorted_unique {a b : List Nat} (p : a.Perm b) (ha : a.Pairwise (· ≤ ·)) (hb : b.Pairwise (· ≤ ·)) : a = b := p.eq_of_pairwise (fun x y _ _ h1 h2 => Nat.le_antisymm h1 h2) ha hb
/-- one call turned on, told by the breaks -/
theorem bl_sw {n i : Nat} {f : Nat → Bool} (hi : i < n) (h2 : 2 ≤ n) (ne : f i ≠ f (pr n i)) {gone come : Nat} (hg : (gone, come) = if f i = true then (i + 1, pr n i + 1) else (pr n i + 1, i + 1)) :
    ((bl n f).filter (fun x => decide (x ≠ gone)) ++ [come]).Perm (bl n (sw n i f)) := by
  have hp := pr_lt hi
  have pn := pr_ne hi h2
  refine (List.perm_ext_iff_of_nodup ?_ (bl_nodup _ _)).mpr fun x => ?_
  · rw [List.nodup_append]
    refine ⟨(bl_nodup n f).filter _, (by simp), fun x hx y hy => ?_⟩
    have hx := (List.mem_filter.mp hx).1
    rw [List.mem_singleton.mp hy]
    intro e
    subst e
    cases z : f i with
    | true =>
      rw [if_pos z] at hg
      rw [(Prod.mk.inj hg).2] at hx
      have := (bl_at hp).mp hx
      rw [z, this] at ne
      exact ne rfl
    | false =>
      rw [if_neg (by rw [z]; decide)] at hg
      rw [(Prod.mk.inj hg).2] at hx
      have := (bl_at hi).mp hx
      rw [z] at this
      cases this
  · rw [List.mem_append, List.mem_filter, List.mem_singleton, mem_bl, mem_bl]
    constructor
    · rintro (⟨⟨k, hk, h1, rfl⟩, h3⟩ | rfl)
      · have h3 := of_decide_eq_true h3
        refine ⟨k, hk, ?_, rfl⟩
        unfold sw
        by_cases z : f i = true
        · rw [if_pos z] at hg
          have := (Prod.mk.inj hg).1
          rw [if_neg (by omega)]
          split
          · exact z
          · exact h1
        · rw [if_neg z] at hg
          have := (Prod.mk.inj hg).1
          have : k ≠ i := fun e => z (e ▸ h1)
          rw [if_neg this, if_neg (by omega)]
          exact h1
      · by_cases z : f i = true
        · rw [if_pos z] at hg
          refine ⟨pr n i, hp, ?_, (Prod.mk.inj hg).2⟩
          unfold sw
          rw [if_neg pn, if_pos rfl]
          exact z
        · rw [if_neg z] at hg
          refine ⟨i, hi, ?_, (Prod.mk.inj hg).2⟩
          unfold sw
          rw [if_pos rfl]
          cases q : f (pr n i) with
          | true => rfl
          | false =>
            rw [q] at ne
            exact absurd (by simpa using z) ne
    · rintro ⟨k, hk, h1, rfl⟩
      unfold sw at h1
      by_cases z : f i = true
      · rw [if_pos z] at hg
        obtain ⟨g1, g2⟩ := Prod.mk.inj hg
        have q : f (pr n i) = false := by
          cases q : f (pr n i) with
          | false => rfl
          | true => rw [z, q] at ne; exact absurd rfl ne
        by_cases c : k = i
        · rw [if_pos c, q] at h1
          cases h1
        · rw [if_neg c] at h1
          by_cases d : k = pr n i
          · exact .inr (by rw [g2, d])
          · rw [if_neg d] at h1
            exact .inl ⟨⟨k, hk, h1, rfl⟩, decide_eq_true (by omega)⟩
      · rw [if_neg z] at hg
        obtain ⟨g1, g2⟩ := Prod.mk.inj hg
        by_cases c : k = i
        · exact .inr (by rw [g2, c])
        · rw [if_neg c] at h1
          by_cases d : k = pr n i
          · rw [if_pos d] at h1
            exact absurd h1 z
          · rw [if_neg d] at h1
            exact .inl ⟨⟨k, hk, h1, rfl⟩, decide_eq_true (by omega)⟩
theorem bl_sw_len {n i : Nat} {f : Nat → Bool} (hi : i < n) (h2 : 2 ≤ n) : (bl n (sw n i f)).length = (bl n f).length := by
  by_cases ne : f i = f (pr n i)
  · refine congrArg List.length (bl_congr fun k hk => ?_)
    unfold sw
    split
    · rename_i c; rw [c, ne]
    · split
      · rename_i c; rw [c, ne]
      · rfl
  · have p := (bl_sw (gone := if f i = true then i + 1 else pr n i + 1) (come := if f i = true then pr n i + 1 else i + 1) hi h2 ne (by split <;> rfl)).length_eq
    rw [← p, List.length_append]
    have hm : (if f i = true then i + 1 else pr n i + 1) ∈ bl n f := by
      by_cases z : f i = true
      · rw [if_pos z]; exact (bl_at hi).mpr z
      · rw [if_neg z]
        refine (bl_at (pr_lt hi)).mpr ?_
        cases q : f (pr n i) with
        | true => rfl
        | false => rw [q] at ne; exact absurd (by simpa using z) ne
    generalize (if f i = true then i + 1 else pr n i + 1) = g at hm
    have e : (bl n f).filter (fun x => decide (x ≠ g)) = (bl n f).erase g := by
      rw [(bl_nodup n f).erase_eq_filter]
      exact List.filter_congr fun x _ => by by_cases c : x = g <;> simp [c]
    rw [e, List.length_erase_of_mem hm]
    have := List.length_pos_of_mem hm
    simp
    omega
/-! ### all marks -/
def subs : Nat → List (List Nat)
  | 0 => [[]]
  | n + 1 => subs n ++ (subs n).map (· ++ [n + 1])
theorem bl_subs (f : Nat → Bool) : ∀ n, bl n f ∈ subs n
  | 0 => by simp [subs, bl]
  | n + 1 => by
    rw [bl_succ]
    unfold subs
    rw [List.mem_append]
    split
    · exact .inr (List.mem_map.mpr ⟨_, bl_subs f n, rfl⟩)
    · rw [List.append_nil]
      exact .inl (bl_subs f n)
theorem subs_len : ∀ n, (subs n).length = 2 ^ n
  | 0 => rfl
  | n + 1 => by
    unfold subs
    rw [List.length_append, List.length_map, subs_len n, Nat.pow_succ]
    omega
theorem nodup_few {α : Type} [DecidableEq α] : ∀ {a b : List α}, a.Nodup → (∀ x ∈ a, x ∈ b) → a.length ≤ b.length
  | [], _, _, _ => Nat.zero_le _
  | x :: a, b, nd, h => by
    have nd := List.nodup_cons.mp nd
    have hx := h x List.mem_cons_self
    have ih := nodup_few (b := b.erase x) nd.2 fun y hy => by
      have : y ≠ x := fun z => nd.1 (z ▸ hy)
      exact (List.mem_erase_of_ne this).mpr (h y (List.mem_cons_of_mem _ hy))
    rw [List.length_erase_of_mem hx] at ih
    have := List.length_pos_of_mem hx
    rw [List.length_cons]
    omega
/-! ### the search -/
def Dk (n : Nat) (f g : Nat → Bool) (v : Nat) : Prop := IsD n f g v ∧ (bl n g).length = (bl n f).length
theorem IsD.congr {n : Nat} {f g h : Nat → Bool} {v : Nat} (a : IsD n f g v) (e : ∀ k, k < n → g k = h k) : IsD n f h v := by
  obtain ⟨⟨l, e1, h1⟩, m⟩ := a
  refine ⟨⟨l, fun k hk => by rw [← e k hk]; exact e1 k hk, h1⟩, fun l2 e2 => m l2 fun k hk => by rw [e k hk]; exact e2 k hk⟩
theorem Dk.same {n : Nat} {f g h : Nat → Bool} {v w : Nat} (a : Dk n f g v) (b : Dk n f h w) (e : bl n g = bl n h) : v = w := (a.1.congr (bl_inj e)).one b.1
theorem Dk.sw {n i : Nat} {f g : Nat → Bool} {v : Nat} (a : Dk n f g v) (hi : i < n) (h2 : 2 ≤ n) : ∃ w, Dk n f (sw n i g) w ∧ w ≤ v + 1 := by
  have hl := a.2
  have hl2 := (bl_sw_len (f := g) hi h2).trans hl
  obtain ⟨w, hw⟩ := isD_of (dif_E hl2.symm 0)
  exact ⟨w, ⟨hw, hl2⟩, IsD.near a.1 hw hi h2⟩
theorem Dk.bound {n : Nat} {f g : Nat → Bool} {v : Nat} (a : Dk n f g v) : v ≤ n * n := by
  have h := a.1.2 _ (dif_E a.2.symm 0)
  refine Nat.le_trans h ?_
  have key : ∀ m, m ≤ n → sumN m (fun k => (dif n f g k + 0).natAbs) ≤ m * n := by
    intro m
    induction m with
    | zero => intro _; exact Nat.zero_le _
    | succ m ih =>
      intro hm
      rw [sumN_succ, Nat.succ_mul]
      have := ih (by omega)
      have b := dif_bound n f g a.2.symm m
      have c : (bl n f).length ≤ n := by
        unfold bl
        rw [List.length_map]
        exact Nat.le_trans (List.length_filter_le _ _) (by rw [List.length_range]; exact Nat.le_refl _)
      omega
  exact key n (Nat.le_refl n)
theorem some_false {n : Nat} {g : Nat → Bool} (h : (bl n g).length < n) : ∃ k, k < n ∧ g k = false := by
  refine Decidable.byContradiction fun z => ?_
  have : bl n g = bl n fun _ => true := bl_congr fun k hk => by
    cases q : g k with
    | true => rfl
    | false => exact absurd ⟨k, hk, q⟩ z
  rw [this] at h
  unfold bl at h
  rw [List.filter_eq_self.mpr fun _ _ => rfl, List.length_map, List.length_range] at h
  omega
theorem some_true {n : Nat} {g : Nat → Bool} (h : 0 < (bl n g).length) : ∃ k, k < n ∧ g k = true := by
  obtain ⟨x, hx⟩ := List.exists_mem_of_length_pos h
  obtain ⟨k, h1, h2, _⟩ := mem_bl.mp hx
  exact ⟨k, h1, h2⟩
theorem Dk.nearer {n : Nat} {f g : Nat → Bool} {v : Nat} (a : Dk n f g (v + 1)) (h2 : 2 ≤ n) (hd : 0 < (bl n f).length) (hd2 : (bl n f).length < n) : ∃ i, i < n ∧ g i ≠ g (pr n i) ∧ Dk n f (M30.sw n i g) v := by
  obtain ⟨i, hi, ne, h⟩ := a.1.nearer h2 (some_true (by rw [a.2]; exact hd)) (some_false (by rw [a.2]; exact hd2))
  exact ⟨i, hi, ne, h, (bl_sw_len hi h2).trans a.2⟩
structure Jw (n : Nat) (f : Nat → Bool) (k : Nat) (F : List Nat → Option Nat) (L : List (List Nat)) : Prop where
  a : ∀ x v, F x = some v → ∃ g, x = bl n g ∧ Dk n f g v ∧ v ≤ k
  b : ∀ g v, Dk n f g v → v ≤ k → F (bl n g) = some v
  c : ∀ x, x ∈ L ↔ ∃ g, x = bl n g ∧ Dk n f g k
structure Jp (n : Nat) (f : Nat → Bool) (k : Nat) (F : List Nat → Option Nat) (L W : List (List Nat)) (i u : Nat) : Prop where
  a : ∀ x v, F x = some v → ∃ g, x = bl n g ∧ Dk n f g v ∧ v ≤ k + 1
  b : ∀ g v, Dk n f g v → v ≤ k → F (bl n g) = some v
  c : ∀ x, x ∈ W ↔ F x = some (k + 1)
  d : ∀ g j q, L[q]? = some (bl n g) → j < n → (q < i ∨ q = i ∧ j < u) → g j ≠ g (pr n j) → ∃ v, F (bl n (sw n j g)) = some v
def putF (F : List Nat → Option Nat) (x : List Nat) (v : Nat) : List Nat → Option Nat := fun y => if y = x then some v else F y
theorem Jw.start (n : Nat) (f : Nat → Bool) : Jw n f 0 (putF (fun _ => none) (bl n f) 0) [bl n f] := by
  have d0 : Dk n f f 0 := ⟨IsD.self n f, rfl⟩
  refine ⟨fun x v h => ?_, fun g v h hv => ?_, fun x => ?_⟩
  · unfold putF at h
    by_cases c : x = bl n f
    · rw [if_pos c] at h
      cases h
      exact ⟨f, c, d0, Nat.le_refl 0⟩
    · rw [if_neg c] at h
      cases h
  · have v0 : v = 0 := by omega
    subst v0
    unfold putF
    rw [if_pos (bl_congr fun k hk => (h.1.zero k hk).symm)]
  · rw [List.mem_singleton]
    constructor
    · exact fun e => ⟨f, e, d0⟩
    · rintro ⟨g, rfl, h⟩
      exact bl_congr fun k hk => (h.1.zero k hk).symm
theorem Jw.go {n : Nat} {f : Nat → Bool} {k : Nat} {F : List Nat → Option Nat} {L : List (List Nat)} (J : Jw n f k F L) : Jp n f k F L [] 0 0 := by
  refine ⟨fun x v h => ?_, J.b, fun x => ?_, fun g j q _ _ h => by omega⟩
  · obtain ⟨g, h1, h2, h3⟩ := J.a x v h
    exact ⟨g, h1, h2, by omega⟩
  · constructor
    · intro z; cases z
    · intro z
      obtain ⟨g, _, _, h⟩ := J.a x _ z
      omega
theorem Jp.skip {n : Nat} {f : Nat → Bool} {k : Nat} {F : List Nat → Option Nat} {L W : List (List Nat)} {i c : Nat} (J : Jp n f k F L W i c) {g : Nat → Bool} (hL : L[i]? = some (bl n g)) (hc : c < n) (h : g c = g (pr n c)) : Jp n f k F L W i (c + 1) := by
  refine ⟨J.a, J.b, J.c, fun g2 j q h1 h2 h3 h4 => ?_⟩
  by_cases z : q = i ∧ j = c
  · obtain ⟨rfl, rfl⟩ := z
    rw [hL] at h1
    have e := bl_inj (Option.some.inj h1)
    rw [← e _ h2, ← e _ (pr_lt h2)] at h4
    exact absurd h h4
  · exact J.d g2 j q h1 h2 (by omega) h4
theorem Jp.known {n : Nat} {f : Nat → Bool} {k : Nat} {F : List Nat → Option Nat} {L W : List (List Nat)} {i c : Nat} (J : Jp n f k F L W i c) {g : Nat → Bool} (hL : L[i]? = some (bl n g)) (hc : c < n) {v : Nat} (h : F (bl n (sw n c g)) = some v) : Jp n f k F L W i (c + 1) := by
  refine ⟨J.a, J.b, J.c, fun g2 j q h1 h2 h3 h4 => ?_⟩
  by_cases z : q = i ∧ j = c
  · obtain ⟨rfl, rfl⟩ := z
    rw [hL] at h1
    have e := bl_inj (Option.some.inj h1)
    refine ⟨v, ?_⟩
    rw [← h]
    refine congrArg F (bl_congr fun m hm => ?_)
    unfold sw
    rw [e _ h2, e _ (pr_lt h2), e m hm]
  · exact J.d g2 j q h1 h2 (by omega) h4
theorem Jp.put {n : Nat} {f : Nat → Bool} {k : Nat} {F : List Nat → Option Nat} {L W : List (List Nat)} {i c : Nat} (J : Jp n f k F L W i c) {g : Nat → Bool} (hL : L[i]? = some (bl n g)) (hc : c < n) (h2 : 2 ≤ n) (hg : Dk n f g k) (h : F (bl n (sw n c g)) = none) :
    Jp n f k (putF F (bl n (sw n c g)) (k + 1)) L (W ++ [bl n (sw n c g)]) i (c + 1) := by
  obtain ⟨w, hw, hwk⟩ := hg.sw hc h2
  have ew : w = k + 1 := by
    refine Decidable.byContradiction fun z => ?_
    rw [J.b _ _ hw (by omega)] at h
    cases h
  subst ew
  refine ⟨fun x v hx => ?_, fun g2 v h3 h4 => ?_, fun x => ?_, fun g2 j q h1 h3 h5 h4 => ?_⟩
  · unfold putF at hx
    by_cases c0 : x = bl n (sw n c g)
    · rw [if_pos c0] at hx
      cases hx
      exact ⟨_, c0, hw, Nat.le_refl _⟩
    · rw [if_neg c0] at hx
      exact J.a x v hx
  · unfold putF
    rw [if_neg (fun z => by rw [← z, J.b _ _ h3 h4] at h; cases h)]
    exact J.b _ _ h3 h4
  · unfold putF
    rw [List.mem_append, List.mem_singleton, J.c]
    by_cases c0 : x = bl n (sw n c g)
    · rw [if_pos c0]
      exact ⟨fun _ => rfl, fun _ => .inr c0⟩
    · rw [if_neg c0]
      exact ⟨fun z => z.resolve_right c0, fun z => .inl z⟩
  · have up : ∀ x v, F x = some v → ∃ v, putF F (bl n (sw n c g)) (k + 1) x = some v := fun x v hx => by
      unfold putF
      by_cases c0 : x = bl n (sw n c g)
      · rw [if_pos c0]; exact ⟨_, rfl⟩
      · rw [if_neg c0]; exact ⟨v, hx⟩
    by_cases z : q = i ∧ j = c
    · obtain ⟨rfl, rfl⟩ := z
      rw [hL] at h1
      have e := bl_inj (Option.some.inj h1)
      refine ⟨k + 1, ?_⟩
      unfold putF
      rw [if_pos]
      refine bl_congr fun m hm => ?_
      unfold sw
      rw [e _ h3, e _ (pr_lt h3), e m hm]
    · obtain ⟨v, hv⟩ := J.d g2 j q h1 h3 (by omega) h4
      exact up _ _ hv
theorem Jp.row {n : Nat} {f : Nat → Bool} {k : Nat} {F : List Nat → Option Nat} {L W : List (List Nat)} {i : Nat} (J : Jp n f k F L W i n) : Jp n f k F L W (i + 1) 0 :=
  ⟨J.a, J.b, J.c, fun g j q h1 h2 h3 h4 => J.d g j q h1 h2 (by omega) h4⟩
theorem Jp.close {n : Nat} {f : Nat → Bool} {k : Nat} {F : List Nat → Option Nat} {L W : List (List Nat)} (J : Jp n f k F L W L.length 0) (hL : ∀ x, x ∈ L ↔ ∃ g, x = bl n g ∧ Dk n f g k) (h2 : 2 ≤ n) (hd : 0 < (bl n f).length) (hd2 : (bl n f).length < n) : Jw n f (k + 1) F W := by
  have b : ∀ g v, Dk n f g v → v ≤ k + 1 → F (bl n g) = some v := fun g v h hv => by
    by_cases c : v ≤ k
    · exact J.b g v h c
    · have e : v = k + 1 := by omega
      subst e
      obtain ⟨i, hi, ne, hn⟩ := h.nearer h2 hd hd2
      obtain ⟨q, hq, e⟩ := List.getElem_of_mem ((hL _).mpr ⟨_, rfl, hn⟩)
      have ne2 : sw n i g i ≠ sw n i g (pr n i) := by
        unfold sw
        rw [if_pos rfl, if_neg (pr_ne hi h2), if_pos rfl]
        exact fun z => ne z.symm
      obtain ⟨v, hv⟩ := J.d (sw n i g) i q (by rw [List.getElem?_eq_getElem hq, e]) hi (.inl hq) ne2
      rw [sw_sw hi h2] at hv
      obtain ⟨g2, e2, d2, _⟩ := J.a _ _ hv
      rw [hv, d2.same h e2.symm]
  refine ⟨J.a, b, fun x => ?_⟩
  rw [J.c]
  constructor
  · intro z
    obtain ⟨g, e, h, _⟩ := J.a x _ z
    exact ⟨g, e, h⟩
  · rintro ⟨g, rfl, h⟩
    exact b g _ h (Nat.le_refl _)
theorem Jw.done {n : Nat} {f : Nat → Bool} {k : Nat} {F : List Nat → Option Nat} (J : Jw n f k F []) (h2 : 2 ≤ n) (hd : 0 < (bl n f).length) (hd2 : (bl n f).length < n) {g : Nat → Bool} {v : Nat} (h : Dk n f g v) : F (bl n g) = some v := by
  have key : ∀ m g, Dk n f g (k + m) → False := by
    intro m
    induction m with
    | zero =>
      intro g h
      have := (J.c (bl n g)).mpr ⟨g, rfl, h⟩
      cases this
    | succ m ih =>
      intro g h
      obtain ⟨i, _, _, hn⟩ := Dk.nearer (v := k + m) h h2 hd hd2
      exact ih _ hn
  refine J.b g v h (Decidable.byContradiction fun z => ?_)
  refine key (v - k) g ?_
  rw [show k + (v - k) = v by omega]
  exact h
theorem Jw.few {n : Nat} {f : Nat → Bool} {k : Nat} {F : List Nat → Option Nat} {L : List (List Nat)} (J : Jw n f k F L) (h : L ≠ []) : k ≤ n * n := by
  cases L with
  | nil => exact absurd rfl h
  | cons x L =>
    obtain ⟨g, _, h⟩ := (J.c x).mp List.mem_cons_self
    exact h.bound
end M30

/-! Turning on does to a round what calling does: the call made before and after. -/
namespace M30
section
variable {ι S : Type} [DecidableEq ι] {act : ι → S → S} {R : ι → ι → Prop}
def go (act : ι → S → S) (o : List ι) (s : S) : S := o.foldl (fun s i => act i s) s
theorem go_append (a b : List ι) (s : S) : go act (a ++ b) s = go act b (go act a s) := List.foldl_append
theorem go_past (l : List ι) (a : ι) (h : ∀ x ∈ l, ∀ s, act a (act x s) = act x (act a s)) : ∀ s, act a (go act l s) = go act l (act a s) := by
  induction l with
  | nil => exact fun _ => rfl
  | cons x l ih =>
    intro s
    show act a (go act l (act x s)) = go act l (act x (act a s))
    rw [ih (fun y hy => h y (List.mem_cons_of_mem _ hy)), h x List.mem_cons_self]
/-- orders that agree on all pairs that do not commute lead to the same -/
theorem go_same (comm : ∀ a b, ¬ R a b → ∀ s, act a (act b s) = act b (act a s)) (sym : ∀ a b, R a b → R b a) : ∀ {o1 o2 : List ι}, o1.Perm o2 → o1.Nodup → (∀ a b, R a b → ([a, b].Sublist o1 ↔ [a, b].Sublist o2)) → ∀ s, go act o1 s = go act o2 s
  | [], o2, pm, _, _, s => by rw [List.nil_perm.mp pm]
  | a :: t, o2, pm, nd, h, s => by
    have nd1 := List.nodup_cons.mp nd
    obtain ⟨l, r, rfl⟩ := List.append_of_mem (pm.mem_iff.mp List.mem_cons_self)
    have nd2 : (l ++ a :: r).Nodup := pm.nodup_iff.mp nd
    have nd3 := List.nodup_append.mp nd2
    have al : a ∉ l := fun z => nd3.2.2 a z a List.mem_cons_self rfl
    have ar : a ∉ r := (List.nodup_cons.mp nd3.2.1).1
    have pm2 : t.Perm (l ++ r) := (pm.trans List.perm_middle).cons_inv
    have free : ∀ x ∈ l, ¬ R a x := by
      intro x hx hr
      have s1 : [x, a].Sublist (l ++ a :: r) := List.Sublist.append (l₁ := [x]) (List.singleton_sublist.mpr hx) (List.singleton_sublist.mpr List.mem_cons_self)
      have s2 := (h x a (sym a x hr)).mpr s1
      have xa : x ≠ a := fun e => al (e ▸ hx)
      cases s2 with
      | cons _ q => exact nd1.1 (q.subset (by simp))
      | cons_cons _ q => exact xa rfl
    have e1 : go act (l ++ a :: r) s = go act (l ++ r) (act a s) := by
      rw [go_append, go_append]
      show go act r (act a (go act l s)) = _
      rw [go_past l a fun x hx => comm a x (free x hx)]
    rw [e1]
    refine go_same comm sym pm2 nd1.2 (fun x y hr => ?_) (act a s)
    have back : ∀ {x y : ι}, x ≠ a → y ≠ a → ([x, y].Sublist (l ++ a :: r) ↔ [x, y].Sublist (l ++ r)) := by
      intro x y hx hy
      constructor
      · intro q
        have z := q.filter fun u => decide (u ≠ a)
        have f : ∀ m : List ι, a ∉ m → m.filter (fun u => decide (u ≠ a)) = m := fun m hm => List.filter_eq_self.mpr fun u hu => decide_eq_true fun e => hm (e ▸ hu)
        have fa : (a :: r).filter (fun u => decide (u ≠ a)) = r := by
          rw [List.filter_cons, if_neg (by simp)]
          exact f r ar
        rw [List.filter_append, fa, f l al, f [x, y] (by simp [hx.symm, hy.symm])] at z
        exact z
      · exact fun q => q.trans (List.Sublist.append (List.Sublist.refl l) (List.sublist_cons_self a r))
    constructor
    · intro q
      have hx : x ≠ a := fun e => nd1.1 (e ▸ q.subset (by simp))
      have hy : y ≠ a := fun e => nd1.1 (e ▸ q.subset (by simp))
      exact (back hx hy).mp ((h x y hr).mp (q.cons a))
    · intro q
      have m : ∀ u ∈ [x, y], u ≠ a := fun u hu e => (List.mem_append.mp (q.subset hu)).elim (fun z => al (e ▸ z)) fun z => ar (e ▸ z)
      have hx := m x (by simp)
      have hy := m y (by simp)
      have z := (h x y hr).mpr ((back hx hy).mpr q)
      cases z with
      | cons _ z => exact z
      | cons_cons _ z => exact absurd rfl hx
end

/-! ### who stands ahead -/
theorem sub_idx {o : List Int} : o.Nodup → ∀ {a b : Int}, a ∈ o → b ∈ o → ([a, b].Sublist o ↔ o.idxOf a < o.idxOf b) := by
  induction o with
  | nil => intro _ a b h; cases h
  | cons x o ih =>
    intro nd a b ha hb
    have nd := List.nodup_cons.mp nd
    rw [List.idxOf_cons, List.idxOf_cons]
    by_cases c : x = a
    · subst c
      by_cases d : x = b
      · subst d
        simp only [beq_self_eq_true, cond_true, Nat.lt_irrefl, iff_false]
        intro z
        cases z with
        | cons _ z => exact nd.1 (z.subset (by simp))
        | cons_cons _ z => exact nd.1 (z.subset (by simp))
      · rw [beq_self_eq_true, beq_eq_false_iff_ne.mpr d]
        refine ⟨fun _ => Nat.succ_pos _, fun _ => ?_⟩
        have hb : b ∈ o := (List.mem_cons.mp hb).resolve_left fun z => d z.symm
        exact (List.singleton_sublist.mpr hb).cons_cons x
    · have ha : a ∈ o := (List.mem_cons.mp ha).resolve_left fun z => c z.symm
      rw [beq_eq_false_iff_ne.mpr c]
      by_cases d : x = b
      · subst d
        rw [beq_self_eq_true]
        refine ⟨fun z => ?_, fun z => absurd z (Nat.not_lt_zero _)⟩
        cases z with
        | cons _ z => exact absurd (z.subset (by simp)) nd.1
        | cons_cons _ z => exact absurd rfl c
      · have hb : b ∈ o := (List.mem_cons.mp hb).resolve_left fun z => d z.symm
        rw [beq_eq_false_iff_ne.mpr d]
        show _ ↔ o.idxOf a + 1 < o.idxOf b + 1
        rw [Nat.add_lt_add_iff_right, ← ih nd.2 ha hb]
        constructor
        · intro z
          cases z with
          | cons _ z => exact z
          | cons_cons _ z => exact absurd rfl c
        · exact fun z => z.cons x
/-- the breaks of an order -/
def mk (n : Nat) (o : List Int) (k : Nat) : Bool := decide (o.idxOf ((nx n k + 1 : Nat) : Int) < o.idxOf ((k + 1 : Nat) : Int))
theorem stn_mem {n : Nat} {o : List Int} (O : MR.Stn n o) {k : Nat} (h : k < n) : ((k + 1 : Nat) : Int) ∈ o := by
  have z := O.row.all (i := ((k + 1 : Nat) : Int)) (by omega) (by omega)
  exact (List.mem_cons.mp z).resolve_left (by omega)
theorem mk_sub {n : Nat} {o : List Int} (O : MR.Stn n o) {k : Nat} (h : k < n) : mk n o k = true ↔ [((nx n k + 1 : Nat) : Int), ((k + 1 : Nat) : Int)].Sublist o := by
  unfold mk
  rw [decide_eq_true_iff, sub_idx O.nd (stn_mem O (nx_lt h)) (stn_mem O h)]
theorem idx_ne {o : List Int} (nd : o.Nodup) {a b : Int} (ha : a ∈ o) (hb : b ∈ o) (ne : a ≠ b) : o.idxOf a ≠ o.idxOf b := fun z => by
  have h1 := List.getElem_idxOf (List.idxOf_lt_length_of_mem ha)
  have h2 := List.getElem_idxOf (List.idxOf_lt_length_of_mem hb)
  simp only [z] at h1
  exact ne (h1.symm.trans h2)
theorem nx_ne {n k : Nat} (h : k < n) (h2 : 2 ≤ n) : nx n k ≠ k := by
  rw [nx_eq h]; split <;> omega
theorem mk_sub2 {n : Nat} {o : List Int} (O : MR.Stn n o) {k : Nat} (h : k < n) (h2 : 2 ≤ n) : mk n o k = false ↔ [((k + 1 : Nat) : Int), ((nx n k + 1 : Nat) : Int)].Sublist o := by
  unfold mk
  have := nx_ne h h2
  have := idx_ne O.nd (stn_mem O h) (stn_mem O (nx_lt h)) (by omega)
  rw [decide_eq_false_iff_not, sub_idx O.nd (stn_mem O h) (stn_mem O (nx_lt h))]
  omega
theorem nxt_nat {n k : Nat} (h : k < n) : MR.nxt n ((k + 1 : Nat) : Int) = ((nx n k + 1 : Nat) : Int) := by
  unfold MR.nxt nx
  rw [← Int.natCast_emod]
  rfl
def act (td : Int → Int → Bool) (n : Nat) (c : Int) (s : List Int) : List Int := MR.stepP td s (c, MR.nxt n c)
theorem run_go (td : Int → Int → Bool) (n : Nat) (o : List Int) (s : List Int) : MR.runP td s (MR.pairsF n o) = go (act td n) o s := by
  unfold MR.runP MR.pairsF go
  rw [List.foldl_map]
  rfl
theorem step_comm (td : Int → Int → Bool) (s : List Int) {a b c d : Int} (h1 : a.toNat ≠ c.toNat) (h2 : a.toNat ≠ d.toNat) (h3 : b.toNat ≠ c.toNat) (h4 : b.toNat ≠ d.toNat) :
    MR.stepP td (MR.stepP td s (c, d)) (a, b) = MR.stepP td (MR.stepP td s (a, b)) (c, d) := by
  have g : ∀ (x y p : Int) (u v : Int) (s : List Int), p.toNat ≠ x.toNat → p.toNat ≠ y.toNat → MR.g0 ((s.set x.toNat u).set y.toNat v) p = MR.g0 s p := fun x y p u v s e1 e2 => by
    unfold MR.g0
    rw [List.getD_eq_getElem?_getD, List.getD_eq_getElem?_getD, List.getElem?_set_ne e2.symm, List.getElem?_set_ne e1.symm]
  unfold MR.stepP
  dsimp only
  by_cases p : td (MR.g0 s c) (MR.g0 s d) = true
  · rw [if_pos p]
    by_cases q : td (MR.g0 s a) (MR.g0 s b) = true
    · rw [if_pos q, if_pos p]
    · rw [if_neg q, g _ _ _ _ _ _ h1.symm h3.symm, g _ _ _ _ _ _ h2.symm h4.symm, if_pos p]
  · rw [if_neg p, g _ _ _ _ _ _ h1 h2, g _ _ _ _ _ _ h3 h4]
    by_cases q : td (MR.g0 s a) (MR.g0 s b) = true
    · rw [if_pos q, if_pos q, if_neg p]
    · rw [if_neg q, if_neg q, g _ _ _ _ _ _ h1.symm h3.symm, g _ _ _ _ _ _ h2.symm h4.symm, if_neg p]
      rw [List.set_comm _ _ h2.symm, List.set_comm _ _ h1.symm, List.set_comm _ _ h4.symm, List.set_comm _ _ h3.symm]
theorem in_nat {n : Nat} {a : Int} (h1 : 1 ≤ a) (h2 : a ≤ n) : ∃ k, k < n ∧ a = ((k + 1 : Nat) : Int) := ⟨a.toNat - 1, by omega, by omega⟩
theorem nx_inj {n i j : Nat} (hi : i < n) (hj : j < n) (h : nx n i = nx n j) : i = j := by rw [← pr_nx hi, h, pr_nx hj]
/-- orders with the same breaks make the same round -/
theorem alike_same {td : Int → Int → Bool} {n : Nat} {o1 o2 : List Int} (O1 : MR.Stn n o1) (O2 : MR.Stn n o2) (h2 : 2 ≤ n) (h : ∀ k, k < n → mk n o1 k = mk n o2 k) (s : List Int) : MR.runP td s (MR.pairsF n o1) = MR.runP td s (MR.pairsF n o2) := by
  rw [run_go, run_go]
  refine go_same (R := fun a b => ¬ ((1 ≤ a ∧ a ≤ (n : Int)) ∧ (1 ≤ b ∧ b ≤ (n : Int)) ∧ a ≠ b ∧ MR.nxt n a ≠ b ∧ MR.nxt n b ≠ a)) (fun a b nr s => ?_) (fun a b r z => r ⟨z.2.1, z.1, fun e => z.2.2.1 e.symm, z.2.2.2.2, z.2.2.2.1⟩) ?_ O1.nd (fun a b r => ?_) s
  · obtain ⟨ha, hb, ne, e1, e2⟩ := Decidable.not_not.mp nr
    obtain ⟨i, hi, rfl⟩ := in_nat ha.1 ha.2
    obtain ⟨j, hj, rfl⟩ := in_nat hb.1 hb.2
    unfold act
    rw [nxt_nat hi] at e1 ⊢
    rw [nxt_nat hj] at e2 ⊢
    have : nx n i ≠ nx n j := fun z => ne (by rw [nx_inj hi hj z])
    exact step_comm td s (by omega) (by omega) (by omega) (by omega)
  · refine (List.perm_ext_iff_of_nodup O1.nd O2.nd).mpr fun x => ?_
    constructor
    · intro hx
      obtain ⟨k, hk, rfl⟩ := in_nat (O1.lo x hx).1 (O1.lo x hx).2
      exact stn_mem O2 hk
    · intro hx
      obtain ⟨k, hk, rfl⟩ := in_nat (O2.lo x hx).1 (O2.lo x hx).2
      exact stn_mem O1 hk
  · have out : ∀ {o : List Int}, MR.Stn n o → [a, b].Sublist o → (1 ≤ a ∧ a ≤ (n : Int)) ∧ (1 ≤ b ∧ b ≤ (n : Int)) ∧ a ≠ b := fun {o} O z => by
      refine ⟨O.lo a (z.subset (by simp)), O.lo b (z.subset (by simp)), fun e => ?_⟩
      have y := z.nodup O.nd
      rw [e] at y
      simp at y
    by_cases c : (1 ≤ a ∧ a ≤ (n : Int)) ∧ (1 ≤ b ∧ b ≤ (n : Int)) ∧ a ≠ b
    · obtain ⟨ha, hb, ne⟩ := c
      obtain ⟨i, hi, rfl⟩ := in_nat ha.1 ha.2
      obtain ⟨j, hj, rfl⟩ := in_nat hb.1 hb.2
      rw [nxt_nat hi, nxt_nat hj] at r
      by_cases e1 : nx n i = j
      · subst e1
        rw [← mk_sub2 O1 hi h2, ← mk_sub2 O2 hi h2, h i hi]
      · by_cases e2 : nx n j = i
        · subst e2
          rw [← mk_sub O1 hj, ← mk_sub O2 hj, h j hj]
        · exact absurd ⟨ha, hb, ne, by omega, by omega⟩ r
    · exact ⟨fun z => absurd (out O1 z) c, fun z => absurd (out O2 z) c⟩
/-! ### one call turned on -/
theorem sub_first {c : Int} {r : List Int} (hc : c ∉ r) {x : Int} : [c, x].Sublist (c :: r) ↔ x ∈ r := by
  constructor
  · intro z
    cases z with
    | cons _ z => exact absurd (z.subset (by simp)) hc
    | cons_cons _ z => exact List.singleton_sublist.mp z
  · exact fun z => (List.singleton_sublist.mpr z).cons_cons c
theorem sub_rest {c : Int} {r : List Int} {a b : Int} (h : a ≠ c) : [a, b].Sublist (c :: r) ↔ [a, b].Sublist r := by
  constructor
  · intro z
    cases z with
    | cons _ z => exact z
    | cons_cons _ z => exact absurd rfl h
  · exact fun z => z.cons c
theorem sub_del {c : Int} {l r : List Int} (hl : c ∉ l) (hr : c ∉ r) {x y : Int} (hx : x ≠ c) (hy : y ≠ c) : [x, y].Sublist (l ++ c :: r) ↔ [x, y].Sublist (l ++ r) := by
  constructor
  · intro q
    have z := q.filter fun u => decide (u ≠ c)
    have f : ∀ m : List Int, c ∉ m → m.filter (fun u => decide (u ≠ c)) = m := fun m hm => List.filter_eq_self.mpr fun u hu => decide_eq_true fun e => hm (e ▸ hu)
    have fa : (c :: r).filter (fun u => decide (u ≠ c)) = r := by
      rw [List.filter_cons, if_neg (by simp)]
      exact f r hr
    rw [List.filter_append, fa, f l hl, f [x, y] (by simp [hx.symm, hy.symm])] at z
    exact z
  · exact fun q => q.trans (List.Sublist.append (List.Sublist.refl l) (List.sublist_cons_self c r))
theorem turn_one {td : Int → Int → Bool} (sym : ∀ a b, td a b = td b a) {n i : Nat} {o : List Int} (O : MR.Stn n o) (h3 : 3 ≤ n) (hi : i < n) (ne : mk n o i ≠ mk n o (pr n i)) :
    ∃ o', MR.Stn n o' ∧ (∀ k, k < n → mk n o' k = sw n i (mk n o) k) ∧ ∀ s, MR.Plc n s → MR.runP td s (MR.pairsF n o) = MR.runP td s (MR.pairsF n (((i + 1 : Nat) : Int) :: (o' ++ [((i + 1 : Nat) : Int)]))) := by
  have h2 : 2 ≤ n := by omega
  have hp := pr_lt hi
  have pn := pr_ne hi h2
  have nn := nx_ne hi h2
  have hnx := nx_lt hi
  obtain ⟨c, hc⟩ : ∃ c : Int, c = ((i + 1 : Nat) : Int) := ⟨_, rfl⟩
  have hcm : c ∈ o := by rw [hc]; exact stn_mem O hi
  rw [← hc]
  obtain ⟨l, r, rfl⟩ := List.append_of_mem hcm
  have nd3 := List.nodup_append.mp O.nd
  have cl : c ∉ l := fun z => nd3.2.2 c z c List.mem_cons_self rfl
  have cr : c ∉ r := (List.nodup_cons.mp nd3.2.1).1
  have clr : c ∉ l ++ r := fun z => (List.mem_append.mp z).elim cl cr
  have pf : (c :: (l ++ r)).Perm (l ++ c :: r) := List.perm_middle.symm
  have pb : ((l ++ r) ++ [c]).Perm (l ++ c :: r) := (List.perm_append_singleton c (l ++ r)).trans pf
  have OF : MR.Stn n (c :: (l ++ r)) := ⟨by rw [pf.length_eq, O.len], fun x hx => O.lo x (pf.mem_iff.mp hx), pf.nodup_iff.mpr O.nd⟩
  have OB : MR.Stn n ((l ++ r) ++ [c]) := ⟨by rw [pb.length_eq, O.len], fun x hx => O.lo x (pb.mem_iff.mp hx), pb.nodup_iff.mpr O.nd⟩
  have mem : ∀ k, k < n → k ≠ i → ((k + 1 : Nat) : Int) ∈ l ++ r := fun k hk hki => by
    have z := stn_mem OF hk
    exact (List.mem_cons.mp z).resolve_left (by omega)
  -- c first
  have F0 : mk n (c :: (l ++ r)) i = false := by
    rw [mk_sub2 OF hi h2, ← hc, sub_first clr]
    exact mem _ hnx nn
  have F1 : mk n (c :: (l ++ r)) (pr n i) = true := by
    rw [mk_sub OF hp, nx_pr hi, ← hc, sub_first clr]
    exact mem _ hp pn
  have B1 : mk n ((l ++ r) ++ [c]) i = true := by
    rw [mk_sub OB hi, ← hc]
    exact List.Sublist.append (List.singleton_sublist.mpr (mem _ hnx nn)) (List.Sublist.refl [c])
  have B0 : mk n ((l ++ r) ++ [c]) (pr n i) = false := by
    rw [mk_sub2 OB hp h2, nx_pr hi, ← hc]
    exact List.Sublist.append (List.singleton_sublist.mpr (mem _ hp pn)) (List.Sublist.refl [c])
  have FX : ∀ k, k < n → k ≠ i → k ≠ pr n i → mk n (c :: (l ++ r)) k = mk n (l ++ c :: r) k := fun k hk h1 h2' => by
    have e1 : nx n k ≠ i := fun z => h2' (by rw [← z, pr_nx hk])
    have q : mk n (c :: (l ++ r)) k = true ↔ mk n (l ++ c :: r) k = true := by
      rw [mk_sub OF hk, mk_sub O hk, sub_rest (by omega), sub_del cl cr (by omega) (by omega)]
    cases x : mk n (c :: (l ++ r)) k <;> cases y : mk n (l ++ c :: r) k <;> rw [x, y] at q <;> first | rfl | exact absurd q (by decide)
  have BX : ∀ k, k < n → k ≠ i → k ≠ pr n i → mk n ((l ++ r) ++ [c]) k = mk n (l ++ c :: r) k := fun k hk h1 h2' => by
    have e1 : nx n k ≠ i := fun z => h2' (by rw [← z, pr_nx hk])
    have q : mk n ((l ++ r) ++ [c]) k = true ↔ mk n (l ++ c :: r) k = true := by
      rw [mk_sub OB hk, mk_sub O hk, sub_del cl cr (by omega) (by omega)]
      have z := sub_del (c := c) (l := l ++ r) (r := []) clr (by simp) (x := ((nx n k + 1 : Nat) : Int)) (y := ((k + 1 : Nat) : Int)) (by omega) (by omega)
      rw [z, List.append_nil]
    cases x : mk n ((l ++ r) ++ [c]) k <;> cases y : mk n (l ++ c :: r) k <;> rw [x, y] at q <;> first | rfl | exact absurd q (by decide)
  have hcok : MR.CallOk n (c, MR.nxt n c) := MR.pairs_ok (n := n) (by omega) (cs := [c]) (fun x hx => by rw [List.mem_singleton.mp hx]; omega) _ (by simp [MR.pairsF])
  have bound : ∀ x ∈ l ++ r, 1 ≤ x ∧ x ≤ (n : Int) := fun x hx => OF.lo x (List.mem_cons_of_mem _ hx)
  have inv : ∀ s, MR.Plc n s → act td n c (act td n c s) = s := fun s P => MR.step_step sym P.row.len hcok
  cases z : mk n (l ++ c :: r) i with
  | false =>
    have z2 : mk n (l ++ c :: r) (pr n i) = true := by
      cases q : mk n (l ++ c :: r) (pr n i) with
      | true => rfl
      | false => rw [z, q] at ne; exact absurd rfl ne
    refine ⟨(l ++ r) ++ [c], OB, fun k hk => ?_, fun s P => ?_⟩
    · unfold sw
      by_cases e : k = i
      · rw [if_pos e, e, B1, z2]
      · rw [if_neg e]
        by_cases e2 : k = pr n i
        · rw [if_pos e2, e2, B0, z]
        · rw [if_neg e2]
          exact BX k hk e e2
    · rw [alike_same O OF h2 (fun k hk => ?_) s]
      · rw [run_go, run_go]
        show go _ (l ++ r) (act td n c s) = go _ (((l ++ r) ++ [c]) ++ [c]) (act td n c s)
        rw [go_append (act := act td n) ((l ++ r) ++ [c]), go_append (act := act td n) (l ++ r)]
        refine (inv _ ?_).symm
        rw [← run_go]
        exact MR.run_plc (MR.step_plc P hcok) (MR.pairs_ok h2 bound)
      · by_cases e : k = i
        · rw [e, F0, z]
        · by_cases e2 : k = pr n i
          · rw [e2, F1, z2]
          · exact (FX k hk e e2).symm
  | true =>
    have z2 : mk n (l ++ c :: r) (pr n i) = false := by
      cases q : mk n (l ++ c :: r) (pr n i) with
      | false => rfl
      | true => rw [z, q] at ne; exact absurd rfl ne
    refine ⟨c :: (l ++ r), OF, fun k hk => ?_, fun s P => ?_⟩
    · unfold sw
      by_cases e : k = i
      · rw [if_pos e, e, F0, z2]
      · rw [if_neg e]
        by_cases e2 : k = pr n i
        · rw [if_pos e2, e2, F1, z]
        · rw [if_neg e2]
          exact FX k hk e e2
    · rw [alike_same O OB h2 (fun k hk => ?_) s]
      · rw [run_go, run_go]
        show go _ ((l ++ r) ++ [c]) s = go _ ((l ++ r) ++ [c]) (act td n c (act td n c s))
        rw [inv s P]
      · by_cases e : k = i
        · rw [e, B1, z]
        · by_cases e2 : k = pr n i
          · rw [e2, B0, z2]
          · exact (BX k hk e e2).symm
def calls (m : List Nat) : List Int := m.map fun i => ((i + 1 : Nat) : Int)
theorem turn_all {td : Int → Int → Bool} (sym : ∀ a b, td a b = td b a) {n : Nat} {o : List Int} (O : MR.Stn n o) (h3 : 3 ≤ n) {f h : Nat → Bool} {m : List Nat} (p : Pth n f m h) (hf : ∀ k, k < n → f k = mk n o k) :
    ∃ o', MR.Stn n o' ∧ (∀ k, k < n → mk n o' k = h k) ∧ ∀ s, MR.Plc n s → MR.runP td s (MR.pairsF n o) = MR.runP td s (MR.pairsF n (calls m ++ o' ++ (calls m).reverse)) := by
  induction p with
  | nil => exact ⟨o, O, fun k hk => (hf k hk).symm, fun s _ => by simp [calls]⟩
  | snoc p hi ne ih =>
    rename_i m h i
    obtain ⟨o1, O1, e1, g1⟩ := ih
    obtain ⟨o2, O2, e2, g2⟩ := turn_one sym O1 h3 hi (by rw [e1 i hi, e1 _ (pr_lt hi)]; exact ne)
    refine ⟨o2, O2, fun k hk => ?_, fun s P => ?_⟩
    · rw [e2 k hk]
      unfold sw
      rw [e1 _ (pr_lt hi), e1 i hi, e1 k hk]
    · have cm : calls (m ++ [i]) = calls m ++ [((i + 1 : Nat) : Int)] := by simp [calls]
      have bm : ∀ x ∈ calls m, 1 ≤ x ∧ x ≤ (n : Int) := fun x hx => by
        obtain ⟨j, hj, rfl⟩ := List.mem_map.mp hx
        have := p.bound j hj
        omega
      have P2 : MR.Plc n (go (act td n) (calls m) s) := by
        rw [← run_go]
        exact MR.run_plc P (MR.pairs_ok (by omega) bm)
      have z := g2 _ P2
      rw [g1 s P, cm, List.reverse_append, run_go, run_go, go_append, go_append, ← run_go td n o1, z, run_go]
      simp [go_append, go]
end M30
namespace M30
/-- every order has a break, and a call that is none -/
theorem mk_both {n : Nat} {o : List Int} (O : MR.Stn n o) (h2 : 2 ≤ n) : (∃ k, k < n ∧ mk n o k = true) ∧ (∃ k, k < n ∧ mk n o k = false) := by
  obtain ⟨c, r, rfl⟩ : ∃ c r, o = c :: r := by
    cases o with
    | nil => have := O.len; simp at this; omega
    | cons c r => exact ⟨c, r, rfl⟩
  have hc := O.lo c List.mem_cons_self
  obtain ⟨i, hi, rfl⟩ := in_nat hc.1 hc.2
  have z : (((i + 1 : Nat) : Int) :: r).idxOf ((i + 1 : Nat) : Int) = 0 := List.idxOf_cons_self
  refine ⟨⟨pr n i, pr_lt hi, ?_⟩, ⟨i, hi, ?_⟩⟩
  · have pn := pr_ne hi h2
    have := idx_ne O.nd (stn_mem O (pr_lt hi)) (stn_mem O hi) (by omega)
    rw [z] at this
    unfold mk
    rw [nx_pr hi, z]
    exact decide_eq_true (by omega)
  · unfold mk
    rw [z]
    exact decide_eq_false (by omega)
/-- the way leads from the one round to the other -/
theorem leads {td : Int → Int → Bool} (sym : ∀ a b, td a b = td b a) {n : Nat} {o o2 : List Int} (O : MR.Stn n o) (O2 : MR.Stn n o2) (h3 : 3 ≤ n) {f h : Nat → Bool} {m : List Nat} (p : Pth n f m h) (hf : ∀ k, k < n → f k = mk n o k) (hh : ∀ k, k < n → h k = mk n o2 k) {s : List Int} (P : MR.Plc n s) :
    MR.runP td s (MR.pairsF n o) = MR.runP td s (MR.pairsF n (calls m ++ o2 ++ (calls m).reverse)) := by
  obtain ⟨o', O', e, g⟩ := turn_all sym O h3 p hf
  have bm : ∀ x ∈ calls m, 1 ≤ x ∧ x ≤ (n : Int) := fun x hx => by
    obtain ⟨j, hj, rfl⟩ := List.mem_map.mp hx
    have := p.bound j hj
    omega
  rw [g s P, run_go, run_go, go_append, go_append, go_append, go_append, ← run_go td n o', alike_same O' O2 (by omega) (fun k hk => by rw [e k hk, hh k hk]), run_go]
end M30

namespace K30
open PySem PySem.Spec PyProof.Rows L2 Vf Evl
def topS (i : Nat) : Stmt := PySem.Challenge.pw_apartcalls_k30_whole_turns.main.body.getD i (.Pass ⟨0, 0, 0, 0⟩)
abbrev s_is_whole : Stmt := topS 9
theorem sc_is_whole : FnScope ["thing"] ["thing"] (defScope s_is_whole) :=
  ⟨rfl, rfl, rfl, by decide +kernel, rfl, by decide +kernel, by decide +kernel⟩
abbrev s_is_from_one : Stmt := topS 10
theorem sc_is_from_one : FnScope ["thing", "most"] ["thing", "most"] (defScope s_is_from_one) :=
  ⟨rfl, rfl, rfl, by decide +kernel, rfl, by decide +kernel, by decide +kernel⟩
abbrev s_first_wrong : Stmt := topS 11
theorem sc_first_wrong : FnScope ["things", "most", "seen", "at", "thing"] ["things", "most"] (defScope s_first_wrong) :=
  ⟨rfl, rfl, rfl, by decide +kernel, rfl, by decide +kernel, by decide +kernel⟩
abbrev s_check_count : Stmt := topS 12
theorem sc_check_count : FnScope ["number"] ["number"] (defScope s_check_count) :=
  ⟨rfl, rfl, rfl, by decide +kernel, rfl, by decide +kernel, by decide +kernel⟩
abbrev s_is_tie : Stmt := topS 13
theorem sc_is_tie : FnScope ["thing", "seats"] ["thing", "seats"] (defScope s_is_tie) :=
  ⟨rfl, rfl, rfl, by decide +kernel, rfl, by decide +kernel, by decide +kernel⟩
abbrev s_check_ties : Stmt := topS 14
theorem sc_check_ties : FnScope ["ties", "seats", "tied", "at", "tie", "pair"] ["ties", "seats"] (defScope s_check_ties) :=
  ⟨rfl, rfl, rfl, by decide +kernel, rfl, by decide +kernel, by decide +kernel⟩
abbrev s_check_net : Stmt := topS 15
theorem sc_check_net : FnScope ["seats", "ties"] ["seats", "ties"] (defScope s_check_net) :=
  ⟨rfl, rfl, rfl, by decide +kernel, rfl, by decide +kernel, by decide +kernel⟩
abbrev s_check_standing : Stmt := topS 16
theorem sc_check_standing : FnScope ["standing", "seats", "wrong"] ["standing", "seats"] (defScope s_check_standing) :=
  ⟨rfl, rfl, rfl, by decide +kernel, rfl, by decide +kernel, by decide +kernel⟩
abbrev s_check_order_of : Stmt := topS 17
theorem sc_check_order_of : FnScope ["order", "count", "wrong"] ["order", "count"] (defScope s_check_order_of) :=
  ⟨rfl, rfl, rfl, by decide +kernel, rfl, by decide +kernel, by decide +kernel⟩
abbrev s_check_order : Stmt := topS 18
theorem sc_check_order : FnScope ["order"] ["order"] (defScope s_check_order) :=
  ⟨rfl, rfl, rfl, by decide +kernel, rfl, by decide +kernel, by decide +kernel⟩
abbrev s_check_calls : Stmt := topS 19
theorem sc_check_calls : FnScope ["calls", "count", "at", "call"] ["calls", "count"] (defScope s_check_calls) :=
  ⟨rfl, rfl, rfl, by decide +kernel, rfl, by decide +kernel, by decide +kernel⟩
abbrev s_check_many : Stmt := topS 20
theorem sc_check_many : FnScope ["many"] ["many"] (defScope s_check_many) :=
  ⟨rfl, rfl, rfl, by decide +kernel, rfl, by decide +kernel, by decide +kernel⟩
abbrev s_next_call : Stmt := topS 22
theorem sc_next_call : FnScope ["call", "count"] ["call", "count"] (defScope s_next_call) :=
  ⟨rfl, rfl, rfl, by decide +kernel, rfl, by decide +kernel, by decide +kernel⟩
abbrev s_breaks_of : Stmt := topS 23
theorem sc_breaks_of : FnScope ["order", "count", "place", "at", "call"] ["order"] (defScope s_breaks_of) :=
  ⟨rfl, rfl, rfl, by decide +kernel, rfl, by decide +kernel, by decide +kernel⟩
abbrev s_fewest_turns : Stmt := topS 25
theorem sc_fewest_turns : FnScope ["order", "other", "steps", "times"] ["order", "other"] (defScope s_fewest_turns) :=
  ⟨rfl, rfl, rfl, by decide +kernel, rfl, by decide +kernel, by decide +kernel⟩
abbrev s_turns : Stmt := topS 26
theorem sc_turns : FnScope ["order", "other", "steps"] ["order", "other"] (defScope s_turns) :=
  ⟨rfl, rfl, rfl, by decide +kernel, rfl, by decide +kernel, by decide +kernel⟩
abbrev s_falls_of : Stmt := topS 27
theorem sc_falls_of : FnScope ["order", "broken", "call"] ["order"] (defScope s_falls_of) :=
  ⟨rfl, rfl, rfl, by decide +kernel, rfl, by decide +kernel, by decide +kernel⟩
abbrev s_steps_needed : Stmt := topS 28
theorem sc_steps_needed : FnScope ["order", "other", "falls", "wanted", "steps", "fall", "wish", "middle", "times"] ["order", "other"] (defScope s_steps_needed) :=
  ⟨rfl, rfl, rfl, by decide +kernel, rfl, by decide +kernel, by decide +kernel⟩
abbrev s_calls_when_due : Stmt := topS 29
theorem sc_calls_when_due : FnScope ["falls", "steps", "left", "made", "at", "times"] ["falls", "steps"] (defScope s_calls_when_due) :=
  ⟨rfl, rfl, rfl, by decide +kernel, rfl, by decide +kernel, by decide +kernel⟩
abbrev s_is_due : Stmt := topS 30
theorem sc_is_due : FnScope ["left", "ahead", "here"] ["left", "ahead", "here"] (defScope s_is_due) :=
  ⟨rfl, rfl, rfl, by decide +kernel, rfl, by decide +kernel, by decide +kernel⟩
abbrev s_places_of : Stmt := topS 32
theorem sc_places_of : FnScope ["standing"] ["standing"] (defScope s_places_of) :=
  ⟨rfl, rfl, rfl, by decide +kernel, rfl, by decide +kernel, by decide +kernel⟩
abbrev s_standing_of : Stmt := topS 33
theorem sc_standing_of : FnScope ["places"] ["places"] (defScope s_standing_of) :=
  ⟨rfl, rfl, rfl, by decide +kernel, rfl, by decide +kernel, by decide +kernel⟩
abbrev s_turned_about : Stmt := topS 34
theorem sc_turned_about : FnScope ["row", "found", "at", "number"] ["row"] (defScope s_turned_about) :=
  ⟨rfl, rfl, rfl, by decide +kernel, rfl, by decide +kernel, by decide +kernel⟩
abbrev s_tied_seats : Stmt := topS 35
theorem sc_tied_seats : FnScope ["seats", "ties", "tied", "one", "two", "_"] ["seats", "ties"] (defScope s_tied_seats) :=
  ⟨rfl, rfl, rfl, by decide +kernel, rfl, by decide +kernel, by decide +kernel⟩
abbrev s_people_called : Stmt := topS 36
theorem sc_people_called : FnScope ["calls", "count", "call"] ["calls", "count"] (defScope s_people_called) :=
  ⟨rfl, rfl, rfl, by decide +kernel, rfl, by decide +kernel, by decide +kernel⟩
abbrev s_places_after : Stmt := topS 37
theorem sc_places_after : FnScope ["places", "pairs", "tied", "one", "two", "here", "there"] ["places", "pairs", "tied"] (defScope s_places_after) :=
  ⟨rfl, rfl, rfl, by decide +kernel, rfl, by decide +kernel, by decide +kernel⟩
abbrev s_called : Stmt := topS 39
theorem sc_called : FnScope ["seats", "ties", "standing", "calls"] ["seats", "ties", "standing", "calls"] (defScope s_called) :=
  ⟨rfl, rfl, rfl, by decide +kernel, rfl, by decide +kernel, by decide +kernel⟩
abbrev s_after_rounds : Stmt := topS 40
theorem sc_after_rounds : FnScope ["seats", "ties", "standing", "order", "many", "calls", "pairs"] ["seats", "ties", "standing", "order", "many"] (defScope s_after_rounds) :=
  ⟨rfl, rfl, rfl, by decide +kernel, rfl, by decide +kernel, by decide +kernel⟩
abbrev s_places_after_rounds : Stmt := topS 41
theorem sc_places_after_rounds : FnScope ["start", "pairs", "tied", "many", "places", "left", "made"] ["start", "pairs", "tied", "many"] (defScope s_places_after_rounds) :=
  ⟨rfl, rfl, rfl, by decide +kernel, rfl, by decide +kernel, by decide +kernel⟩
abbrev s_l_draws : Stmt := topS 43
theorem sc_l_draws : FnScope ["_law_cell"] ["_law_cell"] (defScope s_l_draws) :=
  ⟨rfl, rfl, rfl, by decide +kernel, rfl, by decide +kernel, by decide +kernel⟩
abbrev s_l_next : Stmt := topS 44
theorem sc_l_next : FnScope ["_law_draws_here", "_law_k", "_law_number"] ["_law_draws_here"] (defScope s_l_next) :=
  ⟨rfl, rfl, rfl, by decide +kernel, rfl, by decide +kernel, by decide +kernel⟩
abbrev s_l_mixed : Stmt := topS 45
theorem sc_l_mixed : FnScope ["_law_draws_here", "_law_some", "_law_left", "_law_told"] ["_law_draws_here", "_law_some"] (defScope s_l_mixed) :=
  ⟨rfl, rfl, rfl, by decide +kernel, rfl, by decide +kernel, by decide +kernel⟩
abbrev s_l_net : Stmt := topS 46
theorem sc_l_net : FnScope ["_law_draws_here", "_law_most", "_law_seats", "_law_kind", "_law_line", "_law_ties", "_law_at", "_law_pick", "_law_other"] ["_law_draws_here", "_law_most"] (defScope s_l_net) :=
  ⟨rfl, rfl, rfl, by decide +kernel, rfl, by decide +kernel, by decide +kernel⟩
abbrev s_l_near : Stmt := topS 47
theorem sc_l_near : FnScope ["_law_ties", "_law_near_here", "_law_one", "_law_two"] ["_law_ties"] (defScope s_l_near) :=
  ⟨rfl, rfl, rfl, by decide +kernel, rfl, by decide +kernel, by decide +kernel⟩
abbrev s_l_where : Stmt := topS 48
theorem sc_l_where : FnScope ["_law_standing", "_law_told", "_law_at", "_law_person"] ["_law_standing"] (defScope s_l_where) :=
  ⟨rfl, rfl, rfl, by decide +kernel, rfl, by decide +kernel, by decide +kernel⟩
abbrev s_l_sitting : Stmt := topS 49
theorem sc_l_sitting : FnScope ["_law_where_here", "_law_told", "_law_person"] ["_law_where_here"] (defScope s_l_sitting) :=
  ⟨rfl, rfl, rfl, by decide +kernel, rfl, by decide +kernel, by decide +kernel⟩
abbrev s_l_called : Stmt := topS 50
theorem sc_l_called : FnScope ["_law_near_here", "_law_where_here", "_law_calls", "_law_now", "_law_call", "_law_other", "_law_one", "_law_two"] ["_law_near_here", "_law_where_here", "_law_calls"] (defScope s_l_called) :=
  ⟨rfl, rfl, rfl, by decide +kernel, rfl, by decide +kernel, by decide +kernel⟩
abbrev s_l_breaks : Stmt := topS 51
theorem sc_l_breaks : FnScope ["_law_order", "_law_many", "_law_call"] ["_law_order"] (defScope s_l_breaks) :=
  ⟨rfl, rfl, rfl, by decide +kernel, rfl, by decide +kernel, by decide +kernel⟩
abbrev s_l_turned : Stmt := topS 52
theorem sc_l_turned : FnScope ["_law_some", "_law_call", "_law_many", "_law_ahead", "_law_gone", "_law_come", "_law_one"] ["_law_some", "_law_call", "_law_many"] (defScope s_l_turned) :=
  ⟨rfl, rfl, rfl, by decide +kernel, rfl, by decide +kernel, by decide +kernel⟩
abbrev s_l_steps : Stmt := topS 53
theorem sc_l_steps : FnScope ["_law_first", "_law_last", "_law_many", "_law_found", "_law_layer", "_law_wider", "_law_some", "_law_call", "_law_more"] ["_law_first", "_law_last", "_law_many"] (defScope s_l_steps) :=
  ⟨rfl, rfl, rfl, by decide +kernel, rfl, by decide +kernel, by decide +kernel⟩
abbrev s_l_least : Stmt := topS 54
theorem sc_l_least : FnScope ["_law_first", "_law_last", "_law_many", "_law_size", "_law_best", "_law_turn", "_law_far", "_law_at", "_law_one", "_law_spot", "_law_goal"] ["_law_first", "_law_last", "_law_many"] (defScope s_l_least) :=
  ⟨rfl, rfl, rfl, by decide +kernel, rfl, by decide +kernel, by decide +kernel⟩
abbrev s_l_right : Stmt := topS 55
theorem sc_l_right : FnScope ["_law_order", "_law_other", "_law_before", "_law_many", "_law_first", "_law_last", "_law_told", "_law_rows", "_law_due", "_law_call"] ["_law_order", "_law_other"] (defScope s_l_right) :=
  ⟨rfl, rfl, rfl, by decide +kernel, rfl, by decide +kernel, by decide +kernel⟩
abbrev s_l_leads_right : Stmt := topS 56
theorem sc_l_leads_right : FnScope ["_law_seats", "_law_ties", "_law_standing", "_law_order", "_law_other", "_law_path", "_law_near_here", "_law_where_here", "_law_goal", "_law_now"] ["_law_seats", "_law_ties", "_law_standing", "_law_order", "_law_other"] (defScope s_l_leads_right) :=
  ⟨rfl, rfl, rfl, by decide +kernel, rfl, by decide +kernel, by decide +kernel⟩
abbrev s_l_others : Stmt := topS 57
theorem sc_l_others : FnScope ["_law_draws_here", "_law_order", "_law_many", "_law_by", "_law_shifted", "_law_bent", "_law_turn", "_law_at", "_law_mixed_here", "_law_call"] ["_law_draws_here", "_law_order"] (defScope s_l_others) :=
  ⟨rfl, rfl, rfl, by decide +kernel, rfl, by decide +kernel, by decide +kernel⟩
abbrev s_law : Stmt := topS 58
theorem sc_law : FnScope ["_law_script", "_law_draws_here", "_law_most", "_law_order", "_law_other", "_law_first", "_law_last", "_law_seats", "_law_ties", "_law_standing", "_law_ordered", "_law_at", "_law_cell"] ["_law_script"] (defScope s_law) :=
  ⟨rfl, rfl, rfl, by decide +kernel, rfl, by decide +kernel, by decide +kernel⟩
structure Ad where
  (f_is_whole f_is_from_one f_first_wrong f_check_count f_is_tie f_check_ties f_check_net f_check_standing f_check_order_of f_check_order f_check_calls f_check_many f_next_call f_breaks_of f_fewest_turns f_turns f_falls_of f_steps_needed f_calls_when_due f_is_due f_places_of f_standing_of f_turned_about f_tied_seats f_people_called f_places_after f_called f_after_rounds f_places_after_rounds f_l_draws f_l_next f_l_mixed f_l_net f_l_near f_l_where f_l_sitting f_l_called f_l_breaks f_l_turned f_l_steps f_l_least f_l_right f_l_leads_right f_l_others f_law : Addr)
  (d_is_whole d_is_from_one d_first_wrong d_check_count d_is_tie d_check_ties d_check_net d_check_standing d_check_order_of d_check_order d_check_calls d_check_many d_next_call d_breaks_of d_fewest_turns d_turns d_falls_of d_steps_needed d_calls_when_due d_is_due d_places_of d_standing_of d_turned_about d_tied_seats d_people_called d_places_after d_called d_after_rounds d_places_after_rounds d_l_draws d_l_next d_l_mixed d_l_net d_l_near d_l_where d_l_sitting d_l_called d_l_breaks d_l_turned d_l_steps d_l_least d_l_right d_l_leads_right d_l_others d_law : FuncData)
  (t_LEAST_COUNT t_MOST_COUNT : Tok)
structure Txt (K : PySem.W.Frag) (mg : Str → Option Value) (A : Ad) : Prop where
  F_is_whole : Fun K "is_whole" "is_whole" s_is_whole A.f_is_whole A.d_is_whole
  g_is_whole : mg "is_whole" = some (.ref A.f_is_whole)
  b_is_whole : Binds K A.d_is_whole ["thing"] []
  F_is_from_one : Fun K "is_from_one" "is_from_one" s_is_from_one A.f_is_from_one A.d_is_from_one
  g_is_from_one : mg "is_from_one" = some (.ref A.f_is_from_one)
  b_is_from_one : Binds K A.d_is_from_one ["thing", "most"] []
  F_first_wrong : Fun K "first_wrong" "first_wrong" s_first_wrong A.f_first_wrong A.d_first_wrong
  g_first_wrong : mg "first_wrong" = some (.ref A.f_first_wrong)
  b_first_wrong : Binds K A.d_first_wrong ["things", "most"] []
  F_check_count : Fun K "check_count" "check_count" s_check_count A.f_check_count A.d_check_count
  g_check_count : mg "check_count" = some (.ref A.f_check_count)
  b_check_count : Binds K A.d_check_count ["number"] []
  F_is_tie : Fun K "is_tie" "is_tie" s_is_tie A.f_is_tie A.d_is_tie
  g_is_tie : mg "is_tie" = some (.ref A.f_is_tie)
  b_is_tie : Binds K A.d_is_tie ["thing", "seats"] []
  F_check_ties : Fun K "check_ties" "check_ties" s_check_ties A.f_check_ties A.d_check_ties
  g_check_ties : mg "check_ties" = some (.ref A.f_check_ties)
  b_check_ties : Binds K A.d_check_ties ["ties", "seats"] []
  F_check_net : Fun K "check_net" "check_net" s_check_net A.f_check_net A.d_check_net
  g_check_net : mg "check_net" = some (.ref A.f_check_net)
  b_check_net : Binds K A.d_check_net ["seats", "ties"] []
  F_check_standing : Fun K "check_standing" "check_standing" s_check_standing A.f_check_standing A.d_check_standing
  g_check_standing : mg "check_standing" = some (.ref A.f_check_standing)
  b_check_standing : Binds K A.d_check_standing ["standing", "seats"] []
  F_check_order_of : Fun K "check_order_of" "check_order_of" s_check_order_of A.f_check_order_of A.d_check_order_of
  g_check_order_of : mg "check_order_of" = some (.ref A.f_check_order_of)
  b_check_order_of : Binds K A.d_check_order_of ["order", "count"] []
  F_check_order : Fun K "check_order" "check_order" s_check_order A.f_check_order A.d_check_order
  g_check_order : mg "check_order" = some (.ref A.f_check_order)
  b_check_order : Binds K A.d_check_order ["order"] []
  F_check_calls : Fun K "check_calls" "check_calls" s_check_calls A.f_check_calls A.d_check_calls
  g_check_calls : mg "check_calls" = some (.ref A.f_check_calls)
  b_check_calls : Binds K A.d_check_calls ["calls", "count"] []
  F_check_many : Fun K "check_many" "check_many" s_check_many A.f_check_many A.d_check_many
  g_check_many : mg "check_many" = some (.ref A.f_check_many)
  b_check_many : Binds K A.d_check_many ["many"] []
  F_next_call : Fun K "next_call" "next_call" s_next_call A.f_next_call A.d_next_call
  g_next_call : mg "next_call" = some (.ref A.f_next_call)
  b_next_call : Binds K A.d_next_call ["call", "count"] []
  F_breaks_of : Fun K "breaks_of" "breaks_of" s_breaks_of A.f_breaks_of A.d_breaks_of
  g_breaks_of : mg "breaks_of" = some (.ref A.f_breaks_of)
  b_breaks_of : Binds K A.d_breaks_of ["order"] []
  F_fewest_turns : Fun K "fewest_turns" "fewest_turns" s_fewest_turns A.f_fewest_turns A.d_fewest_turns
  g_fewest_turns : mg "fewest_turns" = some (.ref A.f_fewest_turns)
  b_fewest_turns : Binds K A.d_fewest_turns ["order", "other"] []
  kb_fewest_turns : KBinds K A.d_fewest_turns ["order", "other"] ["other", "order"] swap2 swap2
  F_turns : Fun K "turns" "turns" s_turns A.f_turns A.d_turns
  g_turns : mg "turns" = some (.ref A.f_turns)
  b_turns : Binds K A.d_turns ["order", "other"] []
  kb_turns : KBinds K A.d_turns ["order", "other"] ["other", "order"] swap2 swap2
  F_falls_of : Fun K "falls_of" "falls_of" s_falls_of A.f_falls_of A.d_falls_of
  g_falls_of : mg "falls_of" = some (.ref A.f_falls_of)
  b_falls_of : Binds K A.d_falls_of ["order"] []
  F_steps_needed : Fun K "steps_needed" "steps_needed" s_steps_needed A.f_steps_needed A.d_steps_needed
  g_steps_needed : mg "steps_needed" = some (.ref A.f_steps_needed)
  b_steps_needed : Binds K A.d_steps_needed ["order", "other"] []
  F_calls_when_due : Fun K "calls_when_due" "calls_when_due" s_calls_when_due A.f_calls_when_due A.d_calls_when_due
  g_calls_when_due : mg "calls_when_due" = some (.ref A.f_calls_when_due)
  b_calls_when_due : Binds K A.d_calls_when_due ["falls", "steps"] []
  F_is_due : Fun K "is_due" "is_due" s_is_due A.f_is_due A.d_is_due
  g_is_due : mg "is_due" = some (.ref A.f_is_due)
  b_is_due : Binds K A.d_is_due ["left", "ahead", "here"] []
  F_places_of : Fun K "places_of" "places_of" s_places_of A.f_places_of A.d_places_of
  g_places_of : mg "places_of" = some (.ref A.f_places_of)
  b_places_of : Binds K A.d_places_of ["standing"] []
  F_standing_of : Fun K "standing_of" "standing_of" s_standing_of A.f_standing_of A.d_standing_of
  g_standing_of : mg "standing_of" = some (.ref A.f_standing_of)
  b_standing_of : Binds K A.d_standing_of ["places"] []
  F_turned_about : Fun K "turned_about" "turned_about" s_turned_about A.f_turned_about A.d_turned_about
  g_turned_about : mg "turned_about" = some (.ref A.f_turned_about)
  b_turned_about : Binds K A.d_turned_about ["row"] []
  F_tied_seats : Fun K "tied_seats" "tied_seats" s_tied_seats A.f_tied_seats A.d_tied_seats
  g_tied_seats : mg "tied_seats" = some (.ref A.f_tied_seats)
  b_tied_seats : Binds K A.d_tied_seats ["seats", "ties"] []
  F_people_called : Fun K "people_called" "people_called" s_people_called A.f_people_called A.d_people_called
  g_people_called : mg "people_called" = some (.ref A.f_people_called)
  b_people_called : Binds K A.d_people_called ["calls", "count"] []
  F_places_after : Fun K "places_after" "places_after" s_places_after A.f_places_after A.d_places_after
  g_places_after : mg "places_after" = some (.ref A.f_places_after)
  b_places_after : Binds K A.d_places_after ["places", "pairs", "tied"] []
  F_called : Fun K "called" "called" s_called A.f_called A.d_called
  g_called : mg "called" = some (.ref A.f_called)
  b_called : Binds K A.d_called ["seats", "ties", "standing", "calls"] []
  F_after_rounds : FunD K "after_rounds" "after_rounds" (defArgs s_after_rounds) (defBody s_after_rounds) (defScope s_after_rounds) [.int 1] [] A.f_after_rounds A.d_after_rounds
  g_after_rounds : mg "after_rounds" = some (.ref A.f_after_rounds)
  b_after_rounds : Binds K A.d_after_rounds ["seats", "ties", "standing", "order", "many"] []
  bd_after_rounds : ∃ ds, Vals [.int 1] ds ∧ Binds K A.d_after_rounds ["seats", "ties", "standing", "order", "many"] ds
  F_places_after_rounds : Fun K "places_after_rounds" "places_after_rounds" s_places_after_rounds A.f_places_after_rounds A.d_places_after_rounds
  g_places_after_rounds : mg "places_after_rounds" = some (.ref A.f_places_after_rounds)
  b_places_after_rounds : Binds K A.d_places_after_rounds ["start", "pairs", "tied", "many"] []
  F_l_draws : Fun K "_law_draws" "_law_draws" s_l_draws A.f_l_draws A.d_l_draws
  g_l_draws : mg "_law_draws" = some (.ref A.f_l_draws)
  b_l_draws : Binds K A.d_l_draws ["_law_cell"] []
  F_l_next : Fun K "_law_next" "_law_next" s_l_next A.f_l_next A.d_l_next
  g_l_next : mg "_law_next" = some (.ref A.f_l_next)
  b_l_next : Binds K A.d_l_next ["_law_draws_here"] []
  F_l_mixed : Fun K "_law_mixed" "_law_mixed" s_l_mixed A.f_l_mixed A.d_l_mixed
  g_l_mixed : mg "_law_mixed" = some (.ref A.f_l_mixed)
  b_l_mixed : Binds K A.d_l_mixed ["_law_draws_here", "_law_some"] []
  F_l_net : Fun K "_law_net" "_law_net" s_l_net A.f_l_net A.d_l_net
  g_l_net : mg "_law_net" = some (.ref A.f_l_net)
  b_l_net : Binds K A.d_l_net ["_law_draws_here", "_law_most"] []
  F_l_near : Fun K "_law_near" "_law_near" s_l_near A.f_l_near A.d_l_near
  g_l_near : mg "_law_near" = some (.ref A.f_l_near)
  b_l_near : Binds K A.d_l_near ["_law_ties"] []
  F_l_where : Fun K "_law_where" "_law_where" s_l_where A.f_l_where A.d_l_where
  g_l_where : mg "_law_where" = some (.ref A.f_l_where)
  b_l_where : Binds K A.d_l_where ["_law_standing"] []
  F_l_sitting : Fun K "_law_sitting" "_law_sitting" s_l_sitting A.f_l_sitting A.d_l_sitting
  g_l_sitting : mg "_law_sitting" = some (.ref A.f_l_sitting)
  b_l_sitting : Binds K A.d_l_sitting ["_law_where_here"] []
  F_l_called : Fun K "_law_called" "_law_called" s_l_called A.f_l_called A.d_l_called
  g_l_called : mg "_law_called" = some (.ref A.f_l_called)
  b_l_called : Binds K A.d_l_called ["_law_near_here", "_law_where_here", "_law_calls"] []
  F_l_breaks : Fun K "_law_breaks" "_law_breaks" s_l_breaks A.f_l_breaks A.d_l_breaks
  g_l_breaks : mg "_law_breaks" = some (.ref A.f_l_breaks)
  b_l_breaks : Binds K A.d_l_breaks ["_law_order"] []
  F_l_turned : Fun K "_law_turned" "_law_turned" s_l_turned A.f_l_turned A.d_l_turned
  g_l_turned : mg "_law_turned" = some (.ref A.f_l_turned)
  b_l_turned : Binds K A.d_l_turned ["_law_some", "_law_call", "_law_many"] []
  F_l_steps : Fun K "_law_steps" "_law_steps" s_l_steps A.f_l_steps A.d_l_steps
  g_l_steps : mg "_law_steps" = some (.ref A.f_l_steps)
  b_l_steps : Binds K A.d_l_steps ["_law_first", "_law_last", "_law_many"] []
  F_l_least : Fun K "_law_least" "_law_least" s_l_least A.f_l_least A.d_l_least
  g_l_least : mg "_law_least" = some (.ref A.f_l_least)
  b_l_least : Binds K A.d_l_least ["_law_first", "_law_last", "_law_many"] []
  F_l_right : Fun K "_law_right" "_law_right" s_l_right A.f_l_right A.d_l_right
  g_l_right : mg "_law_right" = some (.ref A.f_l_right)
  b_l_right : Binds K A.d_l_right ["_law_order", "_law_other"] []
  F_l_leads_right : Fun K "_law_leads_right" "_law_leads_right" s_l_leads_right A.f_l_leads_right A.d_l_leads_right
  g_l_leads_right : mg "_law_leads_right" = some (.ref A.f_l_leads_right)
  b_l_leads_right : Binds K A.d_l_leads_right ["_law_seats", "_law_ties", "_law_standing", "_law_order", "_law_other"] []
  F_l_others : Fun K "_law_others" "_law_others" s_l_others A.f_l_others A.d_l_others
  g_l_others : mg "_law_others" = some (.ref A.f_l_others)
  b_l_others : Binds K A.d_l_others ["_law_draws_here", "_law_order"] []
  F_law : Fun K "law" "law" s_law A.f_law A.d_law
  g_law : mg "law" = some (.ref A.f_law)
  b_law : Binds K A.d_law ["_law_script"] []
  g_LEAST_COUNT : mg "LEAST_COUNT" = some (.int 3 A.t_LEAST_COUNT)
  g_MOST_COUNT : mg "MOST_COUNT" = some (.int 40 A.t_MOST_COUNT)
  z_isinstance : mg "isinstance" = none
  z_int : mg "int" = none
  z_bool : mg "bool" = none
  z_set : mg "set" = none
  z_enumerate : mg "enumerate" = none
  z_list : mg "list" = none
  z_len : mg "len" = none
  z_tuple : mg "tuple" = none
  z_sorted : mg "sorted" = none
  z_range : mg "range" = none
  z_sum : mg "sum" = none
  z_abs : mg "abs" = none
  z_zip : mg "zip" = none
  z_any : mg "any" = none
  z_repr : mg "repr" = none
section
variable {P : Program} {w : World} {K : PySem.W.Frag} {mg : Str → Option Value} {base : Heap} {A : Ad}
def sp_is_whole : Sp := fun vs H Q _ => ∃ i : Int, vs = [.int i] ∧ RetV (.bl true) H Q
theorem ok_is_whole (T : Txt K mg A) : FnOk P w K mg base CX0 1 A.f_is_whole A.d_is_whole ["thing"] sp_is_whole := by
  refine T.F_is_whole.ok sc_is_whole (fun vs H Q E h => ?_) (fun cdv A' outer s H vs Q E hr h => ?_)
  · obtain ⟨i, rfl, _⟩ := h
    rfl
  · obtain ⟨i, rfl, q⟩ := h
    refine ⟨_, (pss_one (ps_ret (pe_and (pe_callB call_isi (by rfl) T.z_isinstance (by decide +kernel) (pa_cons (pv 0) (pa_cons (pe_bltn (v := .ty "int") (by rfl) T.z_int (by decide +kernel) rfl) pa_nil))) (pe_one (pe_not (pe_callB call_isi (by rfl) T.z_isinstance (by decide +kernel) (pa_cons (pv 0) (pa_cons (pe_bltn (v := .ty "bool") (by rfl) T.z_bool (by decide +kernel) rfl) pa_nil)))))))), ?_⟩
    refine ⟨_, rfl, _, _, .type "int", .type "int", true, rfl, .ty _, .base (.int i), kit_ty (by decide +kernel), true, rfl, iteT ?_⟩
    refine ⟨_, rfl, _, _, .type "int", .type "bool", false, rfl, .ty _, .base (.int i), kit_ty (by decide +kernel), false, rfl, q H (Ex.refl H)⟩
def sp_is_from_one : Sp := fun vs H Q _ => ∃ i m : Int, vs = [.int i, .int m] ∧ RetV (.bl (decide (1 ≤ i ∧ i ≤ m))) H Q
theorem ok_is_from_one (T : Txt K mg A) : FnOk P w K mg base CX0 1 A.f_is_from_one A.d_is_from_one ["thing", "most"] sp_is_from_one := by
  refine T.F_is_from_one.ok sc_is_from_one (fun vs H Q E h => ?_) (fun cdv A' outer s H vs Q E hr h => ?_)
  · obtain ⟨i, m, rfl, _⟩ := h
    rfl
  · obtain ⟨i, m, rfl, q⟩ := h
    refine ⟨_, (pss_one (ps_ret (pe_and (pe_callB call_isi (by rfl) T.z_isinstance (by decide +kernel) (pa_cons (pv 0) (pa_cons (pe_bltn (v := .ty "int") (by rfl) T.z_int (by decide +kernel) rfl) pa_nil))) (pe_and (pe_not (pe_callB call_isi (by rfl) T.z_isinstance (by decide +kernel) (pa_cons (pv 0) (pa_cons (pe_bltn (v := .ty "bool") (by rfl) T.z_bool (by decide +kernel) rfl) pa_nil)))) (pe_one (pe_chain op_le op_le pe_int (pv 0) (pv 1))))))), ?_⟩
    refine ⟨_, rfl, _, _, .type "int", .type "int", true, rfl, .ty _, .base (.int i), kit_ty (by decide +kernel), true, rfl, iteT ?_⟩
    refine ⟨_, rfl, _, _, .type "int", .type "bool", false, rfl, .ty _, .base (.int i), kit_ty (by decide +kernel), false, rfl, true, rfl, iteT ?_⟩
    refine ⟨_, rfl, _, _, rfl, rfl, _, rfl, ?_⟩
    have e : decide (1 ≤ i ∧ i ≤ m) = (decide (1 ≤ i) && decide (i ≤ m)) := by
      by_cases c : 1 ≤ i <;> by_cases d : i ≤ m <;> simp [c, d]
    rw [e] at q
    by_cases c : 1 ≤ i
    · rw [decide_eq_true c] at q ⊢
      exact iteT ⟨_, rfl, _, _, rfl, rfl, q H (Ex.refl H)⟩
    · rw [decide_eq_false c] at q ⊢
      exact iteF (q H (Ex.refl H))
def sp_first_wrong (K : PySem.W.Frag) : Sp := fun vs H Q _ => ∃ (a : Addr) (ns : List Int) (m : Int), vs = [.ref a, .int m] ∧ SqL K H a (ns.map V.int) ∧ ns.Nodup ∧ (∀ x ∈ ns, 1 ≤ x ∧ x ≤ m) ∧ ns.length ≤ 1000 ∧ RetV .non H Q
theorem ok_first_wrong (T : Txt K mg A) : FnOk P w K mg base CX0 2 A.f_first_wrong A.d_first_wrong ["things", "most"] (sp_first_wrong K) := by
  have G_is_from_one : FnOk P w K mg base CX0 1 A.f_is_from_one A.d_is_from_one ["thing", "most"] sp_is_from_one := ok_is_from_one T
  refine T.F_first_wrong.ok sc_first_wrong (fun vs H Q E h => ?_) (fun cdv A' outer s H vs Q E hr h => ?_)
  · obtain ⟨a, ns, m, rfl, _⟩ := h
    rfl
  · obtain ⟨a, ns, m, rfl, hS, nd, hb, hl, q⟩ := h
    refine ⟨_, (pss_cons (ps_set (i := 2) sc_first_wrong.nd rfl (by first | exact .inl rfl | exact .inr rfl) (pe_callTy0 cr_set0 (by rfl) T.z_set (by decide +kernel)))
      (pss_cons (ps_for PassesOwn.never rfl (pi_enum (by rfl) T.z_enumerate (pa_cons (pv 0) pa_nil)) (pg_tupK (n := 2) (K := K) rfl rfl (pgs_cons (pg_name (i := 3) sc_first_wrong.nd rfl (by first | exact .inl rfl | exact .inr rfl)) (pgs_cons (pg_name (i := 4) sc_first_wrong.nd rfl (by first | exact .inl rfl | exact .inr rfl)) pgs_nil))) (pss_cons (ps_if (PW.pt (pw_or (pt_not (pt_val (pe_call G_is_from_one (hr.mono (by decide)) (by rfl) T.g_is_from_one T.F_is_from_one.kp T.b_is_from_one .nil pass0 (pa_cons (pv 4) (pa_cons (pv 1) pa_nil))))) (pw_or1 (pt_cmpR or_sin (pv 4) (pv 2) (by rfl))))) (pss_one (ps_ret (pv 3))) pss_nil)
      (pss_one (ps_expr (pe_sadd (pv 2) (pa_cons (pv 4) pa_nil))))))
      (pss_one (ps_ret pe_non)))), ?_⟩
    -- seen = set()
    refine ⟨rfl, fun p np => ?_⟩
    have e0 : Ex H (upd H p (SetO w p (fun _ => false) 0)) := Ex.new np
    -- for at, thing in enumerate(things)
    refine ⟨.ref a, rfl, a, ns.map V.int, rfl, ex_l e0 hS, ?_⟩
    refine for_enumL (xs := ns.map V.int) (fun i σ' H' => (∃ y3 y4, σ' = [some (.ref a), some (.int m), some (.ref p), y3, y4]) ∧ Ex H H' ∧
        ∃ S c, H' p = some (SetO w p S c) ∧ c ≤ i ∧ ∀ k, S k = true → k ∈ ns.take i)
      ⟨⟨none, none, rfl⟩, e0, _, _, upd_same, Nat.le_refl _, fun k z => nomatch z⟩ (fun i σ' H' z => ex_l z.2.1 hS) ?_ ?_
    · rintro i x Tt σ' H' hx ⟨⟨y3, y4, rfl⟩, e1, S, c, hp, hc, hSk⟩ nT
      obtain ⟨n, hn, rfl⟩ := map_at hx
      have mem : n ∈ ns := List.mem_of_getElem? hn
      have e2 : Ex H' (upd H' Tt (.tup [.int (i : Nat), .int n])) := Ex.new nT
      -- at, thing = the pair
      refine ⟨Tt, _, rfl, .inl (.inl upd_same), rfl, _, _, rfl, _, _, rfl, rfl, ?_⟩
      -- if not is_from_one(thing, most) or thing in seen
      refine ⟨_, rfl, _, rfl, n, m, rfl, fun H3 e3 => ?_⟩
      rw [decide_eq_true (hb n mem)]
      have hp3 : H3 p = some (SetO w p S c) := e3 _ _ (e2 _ _ hp)
      have hi : i < ns.length := (List.getElem?_eq_some_iff.mp hn).1
      refine ⟨true, rfl, iteF ⟨_, rfl, _, rfl, n, p, S, c, rfl, rfl, hp3, ?_⟩⟩
      have no : S n = false := by
        cases z : S n with
        | false => rfl
        | true => exact absurd (hSk n z) (nodup_at nd hn)
      rw [no]
      refine ⟨false, rfl, iteF ?_⟩
      -- seen.add(thing)
      refine ⟨_, rfl, ⟨p, S, c, rfl, hp3⟩, _, rfl, p, n, S, c, rfl, rfl, hp3, by unfold scanBound; omega, ?_⟩
      rw [no]
      refine ⟨⟨_, _, rfl⟩, Ex.mut ((e1.trans e2).trans e3) np, _, c + 1, upd_same, by omega, fun k hk => ?_⟩
      rw [take_snoc hn, List.mem_append]
      rcases Bool.or_eq_true_iff.mp hk with z | z
      · exact .inl (hSk k z)
      · exact .inr (by rw [of_decide_eq_true z]; exact List.mem_singleton.mpr rfl)
    · rintro σ' H' ⟨_, e1, _⟩
      exact q H' e1
end
end K30

namespace K30
open PySem PySem.Spec PyProof.Rows L2 Vf Evl
/-! ### ties -/
def nrm (t : Int × Int) : Int × Int := if t.1 ≤ t.2 then t else (t.2, t.1)
def key2 (t : Int × Int) : List Int := [(nrm t).1, (nrm t).2]
structure NetOk (n : Int) (ts : List (Int × Int)) : Prop where
  lo : 3 ≤ n
  hi : n ≤ 40
  ok : ∀ t ∈ ts, (1 ≤ t.1 ∧ t.1 ≤ n) ∧ (1 ≤ t.2 ∧ t.2 ≤ n) ∧ t.1 ≠ t.2
  nd : (ts.map nrm).Nodup
  few : ts.length ≤ 1000
theorem key2_inj {s t : Int × Int} (h : key2 s = key2 t) : nrm s = nrm t := by
  unfold key2 at h
  injection h with h1 h2
  injection h2 with h2 _
  exact Prod.ext h1 h2
theorem sorted_two {ns : List Int} {x y : Int} (h : ns.Perm [x, y]) (hs : ns.Pairwise (· ≤ ·)) : ns = key2 (x, y) := by
  have hl := h.length_eq
  match ns, hl with
  | [a, b], _ =>
    have hab : a ≤ b := by simpa using hs
    have ha : a ∈ [x, y] := h.mem_iff.mp (by simp)
    have hb : b ∈ [x, y] := h.mem_iff.mp (by simp)
    have hx : x ∈ [a, b] := h.mem_iff.mpr (by simp)
    have hy : y ∈ [a, b] := h.mem_iff.mpr (by simp)
    simp only [List.mem_cons, List.not_mem_nil, or_false] at ha hb hx hy
    unfold key2 nrm
    by_cases c : x ≤ y
    · simp only [c, if_true]
      have : a = x ∧ b = y := by omega
      rw [this.1, this.2]
    · simp only [c, if_false]
      have : a = y ∧ b = x := by omega
      rw [this.1, this.2]
def TiesAt (K : PySem.W.Frag) (H : Hp) (a : Addr) (ts : List (Int × Int)) : Prop :=
  ∃ as : List Addr, SqL K H a (as.map V.ref) ∧ as.length = ts.length ∧ ∀ (i : Nat) (b : Addr) (t : Int × Int), as[i]? = some b → ts[i]? = some t → SqL K H b [.int t.1, .int t.2]
theorem TiesAt.mono {K : PySem.W.Frag} {H H' : Hp} {a : Addr} {ts : List (Int × Int)} (e : Ex H H') (h : TiesAt K H a ts) : TiesAt K H' a ts := by
  obtain ⟨as, h1, h2, h3⟩ := h
  exact ⟨as, ex_l e h1, h2, fun i b t x y => ex_l e (h3 i b t x y)⟩
theorem ty_list {K : PySem.W.Frag} {H : Hp} {a : Addr} {xs : List V} (h : SqL K H a xs) : TyX K H (.ref a) (.type "list") := by
  rcases h with (h | ⟨o, h⟩) | ⟨o, its, n, h, hc, _⟩
  · exact .base (.lst h)
  · exact .base (.frz h)
  · exact .kList h hc
section
variable {P : Program} {w : World} {K : PySem.W.Frag} {mg : Str → Option Value} {base : Heap} {A : Ad}
def sp_check_count : Sp := fun vs H Q _ => ∃ n : Int, vs = [.int n] ∧ 3 ≤ n ∧ n ≤ 40 ∧ RetV .non H Q
theorem ok_check_count (T : Txt K mg A) : FnOk P w K mg base CX0 2 A.f_check_count A.d_check_count ["number"] sp_check_count := by
  have G_is_from_one : FnOk P w K mg base CX0 1 A.f_is_from_one A.d_is_from_one ["thing", "most"] sp_is_from_one := ok_is_from_one T
  refine T.F_check_count.ok sc_check_count (fun vs H Q E h => ?_) (fun cdv A' outer s H vs Q E hr h => ?_)
  · obtain ⟨n, rfl, _⟩ := h
    rfl
  · obtain ⟨n, rfl, h1, h2, q⟩ := h
    refine ⟨_, (pss_one (ps_if (PW.pt (pw_or (pt_not (pt_val (pe_call G_is_from_one (hr.mono (by decide)) (by rfl) T.g_is_from_one T.F_is_from_one.kp T.b_is_from_one .nil pass0 (pa_cons (pv 0) (pa_cons (pe_glob (v := .int 40) (by rfl) T.g_MOST_COUNT ⟨_, rfl⟩) pa_nil))))) (pw_or1 (pt_cmpR op_lt (pv 0) (pe_glob (v := .int 3) (by rfl) T.g_LEAST_COUNT ⟨_, rfl⟩) (nomark _))))) (pss_one ps_never) pss_nil)), ?_⟩
    refine ⟨_, rfl, n, 40, rfl, fun H1 e1 => ?_⟩
    rw [decide_eq_true (show 1 ≤ n ∧ n ≤ 40 by omega)]
    refine ⟨true, rfl, iteF ⟨_, rfl, _, _, rfl, rfl, _, rfl, ?_⟩⟩
    rw [decide_eq_false (show ¬ n < 3 by omega)]
    exact iteF (q H1 e1)
def sp_is_tie (K : PySem.W.Frag) : Sp := fun vs H Q _ => ∃ (b : Addr) (x y n : Int), vs = [.ref b, .int n] ∧ SqL K H b [.int x, .int y] ∧ (1 ≤ x ∧ x ≤ n) ∧ (1 ≤ y ∧ y ≤ n) ∧ x ≠ y ∧ RetV (.bl true) H Q
theorem ok_is_tie (T : Txt K mg A) : FnOk P w K mg base CX0 3 A.f_is_tie A.d_is_tie ["thing", "seats"] (sp_is_tie K) := by
  have G_first_wrong : FnOk P w K mg base CX0 2 A.f_first_wrong A.d_first_wrong ["things", "most"] (sp_first_wrong K) := ok_first_wrong T
  refine T.F_is_tie.ok sc_is_tie (fun vs H Q E h => ?_) (fun cdv A' outer s H vs Q E hr h => ?_)
  · obtain ⟨b, x, y, n, rfl, _⟩ := h
    rfl
  · obtain ⟨b, x, y, n, rfl, hS, hx, hy, ne, q⟩ := h
    refine ⟨_, (pss_one (ps_ret (pe_and (pe_callB call_isi (by rfl) T.z_isinstance (by decide +kernel) (pa_cons (pv 0) (pa_cons (pe_bltn (v := .ty "list") (by rfl) T.z_list (by decide +kernel) rfl) pa_nil))) (pe_and (pe_cmpR op_eq (pe_callB (call_lenK (K := K) rfl) (by rfl) T.z_len PySem.boot_len (pa_cons (pv 0) pa_nil)) pe_int (nomark _)) (pe_one (pe_cmp (pc_isN (pe_call G_first_wrong (hr.mono (by decide)) (by rfl) T.g_first_wrong T.F_first_wrong.kp T.b_first_wrong .nil pass0 (pa_cons (pv 0) (pa_cons (pv 1) pa_nil)))))))))), ?_⟩
    refine ⟨_, rfl, _, _, .type "list", .type "list", true, rfl, .ty _, ty_list hS, kit_ty (by decide +kernel), true, rfl, iteT ?_⟩
    refine ⟨_, rfl, b, _, rfl, .inl hS, rfl, true, rfl, iteT ?_⟩
    refine ⟨_, rfl, _, rfl, b, [x, y], n, rfl, hS, by simpa using ne, fun z hz => ?_, by show 2 ≤ 1000; decide, fun H1 e1 => q H1 e1⟩
    simp only [List.mem_cons, List.not_mem_nil, or_false] at hz
    rcases hz with rfl | rfl
    · exact hx
    · exact hy
def sp_check_ties (K : PySem.W.Frag) : Sp := fun vs H Q _ => ∃ (a : Addr) (ts : List (Int × Int)) (n : Int), vs = [.ref a, .int n] ∧ TiesAt K H a ts ∧ NetOk n ts ∧ RetV .non H Q
theorem ok_check_ties (T : Txt K mg A) : FnOk P w K mg base CX0 4 A.f_check_ties A.d_check_ties ["ties", "seats"] (sp_check_ties K) := by
  have G_is_tie : FnOk P w K mg base CX0 3 A.f_is_tie A.d_is_tie ["thing", "seats"] (sp_is_tie K) := ok_is_tie T
  refine T.F_check_ties.ok sc_check_ties (fun vs H Q E h => ?_) (fun cdv A' outer s H vs Q E hr h => ?_)
  · obtain ⟨a, ts, n, rfl, _⟩ := h
    rfl
  · obtain ⟨a, ts, n, rfl, hT, N, q⟩ := h
    obtain ⟨as, hS, hlen, hat⟩ := hT
    refine ⟨_, (pss_cons (ps_if (pt_not (pt_val (pe_callB call_isi (by rfl) T.z_isinstance (by decide +kernel) (pa_cons (pv 0) (pa_cons (pe_bltn (v := .ty "list") (by rfl) T.z_list (by decide +kernel) rfl) pa_nil))))) (pss_one ps_never) pss_nil)
      (pss_cons (ps_set (i := 2) sc_check_ties.nd rfl (by first | exact .inl rfl | exact .inr rfl) (pe_callTy0 cr_set0W (by rfl) T.z_set (by decide +kernel)))
      (pss_one (ps_for PassesOwn.never rfl (pi_enum (by rfl) T.z_enumerate (pa_cons (pv 0) pa_nil)) (pg_tupK (n := 2) (K := K) rfl rfl (pgs_cons (pg_name (i := 3) sc_check_ties.nd rfl (by first | exact .inl rfl | exact .inr rfl)) (pgs_cons (pg_name (i := 4) sc_check_ties.nd rfl (by first | exact .inl rfl | exact .inr rfl)) pgs_nil))) (pss_cons (ps_if (pt_not (pt_val (pe_call G_is_tie (hr.mono (by decide)) (by rfl) T.g_is_tie T.F_is_tie.kp T.b_is_tie .nil pass0 (pa_cons (pv 4) (pa_cons (pv 1) pa_nil))))) (pss_one ps_never) pss_nil)
      (pss_cons (ps_set (i := 5) sc_check_ties.nd rfl (by first | exact .inl rfl | exact .inr rfl) (pe_callTy call_tuple_of (by rfl) T.z_tuple (by decide +kernel) (pa_cons (pe_callB (cr_sortedK (K := K) rfl) (by rfl) T.z_sorted (by decide +kernel) (pa_cons (pv 4) pa_nil)) pa_nil)))
      (pss_cons (ps_if (pt_cmpR (op_inW (hu10 hr)) (pv 5) (pv 2) (by rfl)) (pss_one ps_never) pss_nil)
      (pss_one (ps_expr (pe_saddW (hu10 hr) (pv 2) (pa_cons (pv 5) pa_nil))))))))))), ?_⟩
    refine ⟨_, rfl, _, _, .type "list", .type "list", true, rfl, .ty _, ty_list hS, kit_ty (by decide +kernel), true, rfl, iteF ?_⟩
    refine ⟨rfl, fun p np => ?_⟩
    have e0 : Ex H (upd H p (SetWO P w p [])) := Ex.new np
    refine ⟨.ref a, rfl, a, as.map V.ref, rfl, ex_l e0 hS, ?_⟩
    refine for_enumL (xs := as.map V.ref) (fun i σ' H' => (∃ y3 y4 y5, σ' = [some (.ref a), some (.int n), some (.ref p), y3, y4, y5]) ∧ Ex H H' ∧
        ∃ L, H' p = some (SetWO P w p L) ∧ L.length ≤ i ∧ (∀ x ∈ L, SqT K H' x.1 (x.2.map V.int)) ∧ ∀ k, k ∈ L.map (·.2) → k ∈ (ts.take i).map key2)
      ⟨⟨none, none, none, rfl⟩, e0, [], upd_same, Nat.le_refl _, (fun x hx => by cases hx), (fun k hk => by cases hk)⟩ (fun i σ' H' z => ex_l z.2.1 hS) ?_ ?_
    · rintro i x Tt σ' H' hx ⟨⟨y3, y4, y5, rfl⟩, e1, L, hp, hLi, hLt, hLk⟩ nT
      obtain ⟨b, hb, rfl⟩ := map_at hx
      have hi : i < ts.length := by rw [← hlen]; exact (List.getElem?_eq_some_iff.mp hb).1
      obtain ⟨t, ht⟩ : ∃ t, ts[i]? = some t := ⟨_, List.getElem?_eq_getElem hi⟩
      have tok := N.ok t (List.mem_of_getElem? ht)
      have e2 : Ex H' (upd H' Tt (.tup [.int (i : Nat), .ref b])) := Ex.new nT
      refine ⟨Tt, _, rfl, .inl (.inl upd_same), rfl, _, _, rfl, _, _, rfl, rfl, ?_⟩
      -- if not is_tie(tie, seats)
      refine ⟨_, rfl, _, rfl, b, t.1, t.2, n, rfl, ex_l (e1.trans e2) (hat i b t hb ht), tok.1, tok.2.1, tok.2.2, fun H3 e3 => ?_⟩
      refine ⟨true, rfl, iteF ?_⟩
      -- pair = tuple(sorted(tie))
      refine ⟨_, rfl, b, [t.1, t.2], rfl, ex_l ((e1.trans e2).trans e3) (hat i b t hb ht), (by show 2 < 64; decide), fun ns' p4 pm sr np4 => ?_⟩
      obtain rfl := sorted_two pm sr
      have e4 : Ex H3 (upd H3 p4 (.lst ((key2 t).map V.int))) := Ex.new np4
      refine ⟨p4, _, rfl, .inl ⟨.inl (.inl upd_same), fun tp ntp => ?_⟩⟩
      have e5 : Ex (upd H3 p4 (.lst ((key2 t).map V.int))) (upd (upd H3 p4 (.lst ((key2 t).map V.int))) tp (.tup ((key2 t).map V.int))) := Ex.new ntp
      have eall := (e2.trans e3).trans (e4.trans e5)
      have tpat : SqT K (upd (upd H3 p4 (.lst ((key2 t).map V.int))) tp (.tup ((key2 t).map V.int))) tp ((key2 t).map V.int) := .inl (.inl upd_same)
      generalize upd (upd H3 p4 (.lst ((key2 t).map V.int))) tp (.tup ((key2 t).map V.int)) = H5 at e5 eall tpat
      have hp5 := eall _ _ hp
      have hL5 : ∀ x ∈ L, SqT K H5 x.1 (x.2.map V.int) := fun x hx => ex_t eall (hLt x hx)
      have fresh : key2 t ∉ L.map (·.2) := fun z => by
        obtain ⟨t', ht', e⟩ := List.mem_map.mp (hLk _ z)
        have e := key2_inj e
        have h1 : (ts.map nrm)[i]? = some (nrm t) := by rw [List.getElem?_map, ht]; rfl
        refine nodup_at N.nd h1 ?_
        rw [← List.map_take]
        exact List.mem_map.mpr ⟨t', ht', e⟩
      -- if pair in tied
      refine ⟨_, rfl, _, rfl, p, tp, key2 t, L, rfl, rfl, hp5, tpat, hL5, ?_⟩
      rw [decide_eq_false fresh]
      refine ⟨false, rfl, iteF ?_⟩
      -- tied.add(pair)
      have few := N.few
      refine ⟨_, rfl, ⟨p, L, rfl, hp5⟩, _, rfl, p, tp, key2 t, L, rfl, rfl, hp5, tpat, hL5, by omega, fun L' _ hL' => ?_⟩
      have pm := hL' fresh
      refine ⟨⟨_, _, _, rfl⟩, Ex.mut (e1.trans eall) np, L', upd_same, by rw [pm.length_eq]; simp; omega, fun x hx => ?_, fun k hk => ?_⟩
      · have e6 : SqT K H5 x.1 (x.2.map V.int) := by
          rcases List.mem_cons.mp (pm.mem_iff.mp hx) with rfl | hx
          · exact tpat
          · exact hL5 x hx
        exact sqT_upd e6 hp5 (fun ys z => by cases z) (fun ob u z => by cases z)
      · rw [take_snoc ht, List.map_append, List.mem_append]
        rcases List.mem_cons.mp ((pm.map (·.2)).mem_iff.mp hk) with rfl | hk
        · exact .inr (by simp)
        · exact .inl (hLk k hk)
    · rintro σ' H' ⟨_, e1, _⟩
      exact q H' e1
def sp_check_net (K : PySem.W.Frag) : Sp := fun vs H Q _ => ∃ (a : Addr) (ts : List (Int × Int)) (n : Int), vs = [.int n, .ref a] ∧ TiesAt K H a ts ∧ NetOk n ts ∧ RetV .non H Q
theorem ok_check_net (T : Txt K mg A) : FnOk P w K mg base CX0 5 A.f_check_net A.d_check_net ["seats", "ties"] (sp_check_net K) := by
  have G_check_count : FnOk P w K mg base CX0 2 A.f_check_count A.d_check_count ["number"] sp_check_count := ok_check_count T
  have G_check_ties : FnOk P w K mg base CX0 4 A.f_check_ties A.d_check_ties ["ties", "seats"] (sp_check_ties K) := ok_check_ties T
  refine T.F_check_net.ok sc_check_net (fun vs H Q E h => ?_) (fun cdv A' outer s H vs Q E hr h => ?_)
  · obtain ⟨a, ts, n, rfl, _⟩ := h
    rfl
  · obtain ⟨a, ts, n, rfl, hT, N, q⟩ := h
    refine ⟨_, (pss_cons (ps_expr (pe_call G_check_count (hr.mono (by decide)) (by rfl) T.g_check_count T.F_check_count.kp T.b_check_count .nil pass0 (pa_cons (pv 0) pa_nil)))
      (pss_one (ps_expr (pe_call G_check_ties (hr.mono (by decide)) (by rfl) T.g_check_ties T.F_check_ties.kp T.b_check_ties .nil pass0 (pa_cons (pv 1) (pa_cons (pv 0) pa_nil)))))), ?_⟩
    refine ⟨_, rfl, n, rfl, N.lo, N.hi, fun H1 e1 => ?_⟩
    refine ⟨_, rfl, _, rfl, a, ts, n, rfl, hT.mono e1, N, fun H2 e2 => ?_⟩
    exact q H2 (e1.trans e2)
/-! ### standings, orders, calls -/
def sp_check_standing (K : PySem.W.Frag) : Sp := fun vs H Q _ => ∃ (a : Addr) (st : List Int) (n : Nat), vs = [.ref a, .int (n : Int)] ∧ SqL K H a (st.map V.int) ∧ MR.Stn n st ∧ n ≤ 1000 ∧ RetV .non H Q
theorem ok_check_standing (T : Txt K mg A) : FnOk P w K mg base CX0 3 A.f_check_standing A.d_check_standing ["standing", "seats"] (sp_check_standing K) := by
  have G_first_wrong : FnOk P w K mg base CX0 2 A.f_first_wrong A.d_first_wrong ["things", "most"] (sp_first_wrong K) := ok_first_wrong T
  refine T.F_check_standing.ok sc_check_standing (fun vs H Q E h => ?_) (fun cdv A' outer s H vs Q E hr h => ?_)
  · obtain ⟨a, st, n, rfl, _⟩ := h
    rfl
  · obtain ⟨a, st, n, rfl, hS, S, hn, q⟩ := h
    refine ⟨_, (pss_cons (ps_if (PW.pt (pw_or (pt_not (pt_val (pe_callB call_isi (by rfl) T.z_isinstance (by decide +kernel) (pa_cons (pv 0) (pa_cons (pe_bltn (v := .ty "list") (by rfl) T.z_list (by decide +kernel) rfl) pa_nil))))) (pw_or1 (pt_cmpR op_ne (pe_callB (call_lenK (K := K) rfl) (by rfl) T.z_len PySem.boot_len (pa_cons (pv 0) pa_nil)) (pv 1) (nomark _))))) (pss_one ps_never) pss_nil)
      (pss_cons (ps_set (i := 2) sc_check_standing.nd rfl (by first | exact .inl rfl | exact .inr rfl) (pe_call G_first_wrong (hr.mono (by decide)) (by rfl) T.g_first_wrong T.F_first_wrong.kp T.b_first_wrong .nil pass0 (pa_cons (pv 0) (pa_cons (pv 1) pa_nil))))
      (pss_one (ps_if (pt_cmp (pc_notN (pv 2))) (pss_one ps_never) pss_nil)))), ?_⟩
    refine ⟨_, rfl, _, _, .type "list", .type "list", true, rfl, .ty _, ty_list hS, kit_ty (by decide +kernel), true, rfl, iteF ?_⟩
    refine ⟨_, rfl, a, _, rfl, .inl hS, _, rfl, rfl, _, rfl, ?_⟩
    rw [decide_eq_true (show V.int ((st.map V.int).length : Int) = V.int (n : Int) by rw [List.length_map, S.len])]
    refine iteF ?_
    refine ⟨_, rfl, _, rfl, a, st, (n : Int), rfl, hS, S.nd, S.lo, by rw [S.len]; exact hn, fun H1 e1 => ?_⟩
    refine ⟨_, rfl, _, rfl, ?_⟩
    rw [decide_eq_true (show V.non = V.non from rfl)]
    exact iteF (q H1 e1)
def sp_check_order_of (K : PySem.W.Frag) : Sp := sp_check_standing K
theorem ok_check_order_of (T : Txt K mg A) : FnOk P w K mg base CX0 3 A.f_check_order_of A.d_check_order_of ["order", "count"] (sp_check_order_of K) := by
  have G_first_wrong : FnOk P w K mg base CX0 2 A.f_first_wrong A.d_first_wrong ["things", "most"] (sp_first_wrong K) := ok_first_wrong T
  refine T.F_check_order_of.ok sc_check_order_of (fun vs H Q E h => ?_) (fun cdv A' outer s H vs Q E hr h => ?_)
  · obtain ⟨a, st, n, rfl, _⟩ := h
    rfl
  · obtain ⟨a, st, n, rfl, hS, S, hn, q⟩ := h
    refine ⟨_, (pss_cons (ps_if (PW.pt (pw_or (pt_not (pt_val (pe_callB call_isi (by rfl) T.z_isinstance (by decide +kernel) (pa_cons (pv 0) (pa_cons (pe_bltn (v := .ty "list") (by rfl) T.z_list (by decide +kernel) rfl) pa_nil))))) (pw_or1 (pt_cmpR op_ne (pe_callB (call_lenK (K := K) rfl) (by rfl) T.z_len PySem.boot_len (pa_cons (pv 0) pa_nil)) (pv 1) (nomark _))))) (pss_one ps_never) pss_nil)
      (pss_cons (ps_set (i := 2) sc_check_order_of.nd rfl (by first | exact .inl rfl | exact .inr rfl) (pe_call G_first_wrong (hr.mono (by decide)) (by rfl) T.g_first_wrong T.F_first_wrong.kp T.b_first_wrong .nil pass0 (pa_cons (pv 0) (pa_cons (pv 1) pa_nil))))
      (pss_one (ps_if (pt_cmp (pc_notN (pv 2))) (pss_one ps_never) pss_nil)))), ?_⟩
    refine ⟨_, rfl, _, _, .type "list", .type "list", true, rfl, .ty _, ty_list hS, kit_ty (by decide +kernel), true, rfl, iteF ?_⟩
    refine ⟨_, rfl, a, _, rfl, .inl hS, _, rfl, rfl, _, rfl, ?_⟩
    rw [decide_eq_true (show V.int ((st.map V.int).length : Int) = V.int (n : Int) by rw [List.length_map, S.len])]
    refine iteF ?_
    refine ⟨_, rfl, _, rfl, a, st, (n : Int), rfl, hS, S.nd, S.lo, by rw [S.len]; exact hn, fun H1 e1 => ?_⟩
    refine ⟨_, rfl, _, rfl, ?_⟩
    rw [decide_eq_true (show V.non = V.non from rfl)]
    exact iteF (q H1 e1)
def sp_check_calls (K : PySem.W.Frag) : Sp := fun vs H Q _ => ∃ (a : Addr) (cs : List Int) (n : Int), vs = [.ref a, .int n] ∧ SqL K H a (cs.map V.int) ∧ (∀ c ∈ cs, 1 ≤ c ∧ c ≤ n) ∧ RetV .non H Q
theorem ok_check_calls (T : Txt K mg A) : FnOk P w K mg base CX0 2 A.f_check_calls A.d_check_calls ["calls", "count"] (sp_check_calls K) := by
  have G_is_from_one : FnOk P w K mg base CX0 1 A.f_is_from_one A.d_is_from_one ["thing", "most"] sp_is_from_one := ok_is_from_one T
  refine T.F_check_calls.ok sc_check_calls (fun vs H Q E h => ?_) (fun cdv A' outer s H vs Q E hr h => ?_)
  · obtain ⟨a, cs, n, rfl, _⟩ := h
    rfl
  · obtain ⟨a, cs, n, rfl, hS, hc, q⟩ := h
    refine ⟨_, (pss_cons (ps_if (pt_not (pt_val (pe_callB call_isi (by rfl) T.z_isinstance (by decide +kernel) (pa_cons (pv 0) (pa_cons (pe_bltn (v := .ty "list") (by rfl) T.z_list (by decide +kernel) rfl) pa_nil))))) (pss_one ps_never) pss_nil)
      (pss_one (ps_for PassesOwn.never rfl (pi_enum (by rfl) T.z_enumerate (pa_cons (pv 0) pa_nil)) (pg_tupK (n := 2) (K := K) rfl rfl (pgs_cons (pg_name (i := 2) sc_check_calls.nd rfl (by first | exact .inl rfl | exact .inr rfl)) (pgs_cons (pg_name (i := 3) sc_check_calls.nd rfl (by first | exact .inl rfl | exact .inr rfl)) pgs_nil))) (pss_one (ps_if (pt_not (pt_val (pe_call G_is_from_one (hr.mono (by decide)) (by rfl) T.g_is_from_one T.F_is_from_one.kp T.b_is_from_one .nil pass0 (pa_cons (pv 3) (pa_cons (pv 1) pa_nil))))) (pss_one ps_never) pss_nil))))), ?_⟩
    refine ⟨_, rfl, _, _, .type "list", .type "list", true, rfl, .ty _, ty_list hS, kit_ty (by decide +kernel), true, rfl, iteF ?_⟩
    refine ⟨.ref a, rfl, a, cs.map V.int, rfl, hS, ?_⟩
    refine for_enumL (xs := cs.map V.int) (fun i σ' H' => (∃ y2 y3, σ' = [some (.ref a), some (.int n), y2, y3]) ∧ Ex H H')
      ⟨⟨none, none, rfl⟩, Ex.refl H⟩ (fun i σ' H' z => ex_l z.2 hS) ?_ ?_
    · rintro i x Tt σ' H' hx ⟨⟨y2, y3, rfl⟩, e1⟩ nT
      obtain ⟨c, hcc, rfl⟩ := map_at hx
      have mem : c ∈ cs := List.mem_of_getElem? hcc
      have e2 : Ex H' (upd H' Tt (.tup [.int (i : Nat), .int c])) := Ex.new nT
      refine ⟨Tt, _, rfl, .inl (.inl upd_same), rfl, _, _, rfl, _, _, rfl, rfl, ?_⟩
      refine ⟨_, rfl, _, rfl, c, n, rfl, fun H3 e3 => ?_⟩
      rw [decide_eq_true (hc c mem)]
      exact ⟨true, rfl, iteF ⟨⟨_, _, rfl⟩, (e1.trans e2).trans e3⟩⟩
    · rintro σ' H' ⟨_, e1⟩
      exact q H' e1
def sp_check_many : Sp := fun vs H Q _ => ∃ m : Int, vs = [.int m] ∧ RetV .non H Q
theorem ok_check_many (T : Txt K mg A) : FnOk P w K mg base CX0 2 A.f_check_many A.d_check_many ["many"] sp_check_many := by
  have G_is_whole : FnOk P w K mg base CX0 1 A.f_is_whole A.d_is_whole ["thing"] sp_is_whole := ok_is_whole T
  refine T.F_check_many.ok sc_check_many (fun vs H Q E h => ?_) (fun cdv A' outer s H vs Q E hr h => ?_)
  · obtain ⟨m, rfl, _⟩ := h
    rfl
  · obtain ⟨m, rfl, q⟩ := h
    refine ⟨_, (pss_one (ps_if (pt_not (pt_val (pe_call G_is_whole (hr.mono (by decide)) (by rfl) T.g_is_whole T.F_is_whole.kp T.b_is_whole .nil pass0 (pa_cons (pv 0) pa_nil)))) (pss_one ps_never) pss_nil)), ?_⟩
    refine ⟨_, rfl, m, rfl, fun H1 e1 => ?_⟩
    exact ⟨true, rfl, iteF (q H1 e1)⟩
end
end K30

namespace K30
open PySem PySem.Spec PyProof.Rows L2 Vf Evl StX
/-! ### places and calls -/
theorem fm (c : Int) {n : Int} (h : 0 < n) : c.fmod n = c % n := Int.fmod_eq_emod_of_nonneg c (by omega)
/-- which seats are tied, as the program keeps it -/
def tdRow (td : Int → Int → Bool) (n i : Nat) : List V := (List.range (n + 1)).map fun j : Nat => V.bl (td (i : Int) (j : Int))
def tdM (td : Int → Int → Bool) (n : Nat) : List (List V) := (List.range (n + 1)).map (tdRow td n)
theorem tdM_at {td : Int → Int → Bool} {n i : Nat} (h : i ≤ n) : (tdM td n)[i]? = some (tdRow td n i) := by
  unfold tdM
  rw [List.getElem?_map, List.getElem?_range (by omega)]
  rfl
theorem tdRow_at {td : Int → Int → Bool} {n i j : Nat} (h : j ≤ n) : (tdRow td n i)[j]? = some (V.bl (td (i : Int) (j : Int))) := by
  unfold tdRow
  rw [List.getElem?_map, List.getElem?_range (by omega)]
  rfl
/-- one tie more, one way about -/
def td1 (td : Int → Int → Bool) (a b : Int) : Int → Int → Bool := fun x y => td x y || (decide (x = a) && decide (y = b))
theorem tdM_put {td : Int → Int → Bool} {n : Nat} {a b : Nat} (ha : a ≤ n) (hb : b ≤ n) : (tdM td n).set a ((tdRow td n a).set b (.bl true)) = tdM (td1 td (a : Int) (b : Int)) n := by
  refine List.ext_getElem? fun i => ?_
  by_cases hi : i ≤ n
  · by_cases e : i = a
    · subst e
      rw [List.getElem?_set_self (by unfold tdM; rw [List.length_map, List.length_range]; omega), tdM_at hi]
      refine congrArg some (List.ext_getElem? fun j => ?_)
      by_cases hj : j ≤ n
      · rw [tdRow_at hj]
        by_cases e2 : j = b
        · subst e2
          rw [List.getElem?_set_self (by unfold tdRow; rw [List.length_map, List.length_range]; omega)]
          unfold td1
          simp
        · rw [List.getElem?_set_ne (fun z => e2 z.symm), tdRow_at hj]
          unfold td1
          rw [decide_eq_false (show ¬ ((j : Int) = (b : Int)) by omega), Bool.and_false, Bool.or_false]
      · rw [List.getElem?_eq_none (by rw [List.length_set]; unfold tdRow; rw [List.length_map, List.length_range]; omega), List.getElem?_eq_none (by unfold tdRow; rw [List.length_map, List.length_range]; omega)]
    · rw [List.getElem?_set_ne (fun z => e z.symm), tdM_at hi, tdM_at hi]
      refine congrArg some (List.map_congr_left fun j _ => ?_)
      unfold td1
      rw [decide_eq_false (show ¬ ((i : Int) = (a : Int)) by omega), Bool.false_and, Bool.or_false]
  · rw [List.getElem?_eq_none (by rw [List.length_set]; unfold tdM; rw [List.length_map, List.length_range]; omega), List.getElem?_eq_none (by unfold tdM; rw [List.length_map, List.length_range]; omega)]
theorem tdF_nil : MR.tdF [] = fun _ _ => false := by
  funext a b
  simp [MR.tdF]
theorem tdF_snoc (ts : List (Int × Int)) (t : Int × Int) : MR.tdF (ts ++ [t]) = td1 (td1 (MR.tdF ts) t.1 t.2) t.2 t.1 := by
  funext a b
  obtain ⟨x, y⟩ := t
  unfold MR.tdF td1
  rw [Bool.eq_iff_iff]
  simp only [Bool.or_eq_true, Bool.and_eq_true, decide_eq_true_eq, List.mem_append, List.mem_singleton, Prod.mk.injEq]
  grind
/-- the table of ties, seen from H -/
def TdAt (K : PySem.W.Frag) (H2 : Hp) (D : Addr) (n : Nat) (td : Int → Int → Bool) : Prop := ∃ ps : List Addr, SqL K H2 D (ps.map V.ref) ∧ ps.length = n + 1 ∧ ∀ (i : Nat) (p : Addr), ps[i]? = some p → SqL K H2 p (tdRow td n i)
theorem TdAt.on {K : PySem.W.Frag} {H H' : Hp} {D : Addr} {n : Nat} {td : Int → Int → Bool} (h : TdAt K H D n td) (e : Ex H H') : TdAt K H' D n td := by
  obtain ⟨ps, a, b, c⟩ := h
  exact ⟨ps, ex_l e a, b, fun i p x => ex_l e (c i p x)⟩
theorem td_of {K : PySem.W.Frag} {H H2 : Hp} {D : Addr} {n : Nat} {td : Int → Int → Bool} (h : LLN H H2 D (tdM td n)) : TdAt K H2 D n td := by
  obtain ⟨ps, a, b, c, d, e⟩ := h
  have hl : ps.length = n + 1 := by rw [b]; unfold tdM; rw [List.length_map, List.length_range]
  refine ⟨ps, .inl (.inl a), hl, fun i p x => .inl (.inl (e i p _ x (tdM_at ?_)).2)⟩
  have := (List.getElem?_eq_some_iff.mp x).1
  omega
/-- a list of pairs of people -/
def PairsAt (K : PySem.W.Frag) (H : Hp) (a : Addr) (cs : List (Int × Int)) : Prop := ∃ as : List Addr, SqL K H a (as.map V.ref) ∧ as.length = cs.length ∧ ∀ (i : Nat) (b : Addr) (c : Int × Int), as[i]? = some b → cs[i]? = some c → SqT K H b [.int c.1, .int c.2]
theorem PairsAt.on {K : PySem.W.Frag} {H H' : Hp} {a : Addr} {cs : List (Int × Int)} (h : PairsAt K H a cs) (e : Ex H H') : PairsAt K H' a cs := by
  obtain ⟨as, x, y, z⟩ := h
  exact ⟨as, ex_l e x, y, fun i b c p q => ex_t e (z i b c p q)⟩
section
variable {P : Program} {w : World} {K : PySem.W.Frag} {mg : Str → Option Value} {base : Heap} {A : Ad}
def sp_next_call : Sp := fun vs H Q _ => ∃ c n : Int, vs = [.int c, .int n] ∧ 0 < n ∧ RetV (.int (MR.nxt n c)) H Q
theorem ok_next_call (T : Txt K mg A) : FnOk P w K mg base CX0 1 A.f_next_call A.d_next_call ["call", "count"] sp_next_call := by
  refine T.F_next_call.ok sc_next_call (fun vs H Q E h => ?_) (fun cdv A' outer s H vs Q E hr h => ?_)
  · obtain ⟨c, n, rfl, _⟩ := h
    rfl
  · obtain ⟨c, n, rfl, hn, q⟩ := h
    refine ⟨_, (pss_one (ps_ret (pe_op op_add (pe_op op_modN (pv 0) (pv 1)) pe_int))), ?_⟩
    refine ⟨_, rfl, _, rfl, _, _, rfl, rfl, (by show n ≠ 0; omega), _, _, rfl, rfl, ?_⟩
    have z := q H (Ex.refl H)
    unfold MR.nxt at z
    rw [fm c hn]
    exact z
def sp_turned_about (K : PySem.W.Frag) : Sp := fun vs H Q _ => ∃ (a : Addr) (r : List Int) (N : Nat), vs = [.ref a] ∧ SqL K H a (r.map V.int) ∧ MR.Row N r ∧ N ≤ 1000 ∧ RetL ((MR.turnF r).map V.int) H Q
theorem ok_turned_about (T : Txt K mg A) : FnOk P w K mg base CX0 1 A.f_turned_about A.d_turned_about ["row"] (sp_turned_about K) := by
  refine T.F_turned_about.ok sc_turned_about (fun vs H Q E h => ?_) (fun cdv A' outer s H vs Q E hr h => ?_)
  · obtain ⟨a, r, N, rfl, _⟩ := h
    rfl
  · obtain ⟨a, r, N, rfl, hS, R, hN, q⟩ := h
    refine ⟨_, (pss_cons (ps_set (i := 1) sc_turned_about.nd rfl (by first | exact .inl rfl | exact .inr rfl) (pe_callTy (call_listK (K := K) rfl) (by rfl) T.z_list (by decide +kernel) (pa_cons (pv 0) pa_nil)))
      (pss_cons (ps_for PassesOwn.never rfl (pi_enum (by rfl) T.z_enumerate (pa_cons (pv 0) pa_nil)) (pg_tupK (n := 2) (K := K) rfl rfl (pgs_cons (pg_name (i := 2) sc_turned_about.nd rfl (by first | exact .inl rfl | exact .inr rfl)) (pgs_cons (pg_name (i := 3) sc_turned_about.nd rfl (by first | exact .inl rfl | exact .inr rfl)) pgs_nil))) (pss_one (ps_asg (pv 2) (pg_sub (pv 1) (pv 3) set_list))))
      (pss_one (ps_ret (pv 1))))), ?_⟩
    refine ⟨_, rfl, a, _, rfl, .inl hS, fun f nf => ?_⟩
    have e0 : Ex H (upd H f (.lst (r.map V.int))) := Ex.new nf
    refine ⟨.ref a, rfl, a, r.map V.int, rfl, ex_l e0 hS, ?_⟩
    refine for_enumL (xs := r.map V.int) (fun i σ' H' => (∃ y2 y3, σ' = [some (.ref a), some (.ref f), y2, y3]) ∧ Ex H H' ∧ H' f = some (.lst ((MR.turnS r r i).map V.int)))
      ⟨⟨none, none, rfl⟩, e0, upd_same⟩ (fun i σ' H' z => ex_l z.2.1 hS) ?_ ?_
    · rintro i x Tt σ' H' hx ⟨⟨y2, y3, rfl⟩, e1, hf⟩ nT
      obtain ⟨c, hc, rfl⟩ := map_at hx
      have mem := List.mem_of_getElem? hc
      have b := R.lo c mem
      have e2 : Ex H' (upd H' Tt (.tup [.int (i : Nat), .int c])) := Ex.new nT
      refine ⟨Tt, _, rfl, .inl (.inl upd_same), rfl, _, _, rfl, _, _, rfl, rfl, ?_⟩
      have hf2 := e2 _ _ hf
      have hl : (MR.turnS r r i).length = N := by rw [MR.turnS_len, R.len]
      refine ⟨_, rfl, _, rfl, _, rfl, f, _, c, c.toNat, rfl, rfl, hf2, ?_, ?_⟩
      · rw [List.length_map, hl]
        have := ixN_nat (n := N) (j := c.toNat) (by omega)
        rw [show ((c.toNat : Nat) : Int) = c by omega] at this
        exact this
      · refine ⟨⟨_, _, rfl⟩, Ex.mut (e1.trans e2) nf, ?_⟩
        rw [upd_same, MR.turnS_succ, List.getD_eq_getElem?_getD, hc, Option.getD_some, List.map_set]
    · rintro σ' H' ⟨⟨y2, y3, rfl⟩, e1, hf⟩
      rw [List.length_map] at hf
      exact ⟨_, rfl, q f H' nf e1 hf⟩
def sp_places_of (K : PySem.W.Frag) : Sp := fun vs H Q _ => ∃ (a : Addr) (st : List Int) (n : Nat), vs = [.ref a] ∧ SqL K H a (st.map V.int) ∧ MR.Stn n st ∧ n ≤ 900 ∧ RetL ((MR.plOf st).map V.int) H Q
theorem ok_places_of (T : Txt K mg A) : FnOk P w K mg base CX0 2 A.f_places_of A.d_places_of ["standing"] (sp_places_of K) := by
  have G_turned_about : FnOk P w K mg base CX0 1 A.f_turned_about A.d_turned_about ["row"] (sp_turned_about K) := ok_turned_about T
  refine T.F_places_of.ok sc_places_of (fun vs H Q E h => ?_) (fun cdv A' outer s H vs Q E hr h => ?_)
  · obtain ⟨a, st, n, rfl, _⟩ := h
    rfl
  · obtain ⟨a, st, n, rfl, hS, S, hn, q⟩ := h
    refine ⟨_, (pss_one (ps_ret (pe_call G_turned_about (hr.mono (by decide)) (by rfl) T.g_turned_about T.F_turned_about.kp T.b_turned_about .nil pass0 (pa_cons (pe_lst (pa_cons pe_int (pa_star (pv 0) pa_nil))) pa_nil)))), ?_⟩
    refine ⟨_, rfl, a, st.map V.int, rfl, .inr hS, ?_⟩
    refine ⟨sz_of (by simp [S.len]; omega), fun p np => ?_⟩
    have e1 : Ex H (upd H p (.lst (V.int 0 :: (st.map V.int ++ [])))) := Ex.new np
    refine ⟨p, 0 :: st, n + 1, rfl, .inl (.inl ?_), S.row, by omega, fun p2 H2 np2 e2 h2 => q p2 H2 (fresh_back e1 np2) (e1.trans e2) h2⟩
    rw [List.append_nil]
    exact upd_same
def sp_standing_of (K : PySem.W.Frag) : Sp := fun vs H Q _ => ∃ (a : Addr) (pl : List Int) (n : Nat), vs = [.ref a] ∧ SqL K H a (pl.map V.int) ∧ MR.Plc n pl ∧ n ≤ 900 ∧ RetL ((MR.stOf pl).map V.int) H Q
theorem ok_standing_of (T : Txt K mg A) : FnOk P w K mg base CX0 2 A.f_standing_of A.d_standing_of ["places"] (sp_standing_of K) := by
  have G_turned_about : FnOk P w K mg base CX0 1 A.f_turned_about A.d_turned_about ["row"] (sp_turned_about K) := ok_turned_about T
  refine T.F_standing_of.ok sc_standing_of (fun vs H Q E h => ?_) (fun cdv A' outer s H vs Q E hr h => ?_)
  · obtain ⟨a, pl, n, rfl, _⟩ := h
    rfl
  · obtain ⟨a, pl, n, rfl, hS, Pl, hn, q⟩ := h
    refine ⟨_, (pss_one (ps_ret (pe_slice (sl_listK (K := K) rfl) (pe_call G_turned_about (hr.mono (by decide)) (by rfl) T.g_turned_about T.F_turned_about.kp T.b_turned_about .nil pass0 (pa_cons (pv 0) pa_nil)) (po_some pe_int) po_none))), ?_⟩
    refine ⟨_, rfl, a, pl, n + 1, rfl, hS, Pl.row, by omega, fun p H2 np e2 h2 => ?_⟩
    refine ⟨1, rfl, p, _, rfl, .inl (.inl h2), fun p3 np3 => ?_⟩
    have e : cutV ((MR.turnF pl).map V.int) (some 1) none = (MR.stOf pl).map V.int := by
      rw [Pl.turn]
      unfold cutV
      rw [HT.sIx_none]
      have z : HT.sIx ((0 :: MR.stOf pl).map V.int).length 0 (some ((1 : Nat) : Int)) = 1 := by
        rw [HT.sIx_nat]
        simp only [List.length_map, List.length_cons]
        omega
      rw [show (1 : Int) = ((1 : Nat) : Int) from rfl, z]
      simp [List.take_of_length_le]
    rw [e]
    exact q p3 _ (fresh_back e2 np3) (e2.trans (Ex.new np3)) upd_same
end
end K30

namespace K30
open PySem PySem.Spec PyProof.Rows L2 Vf Evl StX
theorem atI_refs {ps : List Addr} {i : Nat} {p : Addr} (h : ps[i]? = some p) : atI (ps.map V.ref) (i : Int) = some (.ref p) := atI_nat (by rw [List.getElem?_map, h]; rfl)
/-- a place of the table written -/
theorem td_put {H H2 : Hp} {D : Addr} {n : Nat} {td : Int → Int → Bool} (h : LLN H H2 D (tdM td n)) (e : Ex H H2) {a b : Int} (ha : 1 ≤ a ∧ a ≤ n) (hb : 1 ≤ b ∧ b ≤ n) :
    ∃ (ps : List Addr) (p : Addr), H2 D = some (.lst (ps.map V.ref)) ∧ atI (ps.map V.ref) a = some (.ref p) ∧ H2 p = some (.lst (tdRow td n a.toNat)) ∧ ixN (tdRow td n a.toNat).length b = some b.toNat ∧
      LLN H (upd H2 p (.lst ((tdRow td n a.toNat).set b.toNat (.bl true)))) D (tdM (td1 td a b) n) ∧ Ex H (upd H2 p (.lst ((tdRow td n a.toNat).set b.toNat (.bl true)))) := by
  obtain ⟨ps, p, h1, h2, h3, h4, h5⟩ := h.put (tdM_at (i := a.toNat) (by omega))
  refine ⟨ps, p, h1, ?_, h4, ?_, ?_, Ex.mut e h3⟩
  · have := atI_refs h2
    rwa [show ((a.toNat : Nat) : Int) = a by omega] at this
  · have : (tdRow td n a.toNat).length = n + 1 := by unfold tdRow; rw [List.length_map, List.length_range]
    rw [this]
    have z := ixN_nat (n := n + 1) (j := b.toNat) (by omega)
    rwa [show ((b.toNat : Nat) : Int) = b by omega] at z
  · have := h5 ((tdRow td n a.toNat).set b.toNat (.bl true))
    rw [tdM_put (a := a.toNat) (b := b.toNat) (by omega) (by omega)] at this
    rwa [show ((a.toNat : Nat) : Int) = a by omega, show ((b.toNat : Nat) : Int) = b by omega] at this
section
variable {P : Program} {w : World} {K : PySem.W.Frag} {mg : Str → Option Value} {base : Heap} {A : Ad}
def sp_tied_seats (K : PySem.W.Frag) : Sp := fun vs H Q _ => ∃ (a : Addr) (ts : List (Int × Int)) (n : Nat), vs = [.int (n : Int), .ref a] ∧ TiesAt K H a ts ∧ NetOk (n : Int) ts ∧
  ∀ D H2, H D = none → Ex H H2 → TdAt K H2 D n (MR.tdF ts) → Q (.ref D) H2
theorem ok_tied_seats (T : Txt K mg A) : FnOk P w K mg base CX0 1 A.f_tied_seats A.d_tied_seats ["seats", "ties"] (sp_tied_seats K) := by
  refine T.F_tied_seats.ok sc_tied_seats (fun vs H Q E h => ?_) (fun cdv A' outer s H vs Q E hr h => ?_)
  · obtain ⟨a, ts, n, rfl, _⟩ := h
    rfl
  · obtain ⟨a, ts, n, rfl, hT, N, q⟩ := h
    obtain ⟨as, hS, hlen, hat⟩ := hT
    have n1 := N.lo
    have n2 := N.hi
    refine ⟨_, (pss_cons (ps_setLc (i := 2) (own := [("_", 5)]) rfl sc_tied_seats.nd rfl rfl (sw_true rfl rfl rfl (by decide +kernel)) (pi_range1 (by rfl) T.z_range (pa_cons (pe_op op_add (pv 0) pe_int) pa_nil)) (blkOk_by (by kernel_rfl)) (fun _ _ _ _ _ => (pg_name (i := 5) sc_tied_seats.nd rfl (by first | exact .inl rfl | exact .inr rfl))) (fun _ _ _ _ _ => pts_nil) (fun _ _ _ _ _ => (pe_op op_rep (pe_lst (pa_cons pe_bl pa_nil)) (pe_op op_add (pv 0) pe_int))))
      (pss_cons (ps_for PassesOwn.never rfl (pi_listK (K := K) rfl (pv 1)) (pg_unlK (n := 2) (K := K) rfl rfl (pgs_cons (pg_name (i := 3) sc_tied_seats.nd rfl (by first | exact .inl rfl | exact .inr rfl)) (pgs_cons (pg_name (i := 4) sc_tied_seats.nd rfl (by first | exact .inl rfl | exact .inr rfl)) pgs_nil))) (pss_cons (ps_asg pe_bl (pg_sub (pe_ix (ix_listK (K := K) rfl) (pv 2) (pv 3) (fun _ _ => rfl)) (pv 4) set_list))
      (pss_one (ps_asg pe_bl (pg_sub (pe_ix (ix_listK (K := K) rfl) (pv 2) (pv 4) (fun _ _ => rfl)) (pv 3) set_list)))))
      (pss_one (ps_ret (pv 2))))), ?_⟩
    refine q_asgLN (eln_lcR1 (n := (n : Int) + 1) (fun _ => (List.replicate ((n : Int) + 1).toNat [V.bl false]).flatten) ?_ ?_ ?_ ?_) fun D H1 nD e1 hD => ?_
    · exact ea_cons (ev_op (ev_var rfl) ev_c rv_I0) ea_nil
    · omega
    · exact fun x => rfl
    · exact fun i H1 e1 hi => el_rep (el_lst (ea_cons ev_c ea_nil) (by show 1 ≤ 100000; decide)) (ev_op (ev_var rfl) ev_c rv_I0) (by omega) (by show 1 * _ ≤ _; omega)
    have e0 : (List.replicate ((n : Int) + 1).toNat [V.bl false]).flatten = tdRow (fun _ _ => false) n 0 := by
      unfold tdRow
      rw [show ((n : Int) + 1).toNat = n + 1 by omega]
      refine List.ext_getElem? fun i => ?_
      have er : (List.replicate (n + 1) [V.bl false]).flatten = List.replicate (n + 1) (V.bl false) := by simp
      rw [er, List.getElem?_replicate, List.getElem?_map]
      by_cases c : i < n + 1
      · rw [if_pos c, List.getElem?_range c]
        rfl
      · rw [if_neg c, List.getElem?_eq_none (by rw [List.length_range]; omega)]
        rfl
    have eM : (List.range ((n : Int) + 1).toNat).map (fun _ => (List.replicate ((n : Int) + 1).toNat [V.bl false]).flatten) = tdM (MR.tdF []) n := by
      unfold tdM
      rw [e0, show ((n : Int) + 1).toNat = n + 1 by omega, tdF_nil]
      exact List.map_congr_left fun i _ => rfl
    rw [eM] at hD
    -- for one, two in ties
    refine ⟨.ref a, rfl, a, rfl, ⟨_, ex_l e1 hS⟩, ?_⟩
    refine for_list (xs := as.map V.ref) (fun i σ' H' => (∃ y3 y4, σ' = [some (.int (n : Int)), some (.ref a), some (.ref D), y3, y4, none]) ∧ Ex H H' ∧ LLN H H' D (tdM (MR.tdF (ts.take i)) n))
      ⟨⟨none, none, rfl⟩, e1, hD⟩ (fun i σ' H' _ z => ex_l z.2.1 hS) ?_ ?_
    · rintro i x σ' H' hx ⟨⟨y3, y4, rfl⟩, e2, hL⟩
      obtain ⟨b, hb, rfl⟩ := map_at hx
      have hi : i < ts.length := by rw [← hlen]; exact (List.getElem?_eq_some_iff.mp hb).1
      obtain ⟨t, ht⟩ : ∃ t, ts[i]? = some t := ⟨_, List.getElem?_eq_getElem hi⟩
      obtain ⟨k1, k2, k3⟩ := N.ok t (List.mem_of_getElem? ht)
      refine ⟨b, _, rfl, ex_l e2 (hat i b t hb ht), rfl, _, _, rfl, _, _, rfl, rfl, ?_⟩
      obtain ⟨ps, p, h1, h2, h3, h4, h5, h6⟩ := td_put hL e2 k1 k2
      refine ⟨_, rfl, _, rfl, D, _, _, _, rfl, rfl, .inl (.inl h1), h2, _, rfl, p, _, _, _, rfl, rfl, h3, h4, ?_⟩
      obtain ⟨ps', p', g1, g2, g3, g4, g5, g6⟩ := td_put h5 h6 k2 k1
      refine ⟨_, rfl, _, rfl, D, _, _, _, rfl, rfl, .inl (.inl g1), g2, _, rfl, p', _, _, _, rfl, rfl, g3, g4, ?_⟩
      refine ⟨⟨_, _, rfl⟩, g6, ?_⟩
      rw [take_snoc ht, tdF_snoc]
      exact g5
    · rintro σ' H' ⟨⟨y3, y4, rfl⟩, e2, hL⟩
      rw [List.length_map, hlen, List.take_length] at hL
      exact ⟨_, rfl, q D H' nD e2 (td_of hL)⟩
def sp_people_called (K : PySem.W.Frag) : Sp := fun vs H Q _ => ∃ (a : Addr) (cs : List Int) (n : Int), vs = [.ref a, .int n] ∧ SqL K H a (cs.map V.int) ∧ 0 < n ∧ cs.length ≤ 10000 ∧
  ∀ D H2, H D = none → Ex H H2 → PairsAt K H2 D (MR.pairsF n cs) → Q (.ref D) H2
theorem ok_people_called (T : Txt K mg A) : FnOk P w K mg base CX0 2 A.f_people_called A.d_people_called ["calls", "count"] (sp_people_called K) := by
  have G_next_call : FnOk P w K mg base CX0 1 A.f_next_call A.d_next_call ["call", "count"] sp_next_call := ok_next_call T
  refine T.F_people_called.ok sc_people_called (fun vs H Q E h => ?_) (fun cdv A' outer s H vs Q E hr h => ?_)
  · obtain ⟨a, cs, n, rfl, _⟩ := h
    rfl
  · obtain ⟨a, cs, n, rfl, hS, hn, hl, q⟩ := h
    refine ⟨_, (pss_one (ps_ret (pe_lc (own := [("call", 2)]) rfl sc_people_called.nd (pi_listK (K := K) rfl (pv 0)) (blkOk_by (by kernel_rfl)) (fun _ _ _ _ _ => (pg_name (i := 2) sc_people_called.nd rfl (by first | exact .inl rfl | exact .inr rfl))) (fun _ _ _ _ _ => pts_nil) (fun _ _ _ _ _ => (pe_tup (pa_cons (pv 2) (pa_cons (pe_call G_next_call (hr.mono (by decide)) (by rfl) T.g_next_call T.F_next_call.kp T.b_next_call .nil pass0 (pa_cons (pv 2) (pa_cons (pv 1) pa_nil))) pa_nil))))))), ?_⟩
    refine s_retLT (elt_lcL (K := K) (xs := cs.map V.int) (fun i => [V.int (cs.getD i 0), V.int (MR.nxt n (cs.getD i 0))]) (ev_var rfl) hS (by rw [List.length_map]; omega) (fun x => rfl) (fun i x H1 e1 hx => ?_)) fun D H1 nD e1 hD => ?_
    · obtain ⟨c, hc, rfl⟩ := map_at hx
      have ec : cs.getD i 0 = c := by rw [List.getD_eq_getElem?_getD, hc]; rfl
      rw [ec]
      exact eu_tup (ea_cons (ev_var rfl) (ea_cons (ev_call (ea_cons (ev_var rfl) (ea_cons (ev_var rfl) ea_nil)) fun H2 e2 Q q E => ⟨c, n, rfl, hn, q⟩) ea_nil)) (by show 2 ≤ 100000; decide)
    · refine q D H1 nD e1 ?_
      obtain ⟨ps, h1, h2, h3⟩ := hD
      rw [List.length_map, List.length_map, List.length_range] at h2
      refine ⟨ps, .inl (.inl h1), by rw [h2]; unfold MR.pairsF; rw [List.length_map], fun i b c x y => .inl (.inl ?_)⟩
      unfold MR.pairsF at y
      rw [List.getElem?_map, Option.map_eq_some_iff] at y
      obtain ⟨c0, hc, rfl⟩ := y
      have hi := (List.getElem?_eq_some_iff.mp hc).1
      refine h3 i b _ x ?_
      rw [List.length_map, List.getElem?_map, List.getElem?_range hi]
      show some [V.int (cs.getD i 0), _] = _
      rw [List.getD_eq_getElem?_getD, hc]
      rfl
def sp_places_after (K : PySem.W.Frag) : Sp := fun vs H Q _ => ∃ (a b t : Addr) (pl : List Int) (cs : List (Int × Int)) (n : Nat) (td : Int → Int → Bool), vs = [.ref a, .ref b, .ref t] ∧ SqL K H a (pl.map V.int) ∧ PairsAt K H b cs ∧ TdAt K H t n td ∧
  MR.Plc n pl ∧ (∀ c ∈ cs, MR.CallOk n c) ∧ RetL ((MR.runP td pl cs).map V.int) H Q
theorem run_more {td : Int → Int → Bool} {pl : List Int} {cs : List (Int × Int)} {i : Nat} {c : Int × Int} (h : cs[i]? = some c) : MR.runP td pl (cs.take (i + 1)) = MR.stepP td (MR.runP td pl (cs.take i)) c := by
  rw [take_snoc h, MR.run_append]
  rfl
theorem ok_places_after (T : Txt K mg A) : FnOk P w K mg base CX0 1 A.f_places_after A.d_places_after ["places", "pairs", "tied"] (sp_places_after K) := by
  refine T.F_places_after.ok sc_places_after (fun vs H Q E h => ?_) (fun cdv A' outer s H vs Q E hr h => ?_)
  · obtain ⟨a, b, t, pl, cs, n, td, rfl, _⟩ := h
    rfl
  · obtain ⟨a, b, t, pl, cs, n, td, rfl, hS, hP, hT, Pl, hC, q⟩ := h
    refine ⟨_, (pss_cons (ps_set (i := 0) sc_places_after.nd rfl (by first | exact .inl rfl | exact .inr rfl) (pe_callTy (call_listK (K := K) rfl) (by rfl) T.z_list (by decide +kernel) (pa_cons (pv 0) pa_nil)))
      (pss_cons (ps_for PassesOwn.never rfl (pi_listK (K := K) rfl (pv 1)) (pg_tupK (n := 2) (K := K) rfl rfl (pgs_cons (pg_name (i := 3) sc_places_after.nd rfl (by first | exact .inl rfl | exact .inr rfl)) (pgs_cons (pg_name (i := 4) sc_places_after.nd rfl (by first | exact .inl rfl | exact .inr rfl)) pgs_nil))) (pss_cons (ps_set (i := 5) sc_places_after.nd rfl (by first | exact .inl rfl | exact .inr rfl) (pe_ix (ix_listK (K := K) rfl) (pv 0) (pv 3) (fun _ _ => rfl)))
      (pss_cons (ps_set (i := 6) sc_places_after.nd rfl (by first | exact .inl rfl | exact .inr rfl) (pe_ix (ix_listK (K := K) rfl) (pv 0) (pv 4) (fun _ _ => rfl)))
      (pss_one (ps_if (pt_not (pt_val (pe_ix (ix_listK (K := K) rfl) (pe_ix (ix_listK (K := K) rfl) (pv 2) (pv 5) (fun _ _ => rfl)) (pv 6) (fun _ _ => rfl)))) (pss_cons (ps_asg (pv 6) (pg_sub (pv 0) (pv 3) set_list))
      (pss_one (ps_asg (pv 5) (pg_sub (pv 0) (pv 4) set_list)))) pss_nil)))))
      (pss_one (ps_ret (pv 0))))), ?_⟩
    refine ⟨_, rfl, a, _, rfl, .inl hS, fun p np => ?_⟩
    have e0 : Ex H (upd H p (.lst (pl.map V.int))) := Ex.new np
    obtain ⟨as, hA, hlen, hat⟩ := hP
    refine ⟨.ref b, rfl, b, rfl, ⟨_, ex_l e0 hA⟩, ?_⟩
    refine for_list (xs := as.map V.ref) (fun i σ' H' => (∃ y3 y4 y5 y6, σ' = [some (.ref p), some (.ref b), some (.ref t), y3, y4, y5, y6]) ∧ Ex H H' ∧ H' p = some (.lst ((MR.runP td pl (cs.take i)).map V.int)))
      ⟨⟨none, none, none, none, rfl⟩, e0, upd_same⟩ (fun i σ' H' _ z => ex_l z.2.1 hA) ?_ ?_
    · rintro i x σ' H' hx ⟨⟨y3, y4, y5, y6, rfl⟩, e1, hp⟩
      obtain ⟨r, hr0, rfl⟩ := map_at hx
      have hi : i < cs.length := by rw [← hlen]; exact (List.getElem?_eq_some_iff.mp hr0).1
      obtain ⟨c, hc⟩ : ∃ c, cs[i]? = some c := ⟨_, List.getElem?_eq_getElem hi⟩
      have ok := hC c (List.mem_of_getElem? hc)
      have Pi : MR.Plc n (MR.runP td pl (cs.take i)) := MR.run_plc Pl fun d hd => hC d (List.mem_of_mem_take hd)
      have hrm := run_more (td := td) (pl := pl) hc
      generalize MR.runP td pl (cs.take i) = m at hp Pi hrm
      obtain ⟨k1, k2, k3⟩ := ok
      have A1 := Pi.of k1.1 k1.2
      have A2 := Pi.of k2.1 k2.2
      have ml := Pi.row.len
      refine ⟨r, _, rfl, ex_t e1 (hat i r c hr0 hc), rfl, _, _, rfl, _, _, rfl, rfl, ?_⟩
      refine ⟨_, rfl, _, rfl, p, _, c.1, _, rfl, rfl, .inl (.inl hp), atI_int (by omega) (by omega), ?_⟩
      refine ⟨_, rfl, _, rfl, p, _, c.2, _, rfl, rfl, .inl (.inl hp), atI_int (by omega) (by omega), ?_⟩
      -- if not tied[here][there]
      obtain ⟨ps, t1, t2, t3⟩ := hT.on e1
      have hx1 : (MR.g0 m c.1).toNat < ps.length := by omega
      have hps : ps[(MR.g0 m c.1).toNat]? = some ps[(MR.g0 m c.1).toNat] := List.getElem?_eq_getElem hx1
      have a1 := atI_refs hps
      rw [show (((MR.g0 m c.1).toNat : Nat) : Int) = MR.g0 m c.1 by omega] at a1
      have a2 : atI (tdRow td n (MR.g0 m c.1).toNat) (MR.g0 m c.2) = some (V.bl (td (MR.g0 m c.1) (MR.g0 m c.2))) := by
        have z := atI_nat (tdRow_at (td := td) (n := n) (i := (MR.g0 m c.1).toNat) (j := (MR.g0 m c.2).toNat) (by omega))
        rwa [show (((MR.g0 m c.1).toNat : Nat) : Int) = MR.g0 m c.1 by omega, show (((MR.g0 m c.2).toNat : Nat) : Int) = MR.g0 m c.2 by omega] at z
      refine ⟨_, rfl, _, rfl, t, _, _, _, rfl, rfl, t1, a1, _, rfl, _, _, _, _, rfl, rfl, t3 _ _ hps, a2, ?_⟩
      by_cases tt : td (MR.g0 m c.1) (MR.g0 m c.2) = true
      · have es : MR.stepP td m c = m := by unfold MR.stepP; rw [if_pos tt]
        rw [tt]
        refine ⟨true, rfl, iteF ⟨⟨_, _, _, _, rfl⟩, e1, ?_⟩⟩
        rw [hrm, es]
        exact hp
      · have es : MR.stepP td m c = (m.set c.1.toNat (MR.g0 m c.2)).set c.2.toNat (MR.g0 m c.1) := by unfold MR.stepP; rw [if_neg tt]
        rw [Bool.eq_false_iff.mpr tt]
        have i1 : ∀ {l : List V} {k : Int}, l.length = n + 1 → 1 ≤ k → k ≤ n → ixN l.length k = some k.toNat := fun {l k} hl h1 h2 => by
          have z := ixN_nat (n := n + 1) (j := k.toNat) (by omega)
          rw [hl]
          rwa [show ((k.toNat : Nat) : Int) = k by omega] at z
        refine ⟨false, rfl, iteT ?_⟩
        refine ⟨_, rfl, _, rfl, _, rfl, p, _, c.1, _, rfl, rfl, hp, i1 (by rw [List.length_map, ml]) k1.1 k1.2, ?_⟩
        refine ⟨_, rfl, _, rfl, _, rfl, p, _, c.2, _, rfl, rfl, upd_same, i1 (by rw [List.length_set, List.length_map, ml]) k2.1 k2.2, ?_⟩
        refine ⟨⟨_, _, _, _, rfl⟩, Ex.mut (Ex.mut e1 np) np, ?_⟩
        rw [upd_same, hrm, es, List.map_set, List.map_set]
    · rintro σ' H' ⟨⟨y3, y4, y5, y6, rfl⟩, e1, hp⟩
      rw [List.length_map, hlen, List.take_length] at hp
      exact ⟨_, rfl, q p H' np e1 hp⟩
end
end K30

namespace K30
open PySem PySem.Spec PyProof.Rows L2 Vf Evl StX
/-- so many rounds, backwards if below 0 -/
def roundsZ (td : Int → Int → Bool) (n : Int) (ord : List Int) (m : Int) (pl : List Int) : List Int :=
  if 0 ≤ m then MR.it (MR.roundP td (MR.pairsF n ord)) m.toNat pl else MR.it (MR.roundP td (MR.pairsF n ord.reverse)) (-m).toNat pl
section
variable {P : Program} {w : World} {K : PySem.W.Frag} {mg : Str → Option Value} {base : Heap} {A : Ad}
def sp_called (K : PySem.W.Frag) : Sp := fun vs H Q _ => ∃ (a s c : Addr) (ts : List (Int × Int)) (st cs : List Int) (n : Nat), vs = [.int (n : Int), .ref a, .ref s, .ref c] ∧ TiesAt K H a ts ∧ NetOk (n : Int) ts ∧
  SqL K H s (st.map V.int) ∧ MR.Stn n st ∧ SqL K H c (cs.map V.int) ∧ (∀ x ∈ cs, 1 ≤ x ∧ x ≤ (n : Int)) ∧ cs.length ≤ 10000 ∧ RetL ((MR.stOf (MR.runP (MR.tdF ts) (MR.plOf st) (MR.pairsF n cs))).map V.int) H Q
theorem ok_called (T : Txt K mg A) : FnOk P w K mg base CX0 6 A.f_called A.d_called ["seats", "ties", "standing", "calls"] (sp_called K) := by
  have G_check_net : FnOk P w K mg base CX0 5 A.f_check_net A.d_check_net ["seats", "ties"] (sp_check_net K) := ok_check_net T
  have G_check_standing : FnOk P w K mg base CX0 3 A.f_check_standing A.d_check_standing ["standing", "seats"] (sp_check_standing K) := ok_check_standing T
  have G_check_calls : FnOk P w K mg base CX0 2 A.f_check_calls A.d_check_calls ["calls", "count"] (sp_check_calls K) := ok_check_calls T
  have G_standing_of : FnOk P w K mg base CX0 2 A.f_standing_of A.d_standing_of ["places"] (sp_standing_of K) := ok_standing_of T
  have G_places_after : FnOk P w K mg base CX0 1 A.f_places_after A.d_places_after ["places", "pairs", "tied"] (sp_places_after K) := ok_places_after T
  have G_places_of : FnOk P w K mg base CX0 2 A.f_places_of A.d_places_of ["standing"] (sp_places_of K) := ok_places_of T
  have G_people_called : FnOk P w K mg base CX0 2 A.f_people_called A.d_people_called ["calls", "count"] (sp_people_called K) := ok_people_called T
  have G_tied_seats : FnOk P w K mg base CX0 1 A.f_tied_seats A.d_tied_seats ["seats", "ties"] (sp_tied_seats K) := ok_tied_seats T
  refine T.F_called.ok sc_called (fun vs H Q E h => ?_) (fun cdv A' outer s0 H vs Q E hr h => ?_)
  · obtain ⟨a, s, c, ts, st, cs, n, rfl, _⟩ := h
    rfl
  · obtain ⟨a, s, c, ts, st, cs, n, rfl, hT, N, hS, S, hC, hc, hl, q⟩ := h
    have n1 := N.lo
    have n2 := N.hi
    refine ⟨_, (pss_cons (ps_expr (pe_call G_check_net (hr.mono (by decide)) (by rfl) T.g_check_net T.F_check_net.kp T.b_check_net .nil pass0 (pa_cons (pv 0) (pa_cons (pv 1) pa_nil))))
      (pss_cons (ps_expr (pe_call G_check_standing (hr.mono (by decide)) (by rfl) T.g_check_standing T.F_check_standing.kp T.b_check_standing .nil pass0 (pa_cons (pv 2) (pa_cons (pv 0) pa_nil))))
      (pss_cons (ps_expr (pe_call G_check_calls (hr.mono (by decide)) (by rfl) T.g_check_calls T.F_check_calls.kp T.b_check_calls .nil pass0 (pa_cons (pv 3) (pa_cons (pv 0) pa_nil))))
      (pss_one (ps_ret (pe_call G_standing_of (hr.mono (by decide)) (by rfl) T.g_standing_of T.F_standing_of.kp T.b_standing_of .nil pass0 (pa_cons (pe_call G_places_after (hr.mono (by decide)) (by rfl) T.g_places_after T.F_places_after.kp T.b_places_after .nil pass0 (pa_cons (pe_call G_places_of (hr.mono (by decide)) (by rfl) T.g_places_of T.F_places_of.kp T.b_places_of .nil pass0 (pa_cons (pv 2) pa_nil)) (pa_cons (pe_call G_people_called (hr.mono (by decide)) (by rfl) T.g_people_called T.F_people_called.kp T.b_people_called .nil pass0 (pa_cons (pv 3) (pa_cons (pv 0) pa_nil))) (pa_cons (pe_call G_tied_seats (hr.mono (by decide)) (by rfl) T.g_tied_seats T.F_tied_seats.kp T.b_tied_seats .nil pass0 (pa_cons (pv 0) (pa_cons (pv 1) pa_nil))) pa_nil)))) pa_nil))))))), ?_⟩
    refine ⟨_, rfl, _, rfl, a, ts, n, rfl, hT, N, fun H1 e1 => ?_⟩
    refine ⟨_, rfl, _, rfl, s, st, n, rfl, ex_l e1 hS, S, by omega, fun H2 e2 => ?_⟩
    refine ⟨_, rfl, _, rfl, c, cs, n, rfl, ex_l (e1.trans e2) hC, hc, fun H3 e3 => ?_⟩
    have e13 := (e1.trans e2).trans e3
    refine ⟨_, rfl, s, st, n, rfl, ex_l e13 hS, S, by omega, fun p H4 np e4 hp => ?_⟩
    refine ⟨_, rfl, _, rfl, c, cs, n, rfl, ex_l (e13.trans e4) hC, by omega, hl, fun b H5 nb e5 hb => ?_⟩
    refine ⟨_, rfl, _, rfl, a, ts, n, rfl, hT.mono ((e13.trans e4).trans e5), N, fun t H6 nt e6 ht => ?_⟩
    have ok := MR.pairs_ok (n := n) (by omega) hc
    refine ⟨p, b, t, MR.plOf st, MR.pairsF n cs, n, MR.tdF ts, rfl, .inl (.inl (e6 _ _ (e5 _ _ hp))), hb.on e6, ht, S.plc, ok, fun r H7 nr e7 hr7 => ?_⟩
    refine ⟨r, _, n, rfl, .inl (.inl hr7), MR.run_plc S.plc ok, by omega, fun z H8 nz e8 hz => ?_⟩
    exact q z H8 (fresh_back e13 (fresh_back e4 (fresh_back e5 (fresh_back e6 (fresh_back e7 nz))))) ((((e13.trans e4).trans e5).trans e6).trans (e7.trans e8)) hz
def sp_places_after_rounds (K : PySem.W.Frag) : Sp := fun vs H Q _ => ∃ (a b t : Addr) (pl : List Int) (cs : List (Int × Int)) (n : Nat) (td : Int → Int → Bool) (m : Int), vs = [.ref a, .ref b, .ref t, .int m] ∧ SqL K H a (pl.map V.int) ∧ PairsAt K H b cs ∧ TdAt K H t n td ∧
  MR.Plc n pl ∧ (∀ c ∈ cs, MR.CallOk n c) ∧ 0 ≤ m ∧ ∀ p H2, Ex H H2 → SqL K H2 p ((MR.it (MR.roundP td cs) m.toNat pl).map V.int) → Q (.ref p) H2
theorem ok_places_after_rounds (T : Txt K mg A) : FnOk P w K mg base CX0 2 A.f_places_after_rounds A.d_places_after_rounds ["start", "pairs", "tied", "many"] (sp_places_after_rounds K) := by
  have G_places_after : FnOk P w K mg base CX0 1 A.f_places_after A.d_places_after ["places", "pairs", "tied"] (sp_places_after K) := ok_places_after T
  refine T.F_places_after_rounds.ok sc_places_after_rounds (fun vs H Q E h => ?_) (fun cdv A' outer s0 H vs Q E hr h => ?_)
  · obtain ⟨a, b, t, pl, cs, n, td, m, rfl, _⟩ := h
    rfl
  · obtain ⟨a, b, t, pl, cs, n, td, m, rfl, hS, hP, hT, Pl, hC, hm, q⟩ := h
    refine ⟨_, (pss_cons (ps_set (i := 4) sc_places_after_rounds.nd rfl (by first | exact .inl rfl | exact .inr rfl) (pv 0))
      (pss_cons (ps_set (i := 5) sc_places_after_rounds.nd rfl (by first | exact .inl rfl | exact .inr rfl) (pv 3))
      (pss_cons (ps_set (i := 6) sc_places_after_rounds.nd rfl (by first | exact .inl rfl | exact .inr rfl) pe_int)
      (pss_cons (ps_while PassesOwn.never (pt_cmpR op_gt (pv 5) pe_int (nomark _)) (pss_cons (ps_set (i := 4) sc_places_after_rounds.nd rfl (by first | exact .inl rfl | exact .inr rfl) (pe_call G_places_after (hr.mono (by decide)) (by rfl) T.g_places_after T.F_places_after.kp T.b_places_after .nil pass0 (pa_cons (pv 4) (pa_cons (pv 1) (pa_cons (pv 2) pa_nil)))))
      (pss_cons (ps_aug (i := 5) sc_places_after_rounds.nd rfl (by first | exact .inl rfl | exact .inr rfl) pe_int ip_sub)
      (pss_cons (ps_aug (i := 6) sc_places_after_rounds.nd rfl (by first | exact .inl rfl | exact .inr rfl) pe_int ip_add)
      (pss_one (ps_if (pt_cmpR (op_eqD hr.units) (pv 4) (pv 0) (nomark _)) (pss_one (ps_aug (i := 5) sc_places_after_rounds.nd rfl (by first | exact .inl rfl | exact .inr rfl) (pv 6) ip_modN)) pss_nil))))))
      (pss_one (ps_ret (pv 4))))))), ?_⟩
    refine ⟨_, rfl, _, rfl, ?_⟩
    generalize hf : MR.roundP td cs = f at q
    refine ⟨fun k σ' H' => ∃ (p : Addr) (left made : Nat), σ' = [some (.ref a), some (.ref b), some (.ref t), some (.int m), some (.ref p), some (.int (left : Int)), some (.int (made : Int))] ∧ Ex H H' ∧ SqL K H' p ((MR.it f made pl).map V.int) ∧ k = left ∧
        MR.it f left (MR.it f made pl) = MR.it f m.toNat pl, ⟨m.toNat, a, m.toNat, 0, ?_, Ex.refl H, hS, rfl, rfl⟩, ?_⟩
    · rw [show ((m.toNat : Nat) : Int) = m by omega]
      rfl
    rintro left σ' H' ⟨p, left', made, rfl, e1, hp, rfl, hit⟩
    refine ⟨_, rfl, _, _, rfl, rfl, _, rfl, ?_⟩
    by_cases c : left = 0
    · subst c
      rw [decide_eq_false (show ¬ (0 : Int) < ((0 : Nat) : Int) by decide)]
      refine iteF ⟨_, rfl, q p H' e1 ?_⟩
      rw [← hit]
      exact hp
    · rw [decide_eq_true (show (0 : Int) < (left : Int) by omega)]
      refine iteT ⟨fun σ2 H2 => ∃ k', k' < left ∧ ∃ (p : Addr) (left made : Nat), σ2 = [some (.ref a), some (.ref b), some (.ref t), some (.int m), some (.ref p), some (.int (left : Int)), some (.int (made : Int))] ∧ Ex H H2 ∧ SqL K H2 p ((MR.it f made pl).map V.int) ∧ k' = left ∧
        MR.it f left (MR.it f made pl) = MR.it f m.toNat pl, fun σ2 H2 z => z, ?_⟩
      have Pm : MR.Plc n (MR.it f made pl) := by rw [← hf]; exact MR.it_plc hC made Pl
      refine ⟨_, rfl, _, rfl, _, rfl, p, b, t, _, cs, n, td, rfl, hp, hP.on e1, hT.on e1, Pm, hC, fun r H3 nr e3 hr3 => ?_⟩
      have er : MR.runP td (MR.it f made pl) cs = MR.it f (made + 1) pl := by rw [MR.it_succ, ← hf]; rfl
      rw [er] at hr3
      have e13 := e1.trans e3
      refine ⟨_, rfl, _, _, rfl, rfl, ?_⟩
      refine ⟨_, rfl, _, _, rfl, rfl, ?_⟩
      have hit2 : MR.it f (left - 1) (MR.it f (made + 1) pl) = MR.it f m.toNat pl := by
        rw [← hit, MR.it_succ]
        conv => rhs; rw [show left = (left - 1) + 1 by omega]
        rfl
      -- if places == start
      refine ⟨_, rfl, _, rfl, eq_ints (.inl (.inl hr3)) (ex_l e13 hS) ⟨_, rfl, ?_⟩⟩
      by_cases d : MR.it f (made + 1) pl = pl
      · rw [decide_eq_true d]
        refine iteT ⟨_, rfl, _, rfl, _, _, rfl, rfl, (by show (made : Int) + 1 ≠ 0; omega), ?_⟩
        have lt := Nat.mod_lt (left - 1) (show 0 < made + 1 by omega)
        have le := Nat.mod_le (left - 1) (made + 1)
        refine ⟨(left - 1) % (made + 1), by omega, r, (left - 1) % (made + 1), made + 1, ?_, e13, .inl (.inl hr3), rfl, ?_⟩
        · have ei : ((left : Int) - 1).fmod ((made : Int) + 1) = (((left - 1) % (made + 1) : Nat) : Int) := by
            rw [Int.fmod_eq_emod_of_nonneg _ (by omega), Int.natCast_emod, show (((left - 1 : Nat)) : Int) = (left : Int) - 1 by omega]
            rfl
          show [_, _, _, _, _, some (V.int (((left : Int) - 1).fmod ((made : Int) + 1))), some (V.int ((made : Int) + 1))] = _
          rw [ei]
          rfl
        · rw [← hf] at hit2 d ⊢
          exact MR.left_mod hit2 d
      · rw [decide_eq_false d]
        refine iteF ⟨left - 1, by omega, r, left - 1, made + 1, ?_, e13, .inl (.inl hr3), rfl, hit2⟩
        show [_, _, _, _, _, some (V.int ((left : Int) - 1)), some (V.int ((made : Int) + 1))] = _
        rw [show (((left - 1 : Nat)) : Int) = (left : Int) - 1 by omega]
        rfl
def sp_after_rounds (K : PySem.W.Frag) : Sp := fun vs H Q _ => ∃ (a s o : Addr) (ts : List (Int × Int)) (st ord : List Int) (n : Nat) (m : Int), vs = [.int (n : Int), .ref a, .ref s, .ref o, .int m] ∧ TiesAt K H a ts ∧ NetOk (n : Int) ts ∧
  SqL K H s (st.map V.int) ∧ MR.Stn n st ∧ SqL K H o (ord.map V.int) ∧ MR.Stn n ord ∧ RetL ((MR.stOf (roundsZ (MR.tdF ts) n ord m (MR.plOf st))).map V.int) H Q
theorem ok_after_rounds (T : Txt K mg A) : FnOk P w K mg base CX0 6 A.f_after_rounds A.d_after_rounds ["seats", "ties", "standing", "order", "many"] (sp_after_rounds K) := by
  have G_check_net : FnOk P w K mg base CX0 5 A.f_check_net A.d_check_net ["seats", "ties"] (sp_check_net K) := ok_check_net T
  have G_check_standing : FnOk P w K mg base CX0 3 A.f_check_standing A.d_check_standing ["standing", "seats"] (sp_check_standing K) := ok_check_standing T
  have G_check_order_of : FnOk P w K mg base CX0 3 A.f_check_order_of A.d_check_order_of ["order", "count"] (sp_check_order_of K) := ok_check_order_of T
  have G_check_many : FnOk P w K mg base CX0 2 A.f_check_many A.d_check_many ["many"] sp_check_many := ok_check_many T
  have G_standing_of : FnOk P w K mg base CX0 2 A.f_standing_of A.d_standing_of ["places"] (sp_standing_of K) := ok_standing_of T
  have G_places_after_rounds : FnOk P w K mg base CX0 2 A.f_places_after_rounds A.d_places_after_rounds ["start", "pairs", "tied", "many"] (sp_places_after_rounds K) := ok_places_after_rounds T
  have G_places_of : FnOk P w K mg base CX0 2 A.f_places_of A.d_places_of ["standing"] (sp_places_of K) := ok_places_of T
  have G_people_called : FnOk P w K mg base CX0 2 A.f_people_called A.d_people_called ["calls", "count"] (sp_people_called K) := ok_people_called T
  have G_tied_seats : FnOk P w K mg base CX0 1 A.f_tied_seats A.d_tied_seats ["seats", "ties"] (sp_tied_seats K) := ok_tied_seats T
  refine T.F_after_rounds.ok sc_after_rounds (fun vs H Q E h => ?_) (fun cdv A' outer s0 H vs Q E hr h => ?_)
  · obtain ⟨a, s, o, ts, st, ord, n, m, rfl, _⟩ := h
    rfl
  · obtain ⟨a, s, o, ts, st, ord, n, m, rfl, hT, N, hS, S, hO, O, q⟩ := h
    have n1 := N.lo
    have n2 := N.hi
    have ol := O.len
    refine ⟨_, (pss_cons (ps_expr (pe_call G_check_net (hr.mono (by decide)) (by rfl) T.g_check_net T.F_check_net.kp T.b_check_net .nil pass0 (pa_cons (pv 0) (pa_cons (pv 1) pa_nil))))
      (pss_cons (ps_expr (pe_call G_check_standing (hr.mono (by decide)) (by rfl) T.g_check_standing T.F_check_standing.kp T.b_check_standing .nil pass0 (pa_cons (pv 2) (pa_cons (pv 0) pa_nil))))
      (pss_cons (ps_expr (pe_call G_check_order_of (hr.mono (by decide)) (by rfl) T.g_check_order_of T.F_check_order_of.kp T.b_check_order_of .nil pass0 (pa_cons (pv 3) (pa_cons (pv 0) pa_nil))))
      (pss_cons (ps_expr (pe_call G_check_many (hr.mono (by decide)) (by rfl) T.g_check_many T.F_check_many.kp T.b_check_many .nil pass0 (pa_cons (pv 4) pa_nil)))
      (pss_cons (ps_set (i := 5) sc_after_rounds.nd rfl (by first | exact .inl rfl | exact .inr rfl) (pe_ifExp (pt_cmpR op_ge (pv 4) pe_int (nomark _)) (pv 3) (pe_revK (K := K) rfl (pv 3))))
      (pss_cons (ps_set (i := 6) sc_after_rounds.nd rfl (by first | exact .inl rfl | exact .inr rfl) (pe_call G_people_called (hr.mono (by decide)) (by rfl) T.g_people_called T.F_people_called.kp T.b_people_called .nil pass0 (pa_cons (pv 5) (pa_cons (pv 0) pa_nil))))
      (pss_one (ps_ret (pe_call G_standing_of (hr.mono (by decide)) (by rfl) T.g_standing_of T.F_standing_of.kp T.b_standing_of .nil pass0 (pa_cons (pe_call G_places_after_rounds (hr.mono (by decide)) (by rfl) T.g_places_after_rounds T.F_places_after_rounds.kp T.b_places_after_rounds .nil pass0 (pa_cons (pe_call G_places_of (hr.mono (by decide)) (by rfl) T.g_places_of T.F_places_of.kp T.b_places_of .nil pass0 (pa_cons (pv 2) pa_nil)) (pa_cons (pv 6) (pa_cons (pe_call G_tied_seats (hr.mono (by decide)) (by rfl) T.g_tied_seats T.F_tied_seats.kp T.b_tied_seats .nil pass0 (pa_cons (pv 0) (pa_cons (pv 1) pa_nil))) (pa_cons (pe_callB call_abs (by rfl) T.z_abs (by decide +kernel) (pa_cons (pv 4) pa_nil)) pa_nil))))) pa_nil)))))))))), ?_⟩
    refine ⟨_, rfl, _, rfl, a, ts, n, rfl, hT, N, fun H1 e1 => ?_⟩
    refine ⟨_, rfl, _, rfl, s, st, n, rfl, ex_l e1 hS, S, by omega, fun H2 e2 => ?_⟩
    refine ⟨_, rfl, _, rfl, o, ord, n, rfl, ex_l (e1.trans e2) hO, O, by omega, fun H3 e3 => ?_⟩
    refine ⟨_, rfl, m, rfl, fun H4 e4 => ?_⟩
    have e14 := ((e1.trans e2).trans e3).trans e4
    have hO4 := ex_l e14 hO
    obtain ⟨cs, hcs⟩ : ∃ cs, cs = if 0 ≤ m then ord else ord.reverse := ⟨_, rfl⟩
    have hcb : ∀ x ∈ cs, 1 ≤ x ∧ x ≤ (n : Int) := fun x hx => by
      rw [hcs] at hx
      split at hx
      · exact O.lo x hx
      · exact O.lo x (List.mem_reverse.mp hx)
    have hcl : cs.length ≤ 10000 := by
      rw [hcs]
      split
      · omega
      · rw [List.length_reverse]; omega
    have hgo : MR.it (MR.roundP (MR.tdF ts) (MR.pairsF n cs)) (if m < 0 then -m else m).toNat (MR.plOf st) = roundsZ (MR.tdF ts) n ord m (MR.plOf st) := by
      unfold roundsZ
      by_cases c : 0 ≤ m
      · rw [if_pos c, if_neg (by omega), hcs, if_pos c]
      · rw [if_neg c, if_pos (by omega), hcs, if_neg c]
    -- calls = order if many >= 0 else order[::-1]
    have pick : ∀ Qx : VK, (∀ c H5, Ex H4 H5 → SqL K H5 c (cs.map V.int) → Qx (.ref c) H5) →
        tIf (tTest (tOp (rI0 fun i j => V.bl (decide (j ≤ i))) (tVar 4) (tC (.int 0)))) (tVar 3) (tRevL K (tVar 3)) [some (.int (n : Int)), some (.ref a), some (.ref s), some (.ref o), some (.int m), none, none] H4 Qx := by
      intro Qx k
      refine ⟨_, rfl, _, _, rfl, rfl, _, rfl, ?_⟩
      by_cases c : 0 ≤ m
      · rw [decide_eq_true c]
        refine iteT ⟨_, rfl, k o H4 (Ex.refl H4) ?_⟩
        rw [hcs, if_pos c]
        exact hO4
      · rw [decide_eq_false c]
        refine iteF ⟨_, rfl, o, _, rfl, hO4, fun r nr => k r _ (Ex.new nr) (.inl (.inl ?_))⟩
        rw [upd_same, hcs, if_neg c, List.map_reverse]
    refine pick _ fun c H5 e5 hc => ?_
    have ok := MR.pairs_ok (n := n) (by omega) hcb
    refine ⟨_, rfl, _, rfl, c, cs, n, rfl, hc, by omega, hcl, fun b H6 nb e6 hb => ?_⟩
    have e16 := (e14.trans e5).trans e6
    refine ⟨_, rfl, s, st, n, rfl, ex_l e16 hS, S, by omega, fun p H7 np e7 hp => ?_⟩
    refine ⟨_, rfl, _, rfl, _, rfl, a, ts, n, rfl, hT.mono (e16.trans e7), N, fun t H8 nt e8 ht => ?_⟩
    refine ⟨_, rfl, m, rfl, ?_⟩
    refine ⟨p, b, t, MR.plOf st, MR.pairsF n cs, n, MR.tdF ts, _, rfl, .inl (.inl (e8 _ _ hp)), (hb.on e7).on e8, ht, S.plc, ok, by split <;> omega, fun r H9 e9 hr9 => ?_⟩
    rw [hgo] at hr9
    refine ⟨r, _, n, rfl, hr9, ?_, by omega, fun z Hz nz ez hz => ?_⟩
    · rw [← hgo]
      exact MR.it_plc ok _ S.plc
    · exact q z Hz (fresh_back e16 (fresh_back e7 (fresh_back e8 (fresh_back e9 nz)))) (((e16.trans e7).trans e8).trans (e9.trans ez)) hz
end
end K30

namespace K30
open PySem PySem.Spec PyProof.Rows L2 Vf Evl
/-! ### the law's draws -/
/-- all but the object at a is as it was -/
def ExA (a : Addr) (H H' : Hp) : Prop := ∀ b o, b ≠ a → H b = some o → H' b = some o
theorem ExA.trans {a : Addr} {H H1 H2 : Hp} (x : ExA a H H1) (y : ExA a H1 H2) : ExA a H H2 := fun b o ne h => y b o ne (x b o ne h)
theorem ExA.of {a : Addr} {H H' : Hp} (e : Ex H H') : ExA a H H' := fun b o _ h => e b o h
theorem ExA.upd (a : Addr) (H : Hp) (o : HO) : ExA a H (upd H a o) := fun b u ne h => by rw [upd_ne ne]; exact h
theorem ExA.list {K : PySem.W.Frag} {a b : Addr} {H H' : Hp} {xs : List V} (e : ExA a H H') (ne : b ≠ a) (h : SqL K H b xs) : SqL K H' b xs := by
  rcases h with (h | ⟨o, h⟩) | h
  · exact .inl (.inl (e _ _ ne h))
  · exact .inl (.inr ⟨o, e _ _ ne h⟩)
  · exact .inr h
/-- a list of draws at a, k of them made -/
def Dr (H : Hp) (a : Addr) (k : Int) : Prop := ∃ (x : Int) (b : Bool), H a = some (.lst [.int x, .int k, .bl b])
theorem Dr.on {H H' : Hp} {a : Addr} {k : Int} (e : Ex H H') (d : Dr H a k) : Dr H' a k := by
  obtain ⟨x, b, h⟩ := d
  exact ⟨x, b, e _ _ h⟩
theorem fmod_at {i j : Int} (h : 0 < j) : 0 ≤ i.fmod j ∧ i.fmod j < j := by
  rw [Int.fmod_eq_emod_of_nonneg i (by omega)]
  exact ⟨Int.emod_nonneg _ (by omega), Int.emod_lt_of_pos _ h⟩
theorem fdiv_at {i j : Int} (h : 0 ≤ i) (hj : 0 ≤ j) : 0 ≤ i.fdiv j := by
  rw [Int.fdiv_eq_ediv_of_nonneg i hj]
  exact Int.ediv_nonneg h hj
section
variable {P : Program} {w : World} {K : PySem.W.Frag} {mg : Str → Option Value} {base : Heap} {A : Ad}
def DrX (H : Hp) (a : Addr) (x k : Int) (b : Bool) : Prop := H a = some (.lst [.int x, .int k, .bl b])
theorem DrX.dr {H : Hp} {a : Addr} {x k : Int} {b : Bool} (h : DrX H a x k b) : Dr H a k := ⟨x, b, h⟩
theorem DrX.on {H H' : Hp} {a : Addr} {x k : Int} {b : Bool} (e : Ex H H') (h : DrX H a x k b) : DrX H' a x k b := e _ _ h
def cellX (c : Int) : Int := c.fmod (((10 ^ 60) ^ 60) ^ 4)
def nextV (x k : Int) (b : Bool) : Int :=
  if b then x.fmod 1000000 else
    let y := ((x.fmod 1000003 + k * k * 7919 + k) * 48271).fmod 2147483629
    let z := (y * y).fmod 2147483587
    (((z * (z + 2)).fmod 2147483579)).fdiv 7
def nextX (x : Int) (b : Bool) : Int := if b then x.fdiv 1000000 else x
theorem nextV_nn (x k : Int) (b : Bool) : 0 ≤ nextV x k b := by
  unfold nextV
  split
  · exact (fmod_at (by decide)).1
  · exact fdiv_at (fmod_at (by decide)).1 (by decide)
def sp_l_draws : Sp := fun vs H Q _ => ∃ c : Int, vs = [.int c] ∧ ∀ (x : Int) (b : Bool) (p : Addr) (H2 : Hp), H p = none → Ex H H2 → H2 p = some (.lst [.int x, .int 0, .bl b]) → Q (.ref p) H2
theorem ok_l_draws (T : Txt K mg A) : FnOk P w K mg base CX0 1 A.f_l_draws A.d_l_draws ["_law_cell"] sp_l_draws := by
  refine T.F_l_draws.ok sc_l_draws (fun vs H Q E h => ?_) (fun cdv A' outer s H vs Q E hr h => ?_)
  · obtain ⟨c, rfl, _⟩ := h
    rfl
  · obtain ⟨c, rfl, q⟩ := h
    refine ⟨_, (pss_one (ps_ret (pe_lst (pa_cons (pe_op op_modN (pe_callTy call_int1 (by rfl) T.z_int (by decide +kernel) (pa_cons (pv 0) pa_nil)) (pe_op op_powW (pe_op op_powW (pe_op op_powW pe_int pe_int) pe_int) pe_int)) (pa_cons pe_int (pa_cons (pe_cmpR op_ge (pv 0) (pe_op op_powW pe_int pe_int) (nomark _)) pa_nil)))))), ?_⟩
    refine ⟨_, rfl, .inl ⟨c, rfl, ?_⟩⟩
    refine ⟨_, _, rfl, rfl, ⟨by decide, by decide +kernel⟩, _, _, rfl, rfl, ⟨by decide, by decide +kernel⟩, _, _, rfl, rfl, ⟨by decide, by decide +kernel⟩, ?_⟩
    refine ⟨_, _, rfl, rfl, (by show (_ : Int) ≠ 0; decide +kernel), ?_⟩
    refine ⟨_, rfl, _, _, rfl, rfl, ⟨by decide, by decide +kernel⟩, _, _, rfl, rfl, ?_⟩
    refine ⟨(by show 3 ≤ sizeLine; decide), fun p np => ?_⟩
    exact q _ _ p _ np (Ex.new np) upd_same
def sp_l_next : Sp := fun vs H Q _ => ∃ (a : Addr) (k : Int), vs = [.ref a] ∧ Dr H a k ∧ (0 ≤ k ∧ k < 2 ^ 40) ∧ ∀ (r : Int) (H2 : Hp), 0 ≤ r → ExA a H H2 → Dr H2 a (k + 1) → Q (.int r) H2
theorem ok_l_next (T : Txt K mg A) : FnOk P w K mg base CX0 1 A.f_l_next A.d_l_next ["_law_draws_here"] sp_l_next := by
  refine T.F_l_next.ok sc_l_next (fun vs H Q E h => ?_) (fun cdv A' outer s H vs Q E hr h => ?_)
  · obtain ⟨a, k, rfl, _⟩ := h
    rfl
  · obtain ⟨a, k, rfl, ⟨x, b, hd⟩, hk, q⟩ := h
    refine ⟨_, (pss_cons (ps_asg (pe_op op_add (pe_ix (ix_listK (K := K) rfl) (pv 0) pe_int (fun _ _ => rfl)) pe_int) (pg_sub (pv 0) pe_int set_list))
      (pss_cons (ps_set (i := 1) sc_l_next.nd rfl (by first | exact .inl rfl | exact .inr rfl) (pe_ix (ix_listK (K := K) rfl) (pv 0) pe_int (fun _ _ => rfl)))
      (pss_cons (ps_if (pt_val (pe_ix (ix_listK (K := K) rfl) (pv 0) pe_int (fun _ _ => rfl))) (pss_cons (ps_set (i := 2) sc_l_next.nd rfl (by first | exact .inl rfl | exact .inr rfl) (pe_op op_modN (pe_callTy call_int1 (by rfl) T.z_int (by decide +kernel) (pa_cons (pe_ix (ix_listK (K := K) rfl) (pv 0) pe_int (fun _ _ => rfl)) pa_nil)) (pe_op op_powW pe_int pe_int)))
      (pss_cons (ps_asg (pe_op op_fdivN (pe_ix (ix_listK (K := K) rfl) (pv 0) pe_int (fun _ _ => rfl)) (pe_op op_powW pe_int pe_int)) (pg_sub (pv 0) pe_int set_list))
      (pss_one (ps_ret (pv 2))))) pss_nil)
      (pss_cons (ps_set (i := 2) sc_l_next.nd rfl (by first | exact .inl rfl | exact .inr rfl) (pe_op op_modN (pe_callTy call_int1 (by rfl) T.z_int (by decide +kernel) (pa_cons (pe_op op_mul (pe_op op_add (pe_op op_add (pe_op op_modN (pe_callTy call_int1 (by rfl) T.z_int (by decide +kernel) (pa_cons (pe_ix (ix_listK (K := K) rfl) (pv 0) pe_int (fun _ _ => rfl)) pa_nil)) pe_int) (pe_op op_mul (pe_op op_mul (pv 1) (pv 1)) pe_int)) (pv 1)) pe_int) pa_nil)) pe_int))
      (pss_cons (ps_set (i := 2) sc_l_next.nd rfl (by first | exact .inl rfl | exact .inr rfl) (pe_op op_modN (pe_callTy call_int1 (by rfl) T.z_int (by decide +kernel) (pa_cons (pe_op op_mul (pv 2) (pv 2)) pa_nil)) pe_int))
      (pss_one (ps_ret (pe_op op_fdivN (pe_op op_modN (pe_callTy call_int1 (by rfl) T.z_int (by decide +kernel) (pa_cons (pe_op op_mul (pv 2) (pe_op op_add (pv 2) pe_int)) pa_nil)) pe_int) pe_int)))))))), ?_⟩
    -- d[1] = d[1] + 1
    refine ⟨_, rfl, a, _, _, _, rfl, rfl, .inl (.inl hd), atI_nat (j := 1) rfl, _, _, rfl, rfl, ?_⟩
    refine ⟨_, rfl, a, _, 1, 1, rfl, rfl, hd, rfl, ?_⟩
    have h1 : upd H a (.lst [.int x, .int (k + 1), .bl b]) a = some (.lst [.int x, .int (k + 1), .bl b]) := upd_same
    have e1 := ExA.upd a H (.lst [.int x, .int (k + 1), .bl b])
    show _
    generalize hH1 : upd H a (.lst [.int x, .int (k + 1), .bl b]) = H1 at h1 e1
    have hH1' : upd H a (.lst ([V.int x, .int k, .bl b].set 1 (.int (k + 1)))) = H1 := hH1
    rw [hH1']
    -- k = d[1]
    refine ⟨_, rfl, a, _, _, _, rfl, rfl, .inl (.inl h1), atI_nat (j := 1) rfl, ?_⟩
    -- if d[2]
    refine ⟨_, rfl, a, _, _, _, rfl, rfl, .inl (.inl h1), atI_nat (j := 2) rfl, b, rfl, ?_⟩
    cases b with
    | true =>
      refine iteT ?_
      refine ⟨_, rfl, a, _, _, _, rfl, rfl, .inl (.inl h1), atI_nat (j := 0) rfl, .inl ⟨x, rfl, _, _, rfl, rfl, ⟨by decide, by decide +kernel⟩, _, _, rfl, rfl, (by show (_ : Int) ≠ 0; decide +kernel), ?_⟩⟩
      refine ⟨_, rfl, a, _, _, _, rfl, rfl, .inl (.inl h1), atI_nat (j := 0) rfl, _, _, rfl, rfl, ⟨by decide, by decide +kernel⟩, _, _, rfl, rfl, ⟨by decide +kernel, by decide +kernel⟩, ?_⟩
      refine ⟨_, rfl, a, _, 0, 0, rfl, rfl, h1, rfl, ?_⟩
      refine ⟨_, rfl, q _ _ (fmod_at (by decide +kernel)).1 (e1.trans (ExA.upd a H1 _)) ⟨_, _, upd_same⟩⟩
    | false =>
      refine iteF ?_
      have ne1 : (1000003 : Int) ≠ 0 := by decide
      have ne2 : (2147483629 : Int) ≠ 0 := by decide
      have ne3 : (2147483587 : Int) ≠ 0 := by decide
      have ne4 : (2147483579 : Int) ≠ 0 := by decide
      -- number = int((int(d[0]) % 1000003 + k * k * 7919 + k) * 48271) % 2147483629
      refine ⟨_, rfl, a, _, _, _, rfl, rfl, .inl (.inl h1), atI_nat (j := 0) rfl, .inl ⟨x, rfl, _, _, rfl, rfl, ne1, ?_⟩⟩
      refine ⟨_, rfl, _, rfl, _, _, rfl, rfl, .inl ⟨by omega, by omega⟩, _, _, rfl, rfl, .inr ⟨by decide, by decide⟩, _, _, rfl, rfl, ?_⟩
      refine ⟨_, rfl, _, _, rfl, rfl, _, _, rfl, rfl, .inr ⟨by decide, by decide⟩, .inl ⟨_, rfl, _, _, rfl, rfl, ne2, ?_⟩⟩
      generalize (x.fmod 1000003 + (k + 1) * (k + 1) * 7919 + (k + 1)) * 48271 = y
      have y0 := fmod_at (i := y) (j := 2147483629) (by decide)
      -- number = int(number * number) % 2147483587
      refine ⟨_, rfl, _, rfl, _, _, rfl, rfl, .inl ⟨by omega, by omega⟩, .inl ⟨_, rfl, _, _, rfl, rfl, ne3, ?_⟩⟩
      have u0 := fmod_at (i := y.fmod 2147483629 * y.fmod 2147483629) (j := 2147483587) (by decide)
      -- return int(number * (number + 2)) % 2147483579 // 7
      refine ⟨_, rfl, _, rfl, _, _, rfl, rfl, _, _, rfl, rfl, .inl ⟨by omega, by omega⟩, .inl ⟨_, rfl, _, _, rfl, rfl, ne4, _, _, rfl, rfl, ⟨by decide, by decide⟩, ?_⟩⟩
      exact q _ H1 (fdiv_at (fmod_at (by decide)).1 (by decide)) e1 ⟨_, _, h1⟩
def sp_l_drawsX : Sp := fun vs H Q _ => ∃ c : Int, vs = [.int c] ∧ ∀ (p : Addr) (H2 : Hp), H p = none → Ex H H2 → DrX H2 p (cellX c) 0 (decide (10 ^ 18 ≤ c)) → Q (.ref p) H2
theorem ok_l_drawsX (T : Txt K mg A) : FnOk P w K mg base CX0 1 A.f_l_draws A.d_l_draws ["_law_cell"] sp_l_drawsX := by
  refine T.F_l_draws.ok sc_l_draws (fun vs H Q E h => ?_) (fun cdv A' outer s H vs Q E hr h => ?_)
  · obtain ⟨c, rfl, _⟩ := h
    rfl
  · obtain ⟨c, rfl, q⟩ := h
    refine ⟨_, (pss_one (ps_ret (pe_lst (pa_cons (pe_op op_modN (pe_callTy call_int1 (by rfl) T.z_int (by decide +kernel) (pa_cons (pv 0) pa_nil)) (pe_op op_powW (pe_op op_powW (pe_op op_powW pe_int pe_int) pe_int) pe_int)) (pa_cons pe_int (pa_cons (pe_cmpR op_ge (pv 0) (pe_op op_powW pe_int pe_int) (nomark _)) pa_nil)))))), ?_⟩
    refine ⟨_, rfl, .inl ⟨c, rfl, ?_⟩⟩
    refine ⟨_, _, rfl, rfl, ⟨by decide, by decide +kernel⟩, _, _, rfl, rfl, ⟨by decide, by decide +kernel⟩, _, _, rfl, rfl, ⟨by decide, by decide +kernel⟩, ?_⟩
    refine ⟨_, _, rfl, rfl, (by show (_ : Int) ≠ 0; decide +kernel), ?_⟩
    refine ⟨_, rfl, _, _, rfl, rfl, ⟨by decide, by decide +kernel⟩, _, _, rfl, rfl, ?_⟩
    refine ⟨(by show 3 ≤ sizeLine; decide), fun p np => ?_⟩
    refine q p _ np (Ex.new np) ?_
    exact upd_same
def sp_l_nextX : Sp := fun vs H Q _ => ∃ (a : Addr) (x k : Int) (b : Bool), vs = [.ref a] ∧ DrX H a x k b ∧ (0 ≤ k ∧ k < 2 ^ 40) ∧ ∀ (H2 : Hp), ExA a H H2 → DrX H2 a (nextX x b) (k + 1) b → Q (.int (nextV x (k + 1) b)) H2
theorem ok_l_nextX (T : Txt K mg A) : FnOk P w K mg base CX0 1 A.f_l_next A.d_l_next ["_law_draws_here"] sp_l_nextX := by
  refine T.F_l_next.ok sc_l_next (fun vs H Q E h => ?_) (fun cdv A' outer s H vs Q E hr h => ?_)
  · obtain ⟨a, x, k, b, rfl, _⟩ := h
    rfl
  · obtain ⟨a, x, k, b, rfl, hd, hk, q⟩ := h
    unfold DrX at hd
    refine ⟨_, (pss_cons (ps_asg (pe_op op_add (pe_ix (ix_listK (K := K) rfl) (pv 0) pe_int (fun _ _ => rfl)) pe_int) (pg_sub (pv 0) pe_int set_list))
      (pss_cons (ps_set (i := 1) sc_l_next.nd rfl (by first | exact .inl rfl | exact .inr rfl) (pe_ix (ix_listK (K := K) rfl) (pv 0) pe_int (fun _ _ => rfl)))
      (pss_cons (ps_if (pt_val (pe_ix (ix_listK (K := K) rfl) (pv 0) pe_int (fun _ _ => rfl))) (pss_cons (ps_set (i := 2) sc_l_next.nd rfl (by first | exact .inl rfl | exact .inr rfl) (pe_op op_modN (pe_callTy call_int1 (by rfl) T.z_int (by decide +kernel) (pa_cons (pe_ix (ix_listK (K := K) rfl) (pv 0) pe_int (fun _ _ => rfl)) pa_nil)) (pe_op op_powW pe_int pe_int)))
      (pss_cons (ps_asg (pe_op op_fdivN (pe_ix (ix_listK (K := K) rfl) (pv 0) pe_int (fun _ _ => rfl)) (pe_op op_powW pe_int pe_int)) (pg_sub (pv 0) pe_int set_list))
      (pss_one (ps_ret (pv 2))))) pss_nil)
      (pss_cons (ps_set (i := 2) sc_l_next.nd rfl (by first | exact .inl rfl | exact .inr rfl) (pe_op op_modN (pe_callTy call_int1 (by rfl) T.z_int (by decide +kernel) (pa_cons (pe_op op_mul (pe_op op_add (pe_op op_add (pe_op op_modN (pe_callTy call_int1 (by rfl) T.z_int (by decide +kernel) (pa_cons (pe_ix (ix_listK (K := K) rfl) (pv 0) pe_int (fun _ _ => rfl)) pa_nil)) pe_int) (pe_op op_mul (pe_op op_mul (pv 1) (pv 1)) pe_int)) (pv 1)) pe_int) pa_nil)) pe_int))
      (pss_cons (ps_set (i := 2) sc_l_next.nd rfl (by first | exact .inl rfl | exact .inr rfl) (pe_op op_modN (pe_callTy call_int1 (by rfl) T.z_int (by decide +kernel) (pa_cons (pe_op op_mul (pv 2) (pv 2)) pa_nil)) pe_int))
      (pss_one (ps_ret (pe_op op_fdivN (pe_op op_modN (pe_callTy call_int1 (by rfl) T.z_int (by decide +kernel) (pa_cons (pe_op op_mul (pv 2) (pe_op op_add (pv 2) pe_int)) pa_nil)) pe_int) pe_int)))))))), ?_⟩
    -- d[1] = d[1] + 1
    refine ⟨_, rfl, a, _, _, _, rfl, rfl, .inl (.inl hd), atI_nat (j := 1) rfl, _, _, rfl, rfl, ?_⟩
    refine ⟨_, rfl, a, _, 1, 1, rfl, rfl, hd, rfl, ?_⟩
    have h1 : upd H a (.lst [.int x, .int (k + 1), .bl b]) a = some (.lst [.int x, .int (k + 1), .bl b]) := upd_same
    have e1 := ExA.upd a H (.lst [.int x, .int (k + 1), .bl b])
    show _
    generalize hH1 : upd H a (.lst [.int x, .int (k + 1), .bl b]) = H1 at h1 e1
    have hH1' : upd H a (.lst ([V.int x, .int k, .bl b].set 1 (.int (k + 1)))) = H1 := hH1
    rw [hH1']
    -- k = d[1]
    refine ⟨_, rfl, a, _, _, _, rfl, rfl, .inl (.inl h1), atI_nat (j := 1) rfl, ?_⟩
    -- if d[2]
    refine ⟨_, rfl, a, _, _, _, rfl, rfl, .inl (.inl h1), atI_nat (j := 2) rfl, b, rfl, ?_⟩
    cases b with
    | true =>
      refine iteT ?_
      refine ⟨_, rfl, a, _, _, _, rfl, rfl, .inl (.inl h1), atI_nat (j := 0) rfl, .inl ⟨x, rfl, _, _, rfl, rfl, ⟨by decide, by decide +kernel⟩, _, _, rfl, rfl, (by show (_ : Int) ≠ 0; decide +kernel), ?_⟩⟩
      refine ⟨_, rfl, a, _, _, _, rfl, rfl, .inl (.inl h1), atI_nat (j := 0) rfl, _, _, rfl, rfl, ⟨by decide, by decide +kernel⟩, _, _, rfl, rfl, ⟨by decide +kernel, by decide +kernel⟩, ?_⟩
      refine ⟨_, rfl, a, _, 0, 0, rfl, rfl, h1, rfl, ?_⟩
      exact ⟨_, rfl, q _ (e1.trans (ExA.upd a H1 _)) upd_same⟩
    | false =>
      refine iteF ?_
      have ne1 : (1000003 : Int) ≠ 0 := by decide
      have ne2 : (2147483629 : Int) ≠ 0 := by decide
      have ne3 : (2147483587 : Int) ≠ 0 := by decide
      have ne4 : (2147483579 : Int) ≠ 0 := by decide
      -- number = int((int(d[0]) % 1000003 + k * k * 7919 + k) * 48271) % 2147483629
      refine ⟨_, rfl, a, _, _, _, rfl, rfl, .inl (.inl h1), atI_nat (j := 0) rfl, .inl ⟨x, rfl, _, _, rfl, rfl, ne1, ?_⟩⟩
      refine ⟨_, rfl, _, rfl, _, _, rfl, rfl, .inl ⟨by omega, by omega⟩, _, _, rfl, rfl, .inr ⟨by decide, by decide⟩, _, _, rfl, rfl, ?_⟩
      refine ⟨_, rfl, _, _, rfl, rfl, _, _, rfl, rfl, .inr ⟨by decide, by decide⟩, .inl ⟨_, rfl, _, _, rfl, rfl, ne2, ?_⟩⟩
      have hv : ∀ y, (x.fmod 1000003 + (k + 1) * (k + 1) * 7919 + (k + 1)) * 48271 = y → nextV x (k + 1) false = (((y.fmod 2147483629 * y.fmod 2147483629).fmod 2147483587 * ((y.fmod 2147483629 * y.fmod 2147483629).fmod 2147483587 + 2)).fmod 2147483579).fdiv 7 := fun y e => by
        subst e
        rfl
      generalize hy : (x.fmod 1000003 + (k + 1) * (k + 1) * 7919 + (k + 1)) * 48271 = y
      have y0 := fmod_at (i := y) (j := 2147483629) (by decide)
      -- number = int(number * number) % 2147483587
      refine ⟨_, rfl, _, rfl, _, _, rfl, rfl, .inl ⟨by omega, by omega⟩, .inl ⟨_, rfl, _, _, rfl, rfl, ne3, ?_⟩⟩
      have u0 := fmod_at (i := y.fmod 2147483629 * y.fmod 2147483629) (j := 2147483587) (by decide)
      -- return int(number * (number + 2)) % 2147483579 // 7
      refine ⟨_, rfl, _, rfl, _, _, rfl, rfl, _, _, rfl, rfl, .inl ⟨by omega, by omega⟩, .inl ⟨_, rfl, _, _, rfl, rfl, ne4, _, _, rfl, rfl, ⟨by decide, by decide⟩, ?_⟩⟩
      have go := q H1 e1 h1
      rw [hv y hy] at go
      exact go
end
end K30

namespace K30
open PySem PySem.Spec PyProof.Rows L2 Vf Evl
/-! ### the breaks of an order -/
def blI (n : Nat) (f : Nat → Bool) : List Int := (M30.bl n f).map fun (c : Nat) => (c : Int)
def flB (n : Nat) (f : Nat → Bool) : List Bool := (List.range n).map f
theorem blI_range (n : Nat) (f : Nat → Bool) : (blI n f).map V.int = given n f fun i => V.int (1 + (i : Int)) := by
  unfold blI M30.bl given
  rw [List.map_map, List.map_map]
  refine List.map_congr_left fun i _ => ?_
  show V.int ((i + 1 : Nat) : Int) = V.int (1 + (i : Int))
  rw [show ((i + 1 : Nat) : Int) = 1 + (i : Int) by omega]
theorem blI_len (n : Nat) (f : Nat → Bool) : (blI n f).length ≤ n := by
  unfold blI M30.bl
  rw [List.length_map, List.length_map]
  exact Nat.le_trans (List.length_filter_le _ _) (by rw [List.length_range]; exact Nat.le_refl _)
theorem blI_mem {n i : Nat} {f : Nat → Bool} (h : i < n) : (1 + (i : Int)) ∈ blI n f ↔ f i = true := by
  rw [← M30.bl_at h]
  unfold blI
  rw [List.mem_map]
  constructor
  · rintro ⟨c, hc, e⟩
    rwa [show i + 1 = c by omega]
  · exact fun z => ⟨i + 1, z, by omega⟩
theorem yes_if {σ : L2.St} {H : Hp} {A B : Hp → Prop} (h : A H) : tYes σ H fun b H3 => if b = true then A H3 else B H3 := iteT (B := B H) h
theorem ev_dget {td ty : TE} {σ : L2.St} {H : Hp} {a : Addr} {y v : V} (h1 : Ev td σ H (.ref a)) (h2 : Ev ty σ H y) (h3 : ∀ H2, Ex H H2 → DGet H2 a y (some v)) : Ev (tDGet td ty) σ H v := fun H1 e1 Q q =>
  h1 H1 e1 _ fun H2 e2 => h2 H2 (e1.trans e2) _ fun H3 e3 => ⟨a, v, rfl, h3 H3 ((e1.trans e2).trans e3), q H3 (e2.trans e3)⟩
section
variable {P : Program} {w : World} {K : PySem.W.Frag} {mg : Str → Option Value} {base : Heap} {A : Ad}
def sp_breaks_of (K : PySem.W.Frag) : Sp := fun vs H Q _ => ∃ (a : Addr) (ord : List Int) (n : Nat), vs = [.ref a] ∧ SqL K H a (ord.map V.int) ∧ MR.Stn n ord ∧ (3 ≤ n ∧ n ≤ 40) ∧ RetL ((blI n (M30.mk n ord)).map V.int) H Q
theorem ok_breaks_of (T : Txt K mg A) : FnOk P w K mg base CX0 2 A.f_breaks_of A.d_breaks_of ["order"] (sp_breaks_of K) := by
  have G_next_call : FnOk P w K mg base CX0 1 A.f_next_call A.d_next_call ["call", "count"] sp_next_call := ok_next_call T
  refine T.F_breaks_of.ok sc_breaks_of (fun vs H Q E h => ?_) (fun cdv A' outer s H vs Q E hr h => ?_)
  · obtain ⟨a, ord, n, rfl, _⟩ := h
    rfl
  · obtain ⟨a, ord, n, rfl, hS, O, hn, q⟩ := h
    have ol := O.len
    refine ⟨_, (pss_cons (ps_set (i := 1) sc_breaks_of.nd rfl (by first | exact .inl rfl | exact .inr rfl) (pe_callB (call_lenK (K := K) rfl) (by rfl) T.z_len PySem.boot_len (pa_cons (pv 0) pa_nil)))
      (pss_cons (ps_set (i := 2) sc_breaks_of.nd rfl (by first | exact .inl rfl | exact .inr rfl) (pe_dc (own := [("at", 3), ("call", 4)]) rfl sc_breaks_of.nd (pi_enum (by rfl) T.z_enumerate (pa_cons (pv 0) pa_nil)) (blkOk_by (by kernel_rfl)) (fun _ _ _ _ _ => (pg_tupK (n := 2) (K := K) rfl rfl (pgs_cons (pg_name (i := 3) sc_breaks_of.nd rfl (by first | exact .inl rfl | exact .inr rfl)) (pgs_cons (pg_name (i := 4) sc_breaks_of.nd rfl (by first | exact .inl rfl | exact .inr rfl)) pgs_nil)))) (fun _ _ _ _ _ => pts_nil) (fun _ _ _ _ _ => (pv 4)) (fun _ _ _ _ _ => (pv 3))))
      (pss_one (ps_ret (pe_lc (own := [("call", 4)]) rfl sc_breaks_of.nd (pi_range2 (by rfl) T.z_range (pa_cons pe_int (pa_cons (pe_op op_add (pv 1) pe_int) pa_nil))) (blkOk_by (by kernel_rfl)) (fun _ _ _ _ _ => (pg_name (i := 4) sc_breaks_of.nd rfl (by first | exact .inl rfl | exact .inr rfl))) (fun _ _ _ _ _ => (pts_one (pt_cmpR op_gt (pe_dget (hu_of hr) (pv 2) (pv 4) (fun _ _ => rfl)) (pe_dget (hu_of hr) (pv 2) (pe_call G_next_call (hr.mono (by decide)) (by rfl) T.g_next_call T.F_next_call.kp T.b_next_call .nil pass0 (pa_cons (pv 4) (pa_cons (pv 1) pa_nil))) (fun _ _ => rfl)) (nomark _)))) (fun _ _ _ _ _ => (pv 4))))))), ?_⟩
    refine ⟨_, rfl, a, _, rfl, .inl hS, ?_⟩
    rw [List.length_map, ol]
    -- place = {call: at for at, call in enumerate(order)}
    refine ⟨.ref a, rfl, a, ord.map V.int, rfl, hS, fun D nD => ?_⟩
    refine ⟨fun i m H' => m = n - i ∧ i ≤ n ∧ Ex H H' ∧ ∃ kvs : List (Key × V), H' D = some (.dK kvs) ∧ kvs.length ≤ i ∧ ∀ (j : Nat) (c : Int), j < i → ord[j]? = some c → valV kvs (.inl c) = some (.int (j : Int)), ⟨_, rfl, Nat.zero_le _, Ex.new nD, [], upd_same, Nat.le_refl _, fun j c h => absurd h (Nat.not_lt_zero _)⟩, ?_⟩
    rintro i m H' ⟨rfl, hi, e1, kvs, hD, hk, hv⟩
    have hS1 := ex_l e1 hS
    by_cases ci : i = n
    · refine .inl ⟨⟨_, hS1, by rw [List.length_map, ol]; omega⟩, ?_⟩
      subst ci
      dsimp only [gName]
      have get : ∀ (k : Nat) (H2 : Hp), Ex H' H2 → k < i → DGet H2 D (.int ((k + 1 : Nat) : Int)) (some (.int ((ord.idxOf ((k + 1 : Nat) : Int) : Nat) : Int))) := fun k H2 e2 hk2 => by
        have hm := M30.stn_mem O hk2
        have hlt := List.idxOf_lt_length_of_mem hm
        have hx : ord[ord.idxOf ((k + 1 : Nat) : Int)]? = some ((k + 1 : Nat) : Int) := by rw [List.getElem?_eq_getElem hlt, List.getElem_idxOf]
        exact .inl ⟨kvs, .inl _, .inl (e2 _ _ hD), rfl, (hv _ _ (by omega) hx).symm⟩
      refine s_retL (xs := (blI i (M30.mk i ord)).map V.int) ?_ fun p H2 np e2 hp => q p H2 (fresh_back e1 np) (e1.trans e2) hp
      rw [blI_range]
      have go := el_lcR2 (H := H') (σ := [some (.ref a), some (.int (i : Int)), some (.ref D), none, none]) (j := 4) (vs := [4]) (lo := 1) (n := (i : Int) + 1) (ta := tCons (tC (.int 1)) (tCons (tOp (rI0 fun i j => V.int (i + j)) (tVar 1) (tC (V.int 1))) tNil))
        (t := tTest (tOp (rI0 fun i j => V.bl (decide (j < i))) (tDGet (tVar 2) (tVar 4)) (tDGet (tVar 2) (tCall sp_next_call [] E0 (tCons (tVar 4) (tCons (tVar 1) tNil)))))) (te := tVar 4)
        (M30.mk i ord) (fun k => V.int (1 + (k : Int))) (ea_cons ev_c (ea_cons (ev_op (ev_var rfl) ev_c rv_I0) ea_nil)) (by omega) (fun x => rfl) (fun k H4 e4 hk => ?_) (fun k H4 e4 _ _ => ev_var rfl)
      · rw [show ((i : Int) + 1 - 1).toNat = i by omega] at go
        exact go
      · have hki : k < i := by omega
        have e1k : (1 + (k : Int)) = ((k + 1 : Nat) : Int) := by omega
        have e2k : MR.nxt (i : Int) (1 + (k : Int)) = ((M30.nx i k + 1 : Nat) : Int) := by rw [e1k]; exact M30.nxt_nat hki
        have v1 := ev_dget (td := tVar 2) (ty := tVar 4) (σ := [some (.ref a), some (.int (i : Int)), some (.ref D), none, some (.int (1 + (k : Int)))]) (H := H4) (a := D) (y := .int (1 + (k : Int))) (v := .int ((ord.idxOf ((k + 1 : Nat) : Int) : Nat) : Int)) (ev_var rfl) (ev_var rfl) fun H5 e5 => by
          rw [e1k]
          exact get k H5 (e4.trans e5) hki
        have v2 := ev_dget (td := tVar 2) (ty := tCall sp_next_call [] E0 (tCons (tVar 4) (tCons (tVar 1) tNil))) (σ := [some (.ref a), some (.int (i : Int)), some (.ref D), none, some (.int (1 + (k : Int)))]) (H := H4) (a := D) (y := .int (MR.nxt (i : Int) (1 + (k : Int)))) (v := .int ((ord.idxOf ((M30.nx i k + 1 : Nat) : Int) : Nat) : Int)) (ev_var rfl) (ev_call (ea_cons (ev_var rfl) (ea_cons (ev_var rfl) ea_nil)) fun H2 e2 Q q E => ⟨_, _, rfl, by omega, q⟩) fun H5 e5 => by
          rw [e2k]
          exact get _ H5 (e4.trans e5) (M30.nx_lt hki)
        have v3 := et_test (ev_op v1 v2 (rv_I0 (g := fun i j => V.bl (decide (j < i)))))
        have em : M30.mk i ord k = decide (((ord.idxOf ((M30.nx i k + 1 : Nat) : Int) : Nat) : Int) < ((ord.idxOf ((k + 1 : Nat) : Int) : Nat) : Int)) := by
          unfold M30.mk
          exact decide_eq_decide.mpr (by omega)
        rw [em]
        exact v3
    · have hi2 : i < ord.length := by omega
      obtain ⟨c, hc⟩ : ∃ c, ord[i]? = some c := ⟨_, List.getElem?_eq_getElem hi2⟩
      have hcv : (ord.map V.int)[i]? = some (.int c) := by rw [List.getElem?_map, hc]; rfl
      refine .inr ⟨⟨_, _, hS1, hcv⟩, _, fun H2 z => z, ?_⟩
      rintro x H2 ⟨Tt, y, rfl, nT, rfl, hy⟩
      have ey : y = .int c := Option.some.inj ((hy _ hS1).symm.trans hcv)
      subst ey
      have e2 : Ex H' (upd H' Tt (.tup [.int (i : Nat), .int c])) := Ex.new nT
      have nDT : D ≠ Tt := ne_of_none hD nT
      refine ⟨Tt, _, rfl, .inl (.inl upd_same), rfl, _, _, rfl, _, _, rfl, rfl, rfl, yes_if ⟨_, rfl, _, rfl, kvs, .inl c, rfl, e2 _ _ hD, sz_lt (by omega), n - (i + 1), by omega, rfl, by omega, Ex.mut (e1.trans e2) nD, _, upd_same, ?_, fun j x hj hx => ?_⟩⟩
      · have := length_putK kvs (.inl c) (V.int (i : Int))
        omega
      · rw [valV_put]
        by_cases ej : j = i
        · subst ej
          have : x = c := Option.some.inj (hx.symm.trans hc)
          rw [this, if_pos rfl]
        · have nx : x ≠ c := fun z => by
            rw [z] at hx
            refine nodup_at O.nd hc (List.mem_of_getElem? (i := j) ?_)
            rw [List.getElem?_take, if_pos (by omega)]
            exact hx
          rw [if_neg (fun z => nx (by injection z)), hv j x (by omega) hx]
end
end K30

namespace K30
open PySem PySem.Spec PyProof.Rows L2 Vf Evl
/-! ### the marks of an order; what is due -/
theorem inV_ints (x : Int) : ∀ l : List Int, inV (.int x) (l.map V.int) = decide (x ∈ l)
  | [] => rfl
  | y :: l => by
    have ih := inV_ints x l
    unfold inV at ih ⊢
    rw [List.map_cons, List.any_cons, ih]
    have e : eqV (.int y) (.int x) = decide (y = x) := rfl
    by_cases c : y = x
    · subst c
      simp [e]
    · have c2 : ¬ x = y := fun z => c z.symm
      simp [e, c, c2]
theorem flat_ints (l : List Int) : (l.map V.int).all flatV = true := by
  rw [List.all_eq_true]
  intro x hx
  obtain ⟨y, _, rfl⟩ := List.mem_map.mp hx
  rfl
theorem rv_in {K : PySem.W.Frag} {H : Hp} {p : Addr} {x : Int} {l : List Int} (h : SqL K H p (l.map V.int)) : RV (rIn K false) (.int x) (.ref p) H (.bl (decide (x ∈ l))) := fun H1 e Q q =>
  ⟨p, _, rfl, .inl (ex_l e h), rfl, flat_ints l, by rw [if_neg (by decide), inV_ints]; exact q H1 (Ex.refl H1)⟩
section
variable {P : Program} {w : World} {K : PySem.W.Frag} {mg : Str → Option Value} {base : Heap} {A : Ad}
def sp_falls_of (K : PySem.W.Frag) : Sp := fun vs H Q _ => ∃ (a : Addr) (ord : List Int) (n : Nat), vs = [.ref a] ∧ SqL K H a (ord.map V.int) ∧ MR.Stn n ord ∧ (3 ≤ n ∧ n ≤ 40) ∧ RetL ((flB n (M30.mk n ord)).map V.bl) H Q
theorem ok_falls_of (T : Txt K mg A) : FnOk P w K mg base CX0 3 A.f_falls_of A.d_falls_of ["order"] (sp_falls_of K) := by
  have G_breaks_of : FnOk P w K mg base CX0 2 A.f_breaks_of A.d_breaks_of ["order"] (sp_breaks_of K) := ok_breaks_of T
  refine T.F_falls_of.ok sc_falls_of (fun vs H Q E h => ?_) (fun cdv A' outer s H vs Q E hr h => ?_)
  · obtain ⟨a, ord, n, rfl, _⟩ := h
    rfl
  · obtain ⟨a, ord, n, rfl, hS, O, hn, q⟩ := h
    have ol := O.len
    refine ⟨_, (pss_cons (ps_set (i := 1) sc_falls_of.nd rfl (by first | exact .inl rfl | exact .inr rfl) (pe_call G_breaks_of (hr.mono (by decide)) (by rfl) T.g_breaks_of T.F_breaks_of.kp T.b_breaks_of .nil pass0 (pa_cons (pv 0) pa_nil)))
      (pss_one (ps_ret (pe_lc (own := [("call", 2)]) rfl sc_falls_of.nd (pi_range2 (by rfl) T.z_range (pa_cons pe_int (pa_cons (pe_op op_add (pe_callB (call_lenK (K := K) rfl) (by rfl) T.z_len PySem.boot_len (pa_cons (pv 0) pa_nil)) pe_int) pa_nil))) (blkOk_by (by kernel_rfl)) (fun _ _ _ _ _ => (pg_name (i := 2) sc_falls_of.nd rfl (by first | exact .inl rfl | exact .inr rfl))) (fun _ _ _ _ _ => pts_nil) (fun _ _ _ _ _ => (pe_cmpR (op_inK (K := K) rfl) (pv 2) (pv 1) (by rfl))))))), ?_⟩
    refine ⟨_, rfl, a, ord, n, rfl, hS, O, hn, fun b H1 nb e1 hb => ?_⟩
    dsimp only [gName]
    refine s_retL (xs := (flB n (M30.mk n ord)).map V.bl) ?_ fun p H2 np e2 hp => q p H2 (fresh_back e1 np) (e1.trans e2) hp
    have go := el_lcR2 (H := H1) (σ := [some (.ref a), some (.ref b), none]) (j := 2) (vs := [2]) (lo := 1) (n := (n : Int) + 1) (ta := tCons (tC (.int 1)) (tCons (tOp (rI0 fun i j => V.int (i + j)) (tCB (rLenS K) (tCons (tVar 0) tNil)) (tC (V.int 1))) tNil))
      (t := tYes) (te := tOp (rIn K false) (tVar 2) (tVar 1))
      (fun _ => true) (fun k => V.bl (M30.mk n ord k)) (ea_cons ev_c (ea_cons (ev_op (ev_cb (ea_cons (ev_var rfl) ea_nil) fun H3 e3 Q q => ⟨a, _, rfl, .inl (ex_l (e1.trans e3) hS), by rw [List.length_map, ol]; exact q H3 (Ex.refl H3)⟩) ev_c rv_I0) ea_nil)) (by omega) (fun x => rfl) (fun k H4 e4 hk => et_yes) (fun k H4 e4 hk _ => ?_)
    · rw [show ((n : Int) + 1 - 1).toNat = n by omega] at go
      have e : given n (fun _ => true) (fun k => V.bl (M30.mk n ord k)) = (flB n (M30.mk n ord)).map V.bl := by
        unfold given flB
        rw [List.filter_eq_self.mpr (fun _ _ => rfl), List.map_map]
        rfl
      rw [e] at go
      exact go
    · have hki : k < n := by omega
      have em : M30.mk n ord k = decide ((1 + (k : Int)) ∈ blI n (M30.mk n ord)) := by
        have z := blI_mem (f := M30.mk n ord) hki
        cases y : M30.mk n ord k with
        | true => exact (decide_eq_true (z.mpr y)).symm
        | false => exact (decide_eq_false fun c => by rw [y] at z; exact absurd (z.mp c) (by decide)).symm
      rw [em]
      exact ev_op (ev_var rfl) (ev_var rfl) (rv_in (.inl (.inl (e4 _ _ hb))))
def sp_is_due : Sp := fun vs H Q _ => ∃ (l : Int) (a h : Bool), vs = [.int l, .bl a, .bl h] ∧ RetV (.bl (M30.due l a h)) H Q
theorem ok_is_due (T : Txt K mg A) : FnOk P w K mg base CX0 1 A.f_is_due A.d_is_due ["left", "ahead", "here"] sp_is_due := by
  refine T.F_is_due.ok sc_is_due (fun vs H Q E h => ?_) (fun cdv A' outer s H vs Q E hr h => ?_)
  · obtain ⟨l, a, h, rfl, _⟩ := h
    rfl
  · obtain ⟨l, a, h, rfl, q⟩ := h
    unfold M30.due at q
    refine ⟨_, (pss_cons (ps_if (pt_cmpR op_gt (pv 0) pe_int (nomark _)) (pss_one (ps_ret (pe_and (pv 1) (pe_one (pe_not (pv 2)))))) pss_nil)
      (pss_one (ps_ret (pe_and (pe_cmpR op_lt (pv 0) pe_int (nomark _)) (pe_and (pv 2) (pe_one (pe_not (pv 1)))))))), ?_⟩
    refine ⟨_, rfl, _, _, rfl, rfl, _, rfl, ?_⟩
    by_cases c : 0 < l
    · rw [if_pos c] at q
      rw [decide_eq_true c]
      refine iteT ?_
      cases a with
      | false => exact ⟨_, rfl, false, rfl, iteF (q H (Ex.refl H))⟩
      | true => exact ⟨_, rfl, true, rfl, iteT ⟨_, rfl, h, rfl, q H (Ex.refl H)⟩⟩
    · rw [if_neg c] at q
      rw [decide_eq_false c]
      refine iteF ?_
      dsimp only [tNext]
      refine ⟨_, rfl, _, _, rfl, rfl, decide (l < 0), rfl, ?_⟩
      by_cases c2 : l < 0
      · rw [decide_eq_true c2] at q ⊢
        refine iteT ?_
        cases h with
        | false => exact ⟨_, rfl, false, rfl, iteF (q H (Ex.refl H))⟩
        | true => exact ⟨_, rfl, true, rfl, iteT ⟨_, rfl, a, rfl, q H (Ex.refl H)⟩⟩
      · rw [decide_eq_false c2] at q ⊢
        exact iteF (q H (Ex.refl H))
end
end K30

namespace K30
open PySem PySem.Spec PyProof.Rows L2 Vf Evl
/-! ### the steps that are needed -/
theorem flB_cnt (n : Nat) (f : Nat → Bool) : bcnt (flB n f) = ((M30.bl n f).length : Int) := by
  unfold bcnt flB M30.bl
  rw [List.filter_map, List.length_map, List.length_map]
  rfl
theorem flB_at {n k : Nat} (f : Nat → Bool) (h : k < n) : (flB n f)[k]? = some (f k) := by
  unfold flB
  rw [List.getElem?_map, List.getElem?_range h]
  rfl
theorem flB_len (n : Nat) (f : Nat → Bool) : (flB n f).length = n := by
  unfold flB
  rw [List.length_map, List.length_range]
def difL (n : Nat) (f g : Nat → Bool) (m : Nat) : List Int := (List.range m).map (M30.dif n f g)
theorem atI_last (xs : List V) (v : V) : atI (xs ++ [v]) (-1) = some v := by
  have e : ixN (xs ++ [v]).length (-1) = some xs.length := by
    unfold ixN
    rw [if_neg (by decide), if_pos (by rw [List.length_append]; show -((xs.length + 1 : Nat) : Int) ≤ -1; omega), List.length_append]
    exact congrArg some (by show ((-1 : Int) + ((xs.length + 1 : Nat) : Int)).toNat = xs.length; omega)
  unfold atI
  rw [e]
  simp
theorem cut_last (xs : List V) : cutV xs none (some (-1)) = xs.take (xs.length - 1) := by
  show List.take ((if (-1 : Int) < 0 then ((-1 : Int) + (xs.length : Int)).toNat else min ((-1 : Int)).toNat xs.length) - 0) (List.drop 0 xs) = _
  rw [if_pos (by decide), List.drop_zero]
  exact congrArg (fun k => List.take k xs) (by omega)
section
variable {P : Program} {w : World} {K : PySem.W.Frag} {mg : Str → Option Value} {base : Heap} {A : Ad}
def sp_steps_needed (K : PySem.W.Frag) : Sp := fun vs H Q _ => ∃ (a b : Addr) (o1 o2 : List Int) (n : Nat), vs = [.ref a, .ref b] ∧ SqL K H a (o1.map V.int) ∧ MR.Stn n o1 ∧ SqL K H b (o2.map V.int) ∧ MR.Stn n o2 ∧ (3 ≤ n ∧ n ≤ 40) ∧
  ((M30.bl n (M30.mk n o1)).length ≠ (M30.bl n (M30.mk n o2)).length → RetV .non H Q) ∧
  ((M30.bl n (M30.mk n o1)).length = (M30.bl n (M30.mk n o2)).length → ∀ (ns : List Int) (m : Int), ns.Perm (difL n (M30.mk n o1) (M30.mk n o2) n) → ns.Pairwise (· ≤ ·) → ns[n / 2]? = some m → RetL (((difL n (M30.mk n o1) (M30.mk n o2) n).map fun x => x - m).map V.int) H Q)
theorem ok_steps_needed (T : Txt K mg A) : FnOk P w K mg base CX0 4 A.f_steps_needed A.d_steps_needed ["order", "other"] (sp_steps_needed K) := by
  have G_falls_of : FnOk P w K mg base CX0 3 A.f_falls_of A.d_falls_of ["order"] (sp_falls_of K) := ok_falls_of T
  refine T.F_steps_needed.ok sc_steps_needed (fun vs H Q E h => ?_) (fun cdv A' outer s H vs Q E hr h => ?_)
  · obtain ⟨a, b, o1, o2, n, rfl, _⟩ := h
    rfl
  · obtain ⟨a, b, o1, o2, n, rfl, hS1, O1, hS2, O2, hn, q1, q2⟩ := h
    refine ⟨_, (pss_cons (ps_set (i := 2) sc_steps_needed.nd rfl (by first | exact .inl rfl | exact .inr rfl) (pe_call G_falls_of (hr.mono (by decide)) (by rfl) T.g_falls_of T.F_falls_of.kp T.b_falls_of .nil pass0 (pa_cons (pv 0) pa_nil)))
      (pss_cons (ps_set (i := 3) sc_steps_needed.nd rfl (by first | exact .inl rfl | exact .inr rfl) (pe_call G_falls_of (hr.mono (by decide)) (by rfl) T.g_falls_of T.F_falls_of.kp T.b_falls_of .nil pass0 (pa_cons (pv 1) pa_nil)))
      (pss_cons (ps_if (pt_cmpR op_ne (pe_callB (cr_sumB rfl rfl) (by rfl) T.z_sum (by decide +kernel) (pa_cons (pv 2) pa_nil)) (pe_callB (cr_sumB rfl rfl) (by rfl) T.z_sum (by decide +kernel) (pa_cons (pv 3) pa_nil)) (nomark _)) (pss_one (ps_ret pe_non)) pss_nil)
      (pss_cons (ps_set (i := 4) sc_steps_needed.nd rfl (by first | exact .inl rfl | exact .inr rfl) (pe_lst (pa_cons pe_int pa_nil)))
      (pss_cons (ps_for PassesOwn.never rfl (pi_listK (K := K) rfl (pe_slice (sl_listK (K := K) rfl) (pe_listZip (K := K) rfl rfl (by rfl) T.z_list (by rfl) T.z_zip (pa_cons (pv 2) (pa_cons (pv 3) pa_nil))) po_none (po_some (pe_un un_neg pe_int)))) (pg_tupK (n := 2) (K := K) rfl rfl (pgs_cons (pg_name (i := 5) sc_steps_needed.nd rfl (by first | exact .inl rfl | exact .inr rfl)) (pgs_cons (pg_name (i := 6) sc_steps_needed.nd rfl (by first | exact .inl rfl | exact .inr rfl)) pgs_nil))) (pss_one (ps_expr (pe_bmK (K := K) rfl PySem.F.plainAttrs_list PySem.F.slot_list_append PySem.F.type_list_append mt_append (pv 4) (pa_cons (pe_op op_sub (pe_op op_add (pe_ix (ix_listK (K := K) rfl) (pv 4) (pe_un un_neg pe_int) (fun _ _ => rfl)) (pe_callTy call_int1 (by rfl) T.z_int (by decide +kernel) (pa_cons (pv 5) pa_nil))) (pe_callTy call_int1 (by rfl) T.z_int (by decide +kernel) (pa_cons (pv 6) pa_nil))) pa_nil)))))
      (pss_cons (ps_set (i := 7) sc_steps_needed.nd rfl (by first | exact .inl rfl | exact .inr rfl) (pe_ix (ix_listK (K := K) rfl) (pe_callB (cr_sortedK (K := K) rfl) (by rfl) T.z_sorted (by decide +kernel) (pa_cons (pv 4) pa_nil)) (pe_op op_fdivN (pe_callB (call_lenK (K := K) rfl) (by rfl) T.z_len PySem.boot_len (pa_cons (pv 4) pa_nil)) pe_int) (fun _ _ => rfl)))
      (pss_one (ps_ret (pe_lc (own := [("times", 8)]) rfl sc_steps_needed.nd (pi_listK (K := K) rfl (pv 4)) (blkOk_by (by kernel_rfl)) (fun _ _ _ _ _ => (pg_name (i := 8) sc_steps_needed.nd rfl (by first | exact .inl rfl | exact .inr rfl))) (fun _ _ _ _ _ => pts_nil) (fun _ _ _ _ _ => (pe_op op_sub (pv 8) (pv 7)))))))))))), ?_⟩
    generalize hf : M30.mk n o1 = f at q1 q2
    generalize hg : M30.mk n o2 = g at q1 q2
    refine ⟨_, rfl, a, o1, n, rfl, hS1, O1, hn, fun p1 H1 n1 e1 hp1 => ?_⟩
    refine ⟨_, rfl, b, o2, n, rfl, ex_l e1 hS2, O2, hn, fun p2 H2 n2 e2 hp2 => ?_⟩
    rw [hf] at hp1
    rw [hg] at hp2
    have hp1' := e2 _ _ hp1
    -- if sum(falls) != sum(wanted)
    refine ⟨_, rfl, p1, flB n f, rfl, .inl (.inl hp1'), _, rfl, p2, flB n g, rfl, .inl (.inl hp2), ?_⟩
    rw [flB_cnt, flB_cnt]
    refine ⟨rfl, _, rfl, ?_⟩
    rw [dec_vi]
    by_cases c : (M30.bl n f).length = (M30.bl n g).length
    · have c' : ((M30.bl n f).length : Int) = ((M30.bl n g).length : Int) := by omega
      rw [decide_eq_true c']
      refine iteF ?_
      dsimp only [tNext]
      -- steps = [0]
      refine ⟨(by show 1 ≤ sizeLine; decide), fun l nl => ?_⟩
      have e3 : Ex H2 (upd H2 l (.lst [.int 0])) := Ex.new nl
      -- for fall, wish in list(zip(falls, wanted))[:-1]
      refine ⟨_, rfl, _, rfl, p1, p2, (flB n f).map V.bl, (flB n g).map V.bl, rfl, .inl (.inl (e3 _ _ hp1')), .inl (.inl (e3 _ _ hp2)), by rw [List.length_map, List.length_map, flB_len, flB_len], by rw [List.length_map, flB_len]; omega, fun z ps H3 nz e4 hz hzl hzp => ?_⟩
      refine ⟨_, rfl, _, rfl, z, _, rfl, .inl (.inl hz), fun r nr => ?_⟩
      have pl : ps.length = n := by rw [hzl, List.length_map, flB_len]
      have ecut : cutV (ps.map V.ref) none (some (-1)) = (ps.take (n - 1)).map V.ref := by
        rw [cut_last, List.length_map, pl, List.map_take]
      rw [ecut]
      have e5 : Ex H3 (upd H3 r (.lst ((ps.take (n - 1)).map V.ref))) := Ex.new nr
      have hr4 : upd H3 r (.lst ((ps.take (n - 1)).map V.ref)) r = some (.lst ((ps.take (n - 1)).map V.ref)) := upd_same
      have hp4 : ∀ (j : Nat) (p : Addr), ps[j]? = some p → ∃ x y, ((flB n f).map V.bl)[j]? = some x ∧ ((flB n g).map V.bl)[j]? = some y ∧ upd H3 r (.lst ((ps.take (n - 1)).map V.ref)) p = some (.tup [x, y]) := fun j p hj => by
        obtain ⟨x, y, a1, a2, a3⟩ := hzp j p hj
        exact ⟨x, y, a1, a2, e5 _ _ a3⟩
      have hl4 : upd H3 r (.lst ((ps.take (n - 1)).map V.ref)) l = some (.lst [.int 0]) := e5 _ _ (e4 _ _ upd_same)
      have e14 : ∀ b o, H b = some o → upd H3 r (.lst ((ps.take (n - 1)).map V.ref)) b = some o := fun b o hb => e5 _ _ (e4 _ _ (e3 _ _ (e2 _ _ (e1 _ _ hb))))
      generalize upd H3 r (.lst ((ps.take (n - 1)).map V.ref)) = H4 at hr4 hp4 hl4 e14
      have nlH : H l = none := fresh_back e1 (fresh_back e2 nl)
      have nrl : r ≠ l := fun z => by
        rw [z, hl4] at hr4
        injection hr4 with hr4
        injection hr4 with hr4
        have := congrArg List.length hr4
        cases ps with
        | nil => simp at this
        | cons p ps =>
          cases hn1 : n - 1 with
          | zero => omega
          | succ k => rw [hn1] at hr4; simp at hr4
      refine ⟨r, rfl, ⟨_, .inl (.inl hr4)⟩, for_list (xs := (ps.take (n - 1)).map V.ref) (fun i σ' H' => (∃ y5 y6, σ' = [some (.ref a), some (.ref b), some (.ref p1), some (.ref p2), some (.ref l), y5, y6, none, none]) ∧ ExA l H4 H' ∧ H' l = some (.lst ((difL n f g (i + 1)).map V.int)))
        ⟨⟨none, none, rfl⟩, fun b o _ h => h, by rw [hl4]; unfold difL; rw [show List.range (0 + 1) = [0] from rfl, List.map_cons, M30.dif_zero]; rfl⟩ (fun i σ' H' _ z => .inl (.inl (z.2.1 _ _ nrl hr4))) ?_ ?_⟩
      · rintro i x σ' H' hx ⟨⟨y5, y6, rfl⟩, eA, hl'⟩
        obtain ⟨p, hp, rfl⟩ := map_at hx
        have hin : i < n - 1 := by
          have := (List.getElem?_eq_some_iff.mp hp).1
          rw [List.length_take] at this
          omega
        rw [List.getElem?_take, if_pos hin] at hp
        obtain ⟨x, y, a1, a2, a3⟩ := hp4 i p hp
        rw [List.getElem?_map, flB_at f (by omega)] at a1
        rw [List.getElem?_map, flB_at g (by omega)] at a2
        have a1 : V.bl (f i) = x := Option.some.inj a1
        have a2 : V.bl (g i) = y := Option.some.inj a2
        subst a1 a2
        have npl : p ≠ l := fun z => by rw [z, hl4] at a3; cases a3
        refine ⟨p, _, rfl, .inl (.inl (eA _ _ npl a3)), rfl, _, _, rfl, _, _, rfl, rfl, ?_⟩
        have eS : difL n f g (i + 1) = difL n f g i ++ [M30.dif n f g i] := by
          unfold difL
          rw [List.range_succ, List.map_append]
          rfl
        have eS2 : difL n f g (i + 1 + 1) = difL n f g (i + 1) ++ [M30.dif n f g i + M30.b2 (f i) - M30.b2 (g i)] := by
          unfold difL
          rw [List.range_succ, List.map_append, ← M30.dif_succ (show i < n by omega)]
          rfl
        have at1 : atI ((difL n f g (i + 1)).map V.int) (-1) = some (.int (M30.dif n f g i)) := by
          rw [eS, List.map_append]
          exact atI_last _ _
        refine s_app (K := K) (v := .int (M30.dif n f g i + M30.b2 (f i) - M30.b2 (g i))) hl' (ev_var rfl) ?_ ?_ fun H5 e6 => ⟨⟨_, _, rfl⟩, ?_, ?_⟩
        · refine ev_op (ev_op (ev_op (ev_var rfl) (fun H6 e6 Q q => ⟨_, rfl, q H6 (Ex.refl H6)⟩) (rv_ixL (.inl (.inl hl')) at1)) (ev_cb (ea_cons (ev_var rfl) ea_nil) fun H6 e6 Q q => .inr ⟨f i, rfl, q H6 (Ex.refl H6)⟩) rv_I0) (ev_cb (ea_cons (ev_var rfl) ea_nil) fun H6 e6 Q q => .inr ⟨g i, rfl, q H6 (Ex.refl H6)⟩) rv_I0
        · rw [List.length_map]
          unfold difL
          rw [List.length_map, List.length_range]
          omega
        · exact (eA.trans (ExA.of e6)).trans (ExA.upd l H5 _)
        · rw [upd_same, eS2, List.map_append]
          rfl
      · rintro σ' H' ⟨⟨y5, y6, rfl⟩, eA, hl'⟩
        have tl : (ps.take (n - 1)).length + 1 = n := by rw [List.length_take]; omega
        rw [List.length_map, tl] at hl'
        have eH : Ex H H' := fun b o hb => eA b o (ne_of_none hb nlH) (e14 b o hb)
        have dl : (difL n f g n).length = n := by unfold difL; rw [List.length_map, List.length_range]
        dsimp only
        refine ⟨_, rfl, l, difL n f g n, rfl, .inl (.inl hl'), by rw [dl]; omega, fun ns p5 pm sr np5 => ?_⟩
        have e7 : Ex H' (upd H' p5 (.lst (ns.map V.int))) := Ex.new np5
        refine ⟨_, rfl, l, _, rfl, .inl (.inl (.inl (e7 _ _ hl'))), ?_⟩
        rw [List.length_map, dl]
        have nl2 : ns.length = n := by rw [pm.length_eq, dl]
        obtain ⟨m, hm⟩ : ∃ m, ns[n / 2]? = some m := ⟨_, List.getElem?_eq_getElem (by omega)⟩
        have hmv : (ns.map V.int)[n / 2]? = some (.int m) := by rw [List.getElem?_map, hm]; rfl
        refine ⟨_, _, rfl, rfl, ⟨by decide, by decide⟩, p5, _, ((n / 2 : Nat) : Int), .int m, rfl, ?_, .inl (.inl upd_same), atI_nat hmv, ?_⟩
        · show V.int ((n : Int).fdiv 2) = _
          rw [Int.fdiv_eq_ediv_of_nonneg _ (by decide), Int.natCast_ediv]
          rfl
        dsimp only [gName]
        refine s_retL (xs := ((difL n f g n).map fun x => x - m).map V.int) ?_ fun p H6 np e8 hp => q2 c ns m pm sr hm p H6 (fresh_back (eH.trans e7) np) ((eH.trans e7).trans e8) hp
        have hat : ∀ i, i < n → (difL n f g n)[i]? = some (M30.dif n f g i) := fun i hi => by
          unfold difL
          rw [List.getElem?_map, List.getElem?_range hi]
          rfl
        have go := el_lcL (K := K) (H := upd H' p5 (.lst (ns.map V.int))) (σ := [some (.ref a), some (.ref b), some (.ref p1), some (.ref p2), some (.ref l), y5, y6, some (.int m), none]) (a := l) (xs := (difL n f g n).map V.int) (tl := tVar 4) (j := 8) (vs := [8]) (t := tYes)
          (te := tOp (rI0 fun i j => V.int (i - j)) (tVar 8) (tVar 7)) (fun _ => true) (fun i => V.int (M30.dif n f g i - m)) (ev_var rfl) (.inl (.inl (e7 _ _ hl'))) (by rw [List.length_map, dl]; omega) (fun x => rfl) (fun i x H8 e8 hx => et_yes) (fun i x H8 e8 hx _ => by
            have hi : i < n := by
              have := (List.getElem?_eq_some_iff.mp hx).1
              rw [List.length_map, dl] at this
              exact this
            rw [List.getElem?_map, hat i hi] at hx
            have hx : V.int (M30.dif n f g i) = x := Option.some.inj hx
            subst hx
            exact ev_op (ev_var rfl) (ev_var rfl) rv_I0)
        rw [List.length_map, dl] at go
        have e : given n (fun _ => true) (fun i => V.int (M30.dif n f g i - m)) = ((difL n f g n).map fun x => x - m).map V.int := by
          unfold given difL
          rw [List.filter_eq_self.mpr (fun _ _ => rfl), List.map_map, List.map_map]
          rfl
        rw [e] at go
        exact go
    · have c' : ¬ ((M30.bl n f).length : Int) = ((M30.bl n g).length : Int) := by omega
      rw [decide_eq_false c']
      exact iteT ((q1 c).go (e1.trans e2))
end
end K30

namespace K30
open PySem PySem.Spec PyProof.Rows L2 Vf Evl
/-! ### calls made when they are due -/
def lfL (n : Nat) (l : Nat → Int) : List Int := (List.range n).map l
theorem lfL_at {n k : Nat} (l : Nat → Int) (h : k < n) : (lfL n l)[k]? = some (l k) := by
  unfold lfL
  rw [List.getElem?_map, List.getElem?_range h]
  rfl
theorem lfL_len (n : Nat) (l : Nat → Int) : (lfL n l).length = n := by
  unfold lfL
  rw [List.length_map, List.length_range]
theorem fl_set {n i : Nat} {h : Nat → Bool} (hi : i < n) (h2 : 2 ≤ n) : (((flB n h).map V.bl).set (M30.pr n i) (V.bl (h i))).set i (V.bl (h (M30.pr n i))) = (flB n (M30.sw n i h)).map V.bl := by
  have pn := M30.pr_ne hi h2
  refine List.ext_getElem? fun k => ?_
  by_cases hk : k < n
  · rw [List.getElem?_map, flB_at _ hk, List.getElem?_set, List.getElem?_set]
    unfold M30.sw
    by_cases c : i = k
    · subst c
      rw [if_pos rfl, if_pos rfl, if_pos (by rw [List.length_set, List.length_map, flB_len]; exact hi)]
      rfl
    · have c2 : ¬ k = i := fun z => c z.symm
      rw [if_neg c]
      by_cases d : M30.pr n i = k
      · rw [if_pos d, if_pos (by rw [List.length_map, flB_len]; exact M30.pr_lt hi), if_neg c2, if_pos d.symm]
        rfl
      · have d2 : ¬ k = M30.pr n i := fun z => d z.symm
        rw [if_neg d, List.getElem?_map, flB_at _ hk, if_neg c2, if_neg d2]
  · rw [List.getElem?_eq_none (by rw [List.length_set, List.length_set, List.length_map, flB_len]; omega), List.getElem?_eq_none (by rw [List.length_map, flB_len]; omega)]
theorem lf_set {n i : Nat} {l : Nat → Int} (hi : i < n) (d : Int) : ((lfL n l).map V.int).set i (V.int (l i + d)) = (lfL n (M30.ad i d l)).map V.int := by
  refine List.ext_getElem? fun k => ?_
  by_cases hk : k < n
  · rw [List.getElem?_map, lfL_at _ hk, List.getElem?_set]
    unfold M30.ad
    by_cases c : i = k
    · subst c
      rw [if_pos rfl, if_pos rfl, if_pos (by rw [List.length_map, lfL_len]; exact hi)]
      rfl
    · have c2 : ¬ k = i := fun z => c z.symm
      rw [if_neg c, List.getElem?_map, lfL_at _ hk, if_neg c2]
  · rw [List.getElem?_eq_none (by rw [List.length_set, List.length_map, lfL_len]; omega), List.getElem?_eq_none (by rw [List.length_map, lfL_len]; omega)]
theorem ix_pr {n i : Nat} (hi : i < n) : ixN n ((i : Int) - 1) = some (M30.pr n i) := by
  rw [M30.pr_eq hi]
  unfold ixN
  by_cases c : i = 0
  · subst c
    rw [if_neg (by omega), if_pos (by omega), if_pos rfl]
    exact congrArg some (by omega)
  · rw [if_pos (by omega), if_pos (by omega), if_neg c]
    exact congrArg some (by omega)
theorem ix_at {n i : Nat} (hi : i < n) : ixN n (i : Int) = some i := by
  unfold ixN
  rw [if_pos (by omega), if_pos (by omega)]
  exact congrArg some (by omega)
structure Mvs (n : Nat) (f g : Nat → Bool) (l : Nat → Int) (m : List Nat) (h : Nat → Bool) (l2 : Nat → Int) : Prop where
  pth : M30.Pth n f m h
  e : M30.E n h g l2
  sg : ∀ k, k < n → (0 < l2 k → 0 < l k) ∧ (l2 k < 0 → l k < 0)
  far : m.length + M30.far n l2 = M30.far n l
  tt : ∃ k, k < n ∧ h k = true
  ff : ∃ k, k < n ∧ h k = false
theorem Mvs.go {n i : Nat} {f g : Nat → Bool} {l : Nat → Int} {m : List Nat} {h : Nat → Bool} {l2 : Nat → Int} (M : Mvs n f g l m h l2) (hi : i < n) (h2 : 2 ≤ n) (d : M30.due (l2 i) (h (M30.pr n i)) (h i) = true) :
    Mvs n f g l (m ++ [i]) (M30.sw n i h) (M30.ad i (if 0 < l i then -1 else 1) l2) := by
  obtain ⟨ne, fa, es⟩ := M30.due_far hi d
  have hsg := M.sg i hi
  have hnz : l2 i ≠ 0 := fun z => by
    unfold M30.due at d
    rw [z] at d
    simp at d
  have ed : (if 0 < l i then (-1 : Int) else 1) = if 0 < l2 i then -1 else 1 := by
    by_cases c : 0 < l2 i
    · rw [if_pos c, if_pos (hsg.1 c)]
    · rw [if_neg c, if_neg (by have := hsg.2 (by omega); omega)]
  have e1 := M30.E_sw M.e hi h2
  rw [es] at fa e1
  rw [ed]
  refine ⟨M.pth.snoc hi ne, e1, fun k hk => ?_, ?_, M30.sw_some hi M.tt, M30.sw_some hi M.ff⟩
  · unfold M30.ad
    by_cases c : k = i
    · subst c
      rw [if_pos rfl]
      by_cases c2 : 0 < l2 k
      · rw [if_pos c2]
        exact ⟨fun _ => hsg.1 c2, fun z => by omega⟩
      · rw [if_neg c2]
        exact ⟨fun z => by omega, fun _ => hsg.2 (by omega)⟩
    · rw [if_neg c]
      exact M.sg k hk
  · have := M.far
    rw [List.length_append]
    show m.length + 1 + _ = _
    omega
/-! ### the same, as one list -/
abbrev S3 := List Nat × (Nat → Bool) × (Nat → Int)
def stp (n : Nat) (l : Nat → Int) (i : Nat) (s : S3) : S3 := if M30.due (s.2.2 i) (s.2.1 (M30.pr n i)) (s.2.1 i) = true then (s.1 ++ [i], M30.sw n i s.2.1, M30.ad i (if 0 < l i then -1 else 1) s.2.2) else s
def stps (n : Nat) (l : Nat → Int) (k : Nat) (s : S3) : S3 := (List.range k).foldl (fun s i => stp n l i s) s
theorem stps_succ (n : Nat) (l : Nat → Int) (k : Nat) (s : S3) : stps n l (k + 1) s = stp n l k (stps n l k s) := by
  unfold stps
  rw [List.range_succ, List.foldl_append]
  rfl
def its (n : Nat) (l : Nat → Int) : Nat → S3 → S3
  | 0, s => s
  | k + 1, s => stps n l n (its n l k s)
abbrev MvsS (n : Nat) (f g : Nat → Bool) (l : Nat → Int) (s : S3) : Prop := Mvs n f g l s.1 s.2.1 s.2.2
theorem stp_mvs {n i : Nat} {f g : Nat → Bool} {l : Nat → Int} {s : S3} (M : MvsS n f g l s) (hi : i < n) (h2 : 2 ≤ n) : MvsS n f g l (stp n l i s) := by
  unfold stp
  by_cases c : M30.due (s.2.2 i) (s.2.1 (M30.pr n i)) (s.2.1 i) = true
  · rw [if_pos c]
    exact M.go hi h2 c
  · rw [if_neg c]
    exact M
theorem stps_mvs {n : Nat} {f g : Nat → Bool} {l : Nat → Int} {s : S3} (M : MvsS n f g l s) (h2 : 2 ≤ n) : ∀ k, k ≤ n → MvsS n f g l (stps n l k s) ∧ s.1.length ≤ (stps n l k s).1.length ∧ (s.1.length < (stps n l k s).1.length ∨ stps n l k s = s ∧ ∀ j, j < k → M30.due (s.2.2 j) (s.2.1 (M30.pr n j)) (s.2.1 j) = false) := by
  intro k
  induction k with
  | zero => exact fun _ => ⟨M, Nat.le_refl _, .inr ⟨rfl, fun j hj => absurd hj (Nat.not_lt_zero _)⟩⟩
  | succ k ih =>
    intro hk
    obtain ⟨M1, le, pr⟩ := ih (by omega)
    rw [stps_succ]
    refine ⟨stp_mvs M1 (by omega) h2, ?_, ?_⟩
    · unfold stp
      split
      · rw [List.length_append]
        omega
      · exact le
    · by_cases c : M30.due ((stps n l k s).2.2 k) ((stps n l k s).2.1 (M30.pr n k)) ((stps n l k s).2.1 k) = true
      · refine .inl ?_
        unfold stp
        rw [if_pos c, List.length_append]
        show s.1.length < _ + 1
        omega
      · have e : stp n l k (stps n l k s) = stps n l k s := by
          unfold stp
          rw [if_neg c]
        rw [e]
        rcases pr with lt | ⟨e2, no⟩
        · exact .inl lt
        · refine .inr ⟨e2, fun j hj => ?_⟩
          by_cases cj : j = k
          · rw [e2] at c
            rw [cj]
            exact Bool.eq_false_iff.mpr c
          · exact no j (by omega)
theorem stps_far {n : Nat} {f g : Nat → Bool} {l : Nat → Int} {s : S3} (M : MvsS n f g l s) (h2 : 2 ≤ n) : (0 < M30.far n s.2.2 → M30.far n (stps n l n s).2.2 < M30.far n s.2.2) ∧ (M30.far n s.2.2 = 0 → stps n l n s = s) := by
  obtain ⟨M1, le, pr⟩ := stps_mvs M h2 n (Nat.le_refl n)
  have a1 := M.far
  have a2 := M1.far
  constructor
  · intro pos
    rcases pr with lt | ⟨_, no⟩
    · omega
    · have hl : ∃ k, k < n ∧ s.2.2 k ≠ 0 := by
        refine Decidable.byContradiction fun z => ?_
        have : M30.far n s.2.2 = M30.sumN n fun _ => 0 := M30.sumN_congr fun k hk => by
          have : s.2.2 k = 0 := Decidable.byContradiction fun y => z ⟨k, hk, y⟩
          rw [this]
          rfl
        rw [M30.sumN_const] at this
        omega
      obtain ⟨i, hi, hd⟩ := M30.some_due M.e M.tt M.ff hl
      rw [no i hi] at hd
      cases hd
  · intro z
    rcases pr with lt | ⟨e, _⟩
    · omega
    · exact e
theorem its_mvs {n : Nat} {f g : Nat → Bool} {l : Nat → Int} {s : S3} (M : MvsS n f g l s) (h2 : 2 ≤ n) : ∀ k, MvsS n f g l (its n l k s)
  | 0 => M
  | k + 1 => (stps_mvs (its_mvs M h2 k) h2 n (Nat.le_refl n)).1
theorem its_far {n : Nat} {f g : Nat → Bool} {l : Nat → Int} {s : S3} (M : MvsS n f g l s) (h2 : 2 ≤ n) : ∀ k, M30.far n (its n l k s).2.2 + k ≤ M30.far n s.2.2 ∨ M30.far n (its n l k s).2.2 = 0
  | 0 => .inl (Nat.le_refl _)
  | k + 1 => by
    have z := stps_far (its_mvs M h2 k) h2
    rcases Nat.eq_zero_or_pos (M30.far n (its n l k s).2.2) with c | c
    · refine .inr ?_
      show M30.far n (stps n l n (its n l k s)).2.2 = 0
      rw [z.2 c]
      exact c
    · have := z.1 c
      rcases its_far M h2 k with h | h
      · refine .inl ?_
        show M30.far n (stps n l n (its n l k s)).2.2 + (k + 1) ≤ _
        omega
      · omega
theorem its_more {n : Nat} {f g : Nat → Bool} {l : Nat → Int} {s : S3} (M : MvsS n f g l s) (h2 : 2 ≤ n) {k : Nat} (h : M30.far n (its n l k s).2.2 = 0) : ∀ j, its n l (k + j) s = its n l k s
  | 0 => rfl
  | j + 1 => by
    have ih := its_more M h2 h j
    show stps n l n (its n l (k + j) s) = _
    rw [ih]
    exact (stps_far (its_mvs M h2 k) h2).2 h
/-- the calls that are made -/
def dueF (n : Nat) (f : Nat → Bool) (l : Nat → Int) : List Nat := (its n l (M30.far n l) ([], f, l)).1
theorem start_mvs {n : Nat} {f g : Nat → Bool} {l : Nat → Int} (hE : M30.E n f g l) (hT : ∃ k, k < n ∧ f k = true) (hF : ∃ k, k < n ∧ f k = false) : MvsS n f g l ([], f, l) :=
  ⟨.nil f, hE, fun k _ => ⟨id, id⟩, by simp, hT, hF⟩
theorem dueF_is {n : Nat} {f g : Nat → Bool} {l : Nat → Int} (hE : M30.E n f g l) (hT : ∃ k, k < n ∧ f k = true) (hF : ∃ k, k < n ∧ f k = false) (h2 : 2 ≤ n) :
    (∃ h, M30.Pth n f (dueF n f l) h ∧ ∀ k, k < n → h k = g k) ∧ (dueF n f l).length = M30.far n l := by
  have M0 := start_mvs hE hT hF
  have M := its_mvs M0 h2 (M30.far n l)
  have z : M30.far n (its n l (M30.far n l) ([], f, l)).2.2 = 0 := by
    rcases its_far M0 h2 (M30.far n l) with h | h
    · have h : M30.far n (its n l (M30.far n l) ([], f, l)).2.2 + M30.far n l ≤ M30.far n l := h
      omega
    · exact h
  refine ⟨⟨_, M.pth, M30.E_zero M.e (M30.far_zero z)⟩, ?_⟩
  have := M.far
  unfold dueF
  omega
end K30

namespace K30
open PySem PySem.Spec PyProof.Rows L2 Vf Evl
section
variable {P : Program} {w : World} {K : PySem.W.Frag} {mg : Str → Option Value} {base : Heap} {A : Ad}
def sp_calls_when_due (K : PySem.W.Frag) : Sp := fun vs H Q _ => ∃ (a b : Addr) (n : Nat) (f g : Nat → Bool) (l : Nat → Int), vs = [.ref a, .ref b] ∧ SqL K H a ((flB n f).map V.bl) ∧ SqL K H b ((lfL n l).map V.int) ∧ M30.E n f g l ∧ (3 ≤ n ∧ n ≤ 40) ∧
  (∃ k, k < n ∧ f k = true) ∧ (∃ k, k < n ∧ f k = false) ∧ M30.far n l ≤ 4000 ∧
  RetL ((M30.calls (dueF n f l)).map V.int) H Q
theorem ok_calls_when_due (T : Txt K mg A) : FnOk P w K mg base CX0 2 A.f_calls_when_due A.d_calls_when_due ["falls", "steps"] (sp_calls_when_due K) := by
  have G_is_due : FnOk P w K mg base CX0 1 A.f_is_due A.d_is_due ["left", "ahead", "here"] sp_is_due := ok_is_due T
  refine T.F_calls_when_due.ok sc_calls_when_due (fun vs H Q E h => ?_) (fun cdv A' outer s H vs Q E hr h => ?_)
  · obtain ⟨a, b, n, f, g, l, rfl, _⟩ := h
    rfl
  · obtain ⟨a, b, n, f, g, l, rfl, hS1, hS2, hE, hn, hT, hF, hfar, q⟩ := h
    refine ⟨_, (pss_cons (ps_set (i := 0) sc_calls_when_due.nd rfl (by first | exact .inl rfl | exact .inr rfl) (pe_callTy (call_listK (K := K) rfl) (by rfl) T.z_list (by decide +kernel) (pa_cons (pv 0) pa_nil)))
      (pss_cons (ps_set (i := 2) sc_calls_when_due.nd rfl (by first | exact .inl rfl | exact .inr rfl) (pe_callTy (call_listK (K := K) rfl) (by rfl) T.z_list (by decide +kernel) (pa_cons (pv 1) pa_nil)))
      (pss_cons (ps_set (i := 3) sc_calls_when_due.nd rfl (by first | exact .inl rfl | exact .inr rfl) (pe_lst pa_nil))
      (pss_cons (ps_while PassesOwn.never (pt_val (pe_callB (cr_any rfl) (by rfl) T.z_any (by decide +kernel) (pa_cons (pe_lc (own := [("times", 5)]) rfl sc_calls_when_due.nd (pi_listK (K := K) rfl (pv 2)) (blkOk_by (by kernel_rfl)) (fun _ _ _ _ _ => (pg_name (i := 5) sc_calls_when_due.nd rfl (by first | exact .inl rfl | exact .inr rfl))) (fun _ _ _ _ _ => pts_nil) (fun _ _ _ _ _ => (pe_cmpR op_ne (pv 5) pe_int (nomark _)))) pa_nil))) (pss_one (ps_for PassesOwn.never rfl (pi_enum (by rfl) T.z_enumerate (pa_cons (pv 1) pa_nil)) (pg_tupK (n := 2) (K := K) rfl rfl (pgs_cons (pg_name (i := 4) sc_calls_when_due.nd rfl (by first | exact .inl rfl | exact .inr rfl)) (pgs_cons (pg_name (i := 5) sc_calls_when_due.nd rfl (by first | exact .inl rfl | exact .inr rfl)) pgs_nil))) (pss_one (ps_if (pt_val (pe_call G_is_due (hr.mono (by decide)) (by rfl) T.g_is_due T.F_is_due.kp T.b_is_due .nil pass0 (pa_cons (pe_ix (ix_listK (K := K) rfl) (pv 2) (pv 4) (fun _ _ => rfl)) (pa_cons (pe_ix (ix_listK (K := K) rfl) (pv 0) (pe_op op_sub (pv 4) pe_int) (fun _ _ => rfl)) (pa_cons (pe_ix (ix_listK (K := K) rfl) (pv 0) (pv 4) (fun _ _ => rfl)) pa_nil))))) (pss_cons (ps_asg (pe_tup (pa_cons (pe_ix (ix_listK (K := K) rfl) (pv 0) (pv 4) (fun _ _ => rfl)) (pa_cons (pe_ix (ix_listK (K := K) rfl) (pv 0) (pe_op op_sub (pv 4) pe_int) (fun _ _ => rfl)) pa_nil))) (pg_tupK (n := 2) (K := K) rfl rfl (pgs_cons (pg_sub (pv 0) (pe_op op_sub (pv 4) pe_int) set_list) (pgs_cons (pg_sub (pv 0) (pv 4) set_list) pgs_nil))))
      (pss_cons (ps_augS (pv 2) (pv 4) (get_listK (K := K) rfl) (pe_ifExp (pt_cmpR op_gt (pv 5) pe_int (nomark _)) (pe_un un_neg pe_int) pe_int) ip_add set_list)
      (pss_one (ps_expr (pe_bmK (K := K) rfl PySem.F.plainAttrs_list PySem.F.slot_list_append PySem.F.type_list_append mt_append (pv 3) (pa_cons (pe_op op_add (pv 4) pe_int) pa_nil)))))) pss_nil)))))
      (pss_one (ps_ret (pv 3))))))), ?_⟩
    -- falls = list(falls); left = list(steps); made = []
    refine ⟨_, rfl, a, _, rfl, .inl hS1, fun p np => ?_⟩
    have e1 : Ex H (upd H p (.lst ((flB n f).map V.bl))) := Ex.new np
    refine ⟨_, rfl, b, _, rfl, .inl (ex_l e1 hS2), fun z nz => ?_⟩
    have e2 := Ex.new (o := .lst ((lfL n l).map V.int)) nz
    refine ⟨Nat.zero_le _, fun r nr => ?_⟩
    have e3 := Ex.new (o := .lst []) nr
    have npz : p ≠ z := ne_of_none upd_same nz
    have npr : p ≠ r := ne_of_none (e2 _ _ upd_same) nr
    have nzr : z ≠ r := ne_of_none upd_same nr
    have nz0 : H z = none := fresh_back e1 nz
    have nr0 : H r = none := fresh_back e1 (fresh_back e2 nr)
    -- while any(..)
    refine ⟨fun k σ' H' => ∃ (m : List Nat) (h : Nat → Bool) (l2 : Nat → Int) (y4 y5 : Option V), σ' = [some (.ref p), some (.ref b), some (.ref z), some (.ref r), y4, y5] ∧ Mvs n f g l m h l2 ∧ (∃ t, (m, h, l2) = its n l t ([], f, l) ∧ t + M30.far n l2 ≤ M30.far n l) ∧ k = M30.far n l2 ∧ Ex H H' ∧
      H' p = some (.lst ((flB n h).map V.bl)) ∧ H' z = some (.lst ((lfL n l2).map V.int)) ∧ H' r = some (.lst ((M30.calls m).map V.int)),
      ⟨M30.far n l, [], f, l, none, none, rfl, ⟨.nil f, hE, fun k _ => ⟨id, id⟩, by simp, hT, hF⟩, ⟨0, rfl, by omega⟩, rfl, (e1.trans e2).trans e3, e3 _ _ (e2 _ _ upd_same), e3 _ _ upd_same, upd_same⟩, ?_⟩
    rintro k σ' H' ⟨m, h, l2, y4, y5, rfl, M, ⟨t, ht, hft⟩, rfl, eH, hp, hz, hr'⟩
    -- any([times != 0 for times in left])
    have tst : Ev (tCB (rAny K) (tCons (tLc (iList K (tVar 2)) (gName 5) tYes (tOp rNe (tVar 5) (tC (V.int 0))) [5]) tNil)) [some (.ref p), some (.ref b), some (.ref z), some (.ref r), y4, y5] H' (.bl (((List.range n).map fun k => !decide (l2 k = 0)).any id)) := by
      refine ev_cbL (xs := ((List.range n).map fun k => !decide (l2 k = 0)).map V.bl) ?_ fun q0 H3 e3 hq0 => fun H4 e4 Q4 q4 => ⟨q0, _, rfl, .inl (.inl (e4 _ _ hq0)), q4 H4 (Ex.refl H4)⟩
      have go := el_lcL (K := K) (H := H') (σ := [some (.ref p), some (.ref b), some (.ref z), some (.ref r), y4, y5]) (a := z) (xs := (lfL n l2).map V.int) (tl := tVar 2) (j := 5) (vs := [5]) (t := tYes)
        (te := tOp rNe (tVar 5) (tC (V.int 0))) (fun _ => true) (fun i => V.bl (!decide (l2 i = 0))) (ev_var rfl) (.inl (.inl hz)) (by rw [List.length_map, lfL_len]; omega) (fun x => rfl) (fun i x H8 e8 hx => et_yes) (fun i x H8 e8 hx _ => by
          have hi : i < n := by
            have := (List.getElem?_eq_some_iff.mp hx).1
            rw [List.length_map, lfL_len] at this
            exact this
          rw [List.getElem?_map, lfL_at _ hi] at hx
          have hx : V.int (l2 i) = x := Option.some.inj hx
          subst hx
          refine ev_op (ev_var rfl) ev_c fun H9 e9 Q9 q9 => ⟨rfl, ?_⟩
          rw [dec_vi]
          exact q9 H9 (Ex.refl H9))
      rw [List.length_map, lfL_len] at go
      have e : given n (fun _ => true) (fun i => V.bl (!decide (l2 i = 0))) = ((List.range n).map fun k => !decide (l2 k = 0)).map V.bl := by
        unfold given
        rw [List.filter_eq_self.mpr (fun _ _ => rfl), List.map_map]
        rfl
      rw [e] at go
      exact go
    refine tst H' (Ex.refl H') _ fun H2 eH2 => ⟨_, rfl, ?_⟩
    have eH := eH.trans eH2
    have hp := eH2 _ _ hp
    have hz := eH2 _ _ hz
    have hr' := eH2 _ _ hr'
    cases hany : ((List.range n).map fun k => !decide (l2 k = 0)).any id with
    | false =>
      refine iteF ?_
      have z0 : ∀ k, k < n → l2 k = 0 := fun k hk => by
        rw [List.any_eq_false] at hany
        have := hany (!decide (l2 k = 0)) (List.mem_map.mpr ⟨k, List.mem_range.mpr hk, rfl⟩)
        by_cases c : l2 k = 0
        · exact c
        · simp [c] at this
      have f0 : M30.far n l2 = 0 := by
        unfold M30.far
        rw [M30.sumN_congr (g := fun _ => 0) fun k hk => by rw [z0 k hk]; rfl, M30.sumN_const]
      have hm := M.far
      have em : m = dueF n f l := by
        have z1 : M30.far n (its n l t ([], f, l)).2.2 = 0 := by rw [← ht]; exact f0
        have z2 := its_more (start_mvs hE hT hF) (by omega) z1 (M30.far n l - t)
        unfold dueF
        rw [show M30.far n l = t + (M30.far n l - t) by omega, z2, ← ht]
      rw [em] at hr'
      exact ⟨_, rfl, q r H2 nr0 eH hr'⟩
    | true =>
      have hl : ∃ k, k < n ∧ l2 k ≠ 0 := by
        obtain ⟨x, hx, hx2⟩ := List.any_eq_true.mp hany
        obtain ⟨k, hk, rfl⟩ := List.mem_map.mp hx
        exact ⟨k, List.mem_range.mp hk, by simpa using hx2⟩
      refine iteT ⟨fun σ' H' => ∃ m', m' < M30.far n l2 ∧ ∃ (m : List Nat) (h : Nat → Bool) (l2 : Nat → Int) (y4 y5 : Option V), σ' = [some (.ref p), some (.ref b), some (.ref z), some (.ref r), y4, y5] ∧ Mvs n f g l m h l2 ∧ (∃ t, (m, h, l2) = its n l t ([], f, l) ∧ t + M30.far n l2 ≤ M30.far n l) ∧ m' = M30.far n l2 ∧ Ex H H' ∧
        H' p = some (.lst ((flB n h).map V.bl)) ∧ H' z = some (.lst ((lfL n l2).map V.int)) ∧ H' r = some (.lst ((M30.calls m).map V.int)), fun σ2 H2 z => z, ?_⟩
      refine ⟨.ref b, rfl, b, (lfL n l).map V.int, rfl, ex_l eH hS2, ?_⟩
      refine for_enumL (xs := (lfL n l).map V.int) (fun i σ' H' => ∃ (m' : List Nat) (h' : Nat → Bool) (l' : Nat → Int) (y4 y5 : Option V), σ' = [some (.ref p), some (.ref b), some (.ref z), some (.ref r), y4, y5] ∧ Mvs n f g l m' h' l' ∧ (m', h', l') = stps n l i (m, h, l2) ∧ Ex H H' ∧
          H' p = some (.lst ((flB n h').map V.bl)) ∧ H' z = some (.lst ((lfL n l').map V.int)) ∧ H' r = some (.lst ((M30.calls m').map V.int)) ∧
          (M30.far n l' < M30.far n l2 ∨ h' = h ∧ l' = l2 ∧ ∀ j, j < i → M30.due (l2 j) (h (M30.pr n j)) (h j) = false))
        ⟨m, h, l2, y4, y5, rfl, M, rfl, eH, hp, hz, hr', .inr ⟨rfl, rfl, fun j hj => absurd hj (Nat.not_lt_zero _)⟩⟩ (fun i σ' H' z => by obtain ⟨_, _, _, _, _, _, _, _, e, _⟩ := z; exact ex_l e hS2) ?_ ?_
      · rintro i x Tt σ' H3 hx ⟨m', h', l', y4', y5', rfl, M', hst, eH3, hp3, hz3, hr3, prog⟩ nT
        have hi : i < n := by
          have := (List.getElem?_eq_some_iff.mp hx).1
          rw [List.length_map, lfL_len] at this
          exact this
        rw [List.getElem?_map, lfL_at _ hi] at hx
        have hx : V.int (l i) = x := Option.some.inj hx
        subst hx
        have eT : Ex H3 (upd H3 Tt (.tup [.int (i : Nat), .int (l i)])) := Ex.new nT
        refine ⟨Tt, _, rfl, .inl (.inl upd_same), rfl, _, _, rfl, _, _, rfl, rfl, ?_⟩
        have eH4 := eH3.trans eT
        have hp4 := eT _ _ hp3
        have hz4 := eT _ _ hz3
        have hr4 := eT _ _ hr3
        generalize upd H3 Tt (.tup [.int (i : Nat), .int (l i)]) = H4 at eT eH4 hp4 hz4 hr4
        -- if is_due(left[at], falls[at - 1], falls[at])
        have atl : atI ((lfL n l').map V.int) (i : Int) = some (.int (l' i)) := atI_nat (by rw [List.getElem?_map, lfL_at _ hi]; rfl)
        have atf : atI ((flB n h').map V.bl) (i : Int) = some (.bl (h' i)) := atI_nat (by rw [List.getElem?_map, flB_at _ hi]; rfl)
        have atp : atI ((flB n h').map V.bl) ((i : Int) - 1) = some (.bl (h' (M30.pr n i))) := by
          unfold atI
          rw [List.length_map, flB_len, ix_pr hi]
          show ((flB n h').map V.bl)[M30.pr n i]? = _
          rw [List.getElem?_map, flB_at _ (M30.pr_lt hi)]
          rfl
        refine ⟨_, rfl, _, rfl, z, _, _, _, rfl, rfl, .inl (.inl hz4), atl, ?_⟩
        refine ⟨_, rfl, _, rfl, _, _, rfl, rfl, p, _, _, _, rfl, rfl, .inl (.inl hp4), atp, ?_⟩
        refine ⟨_, rfl, _, rfl, p, _, _, _, rfl, rfl, .inl (.inl hp4), atf, ?_⟩
        refine ⟨l' i, h' (M30.pr n i), h' i, rfl, fun H5 e5 => ⟨_, rfl, ?_⟩⟩
        have eH5 := eH4.trans e5
        have hp5 := e5 _ _ hp4
        have hz5 := e5 _ _ hz4
        have hr5 := e5 _ _ hr4
        cases hd : M30.due (l' i) (h' (M30.pr n i)) (h' i) with
        | false =>
          have hst2 : (m', h', l') = stps n l (i + 1) (m, h, l2) := by
            rw [stps_succ, ← hst]
            unfold stp
            rw [if_neg (by rw [hd]; decide)]
          refine iteF ⟨m', h', l', _, _, rfl, M', hst2, eH5, hp5, hz5, hr5, ?_⟩
          rcases prog with lt | ⟨e1, e2, no⟩
          · exact .inl lt
          · refine .inr ⟨e1, e2, fun j hj => ?_⟩
            by_cases c : j = i
            · rw [c, ← e1, ← e2]
              exact hd
            · exact no j (by omega)
        | true =>
          refine iteT ?_
          have M2 := M'.go hi (by omega) hd
          have hst2 : (m' ++ [i], M30.sw n i h', M30.ad i (if 0 < l i then -1 else 1) l') = stps n l (i + 1) (m, h, l2) := by
            rw [stps_succ, ← hst]
            unfold stp
            rw [if_pos hd]
          have lt2 : M30.far n (M30.ad i (if 0 < l i then -1 else 1) l') < M30.far n l2 := by
            have a1 := M'.far
            have a2 := M2.far
            rw [List.length_append] at a2
            have a2 : m'.length + 1 + M30.far n (M30.ad i (if 0 < l i then -1 else 1) l') = M30.far n l := a2
            rcases prog with lt | ⟨_, e2, _⟩
            · omega
            · rw [e2] at a1
              omega
          -- falls[at - 1], falls[at] = falls[at], falls[at - 1]
          refine ⟨_, rfl, _, rfl, p, _, _, _, rfl, rfl, .inl (.inl hp5), atf, ?_⟩
          refine ⟨_, rfl, _, rfl, _, _, rfl, rfl, p, _, _, _, rfl, rfl, .inl (.inl hp5), atp, (by show 2 ≤ sizeLine; decide), fun T2 nT2 => ?_⟩
          have e6 := Ex.new (o := .tup [.bl (h' i), .bl (h' (M30.pr n i))]) nT2
          have hp6 := e6 _ _ hp5
          have hz6 := e6 _ _ hz5
          have hr6 := e6 _ _ hr5
          have eH6 := eH5.trans e6
          refine ⟨T2, _, rfl, .inl (.inl upd_same), rfl, ?_⟩
          generalize upd H5 T2 (.tup [.bl (h' i), .bl (h' (M30.pr n i))]) = H6 at e6 hp6 hz6 hr6 eH6
          refine ⟨_, _, rfl, _, rfl, _, rfl, _, _, rfl, rfl, p, _, _, _, rfl, rfl, hp6, by rw [List.length_map, flB_len]; exact ix_pr hi, ?_⟩
          refine ⟨_, _, rfl, _, rfl, _, rfl, p, _, _, _, rfl, rfl, upd_same, by rw [List.length_set, List.length_map, flB_len]; exact ix_at hi, rfl, ?_⟩
          rw [fl_set hi (by omega)]
          have hzX : upd (upd H6 p (.lst (((flB n h').map V.bl).set (M30.pr n i) (.bl (h' i))))) p (.lst ((flB n (M30.sw n i h')).map V.bl)) z = some (.lst ((lfL n l').map V.int)) := by rw [upd_ne npz.symm, upd_ne npz.symm]; exact hz6
          have hrX : upd (upd H6 p (.lst (((flB n h').map V.bl).set (M30.pr n i) (.bl (h' i))))) p (.lst ((flB n (M30.sw n i h')).map V.bl)) r = some (.lst ((M30.calls m').map V.int)) := by rw [upd_ne npr.symm, upd_ne npr.symm]; exact hr6
          have hpX : upd (upd H6 p (.lst (((flB n h').map V.bl).set (M30.pr n i) (.bl (h' i))))) p (.lst ((flB n (M30.sw n i h')).map V.bl)) p = some (.lst ((flB n (M30.sw n i h')).map V.bl)) := upd_same
          have eX : Ex H (upd (upd H6 p (.lst (((flB n h').map V.bl).set (M30.pr n i) (.bl (h' i))))) p (.lst ((flB n (M30.sw n i h')).map V.bl))) := Ex.mut (Ex.mut eH6 np) np
          generalize upd (upd H6 p (.lst (((flB n h').map V.bl).set (M30.pr n i) (.bl (h' i))))) p (.lst ((flB n (M30.sw n i h')).map V.bl)) = HX at hzX hrX hpX eX
          have getl : ((lfL n l').map V.int)[i]? = some (.int (l' i)) := by rw [List.getElem?_map, lfL_at _ hi]; rfl
          have ixl : ixN ((lfL n l').map V.int).length (i : Int) = some i := by rw [List.length_map, lfL_len]; exact ix_at hi
          have ml : m'.length ≤ 4000 := by
            have := M'.far
            omega
          have nap : ∀ D2 : Ends, (∀ HY, Ex H HY → HY p = some (.lst ((flB n (M30.sw n i h')).map V.bl)) → HY z = some (.lst ((lfL n (M30.ad i (if 0 < l i then -1 else 1) l')).map V.int)) → HY r = some (.lst ((M30.calls (m' ++ [i])).map V.int)) → D2.nx [some (.ref p), some (.ref b), some (.ref z), some (.ref r), some (.int (i : Int)), some (.int (l i))] HY) →
              tDrop (tBM K "list" rAppend (tVar 3) (tCons (tOp (rI0 fun i j => V.int (i + j)) (tVar 4) (tC (.int 1))) tNil)) D2 [some (.ref p), some (.ref b), some (.ref z), some (.ref r), some (.int (i : Int)), some (.int (l i))] (upd HX z (.lst ((lfL n (M30.ad i (if 0 < l i then -1 else 1) l')).map V.int))) := fun D2 k => by
            refine s_app (K := K) (xs := (M30.calls m').map V.int) (v := .int ((i : Int) + 1)) (by rw [upd_ne nzr.symm]; exact hrX) (ev_var rfl) (ev_op (ev_var rfl) ev_c rv_I0) (by rw [List.length_map]; unfold M30.calls; rw [List.length_map]; omega) fun H9 e9 => ?_
            refine k _ (Ex.mut (fun b0 o hb => e9 _ _ (Ex.mut eX nz0 _ _ hb)) nr0) ?_ ?_ ?_
            · rw [upd_ne npr]
              exact e9 _ _ (by rw [upd_ne npz]; exact hpX)
            · rw [upd_ne nzr]
              exact e9 _ _ upd_same
            · rw [upd_same]
              unfold M30.calls
              rw [List.map_append, List.map_append]
              rfl
          refine ⟨_, rfl, _, rfl, z, _, i, _, rfl, rfl, .inl (.inl hzX), getl, ?_⟩
          refine ⟨_, rfl, _, _, rfl, rfl, _, rfl, ?_⟩
          have cls : ∀ d, d = (if 0 < l i then (-1 : Int) else 1) → ((lfL n l').map V.int).set i (V.int (l' i + d)) = (lfL n (M30.ad i (if 0 < l i then -1 else 1) l')).map V.int := fun d e => by rw [e]; exact lf_set hi _
          by_cases c : 0 < l i
          · rw [decide_eq_true c]
            refine iteT ⟨_, rfl, _, _, rfl, rfl, z, _, _, _, rfl, rfl, hzX, ixl, ?_⟩
            rw [cls (-1) (by rw [if_pos c])]
            exact nap _ fun HY y1 y2 y3 y4 => ⟨_, _, _, _, _, rfl, M2, hst2, y1, y2, y3, y4, .inl lt2⟩
          · rw [decide_eq_false c]
            refine iteF ⟨_, _, rfl, rfl, z, _, _, _, rfl, rfl, hzX, ixl, ?_⟩
            rw [cls 1 (by rw [if_neg c])]
            exact nap _ fun HY y1 y2 y3 y4 => ⟨_, _, _, _, _, rfl, M2, hst2, y1, y2, y3, y4, .inl lt2⟩
      · rintro σ' H3 ⟨m', h', l', y4', y5', rfl, M', hst, eH3, hp3, hz3, hr3, prog⟩
        rw [List.length_map, lfL_len] at prog hst
        have hnext : (m', h', l') = its n l (t + 1) ([], f, l) := by
          show _ = stps n l n (its n l t ([], f, l))
          rw [← ht]
          exact hst
        rcases prog with lt | ⟨_, _, no⟩
        · exact ⟨_, lt, m', h', l', y4', y5', rfl, M', ⟨t + 1, hnext, by omega⟩, rfl, eH3, hp3, hz3, hr3⟩
        · obtain ⟨i, hi, hd⟩ := M30.some_due M.e M.tt M.ff hl
          rw [no i hi] at hd
          cases hd
end
end K30

namespace K30
open PySem PySem.Spec PyProof.Rows L2 Vf Evl
section
variable {P : Program} {w : World} {K : PySem.W.Frag} {mg : Str → Option Value} {base : Heap} {A : Ad}
def sp_check_order (K : PySem.W.Frag) : Sp := fun vs H Q _ => ∃ (a : Addr) (ord : List Int) (n : Nat), vs = [.ref a] ∧ SqL K H a (ord.map V.int) ∧ MR.Stn n ord ∧ (3 ≤ n ∧ n ≤ 40) ∧ RetV .non H Q
theorem ok_check_order (T : Txt K mg A) : FnOk P w K mg base CX0 4 A.f_check_order A.d_check_order ["order"] (sp_check_order K) := by
  have G_check_order_of : FnOk P w K mg base CX0 3 A.f_check_order_of A.d_check_order_of ["order", "count"] (sp_check_order_of K) := ok_check_order_of T
  refine T.F_check_order.ok sc_check_order (fun vs H Q E h => ?_) (fun cdv A' outer s H vs Q E hr h => ?_)
  · obtain ⟨a, ord, n, rfl, _⟩ := h
    rfl
  · obtain ⟨a, ord, n, rfl, hS, O, hn, q⟩ := h
    have ol := O.len
    refine ⟨_, (pss_cons (ps_if (PW.pt (pw_or (pt_not (pt_val (pe_callB call_isi (by rfl) T.z_isinstance (by decide +kernel) (pa_cons (pv 0) (pa_cons (pe_bltn (v := .ty "list") (by rfl) T.z_list (by decide +kernel) rfl) pa_nil))))) (pw_or1 (pt_not (pt_chain op_le op_le (pe_glob (v := .int 3) (by rfl) T.g_LEAST_COUNT ⟨_, rfl⟩) (pe_callB (call_lenK (K := K) rfl) (by rfl) T.z_len PySem.boot_len (pa_cons (pv 0) pa_nil)) (pe_glob (v := .int 40) (by rfl) T.g_MOST_COUNT ⟨_, rfl⟩)))))) (pss_one ps_never) pss_nil)
      (pss_one (ps_expr (pe_call G_check_order_of (hr.mono (by decide)) (by rfl) T.g_check_order_of T.F_check_order_of.kp T.b_check_order_of .nil pass0 (pa_cons (pv 0) (pa_cons (pe_callB (call_lenK (K := K) rfl) (by rfl) T.z_len PySem.boot_len (pa_cons (pv 0) pa_nil)) pa_nil)))))), ?_⟩
    refine ⟨_, rfl, _, _, .type "list", .type "list", true, rfl, .ty _, ty_list hS, kit_ty (by decide +kernel), true, rfl, iteF ?_⟩
    refine ⟨_, rfl, a, _, rfl, .inl hS, _, _, rfl, rfl, _, rfl, ?_⟩
    rw [List.length_map, ol, decide_eq_true (show (3 : Int) ≤ (n : Int) by omega)]
    refine iteT ⟨_, _, rfl, rfl, _, rfl, ?_⟩
    rw [decide_eq_true (show (n : Int) ≤ 40 by omega)]
    refine iteF ?_
    dsimp only [tNext]
    refine ⟨_, rfl, _, rfl, a, _, rfl, .inl hS, ?_⟩
    rw [List.length_map, ol]
    exact ⟨a, ord, n, rfl, hS, O, by omega, fun H1 e1 => q H1 e1⟩
end
/-- so far it is from one order to the other -/
theorem steps_isD {n : Nat} {f g : Nat → Bool} (h : (M30.bl n f).length = (M30.bl n g).length) (hn : 0 < n) {ns : List Int} {m : Int} (pm : ns.Perm (difL n f g n)) (sr : ns.Pairwise (· ≤ ·)) (hm : ns[n / 2]? = some m) :
    (difL n f g n).map (fun x => x - m) = lfL n (fun k => M30.dif n f g k + -m) ∧ M30.IsD n f g (M30.far n fun k => M30.dif n f g k + -m) ∧ M30.E n f g (fun k => M30.dif n f g k + -m) ∧ M30.far n (fun k => M30.dif n f g k + -m) ≤ n * n := by
  have z := M30.med_isD h hn pm sr hm
  refine ⟨?_, z.1, M30.dif_E h (-m), M30.Dk.bound ⟨z.1, h.symm⟩⟩
  unfold difL lfL
  rw [List.map_map]
  rfl
theorem far_sum (n : Nat) (l : Nat → Int) : (((List.range n).map fun k => if l k < 0 then -(l k) else l k) : List Int).sum = (M30.far n l : Int) := by
  unfold M30.far
  induction n with
  | zero => rfl
  | succ n ih =>
    rw [List.range_succ, List.map_append, List.sum_append, ih, M30.sumN_succ]
    simp
    split <;> omega
section
variable {P : Program} {w : World} {K : PySem.W.Frag} {mg : Str → Option Value} {base : Heap} {A : Ad}
def sp_fewest_turns (K : PySem.W.Frag) : Sp := fun vs H Q _ => ∃ (a b : Addr) (o1 o2 : List Int) (n : Nat), vs = [.ref a, .ref b] ∧ SqL K H a (o1.map V.int) ∧ MR.Stn n o1 ∧ SqL K H b (o2.map V.int) ∧ MR.Stn n o2 ∧ (3 ≤ n ∧ n ≤ 40) ∧
  ((M30.bl n (M30.mk n o1)).length ≠ (M30.bl n (M30.mk n o2)).length → RetV .non H Q) ∧
  ((M30.bl n (M30.mk n o1)).length = (M30.bl n (M30.mk n o2)).length → ∀ k : Nat, M30.IsD n (M30.mk n o1) (M30.mk n o2) k → RetV (.int (k : Int)) H Q)
theorem ok_fewest_turns (T : Txt K mg A) : FnOk P w K mg base CX0 5 A.f_fewest_turns A.d_fewest_turns ["order", "other"] (sp_fewest_turns K) := by
  have G_check_order : FnOk P w K mg base CX0 4 A.f_check_order A.d_check_order ["order"] (sp_check_order K) := ok_check_order T
  have G_check_order_of : FnOk P w K mg base CX0 3 A.f_check_order_of A.d_check_order_of ["order", "count"] (sp_check_order_of K) := ok_check_order_of T
  have G_steps_needed : FnOk P w K mg base CX0 4 A.f_steps_needed A.d_steps_needed ["order", "other"] (sp_steps_needed K) := ok_steps_needed T
  refine T.F_fewest_turns.ok sc_fewest_turns (fun vs H Q E h => ?_) (fun cdv A' outer s H vs Q E hr h => ?_)
  · obtain ⟨a, b, o1, o2, n, rfl, _⟩ := h
    rfl
  · obtain ⟨a, b, o1, o2, n, rfl, hS1, O1, hS2, O2, hn, q1, q2⟩ := h
    have ol1 := O1.len
    refine ⟨_, (pss_cons (ps_expr (pe_call G_check_order (hr.mono (by decide)) (by rfl) T.g_check_order T.F_check_order.kp T.b_check_order .nil pass0 (pa_cons (pv 0) pa_nil)))
      (pss_cons (ps_expr (pe_call G_check_order_of (hr.mono (by decide)) (by rfl) T.g_check_order_of T.F_check_order_of.kp T.b_check_order_of .nil pass0 (pa_cons (pv 1) (pa_cons (pe_callB (call_lenK (K := K) rfl) (by rfl) T.z_len PySem.boot_len (pa_cons (pv 0) pa_nil)) pa_nil))))
      (pss_cons (ps_set (i := 2) sc_fewest_turns.nd rfl (by first | exact .inl rfl | exact .inr rfl) (pe_call G_steps_needed (hr.mono (by decide)) (by rfl) T.g_steps_needed T.F_steps_needed.kp T.b_steps_needed .nil pass0 (pa_cons (pv 0) (pa_cons (pv 1) pa_nil))))
      (pss_one (ps_ret (pe_ifExp (pt_cmp (pc_isN (pv 2))) pe_non (pe_callB (cr_sum rfl) (by rfl) T.z_sum (by decide +kernel) (pa_cons (pe_lc (own := [("times", 3)]) rfl sc_fewest_turns.nd (pi_listK (K := K) rfl (pv 2)) (blkOk_by (by kernel_rfl)) (fun _ _ _ _ _ => (pg_name (i := 3) sc_fewest_turns.nd rfl (by first | exact .inl rfl | exact .inr rfl))) (fun _ _ _ _ _ => pts_nil) (fun _ _ _ _ _ => (pe_callB call_abs (by rfl) T.z_abs (by decide +kernel) (pa_cons (pv 3) pa_nil)))) pa_nil)))))))), ?_⟩
    refine ⟨_, rfl, a, o1, n, rfl, hS1, O1, hn, fun H1 e1 => ?_⟩
    refine ⟨_, rfl, _, rfl, a, _, rfl, .inl (ex_l e1 hS1), ?_⟩
    rw [List.length_map, ol1]
    refine ⟨b, o2, n, rfl, ex_l e1 hS2, O2, by omega, fun H2 e2 => ?_⟩
    have e12 := e1.trans e2
    refine ⟨_, rfl, _, rfl, a, b, o1, o2, n, rfl, ex_l e12 hS1, O1, ex_l e12 hS2, O2, hn, fun ne H3 e3 => ?_, fun eq ns m pm sr hm p H3 np e3 hp => ?_⟩
    · exact ⟨_, rfl, _, rfl, iteT ((q1 ne).go (e12.trans e3))⟩
    · obtain ⟨s1, s2, _, _⟩ := steps_isD eq (by omega) pm sr hm
      rw [s1] at hp
      refine ⟨_, rfl, _, rfl, iteF ?_⟩
      have fin := q2 eq _ s2
      generalize hlf : (fun k => M30.dif n (M30.mk n o1) (M30.mk n o2) k + -m) = lf at hp fin
      rw [← far_sum n lf] at fin
      refine ev_cbL (te := tLc (iList K (tVar 2)) (gName 3) tYes (tCB (fun xs H Q => ∃ i, xs = [V.int i] ∧ Q (V.int (if i < 0 then -i else i)) H) (tCons (tVar 3) tNil)) [3]) (r := rSum K) (xs := ((List.range n).map fun k => if lf k < 0 then -(lf k) else lf k).map V.int) (z := .int ((List.range n).map fun k => if lf k < 0 then -(lf k) else lf k).sum) ?_ (fun q0 H5 e5 hq0 => fun H6 e6 Q6 q6 => ⟨q0, _, rfl, .inl (.inl (e6 _ _ hq0)), q6 H6 (Ex.refl H6)⟩) H3 (Ex.refl H3) _ fun H4 e4 => fin H4 ((e12.trans e3).trans e4)
      have go := el_lcL (K := K) (H := H3) (σ := [some (.ref a), some (.ref b), some (.ref p), none]) (a := p) (xs := (lfL n lf).map V.int) (tl := tVar 2) (j := 3) (vs := [3]) (t := tYes)
        (te := tCB (fun xs H Q => ∃ i, xs = [V.int i] ∧ Q (V.int (if i < 0 then -i else i)) H) (tCons (tVar 3) tNil)) (fun _ => true) (fun i => V.int (if lf i < 0 then -(lf i) else lf i)) (ev_var rfl) (.inl (.inl hp)) (by rw [List.length_map, lfL_len]; omega) (fun x => rfl) (fun i x H8 e8 hx => et_yes) (fun i x H8 e8 hx _ => by
          have hi : i < n := by
            have := (List.getElem?_eq_some_iff.mp hx).1
            rw [List.length_map, lfL_len] at this
            exact this
          rw [List.getElem?_map, lfL_at _ hi] at hx
          have hx : V.int (lf i) = x := Option.some.inj hx
          subst hx
          exact ev_cb (ea_cons (ev_var rfl) ea_nil) fun H9 e9 Q9 q9 => ⟨_, rfl, q9 H9 (Ex.refl H9)⟩)
      rw [List.length_map, lfL_len] at go
      have e : given n (fun _ => true) (fun i => V.int (if lf i < 0 then -(lf i) else lf i)) = ((List.range n).map fun k => if lf k < 0 then -(lf k) else lf k).map V.int := by
        unfold given
        rw [List.filter_eq_self.mpr (fun _ _ => rfl), List.map_map]
        rfl
      rw [e] at go
      exact go
end
end K30

namespace K30
open PySem PySem.Spec PyProof.Rows L2 Vf Evl
/-! ### the calls that turn one order to the other -/
def med (n : Nat) (f g : Nat → Bool) : Int := ((difL n f g n).mergeSort (fun a b => decide (a ≤ b))).getD (n / 2) 0
theorem sort_is (xs : List Int) : (xs.mergeSort (fun a b => decide (a ≤ b))).Perm xs ∧ (xs.mergeSort (fun a b => decide (a ≤ b))).Pairwise (· ≤ ·) := by
  refine ⟨List.mergeSort_perm xs _, ?_⟩
  have z := List.pairwise_mergeSort (le := fun a b : Int => decide (a ≤ b)) (fun a b c h1 h2 => by simp at *; omega) (fun a b => by simp; omega) xs
  exact z.imp fun h => by simpa using h
theorem med_of {n : Nat} {f g : Nat → Bool} {ns : List Int} {m : Int} (pm : ns.Perm (difL n f g n)) (sr : ns.Pairwise (· ≤ ·)) (hm : ns[n / 2]? = some m) : m = med n f g := by
  have z := sort_is (difL n f g n)
  have e : ns = (difL n f g n).mergeSort (fun a b => decide (a ≤ b)) := (pm.trans z.1.symm).eq_of_pairwise (fun x y _ _ h1 h2 => Int.le_antisymm h1 h2) sr z.2
  unfold med
  rw [← e, List.getD_eq_getElem?_getD, hm]
  rfl
def stF (n : Nat) (f g : Nat → Bool) : Nat → Int := fun k => M30.dif n f g k + -(med n f g)
def turnsF (n : Nat) (f g : Nat → Bool) : List Nat := dueF n f (stF n f g)
theorem stF_is {n : Nat} {f g : Nat → Bool} (h : (M30.bl n f).length = (M30.bl n g).length) (hn : 0 < n) : M30.IsD n f g (M30.far n (stF n f g)) ∧ M30.E n f g (stF n f g) ∧ M30.far n (stF n f g) ≤ n * n := by
  have z := sort_is (difL n f g n)
  have dl : ((difL n f g n).mergeSort (fun a b => decide (a ≤ b))).length = n := by rw [z.1.length_eq]; unfold difL; rw [List.length_map, List.length_range]
  obtain ⟨m, hm⟩ : ∃ m, ((difL n f g n).mergeSort (fun a b => decide (a ≤ b)))[n / 2]? = some m := ⟨_, List.getElem?_eq_getElem (by omega)⟩
  obtain ⟨_, s2, s3, s4⟩ := steps_isD h hn z.1 z.2 hm
  rw [med_of z.1 z.2 hm] at s2 s3 s4
  exact ⟨s2, s3, s4⟩
theorem turnsF_is {n : Nat} {o1 o2 : List Int} (O1 : MR.Stn n o1) (hn : 2 ≤ n) (h : (M30.bl n (M30.mk n o1)).length = (M30.bl n (M30.mk n o2)).length) :
    (∃ h, M30.Pth n (M30.mk n o1) (turnsF n (M30.mk n o1) (M30.mk n o2)) h ∧ ∀ k, k < n → h k = M30.mk n o2 k) ∧ M30.IsD n (M30.mk n o1) (M30.mk n o2) (turnsF n (M30.mk n o1) (M30.mk n o2)).length := by
  obtain ⟨s2, s3, _⟩ := stF_is h (by omega)
  obtain ⟨b1, b2⟩ := M30.mk_both O1 hn
  obtain ⟨d1, d2⟩ := dueF_is s3 b1 b2 hn
  refine ⟨d1, ?_⟩
  unfold turnsF
  rw [d2]
  exact s2
section
variable {P : Program} {w : World} {K : PySem.W.Frag} {mg : Str → Option Value} {base : Heap} {A : Ad}
def sp_turns (K : PySem.W.Frag) : Sp := fun vs H Q _ => ∃ (a b : Addr) (o1 o2 : List Int) (n : Nat), vs = [.ref a, .ref b] ∧ SqL K H a (o1.map V.int) ∧ MR.Stn n o1 ∧ SqL K H b (o2.map V.int) ∧ MR.Stn n o2 ∧ (3 ≤ n ∧ n ≤ 40) ∧
  ((M30.bl n (M30.mk n o1)).length ≠ (M30.bl n (M30.mk n o2)).length → RetV .non H Q) ∧
  ((M30.bl n (M30.mk n o1)).length = (M30.bl n (M30.mk n o2)).length → RetL ((M30.calls (turnsF n (M30.mk n o1) (M30.mk n o2))).map V.int) H Q)
theorem ok_turns (T : Txt K mg A) : FnOk P w K mg base CX0 5 A.f_turns A.d_turns ["order", "other"] (sp_turns K) := by
  have G_check_order : FnOk P w K mg base CX0 4 A.f_check_order A.d_check_order ["order"] (sp_check_order K) := ok_check_order T
  have G_check_order_of : FnOk P w K mg base CX0 3 A.f_check_order_of A.d_check_order_of ["order", "count"] (sp_check_order_of K) := ok_check_order_of T
  have G_steps_needed : FnOk P w K mg base CX0 4 A.f_steps_needed A.d_steps_needed ["order", "other"] (sp_steps_needed K) := ok_steps_needed T
  have G_falls_of : FnOk P w K mg base CX0 3 A.f_falls_of A.d_falls_of ["order"] (sp_falls_of K) := ok_falls_of T
  have G_calls_when_due : FnOk P w K mg base CX0 2 A.f_calls_when_due A.d_calls_when_due ["falls", "steps"] (sp_calls_when_due K) := ok_calls_when_due T
  refine T.F_turns.ok sc_turns (fun vs H Q E h => ?_) (fun cdv A' outer s H vs Q E hr h => ?_)
  · obtain ⟨a, b, o1, o2, n, rfl, _⟩ := h
    rfl
  · obtain ⟨a, b, o1, o2, n, rfl, hS1, O1, hS2, O2, hn, q1, q2⟩ := h
    have ol1 := O1.len
    refine ⟨_, (pss_cons (ps_expr (pe_call G_check_order (hr.mono (by decide)) (by rfl) T.g_check_order T.F_check_order.kp T.b_check_order .nil pass0 (pa_cons (pv 0) pa_nil)))
      (pss_cons (ps_expr (pe_call G_check_order_of (hr.mono (by decide)) (by rfl) T.g_check_order_of T.F_check_order_of.kp T.b_check_order_of .nil pass0 (pa_cons (pv 1) (pa_cons (pe_callB (call_lenK (K := K) rfl) (by rfl) T.z_len PySem.boot_len (pa_cons (pv 0) pa_nil)) pa_nil))))
      (pss_cons (ps_set (i := 2) sc_turns.nd rfl (by first | exact .inl rfl | exact .inr rfl) (pe_call G_steps_needed (hr.mono (by decide)) (by rfl) T.g_steps_needed T.F_steps_needed.kp T.b_steps_needed .nil pass0 (pa_cons (pv 0) (pa_cons (pv 1) pa_nil))))
      (pss_one (ps_ret (pe_ifExp (pt_cmp (pc_isN (pv 2))) pe_non (pe_call G_calls_when_due (hr.mono (by decide)) (by rfl) T.g_calls_when_due T.F_calls_when_due.kp T.b_calls_when_due .nil pass0 (pa_cons (pe_call G_falls_of (hr.mono (by decide)) (by rfl) T.g_falls_of T.F_falls_of.kp T.b_falls_of .nil pass0 (pa_cons (pv 0) pa_nil)) (pa_cons (pv 2) pa_nil))))))))), ?_⟩
    refine ⟨_, rfl, a, o1, n, rfl, hS1, O1, hn, fun H1 e1 => ?_⟩
    refine ⟨_, rfl, _, rfl, a, _, rfl, .inl (ex_l e1 hS1), ?_⟩
    rw [List.length_map, ol1]
    refine ⟨b, o2, n, rfl, ex_l e1 hS2, O2, by omega, fun H2 e2 => ?_⟩
    have e12 := e1.trans e2
    refine ⟨_, rfl, _, rfl, a, b, o1, o2, n, rfl, ex_l e12 hS1, O1, ex_l e12 hS2, O2, hn, fun ne H3 e3 => ?_, fun eq ns m pm sr hm p H3 np e3 hp => ?_⟩
    · exact ⟨_, rfl, _, rfl, iteT ((q1 ne).go (e12.trans e3))⟩
    · obtain ⟨s1, _, _, _⟩ := steps_isD eq (by omega) pm sr hm
      rw [s1, med_of pm sr hm] at hp
      have e13 := e12.trans e3
      obtain ⟨_, t2, t3⟩ := stF_is eq (by omega)
      have t4 : n * n ≤ 40 * 40 := Nat.mul_le_mul hn.2 hn.2
      obtain ⟨b1, b2⟩ := M30.mk_both O1 (by omega)
      refine ⟨_, rfl, _, rfl, iteF ?_⟩
      refine ⟨_, rfl, a, o1, n, rfl, ex_l e13 hS1, O1, hn, fun p5 H5 np5 e5 hp5 => ?_⟩
      refine ⟨_, rfl, p5, p, n, M30.mk n o1, M30.mk n o2, stF n (M30.mk n o1) (M30.mk n o2), rfl, .inl (.inl hp5), .inl (.inl (e5 _ _ hp)), t2, hn, b1, b2, by omega, fun z H6 nz e6 hz => ?_⟩
      exact q2 eq z H6 (fresh_back (e13.trans e5) nz) ((e13.trans e5).trans e6) hz
end
end K30

namespace K30
open PySem PySem.Spec PyProof.Rows L2 Vf Evl
/-! ### the law's breaks -/
theorem at_idx {o : List Int} {c : Int} (h : c ∈ o) : (o.map V.int)[o.idxOf c]? = some (.int c) := by
  have hlt := List.idxOf_lt_length_of_mem h
  rw [List.getElem?_map, List.getElem?_eq_getElem hlt, List.getElem_idxOf]
  rfl
theorem idx_no {c : Int} : ∀ (o : List Int) (m : Nat), m < o.idxOf c → o[m]? ≠ some c
  | [], m, h => absurd h (Nat.not_lt_zero _)
  | x :: o, m, h => by
    rw [List.idxOf_cons] at h
    by_cases e : x = c
    · subst e
      rw [beq_self_eq_true] at h
      exact absurd h (Nat.not_lt_zero _)
    · rw [beq_eq_false_iff_ne.mpr e] at h
      cases m with
      | zero => exact fun z => e (Option.some.inj z)
      | succ m => exact idx_no o m (Nat.lt_of_succ_lt_succ h)
theorem idx_first {o : List Int} {c : Int} : ∀ (m : Nat) (z : V), m < o.idxOf c → (o.map V.int)[m]? = some z → eqV z (.int c) = false := by
  intro m z hm hz
  rw [List.getElem?_map] at hz
  cases hx : o[m]? with
  | none => rw [hx] at hz; cases hz
  | some x =>
    rw [hx] at hz
    have hz : V.int x = z := Option.some.inj hz
    subst hz
    have e : eqV (.int x) (.int c) = decide (x = c) := rfl
    rw [e]
    exact decide_eq_false fun ex => idx_no o m hm (by rw [hx, ex])
section
variable {P : Program} {w : World} {K : PySem.W.Frag} {mg : Str → Option Value} {base : Heap} {A : Ad}
theorem ok_l_breaks (T : Txt K mg A) : FnOk P w K mg base CX0 1 A.f_l_breaks A.d_l_breaks ["_law_order"] (sp_breaks_of K) := by
  refine T.F_l_breaks.ok sc_l_breaks (fun vs H Q E h => ?_) (fun cdv A' outer s H vs Q E hr h => ?_)
  · obtain ⟨a, ord, n, rfl, _⟩ := h
    rfl
  · obtain ⟨a, ord, n, rfl, hS, O, hn, q⟩ := h
    have ol := O.len
    refine ⟨_, (pss_cons (ps_set (i := 1) sc_l_breaks.nd rfl (by first | exact .inl rfl | exact .inr rfl) (pe_callB (call_lenK (K := K) rfl) (by rfl) T.z_len PySem.boot_len (pa_cons (pv 0) pa_nil)))
      (pss_one (ps_ret (pe_lc (own := [("_law_call", 2)]) rfl sc_l_breaks.nd (pi_range2 (by rfl) T.z_range (pa_cons pe_int (pa_cons (pe_op op_add (pv 1) pe_int) pa_nil))) (blkOk_by (by kernel_rfl)) (fun _ _ _ _ _ => (pg_name (i := 2) sc_l_breaks.nd rfl (by first | exact .inl rfl | exact .inr rfl))) (fun _ _ _ _ _ => (pts_one (pt_cmpR op_gt (pe_bmK (K := K) rfl PySem.F.plainAttrs_list PySem.F.slot_list_index PySem.F.type_list_index (mt_indexK (K := K) rfl) (pv 0) (pa_cons (pv 2) pa_nil)) (pe_bmK (K := K) rfl PySem.F.plainAttrs_list PySem.F.slot_list_index PySem.F.type_list_index (mt_indexK (K := K) rfl) (pv 0) (pa_cons (pe_op op_add (pe_op op_modN (pv 2) (pv 1)) pe_int) pa_nil)) (nomark _)))) (fun _ _ _ _ _ => (pv 2)))))), ?_⟩
    refine ⟨_, rfl, a, _, rfl, .inl hS, ?_⟩
    rw [List.length_map, ol]
    dsimp only [gName]
    refine s_retL (xs := (blI n (M30.mk n ord)).map V.int) ?_ fun p H2 np e2 hp => q p H2 np e2 hp
    rw [blI_range]
    have ix : ∀ (σ : L2.St) (H4 : Hp) (te : TE) (c : Int), Ex H H4 → c ∈ ord → Ev (tVar 0) σ H4 (.ref a) → Ev te σ H4 (.int c) → Ev (tBM K "list" (rIndex K) (tVar 0) (tCons te tNil)) σ H4 (.int ((ord.idxOf c : Nat) : Int)) := fun σ H4 te c e4 hc v0 vc H5 e5 Q5 q5 => by
      refine v0 H5 e5 _ fun H6 e6 => ⟨.inl ⟨rfl, _, ex_l ((e4.trans e5).trans e6) hS⟩, ?_⟩
      exact vc H6 (e5.trans e6) _ fun H7 e7 => ⟨a, ord.map V.int, .int c, ord.idxOf c, .int c, rfl, rfl, ex_l (((e4.trans e5).trans e6).trans e7) hS, rfl, flat_ints ord, at_idx hc, by show decide (c = c) = true; simp, idx_first, q5 H7 (e6.trans e7)⟩
    have go := el_lcR2 (H := H) (σ := [some (.ref a), some (.int (n : Int)), none]) (j := 2) (vs := [2]) (lo := 1) (n := (n : Int) + 1) (ta := tCons (tC (.int 1)) (tCons (tOp (rI0 fun i j => V.int (i + j)) (tVar 1) (tC (V.int 1))) tNil))
      (t := tTest (tOp (rI0 fun i j => V.bl (decide (j < i))) (tBM K "list" (rIndex K) (tVar 0) (tCons (tVar 2) tNil)) (tBM K "list" (rIndex K) (tVar 0) (tCons (tOp (rI0 fun i j => V.int (i + j)) (tOp (rI (fun _ j => j ≠ 0) fun i j => .int (i.fmod j)) (tVar 2) (tVar 1)) (tC (.int 1))) tNil)))) (te := tVar 2)
      (M30.mk n ord) (fun k => V.int (1 + (k : Int))) (ea_cons ev_c (ea_cons (ev_op (ev_var rfl) ev_c rv_I0) ea_nil)) (by omega) (fun x => rfl) (fun k H4 e4 hk => ?_) (fun k H4 e4 _ _ => ev_var rfl)
    · rw [show ((n : Int) + 1 - 1).toNat = n by omega] at go
      exact go
    · have hki : k < n := by omega
      have e1k : (1 + (k : Int)) = ((k + 1 : Nat) : Int) := by omega
      have e2k : (1 + (k : Int)).fmod (n : Int) + 1 = ((M30.nx n k + 1 : Nat) : Int) := by
        rw [Int.fmod_eq_emod_of_nonneg _ (by omega), e1k]
        exact M30.nxt_nat hki
      have v1 := ix [some (.ref a), some (.int (n : Int)), some (.int (1 + (k : Int)))] H4 (tVar 2) (1 + (k : Int)) e4 (by rw [e1k]; exact M30.stn_mem O hki) (ev_var rfl) (ev_var rfl)
      have v2 := ix [some (.ref a), some (.int (n : Int)), some (.int (1 + (k : Int)))] H4 (tOp (rI0 fun i j => V.int (i + j)) (tOp (rI (fun _ j => j ≠ 0) fun i j => .int (i.fmod j)) (tVar 2) (tVar 1)) (tC (.int 1))) ((1 + (k : Int)).fmod (n : Int) + 1) e4 (by rw [e2k]; exact M30.stn_mem O (M30.nx_lt hki)) (ev_var rfl) (ev_op (ev_op (ev_var rfl) (ev_var rfl) (rv_I (by show (n : Int) ≠ 0; omega))) ev_c rv_I0)
      have v3 := et_test (ev_op v1 v2 (rv_I0 (g := fun i j => V.bl (decide (j < i)))))
      have em : M30.mk n ord k = decide (((ord.idxOf ((1 + (k : Int)).fmod (n : Int) + 1) : Nat) : Int) < ((ord.idxOf (1 + (k : Int)) : Nat) : Int)) := by
        rw [e2k, e1k]
        unfold M30.mk
        exact decide_eq_decide.mpr (by omega)
      rw [em]
      exact v3
end
end K30

namespace K30
open PySem PySem.Spec PyProof.Rows L2 Vf Evl
/-! ### the law turns on one call -/
theorem pr_mod {n i : Nat} (h : i < n) : ((i : Int) + 1 - 2).fmod (n : Int) + 1 = ((M30.pr n i + 1 : Nat) : Int) := by
  rw [Int.fmod_eq_emod_of_nonneg _ (by omega)]
  have e : ((i : Int) + 1 - 2) % (n : Int) = (((i + n - 1) % n : Nat) : Int) := by
    rw [Int.natCast_emod, show ((i + n - 1 : Nat) : Int) = ((i : Int) + 1 - 2) + (n : Int) * 1 by omega, Int.add_mul_emod_self_left]
  rw [e]
  unfold M30.pr
  rfl
theorem sz_of30 {n : Nat} (h : n ≤ 100000) : n ≤ sizeLine := by unfold sizeLine; omega
theorem el_cat {σ : L2.St} {H : Hp} {ta tb : TE} {a b : List V} (h : EvL ta σ H a) (k : EvL tb σ H b) (hl : a.length + b.length ≤ 100000) : EvL (tOp rCat ta tb) σ H (a ++ b) := fun H1 e Q q =>
  h H1 e _ fun p H2 np e2 hp => k H2 (e.trans e2) _ fun p2 H3 np2 e3 hp2 => ⟨p, p2, _, _, rfl, rfl, e3 _ _ hp, hp2, sz_of30 hl, fun p3 np3 => q p3 _ (fresh_back (e2.trans e3) np3) ((e2.trans e3).trans (Ex.new np3)) upd_same⟩
theorem given_sel (l : List Int) (p : Int → Bool) : given l.length (fun i => p (l.getD i 0)) (fun i => V.int (l.getD i 0)) = (l.filter p).map V.int := by
  have e : l = (List.range l.length).map fun i => l.getD i 0 := by
    refine List.ext_getElem? fun i => ?_
    by_cases c : i < l.length
    · rw [List.getElem?_map, List.getElem?_range c]
      show l[i]? = some (l.getD i 0)
      rw [List.getD_eq_getElem?_getD, List.getElem?_eq_getElem c]
      rfl
    · rw [List.getElem?_eq_none (by omega), List.getElem?_eq_none (by rw [List.length_map, List.length_range]; omega)]
  conv => rhs; rw [e]
  unfold given
  rw [List.filter_map, List.map_map]
  rfl
theorem el_sorted {K : PySem.W.Frag} {σ : L2.St} {H : Hp} {te : TE} {ns ms : List Int} (h : EvL te σ H (ns.map V.int)) (hl : ns.length < 64) (u : ∀ ns' : List Int, ns'.Perm ns → ns'.Pairwise (· ≤ ·) → ns' = ms) : EvL (tCB (rSorted K) (tCons te tNil)) σ H (ms.map V.int) :=
  fun H1 e Q q => h H1 e _ fun p H2 np e2 hp => ⟨p, ns, rfl, .inl (.inl hp), hl, fun ns' p2 pm sr np2 => by
    obtain rfl := u ns' pm sr
    exact q p2 _ (fresh_back e2 np2) (e2.trans (Ex.new np2)) upd_same⟩
section
variable {P : Program} {w : World} {K : PySem.W.Frag} {mg : Str → Option Value} {base : Heap} {A : Ad}
def sp_l_turned (K : PySem.W.Frag) : Sp := fun vs H Q _ => ∃ (a : Addr) (n i : Nat) (f : Nat → Bool), vs = [.ref a, .int ((i : Int) + 1), .int (n : Int)] ∧ SqL K H a ((blI n f).map V.int) ∧ i < n ∧ (3 ≤ n ∧ n ≤ 40) ∧
  (f i = f (M30.pr n i) → RetV .non H Q) ∧ (f i ≠ f (M30.pr n i) → RetL ((blI n (M30.sw n i f)).map V.int) H Q)
theorem ok_l_turned (T : Txt K mg A) : FnOk P w K mg base CX0 1 A.f_l_turned A.d_l_turned ["_law_some", "_law_call", "_law_many"] (sp_l_turned K) := by
  refine T.F_l_turned.ok sc_l_turned (fun vs H Q E h => ?_) (fun cdv A' outer s H vs Q E hr h => ?_)
  · obtain ⟨a, n, i, f, rfl, _⟩ := h
    rfl
  · obtain ⟨a, n, i, f, rfl, hS, hi, hn, q1, q2⟩ := h
    have hp := M30.pr_lt hi
    refine ⟨_, (pss_cons (ps_set (i := 3) sc_l_turned.nd rfl (by first | exact .inl rfl | exact .inr rfl) (pe_op op_add (pe_op op_modN (pe_op op_sub (pv 1) pe_int) (pv 2)) pe_int))
      (pss_cons (ps_if (pt_cmpR op_eq (pe_cmpR (op_inK (K := K) rfl) (pv 1) (pv 0) (by rfl)) (pe_cmpR (op_inK (K := K) rfl) (pv 3) (pv 0) (by rfl)) (nomark _)) (pss_one (ps_ret pe_non)) pss_nil)
      (pss_cons (ps_asg (pe_ifExp (pt_cmpR (op_inK (K := K) rfl) (pv 1) (pv 0) (by rfl)) (pe_tup (pa_cons (pv 1) (pa_cons (pv 3) pa_nil))) (pe_tup (pa_cons (pv 3) (pa_cons (pv 1) pa_nil)))) (pg_tupK (n := 2) (K := K) rfl rfl (pgs_cons (pg_name (i := 4) sc_l_turned.nd rfl (by first | exact .inl rfl | exact .inr rfl)) (pgs_cons (pg_name (i := 5) sc_l_turned.nd rfl (by first | exact .inl rfl | exact .inr rfl)) pgs_nil))))
      (pss_one (ps_ret (pe_callB (cr_sortedK (K := K) rfl) (by rfl) T.z_sorted (by decide +kernel) (pa_cons (pe_op op_cat (pe_lc (own := [("_law_one", 6)]) rfl sc_l_turned.nd (pi_listK (K := K) rfl (pv 0)) (blkOk_by (by kernel_rfl)) (fun _ _ _ _ _ => (pg_name (i := 6) sc_l_turned.nd rfl (by first | exact .inl rfl | exact .inr rfl))) (fun _ _ _ _ _ => (pts_one (pt_cmpR op_ne (pv 6) (pv 4) (nomark _)))) (fun _ _ _ _ _ => (pv 6))) (pe_lst (pa_cons (pv 5) pa_nil))) pa_nil))))))), ?_⟩
    refine ⟨_, rfl, _, _, rfl, rfl, _, rfl, _, _, rfl, rfl, (by show (n : Int) ≠ 0; omega), _, _, rfl, rfl, ?_⟩
    dsimp only [gName]
    have in1 : decide ((i : Int) + 1 ∈ blI n f) = f i := by
      have z := blI_mem (f := f) hi
      rw [show (i : Int) + 1 = 1 + (i : Int) by omega]
      cases y : f i with
      | true => exact decide_eq_true (z.mpr y)
      | false => exact decide_eq_false fun c => by rw [y] at z; exact absurd (z.mp c) (by decide)
    have in2 : decide (((M30.pr n i + 1 : Nat) : Int) ∈ blI n f) = f (M30.pr n i) := by
      have z := blI_mem (f := f) hp
      rw [show ((M30.pr n i + 1 : Nat) : Int) = 1 + (M30.pr n i : Int) by omega]
      cases y : f (M30.pr n i) with
      | true => exact decide_eq_true (z.mpr y)
      | false => exact decide_eq_false fun c => by rw [y] at z; exact absurd (z.mp c) (by decide)
    show tSeq (tIfS _ _ _) _ _ [some (.ref a), some (.int ((i : Int) + 1)), some (.int (n : Int)), some (.int (((i : Int) + 1 - 2).fmod (n : Int) + 1)), none, none, none] H
    rw [pr_mod hi]
    have v1 : ∀ σ, Ev (tVar 1) σ H (.int ((i : Int) + 1)) → Ev (tVar 0) σ H (.ref a) → Ev (tOp (rIn K false) (tVar 1) (tVar 0)) σ H (.bl (f i)) := fun σ x y => by
      rw [← in1]
      exact ev_op x y (rv_in hS)
    have v2 : ∀ σ, Ev (tVar 3) σ H (.int ((M30.pr n i + 1 : Nat) : Int)) → Ev (tVar 0) σ H (.ref a) → Ev (tOp (rIn K false) (tVar 3) (tVar 0)) σ H (.bl (f (M30.pr n i))) := fun σ x y => by
      rw [← in2]
      exact ev_op x y (rv_in hS)
    have tst : EvT (tTest (tOp rEq (tOp (rIn K false) (tVar 1) (tVar 0)) (tOp (rIn K false) (tVar 3) (tVar 0)))) [some (.ref a), some (.int ((i : Int) + 1)), some (.int (n : Int)), some (.int ((M30.pr n i + 1 : Nat) : Int)), none, none, none] H (decide (V.bl (f i) = V.bl (f (M30.pr n i)))) :=
      et_test (ev_op (v1 _ (ev_var rfl) (ev_var rfl)) (v2 _ (ev_var rfl) (ev_var rfl)) (rv_eq rfl))
    refine tst H (Ex.refl H) _ fun H1 e1 => ?_
    by_cases c : f i = f (M30.pr n i)
    · rw [decide_eq_true (by rw [c])]
      exact iteT ((q1 c).go e1)
    · rw [decide_eq_false (fun z => c (by injection z))]
      refine iteF ?_
      dsimp only [tNext]
      have rest : ∀ (gone come : Nat) (H2 : Hp), Ex H1 H2 → (gone, come) = (if f i = true then (i + 1, M30.pr n i + 1) else (M30.pr n i + 1, i + 1)) → tRet (tCB (rSorted K) (tCons (tOp rCat (tLc (iList K (tVar 0)) (gName 6) (tTest (tOp rNe (tVar 6) (tVar 4))) (tVar 6) [6]) (tLst (tCons (tVar 5) tNil))) tNil)) { nx := fun x H' => Q V.non H', rt := Q }
          [some (.ref a), some (.int ((i : Int) + 1)), some (.int (n : Int)), some (.int ((M30.pr n i + 1 : Nat) : Int)), some (.int (gone : Int)), some (.int (come : Int)), none] H2 := fun gone come H2 e2 hg => by
        have e12 := e1.trans e2
        have pb := M30.bl_sw hi (by omega) c hg
        refine s_retL (xs := (blI n (M30.sw n i f)).map V.int) (el_sorted (ns := ((M30.bl n f).filter (fun x => decide (x ≠ gone))).map (fun x : Nat => (x : Int)) ++ [(come : Int)]) ?_ ?_ fun ns' pm sr => ?_) fun p H3 np e3 hp => (q2 c) p H3 (fresh_back e12 np) (e12.trans e3) hp
        · rw [List.map_append]
          have bl2 := blI_len n f
          have ef : (((M30.bl n f).filter (fun x => decide (x ≠ gone))).map (fun x : Nat => (x : Int))) = (blI n f).filter (fun x => !decide (x = (gone : Int))) := by
            unfold blI
            rw [List.filter_map]
            refine congrArg (List.map _) (List.filter_congr fun x _ => ?_)
            show decide (x ≠ gone) = !decide ((x : Int) = (gone : Int))
            by_cases z : x = gone
            · simp [z]
            · have z2 : ¬ (x : Int) = (gone : Int) := by omega
              simp [z, z2]
          rw [ef, ← given_sel]
          refine el_cat (el_lcL (K := K) (xs := (blI n f).map V.int) (fun i => !decide ((blI n f).getD i 0 = (gone : Int))) (fun i => V.int ((blI n f).getD i 0)) (ev_var rfl) (ex_l e12 hS) (by rw [List.length_map]; omega) (fun x => rfl) (fun k x H8 e8 hx => ?_) (fun k x H8 e8 hx _ => ?_) |> fun z => by rw [List.length_map] at z; exact z) (el_lst (ea_cons (ev_var rfl) ea_nil) (by show 1 ≤ 100000; decide)) ?_
          · obtain ⟨x', hx', rfl⟩ := map_at hx
            rw [show (blI n f).getD k 0 = x' by rw [List.getD_eq_getElem?_getD, hx']; rfl]
            refine et_test (ev_op (ev_var rfl) (ev_var rfl) fun H9 e9 Q9 q9 => ⟨rfl, ?_⟩)
            rw [dec_vi]
            exact q9 H9 (Ex.refl H9)
          · obtain ⟨x', hx', rfl⟩ := map_at hx
            rw [show (blI n f).getD k 0 = x' by rw [List.getD_eq_getElem?_getD, hx']; rfl]
            exact ev_var rfl
          · unfold given
            rw [List.length_map]
            have := List.length_filter_le (fun i => !decide ((blI n f).getD i 0 = (gone : Int))) (List.range (blI n f).length)
            rw [List.length_range] at this
            show _ + 1 ≤ 100000
            omega
        · have h1 := pb.length_eq
          rw [List.length_append] at h1
          have h2 := blI_len n (M30.sw n i f)
          unfold blI at h2
          rw [List.length_map] at h2
          rw [List.length_append, List.length_map]
          simp at h1 ⊢
          omega
        · have p2 : ns'.Perm (blI n (M30.sw n i f)) := pm.trans (by
            have z := pb.map (fun x : Nat => (x : Int))
            rw [List.map_append] at z
            exact z)
          have s2 : (blI n (M30.sw n i f)).Pairwise (· ≤ ·) := by
            unfold blI
            rw [List.pairwise_map]
            exact (M30.bl_brk n (M30.sw n i f)).up.imp fun h => by omega
          exact p2.eq_of_pairwise (fun x y _ _ h1 h2 => Int.le_antisymm h1 h2) sr s2
      refine (et_test (v1 _ (ev_var rfl) (ev_var rfl))) H1 e1 _ fun H2 e2 => ?_
      by_cases y : f i = true
      · rw [y]
        refine iteT ⟨_, rfl, _, rfl, (by show 2 ≤ sizeLine; decide), fun T nT => ⟨T, _, rfl, .inl (.inl upd_same), rfl, _, _, rfl, _, _, rfl, rfl, ?_⟩⟩
        exact rest (i + 1) (M30.pr n i + 1) _ (e2.trans (Ex.new nT)) (by rw [if_pos y])
      · rw [Bool.eq_false_iff.mpr y]
        refine iteF ⟨_, rfl, _, rfl, (by show 2 ≤ sizeLine; decide), fun T nT => ⟨T, _, rfl, .inl (.inl upd_same), rfl, _, _, rfl, _, _, rfl, rfl, ?_⟩⟩
        exact rest (M30.pr n i + 1) (i + 1) _ (e2.trans (Ex.new nT)) (by rw [if_neg y])
end
end K30

namespace K30
open PySem PySem.Spec PyProof.Rows L2 Vf Evl
theorem ExA.new {a p : Addr} {H H' : Hp} {o : HO} (e : ExA a H H') (h : H' p = none) : ExA a H (L2.upd H' p o) := fun b u ne hb => by
  have z := e b u ne hb
  rw [upd_ne (ne_of_none z h)]
  exact z
theorem ExA.mut {a p : Addr} {H H' : Hp} {o : HO} (e : ExA a H H') (h : H p = none) : ExA a H (L2.upd H' p o) := fun b u ne hb => by
  rw [upd_ne (ne_of_none hb h)]
  exact e b u ne hb
theorem seqIx {i : Int} {n : Nat} (h0 : 0 ≤ i) (h1 : i < n) : seqIndex? i n = some i.toNat := by
  unfold seqIndex?
  rw [if_neg (show ¬ i < 0 by omega)]
  simp [h0, h1]
section
variable {P : Program} {w : World} {K : PySem.W.Frag} {mg : Str → Option Value} {base : Heap} {A : Ad}
def sp_l_mixed (K : PySem.W.Frag) : Sp := fun vs H Q _ => ∃ (d a : Addr) (k : Int) (xs : List V), vs = [.ref d, .ref a] ∧ Dr H d k ∧ (0 ≤ k ∧ k + xs.length < 2 ^ 40) ∧ SqL K H a xs ∧ xs.length ≤ 1000 ∧
  (∀ H', ExA d H H' → ∀ x ∈ xs, Sh K H' x) ∧ ∀ (ys : List V) (p : Addr) (H2 : Hp), ys.Perm xs → H p = none → ExA d H H2 → Dr H2 d (k + xs.length) → H2 p = some (.lst ys) → Q (.ref p) H2
theorem ok_l_mixed (T : Txt K mg A) : FnOk P w K mg base CX0 2 A.f_l_mixed A.d_l_mixed ["_law_draws_here", "_law_some"] (sp_l_mixed K) := by
  have G_l_next : FnOk P w K mg base CX0 1 A.f_l_next A.d_l_next ["_law_draws_here"] sp_l_next := ok_l_next T
  refine T.F_l_mixed.ok sc_l_mixed (fun vs H Q E h => ?_) (fun cdv A' outer s H vs Q E hr h => ?_)
  · obtain ⟨d, a, k, xs, rfl, _⟩ := h
    rfl
  · obtain ⟨d, a, k, xs, rfl, hd, hk, hS, hl, hsh, q⟩ := h
    refine ⟨_, (pss_cons (ps_set (i := 2) sc_l_mixed.nd rfl (by first | exact .inl rfl | exact .inr rfl) (pe_callTy (call_listK (K := K) rfl) (by rfl) T.z_list (by decide +kernel) (pa_cons (pv 1) pa_nil)))
      (pss_cons (ps_set (i := 3) sc_l_mixed.nd rfl (by first | exact .inl rfl | exact .inr rfl) (pe_lst pa_nil))
      (pss_cons (ps_while PassesOwn.never (pt_cmpR (op_neD hr.units) (pv 2) (pe_lst pa_nil) (nomark _)) (pss_one (ps_expr (pe_bmK (K := K) rfl PySem.F.plainAttrs_list PySem.F.slot_list_append PySem.F.type_list_append mt_append (pv 3) (pa_cons (pe_bmK (K := K) rfl PySem.F.plainAttrs_list PySem.F.slot_list_pop PySem.F.type_list_pop mt_popAt (pv 2) (pa_cons (pe_op op_modN (pe_callTy call_int1 (by rfl) T.z_int (by decide +kernel) (pa_cons (pe_call G_l_next (hr.mono (by decide)) (by rfl) T.g_l_next T.F_l_next.kp T.b_l_next .nil pass0 (pa_cons (pv 0) pa_nil)) pa_nil)) (pe_callB (call_lenK (K := K) rfl) (by rfl) T.z_len PySem.boot_len (pa_cons (pv 2) pa_nil))) pa_nil)) pa_nil)))))
      (pss_one (ps_ret (pv 3)))))), ?_⟩
    have hdn : H d ≠ none := by
      obtain ⟨x, b, h⟩ := hd
      rw [h]
      exact fun z => nomatch z
    -- left = list(some); told = []
    refine ⟨_, rfl, a, xs, rfl, .inl hS, fun l nl => ?_⟩
    have e1 : Ex H (upd H l (.lst xs)) := Ex.new nl
    refine ⟨Nat.zero_le _, fun t nt => ?_⟩
    have e2 : Ex (upd H l (.lst xs)) (upd (upd H l (.lst xs)) t (.lst [])) := Ex.new nt
    have nlt : l ≠ t := ne_of_none upd_same nt
    have nt0 : H t = none := fresh_back e1 nt
    have ndl : d ≠ l := fun z => hdn (z ▸ nl)
    have ndt : d ≠ t := fun z => hdn (z ▸ nt0)
    refine ⟨fun m σ' H' => σ' = [some (.ref d), some (.ref a), some (.ref l), some (.ref t)] ∧ ∃ ls ts : List V, H' l = some (.lst ls) ∧ H' t = some (.lst ts) ∧ m = ls.length ∧
        (ts ++ ls).Perm xs ∧ ExA d H H' ∧ Dr H' d (k + ts.length), ⟨xs.length, rfl, xs, [], e2 _ _ upd_same, upd_same, rfl, .refl _, ExA.of (e1.trans e2), ?_⟩, ?_⟩
    · have z := hd.on (e1.trans e2)
      simpa using z
    rintro m σ' H' ⟨rfl, ls, ts, h1, h2, rfl, pm, e, hd'⟩
    have hsub : ∀ x ∈ ls, x ∈ xs := fun x hx => pm.mem_iff.mp (List.mem_append_right _ hx)
    have hlen : ts.length + ls.length = xs.length := by rw [← List.length_append]; exact pm.length_eq
    -- while left != []
    refine ⟨_, rfl, Nat.zero_le _, fun z nz => ?_⟩
    have e3 : Ex H' (upd H' z (.lst [])) := Ex.new nz
    refine ne_nil (.inl (.inl (e3 _ _ h1))) upd_same (fun x hx => hsh _ (e.trans (ExA.of e3)) x (hsub x hx)) ⟨_, rfl, ?_⟩
    have h1' := e3 _ _ h1
    have h2' := e3 _ _ h2
    have hd3 := hd'.on e3
    have ee := e.trans (ExA.of (a := d) e3)
    generalize upd H' z (.lst []) = H3 at e3 h1' h2' hd3 ee
    cases ls with
    | nil =>
      refine iteF ?_
      rw [List.append_nil] at pm
      refine ⟨_, rfl, q ts t H3 pm nt0 ee ?_ h2'⟩
      have hl0 : ts.length = xs.length := by simpa using hlen
      rw [← hl0]
      exact hd3
    | cons y0 ls =>
      refine iteT ⟨fun σ' H' => ∃ m', m' < (y0 :: ls).length ∧ (σ' = [some (.ref d), some (.ref a), some (.ref l), some (.ref t)] ∧ ∃ ls ts : List V, H' l = some (.lst ls) ∧ H' t = some (.lst ts) ∧ m' = ls.length ∧
        (ts ++ ls).Perm xs ∧ ExA d H H' ∧ Dr H' d (k + ts.length)), fun σ' H' z => z, ?_⟩
      -- told.append(left.pop(int(next(draws)) % len(left)))
      refine ⟨_, rfl, .inl ⟨rfl, _, .inl (.inl h2')⟩, _, rfl, .inl ⟨rfl, _, .inl (.inl h1')⟩, _, rfl, d, _, rfl, hd3, ⟨by omega, by simp only [List.length_cons] at hlen; omega⟩, fun r H4 hr0 e4 hd4 => ?_⟩
      have h1'' := e4 _ _ ndl.symm h1'
      have h2'' := e4 _ _ ndt.symm h2'
      refine .inl ⟨r, rfl, _, rfl, l, _, rfl, .inl (.inl (.inl h1'')), _, _, rfl, rfl, (by simp only [List.length_cons]; omega), ?_⟩
      have fm := fmod_at (i := r) (j := ((y0 :: ls).length : Int)) (by simp only [List.length_cons]; omega)
      generalize hi : r.fmod ((y0 :: ls).length : Int) = i at fm
      have hi' : i.toNat < (y0 :: ls).length := by omega
      have hll : (y0 :: ls).length ≤ 1000 := by omega
      refine ⟨l, y0 :: ls, i, i.toNat, (y0 :: ls)[i.toNat], rfl, by rw [← hi], h1'', by omega, by omega, seqIx fm.1 fm.2, List.getElem?_eq_getElem hi', ?_⟩
      have h3 : (upd H4 l (.lst ((y0 :: ls).eraseIdx i.toNat))) t = some (.lst ts) := by rw [upd_ne nlt.symm]; exact h2''
      refine ⟨t, ts, _, rfl, rfl, h3, sz_lt (by omega), ?_⟩
      have pm2 := erase_perm (y0 :: ls) i.toNat (y0 :: ls)[i.toNat] (List.getElem?_eq_getElem hi')
      refine ⟨((y0 :: ls).eraseIdx i.toNat).length, by rw [List.length_eraseIdx_of_lt hi']; omega, rfl, (y0 :: ls).eraseIdx i.toNat, ts ++ [(y0 :: ls)[i.toNat]], ?_, upd_same, rfl, ?_, ?_, ?_⟩
      · rw [upd_ne nlt]; exact upd_same
      · rw [List.append_assoc]
        exact (List.Perm.append_left ts pm2).trans pm
      · exact ExA.mut (ExA.mut (ee.trans e4) nl) nt0
      · obtain ⟨x, b, hx⟩ := hd4
        refine ⟨x, b, ?_⟩
        rw [upd_ne ndt, upd_ne ndl, hx, List.length_append]
        simp only [List.length_cons, List.length_nil]
        rw [show k + (ts.length : Int) + 1 = k + ((ts.length + (0 + 1) : Nat) : Int) by omega]
end
end K30

namespace K30
open PySem PySem.Spec PyProof.Rows L2 Vf Evl
/-! ### a drawn net: its ties by their places in a line of all seats -/
structure LineOk (n : Nat) (ln : List Int) : Prop where
  len : ln.length = n
  nd : ln.Nodup
  at_ : ∀ x ∈ ln, 1 ≤ x ∧ x ≤ (n : Int)
abbrev at0 (ln : List Int) (i : Nat) : Int := ln.getD i 0
theorem LineOk.mem {n : Nat} {ln : List Int} (L : LineOk n ln) {i : Nat} (h : i < n) : at0 ln i ∈ ln := by
  have h' : i < ln.length := by rw [L.len]; exact h
  unfold at0
  rw [List.getD_eq_getElem?_getD, List.getElem?_eq_getElem h']
  exact List.getElem_mem h'
theorem LineOk.inj {n : Nat} {ln : List Int} (L : LineOk n ln) {i j : Nat} (hi : i < n) (hj : j < n) (e : at0 ln i = at0 ln j) : i = j := by
  have hi' : i < ln.length := by rw [L.len]; exact hi
  have hj' : j < ln.length := by rw [L.len]; exact hj
  unfold at0 at e
  rw [List.getD_eq_getElem?_getD, List.getD_eq_getElem?_getD, List.getElem?_eq_getElem hi', List.getElem?_eq_getElem hj'] at e
  exact (List.getElem_inj L.nd).mp e
/-- t ties the seats at the places i, j of the line -/
def Ties2 (ln : List Int) (i j : Nat) (t : Int × Int) : Prop := t = (at0 ln i, at0 ln j) ∨ t = (at0 ln j, at0 ln i)
theorem nrm_swap (x y : Int) : nrm (x, y) = nrm (y, x) := by
  unfold nrm
  by_cases c : x ≤ y <;> by_cases d : y ≤ x <;> simp only [c, d, if_true, if_false]
  · rw [show x = y by omega]
  · omega
theorem nrm_cases {x y u v : Int} (h : nrm (x, y) = nrm (u, v)) : (x = u ∧ y = v) ∨ (x = v ∧ y = u) := by
  unfold nrm at h
  by_cases c : x ≤ y <;> by_cases d : u ≤ v <;> simp only [c, d, if_true, if_false] at h <;> injection h with h1 h2
  · exact .inl ⟨h1, h2⟩
  · exact .inr ⟨h1, h2⟩
  · exact .inr ⟨h2, h1⟩
  · exact .inl ⟨h2, h1⟩
theorem Ties2.nrm {ln : List Int} {i j : Nat} {t : Int × Int} (h : Ties2 ln i j t) : nrm t = nrm (at0 ln i, at0 ln j) := by
  rcases h with rfl | rfl
  · rfl
  · exact nrm_swap _ _
theorem ties_apart {n : Nat} {ln : List Int} (L : LineOk n ln) {i j i' j' : Nat} {t t' : Int × Int} (h : Ties2 ln i j t) (h' : Ties2 ln i' j' t') (hi : i < n) (hj : j < n) (hi' : i' < n) (hj' : j' < n) (e : nrm t = nrm t') :
    (i = i' ∧ j = j') ∨ (i = j' ∧ j = i') := by
  rw [h.nrm, h'.nrm] at e
  rcases nrm_cases e with ⟨a, b⟩ | ⟨a, b⟩
  · exact .inl ⟨L.inj hi hi' a, L.inj hj hj' b⟩
  · exact .inr ⟨L.inj hi hj' a, L.inj hj hi' b⟩
structure Good (n : Nat) (ln : List Int) (a o : Nat) (ts : List (Int × Int)) : Prop where
  pl : ∀ t ∈ ts, ∃ i j, i < j ∧ j < n ∧ (j < a ∨ (j = a ∧ i < o)) ∧ Ties2 ln i j t
  nd : (ts.map nrm).Nodup
  few : 2 * ts.length ≤ a * (a - 1) + 2 * o
theorem Good.nil (n : Nat) (ln : List Int) : Good n ln 1 0 [] := ⟨(fun t h => by cases h), List.nodup_nil, Nat.zero_le _⟩
theorem Good.mono {n : Nat} {ln : List Int} {a o o' : Nat} {ts : List (Int × Int)} (g : Good n ln a o ts) (h : o ≤ o') : Good n ln a o' ts := by
  refine ⟨fun t ht => ?_, g.nd, by have := g.few; omega⟩
  obtain ⟨i, j, a1, a2, a3, a4⟩ := g.pl t ht
  exact ⟨i, j, a1, a2, by omega, a4⟩
theorem Good.next {n : Nat} {ln : List Int} {a : Nat} {ts : List (Int × Int)} (g : Good n ln a a ts) (h : 1 ≤ a) : Good n ln (a + 1) 0 ts := by
  refine ⟨fun t ht => ?_, g.nd, ?_⟩
  · obtain ⟨i, j, a1, a2, a3, a4⟩ := g.pl t ht
    exact ⟨i, j, a1, a2, by omega, a4⟩
  · have z := g.few
    obtain ⟨b, rfl⟩ : ∃ b, a = b + 1 := ⟨a - 1, by omega⟩
    have e : (b + 1) * (b + 1 - 1) + 2 * (b + 1) = (b + 1 + 1) * (b + 1 + 1 - 1) + 2 * 0 := by
      rw [Nat.add_sub_cancel, Nat.add_sub_cancel, Nat.mul_comm (b + 1 + 1) (b + 1), Nat.mul_add (b + 1) (b + 1) 1, Nat.mul_add (b + 1) b 1]
      omega
    omega
theorem nodup_snoc {α : Type} {l : List α} {x : α} (h : l.Nodup) (hx : x ∉ l) : (l ++ [x]).Nodup := by
  refine List.nodup_append.mpr ⟨h, by simp, fun a ha b hb e => ?_⟩
  rw [List.mem_singleton.mp hb] at e
  exact hx (e ▸ ha)
theorem Good.add {n : Nat} {ln : List Int} {a o i : Nat} {ts : List (Int × Int)} {t : Int × Int} (L : LineOk n ln) (g : Good n ln a o ts) (ha : a < n) (hi : i < a) (ho : o ≤ i) (ht : Ties2 ln i a t) : Good n ln a (i + 1) (ts ++ [t]) := by
  refine ⟨fun u hu => ?_, ?_, ?_⟩
  · rcases List.mem_append.mp hu with hu | hu
    · exact (g.mono (by omega : o ≤ i + 1)).pl u hu
    · rw [List.mem_singleton.mp hu]
      exact ⟨i, a, hi, ha, .inr ⟨rfl, Nat.lt_succ_self i⟩, ht⟩
  · rw [List.map_append]
    refine nodup_snoc g.nd fun hm => ?_
    obtain ⟨u, hu, e⟩ := List.mem_map.mp hm
    obtain ⟨i', j', a1, a2, a3, a4⟩ := g.pl u hu
    rcases ties_apart L a4 ht (by omega) a2 (by omega) ha e with ⟨b1, b2⟩ | ⟨b1, b2⟩ <;> omega
  · have z := g.few
    rw [List.length_append, List.length_singleton]
    omega
theorem Good.net {n : Nat} {ln : List Int} {o : Nat} {ts : List (Int × Int)} (L : LineOk n ln) (g : Good n ln n 0 ts) (h3 : 3 ≤ n) (h40 : n ≤ 40) : NetOk (n : Int) ts := by
  refine ⟨by omega, by omega, fun t ht => ?_, g.nd, ?_⟩
  · obtain ⟨i, j, a1, a2, a3, a4⟩ := g.pl t ht
    have b1 := L.at_ _ (L.mem (show i < n by omega))
    have b2 := L.at_ _ (L.mem a2)
    have b3 : at0 ln i ≠ at0 ln j := fun e => by
      have := L.inj (by omega) a2 e
      omega
    rcases a4 with rfl | rfl
    · exact ⟨b1, b2, b3⟩
    · exact ⟨b2, b1, b3.symm⟩
  · have z := g.few
    have y : n * (n - 1) ≤ 40 * 39 := Nat.mul_le_mul h40 (by omega)
    omega
/-- neighbours in the line, and its ends -/
theorem Good.ring {n : Nat} {ln : List Int} {ts : List (Int × Int)} (L : LineOk n ln) (g : Good n ln n 0 ts) (h3 : 3 ≤ n) (h40 : n ≤ 40) (hn : ∀ t ∈ ts, ∃ i, i + 1 < n ∧ Ties2 ln i (i + 1) t) :
    NetOk (n : Int) (ts ++ [(at0 ln 0, at0 ln (n - 1))]) := by
  have N := Good.net (o := 0) L g h3 h40
  have b1 := L.at_ _ (L.mem (show 0 < n by omega))
  have b2 := L.at_ _ (L.mem (show n - 1 < n by omega))
  refine ⟨N.lo, N.hi, fun t ht => ?_, ?_, ?_⟩
  · rcases List.mem_append.mp ht with ht | ht
    · exact N.ok t ht
    · rw [List.mem_singleton.mp ht]
      refine ⟨b1, b2, fun e => ?_⟩
      have := L.inj (by omega) (by omega) e
      omega
  · rw [List.map_append]
    refine nodup_snoc g.nd fun hm => ?_
    obtain ⟨u, hu, e⟩ := List.mem_map.mp hm
    obtain ⟨i, a1, a2⟩ := hn u hu
    rcases ties_apart L a2 (.inl rfl : Ties2 ln 0 (n - 1) _) (by omega) a1 (by omega) (by omega) e with ⟨c1, c2⟩ | ⟨c1, c2⟩ <;> omega
  · rw [List.length_append, List.length_singleton]
    have z := g.few
    have y : n * (n - 1) ≤ 40 * 39 := Nat.mul_le_mul h40 (by omega)
    omega
/-! ### the list of ties while it is made -/
def TM (H : Hp) (a : Addr) (ts : List (Int × Int)) : Prop :=
  ∃ as : List Addr, H a = some (.lst (as.map V.ref)) ∧ as.length = ts.length ∧ a ∉ as ∧ ∀ (i : Nat) (b : Addr) (t : Int × Int), as[i]? = some b → ts[i]? = some t → H b = some (.lst [.int t.1, .int t.2])
theorem TM.on {H H' : Hp} {a : Addr} {ts : List (Int × Int)} (h : TM H a ts) (e : Ex H H') : TM H' a ts := by
  obtain ⟨as, h1, h2, h3, h4⟩ := h
  exact ⟨as, e _ _ h1, h2, h3, fun i b t x y => e _ _ (h4 i b t x y)⟩
theorem TM.at_ {K : PySem.W.Frag} {H : Hp} {a : Addr} {ts : List (Int × Int)} (h : TM H a ts) : TiesAt K H a ts := by
  obtain ⟨as, h1, h2, h3, h4⟩ := h
  exact ⟨as, .inl (.inl h1), h2, fun i b t x y => .inl (.inl (h4 i b t x y))⟩
theorem TM.exA {H H' : Hp} {a d : Addr} {k : Int} {ts : List (Int × Int)} (h : TM H a ts) (hd : Dr H d k) (e : ExA d H H') : TM H' a ts := by
  obtain ⟨as, h1, h2, h3, h4⟩ := h
  obtain ⟨x, b, hx⟩ := hd
  refine ⟨as, e _ _ ?_ h1, h2, h3, fun i b t x y => e _ _ ?_ (h4 i b t x y)⟩
  · rintro rfl
    rw [hx] at h1
    cases as with
    | nil => cases h1
    | cons _ _ => cases h1
  · rintro rfl
    have z := h4 i _ t x y
    rw [hx] at z
    cases z
theorem TM.push {H : Hp} {a p : Addr} {ts : List (Int × Int)} (h : TM H a ts) (np : H p = none) (x y : Int) :
    ∃ as : List Addr, (upd H p (.lst [.int x, .int y])) a = some (.lst (as.map V.ref)) ∧ as.length = ts.length ∧ TM (upd (upd H p (.lst [.int x, .int y])) a (.lst (as.map V.ref ++ [.ref p]))) a (ts ++ [(x, y)]) := by
  obtain ⟨as, h1, h2, h3, h4⟩ := h
  have nap : a ≠ p := ne_of_none h1 np
  refine ⟨as, by rw [upd_ne nap]; exact h1, h2, as ++ [p], by rw [upd_same, List.map_append]; rfl, by simp [h2], ?_, ?_⟩
  · intro hm
    rcases List.mem_append.mp hm with hm | hm
    · exact h3 hm
    · exact nap (List.mem_singleton.mp hm)
  · intro i b t hb ht
    by_cases hi : i < as.length
    · rw [List.getElem?_append_left hi] at hb
      rw [List.getElem?_append_left (by rw [← h2]; exact hi)] at ht
      have z := h4 i b t hb ht
      have nba : b ≠ a := fun e => h3 (e ▸ List.mem_of_getElem? hb)
      rw [upd_ne nba, upd_ne (ne_of_none z np)]
      exact z
    · have hi2 : i = as.length := by
        have z := (List.getElem?_eq_some_iff.mp hb).1
        rw [List.length_append, List.length_singleton] at z
        omega
      rw [hi2, List.getElem?_append_right (Nat.le_refl _), Nat.sub_self] at hb
      rw [hi2, h2, List.getElem?_append_right (Nat.le_refl _), Nat.sub_self] at ht
      cases hb
      cases ht
      rw [upd_ne nap.symm]
      exact upd_same
end K30

namespace K30
open PySem PySem.Spec PyProof.Rows L2 Vf Evl
theorem TM.push2 {H : Hp} {a : Addr} {ts : List (Int × Int)} (h : TM H a ts) (x y : Int) :
    ∃ as : List Addr, H a = some (.lst (as.map V.ref)) ∧ as.length = ts.length ∧ ∀ (p : Addr) (H1 : Hp), H p = none → Ex H H1 → H1 p = some (.lst [.int x, .int y]) → TM (upd H1 a (.lst (as.map V.ref ++ [.ref p]))) a (ts ++ [(x, y)]) := by
  obtain ⟨as, h1, h2, h3, h4⟩ := h
  refine ⟨as, h1, h2, fun p H1 np e hp => ?_⟩
  have nap : a ≠ p := ne_of_none h1 np
  refine ⟨as ++ [p], by rw [upd_same, List.map_append]; rfl, by simp [h2], ?_, ?_⟩
  · intro hm
    rcases List.mem_append.mp hm with hm | hm
    · exact h3 hm
    · exact nap (List.mem_singleton.mp hm)
  · intro i b t hb ht
    by_cases hi : i < as.length
    · rw [List.getElem?_append_left hi] at hb
      rw [List.getElem?_append_left (by rw [← h2]; exact hi)] at ht
      have nba : b ≠ a := fun e => h3 (e ▸ List.mem_of_getElem? hb)
      rw [upd_ne nba]
      exact e _ _ (h4 i b t hb ht)
    · have hi2 : i = as.length := by
        have z := (List.getElem?_eq_some_iff.mp hb).1
        rw [List.length_append, List.length_singleton] at z
        omega
      rw [hi2, List.getElem?_append_right (Nat.le_refl _), Nat.sub_self] at hb
      rw [hi2, h2, List.getElem?_append_right (Nat.le_refl _), Nat.sub_self] at ht
      cases hb
      cases ht
      rw [upd_ne nap.symm]
      exact hp
/-- the net while it is drawn: behind the ties of the places below a, and of a with those below o -/
def NS (H : Hp) (d pl pt : Addr) (ln : List Int) (n : Nat) (kd kmax : Int) (a o : Nat) (H' : Hp) : Prop :=
  ∃ (ts : List (Int × Int)) (k' : Int), TM H' pt ts ∧ H' pl = some (.lst (ln.map V.int)) ∧ ExA d H H' ∧ Dr H' d k' ∧ (0 ≤ k' ∧ k' ≤ kmax) ∧ Good n ln a o ts ∧ (kd = 4 → ∀ t ∈ ts, ∃ i, i + 1 < n ∧ Ties2 ln i (i + 1) t)
section
variable {H H' H1 : Hp} {d pl pt : Addr} {ln : List Int} {n : Nat} {kd kmax : Int} {a o i : Nat}
theorem NS.on (h : NS H d pl pt ln n kd kmax a o H') (e : Ex H' H1) : NS H d pl pt ln n kd kmax a o H1 := by
  obtain ⟨ts, k', h1, h2, h3, h4, h5, h6, h7⟩ := h
  exact ⟨ts, k', h1.on e, e _ _ h2, h3.trans (ExA.of e), h4.on e, h5, h6, h7⟩
theorem NS.mono {o' : Nat} {kmax' : Int} (h : NS H d pl pt ln n kd kmax a o H') (ho : o ≤ o') (hk : kmax ≤ kmax') : NS H d pl pt ln n kd kmax' a o' H' := by
  obtain ⟨ts, k', h1, h2, h3, h4, h5, h6, h7⟩ := h
  exact ⟨ts, k', h1, h2, h3, h4, by omega, h6.mono ho, h7⟩
theorem NS.next (h : NS H d pl pt ln n kd kmax a a H') (ha : 1 ≤ a) : NS H d pl pt ln n kd kmax (a + 1) 0 H' := by
  obtain ⟨ts, k', h1, h2, h3, h4, h5, h6, h7⟩ := h
  exact ⟨ts, k', h1, h2, h3, h4, h5, h6.next ha, h7⟩
theorem NS.push (h : NS H d pl pt ln n kd kmax a o H') (L : LineOk n ln) (ha : a < n) (hi : i < a) (ho : o ≤ i) {x y : Int} (hx : Ties2 ln i a (x, y)) (h4 : kd = 4 → i + 1 = a) (hn : H pt = none) (hp : pl ≠ pt) (hd : d ≠ pt) (h40 : n ≤ 40) :
    ∃ as : List Addr, H' pt = some (.lst (as.map V.ref)) ∧ as.length < 2000 ∧ ∀ (p : Addr) (H1 : Hp), H' p = none → Ex H' H1 → H1 p = some (.lst [.int x, .int y]) → NS H d pl pt ln n kd kmax a (i + 1) (upd H1 pt (.lst (as.map V.ref ++ [.ref p]))) := by
  obtain ⟨ts, k', h1, h2, h3, ⟨xx, bb, hdr⟩, h5, h6, h7⟩ := h
  obtain ⟨as, a1, a2, a3⟩ := h1.push2 x y
  have few := h6.few
  have y1 : a * (a - 1) ≤ 40 * 40 := Nat.mul_le_mul (by omega) (by omega)
  refine ⟨as, a1, by omega, fun p H1 np e hpp => ⟨ts ++ [(x, y)], k', a3 p H1 np e hpp, ?_, (h3.trans (ExA.of e)).mut hn, ⟨xx, bb, ?_⟩, h5, h6.add L ha hi ho hx, fun c t ht => ?_⟩⟩
  · rw [upd_ne hp]; exact e _ _ h2
  · rw [upd_ne hd]; exact e _ _ hdr
  · rcases List.mem_append.mp ht with ht | ht
    · exact h7 c t ht
    · rw [List.mem_singleton.mp ht]
      have := h4 c
      exact ⟨i, by omega, by rw [show i + 1 = a from this]; exact hx⟩
/-- behind a draw -/
theorem NS.draw {ts : List (Int × Int)} {k' : Int} (h1 : TM H' pt ts) (h2 : H' pl = some (.lst (ln.map V.int))) (h3 : ExA d H H') (h4 : Dr H' d k') (h5 : 0 ≤ k' ∧ k' ≤ kmax) (h6 : Good n ln a o ts)
    (h7 : kd = 4 → ∀ t ∈ ts, ∃ i, i + 1 < n ∧ Ties2 ln i (i + 1) t) (e : ExA d H' H1) (hd : Dr H1 d (k' + 1)) (hp : pl ≠ d) : NS H d pl pt ln n kd (kmax + 1) a o H1 :=
  ⟨ts, k' + 1, h1.exA h4 e, e _ _ hp h2, h3.trans e, hd, by omega, h6, h7⟩
end
theorem in14 (k : Int) : inV (.int k) [.int 1, .int 4] = (decide (k = 1) || decide (k = 4)) := by
  show ((1 : Int) == k || ((4 : Int) == k || false)) = _
  rw [Bool.or_false, Bool.eq_iff_iff]
  simp only [Bool.or_eq_true, beq_iff_eq, decide_eq_true_eq]
  omega
theorem cut_to (xs : List V) (k : Nat) : cutV xs none (some (k : Int)) = xs.take k := by
  unfold cutV
  rw [HT.sIx_none, HT.sIx_nat]
  by_cases h : k ≤ xs.length
  · rw [Nat.min_eq_left h]
    rfl
  · rw [Nat.min_eq_right (by omega), List.take_of_length_le (by show (xs.drop 0).length ≤ _; simp), List.take_of_length_le (by omega)]
    rfl
end K30

namespace K30
open PySem PySem.Spec PyProof.Rows L2 Vf Evl
theorem line_of {n : Int} (hn : 0 ≤ n) {ys : List V} (h : ys.Perm (rgV 1 (n + 1))) : ∃ ln : List Int, ys = ln.map V.int ∧ LineOk n.toNat ln := by
  let un : V → Int := fun v => match v with | .int i => i | _ => 0
  have e0 : rgV 1 (n + 1) = ((List.range n.toNat).map fun i : Nat => 1 + (i : Int)).map V.int := by
    unfold rgV
    rw [List.map_map, show (n + 1 - 1).toNat = n.toNat by omega]
    rfl
  have e1 : (((List.range n.toNat).map fun i : Nat => 1 + (i : Int)).map V.int).map un = (List.range n.toNat).map fun i : Nat => 1 + (i : Int) := by
    rw [List.map_map]
    exact (List.map_congr_left fun _ _ => rfl).trans (List.map_id _)
  rw [e0] at h
  have hp : (ys.map un).Perm ((List.range n.toNat).map fun i : Nat => 1 + (i : Int)) := by
    have z := h.map un
    rw [e1] at z
    exact z
  refine ⟨ys.map un, ?_, ?_, ?_, ?_⟩
  · rw [List.map_map]
    refine ((List.map_congr_left fun v hv => ?_).trans (List.map_id _)).symm
    obtain ⟨i, _, rfl⟩ := List.mem_map.mp (h.mem_iff.mp hv)
    rfl
  · rw [hp.length_eq]
    simp
  · refine hp.nodup_iff.mpr ?_
    refine List.Pairwise.map _ (fun a b hab => ?_) List.nodup_range
    intro e
    exact hab (by omega)
  · intro x hx
    obtain ⟨i, hi, rfl⟩ := List.mem_map.mp (hp.mem_iff.mp hx)
    have := List.mem_range.mp hi
    omega
section
variable {P : Program} {w : World} {K : PySem.W.Frag} {mg : Str → Option Value} {base : Heap} {A : Ad}
def sp_l_net : Sp := fun vs H Q _ => ∃ (d : Addr) (k m : Int), vs = [.ref d, .int m] ∧ Dr H d k ∧ (0 ≤ k ∧ k < 2 ^ 39) ∧ (4 ≤ m ∧ m ≤ 40) ∧
  ∀ (n : Int) (ts : List (Int × Int)) (a t : Addr) (k' : Int) (H2 : Hp), NetOk n ts → H t = none → ExA d H H2 → Dr H2 d k' → (0 ≤ k' ∧ k' ≤ k + 5000) → TM H2 a ts → H2 t = some (.tup [.int n, .ref a]) → Q (.ref t) H2
theorem ok_l_net (T : Txt K mg A) : FnOk P w K mg base CX0 3 A.f_l_net A.d_l_net ["_law_draws_here", "_law_most"] sp_l_net := by
  have G_l_next : FnOk P w K mg base CX0 1 A.f_l_next A.d_l_next ["_law_draws_here"] sp_l_next := ok_l_next T
  have G_l_mixed : FnOk P w K mg base CX0 2 A.f_l_mixed A.d_l_mixed ["_law_draws_here", "_law_some"] (sp_l_mixed K) := ok_l_mixed T
  refine T.F_l_net.ok sc_l_net (fun vs H Q E h => ?_) (fun cdv A' outer s H vs Q E hr h => ?_)
  · obtain ⟨d, k, m, rfl, _⟩ := h
    rfl
  · obtain ⟨d, k, m, rfl, hd, hk, hm, q⟩ := h
    refine ⟨_, (pss_cons (ps_set (i := 2) sc_l_net.nd rfl (by first | exact .inl rfl | exact .inr rfl) (pe_op op_add pe_int (pe_op op_modN (pe_callTy call_int1 (by rfl) T.z_int (by decide +kernel) (pa_cons (pe_call G_l_next (hr.mono (by decide)) (by rfl) T.g_l_next T.F_l_next.kp T.b_l_next .nil pass0 (pa_cons (pv 0) pa_nil)) pa_nil)) (pe_op op_sub (pv 1) pe_int))))
      (pss_cons (ps_set (i := 3) sc_l_net.nd rfl (by first | exact .inl rfl | exact .inr rfl) (pe_op op_modN (pe_callTy call_int1 (by rfl) T.z_int (by decide +kernel) (pa_cons (pe_call G_l_next (hr.mono (by decide)) (by rfl) T.g_l_next T.F_l_next.kp T.b_l_next .nil pass0 (pa_cons (pv 0) pa_nil)) pa_nil)) pe_int))
      (pss_cons (ps_set (i := 4) sc_l_net.nd rfl (by first | exact .inl rfl | exact .inr rfl) (pe_call G_l_mixed (hr.mono (by decide)) (by rfl) T.g_l_mixed T.F_l_mixed.kp T.b_l_mixed .nil pass0 (pa_cons (pv 0) (pa_cons (pe_listRg rfl (by rfl) T.z_list (prg_2 (by rfl) T.z_range pe_int (pe_op op_add (pv 2) pe_int))) pa_nil))))
      (pss_cons (ps_set (i := 5) sc_l_net.nd rfl (by first | exact .inl rfl | exact .inr rfl) (pe_lst pa_nil))
      (pss_cons (ps_for PassesOwn.never rfl (pi_range2 (by rfl) T.z_range (pa_cons pe_int (pa_cons (pv 2) pa_nil))) (pg_name (i := 6) sc_l_net.nd rfl (by first | exact .inl rfl | exact .inr rfl)) (pss_cons (ps_set (i := 7) sc_l_net.nd rfl (by first | exact .inl rfl | exact .inr rfl) (pe_callTy call_int1 (by rfl) T.z_int (by decide +kernel) (pa_cons (pe_call G_l_next (hr.mono (by decide)) (by rfl) T.g_l_next T.F_l_next.kp T.b_l_next .nil pass0 (pa_cons (pv 0) pa_nil)) pa_nil)))
      (pss_cut (ps_if (pt_cmpR (op_inK (K := K) rfl) (pv 3) (pe_lst (pa_cons pe_int (pa_cons pe_int pa_nil))) (by rfl)) (pss_one (ps_expr (pe_bmK (K := K) rfl PySem.F.plainAttrs_list PySem.F.slot_list_append PySem.F.type_list_append mt_append (pv 5) (pa_cons (pe_lst (pa_cons (pe_ix (ix_listK (K := K) rfl) (pv 4) (pe_op op_sub (pv 6) pe_int) (fun _ _ => rfl)) (pa_cons (pe_ix (ix_listK (K := K) rfl) (pv 4) (pv 6) (fun _ _ => rfl)) pa_nil))) pa_nil)))) pss_nil)
      (pss_cut (ps_if (PW.pt (pw_or (pt_cmpR op_eq (pv 3) pe_int (nomark _)) (pw_or1 (PW.pt (pw_and (pt_cmpR op_eq (pv 3) pe_int (nomark _)) (pw_and1 (pt_cmpR op_gt (pe_op op_modN (pe_op op_fdivN (pv 7) pe_int) pe_int) pe_int (nomark _)))))))) (pss_one (ps_expr (pe_bmK (K := K) rfl PySem.F.plainAttrs_list PySem.F.slot_list_append PySem.F.type_list_append mt_append (pv 5) (pa_cons (pe_lst (pa_cons (pe_ix (ix_listK (K := K) rfl) (pv 4) (pv 6) (fun _ _ => rfl)) (pa_cons (pe_ix (ix_listK (K := K) rfl) (pv 4) (pe_op op_modN (pv 7) (pv 6)) (fun _ _ => rfl)) pa_nil))) pa_nil)))) pss_nil)
      (pss_one (ps_for PassesOwn.never rfl (pi_listK (K := K) rfl (pe_slice (sl_listK (K := K) rfl) (pv 4) po_none (po_some (pv 6)))) (pg_name (i := 8) sc_l_net.nd rfl (by first | exact .inl rfl | exact .inr rfl)) (pss_one (ps_if (PW.pt (pw_and (pt_cmpR op_eq (pv 3) pe_int (nomark _)) (pw_and1 (pt_cmpR op_eq (pe_op op_modN (pe_callTy call_int1 (by rfl) T.z_int (by decide +kernel) (pa_cons (pe_call G_l_next (hr.mono (by decide)) (by rfl) T.g_l_next T.F_l_next.kp T.b_l_next .nil pass0 (pa_cons (pv 0) pa_nil)) pa_nil)) pe_int) pe_int (nomark _))))) (pss_one (ps_expr (pe_bmK (K := K) rfl PySem.F.plainAttrs_list PySem.F.slot_list_append PySem.F.type_list_append mt_append (pv 5) (pa_cons (pe_lst (pa_cons (pe_ix (ix_listK (K := K) rfl) (pv 4) (pv 6) (fun _ _ => rfl)) (pa_cons (pv 8) pa_nil))) pa_nil)))) pss_nil))))))))
      (pss_cut (ps_if (pt_cmpR op_eq (pv 3) pe_int (nomark _)) (pss_one (ps_expr (pe_bmK (K := K) rfl PySem.F.plainAttrs_list PySem.F.slot_list_append PySem.F.type_list_append mt_append (pv 5) (pa_cons (pe_lst (pa_cons (pe_ix (ix_listK (K := K) rfl) (pv 4) pe_int (fun _ _ => rfl)) (pa_cons (pe_ix (ix_listK (K := K) rfl) (pv 4) (pe_un un_neg pe_int) (fun _ _ => rfl)) pa_nil))) pa_nil)))) pss_nil)
      (pss_one (ps_ret (pe_tup (pa_cons (pv 2) (pa_cons (pv 5) pa_nil))))))))))), ?_⟩
    have hdn : H d ≠ none := by
      obtain ⟨x, b, h⟩ := hd
      rw [h]
      exact fun z => nomatch z
    -- seats = 3 + int(next) % (most - 2)
    refine ⟨_, rfl, d, k, rfl, hd, ⟨hk.1, by omega⟩, fun r1 H1 r1p e1 hd1 => .inl ⟨r1, rfl, _, rfl, m, 2, rfl, rfl, _, _, rfl, rfl, (by omega), _, _, rfl, rfl, ?_⟩⟩
    have f1 := fmod_at (i := r1) (j := m - 2) (by omega)
    obtain ⟨n, hn⟩ : ∃ n, 3 + r1.fmod (m - 2) = n := ⟨_, rfl⟩
    have n3 : 3 ≤ n := by omega
    have n40 : n ≤ 40 := by omega
    -- kind = int(next) % 6
    refine ⟨_, rfl, d, _, rfl, hd1, ⟨by omega, by omega⟩, fun r2 H2 r2p e2 hd2 => .inl ⟨r2, rfl, _, _, rfl, rfl, (by show (6 : Int) ≠ 0; decide), ?_⟩⟩
    have f2 := fmod_at (i := r2) (j := 6) (by decide)
    obtain ⟨kd, hkd⟩ : ∃ kd, r2.fmod 6 = kd := ⟨_, rfl⟩
    rw [hkd] at f2
    -- line = mixed(list(range(1, seats + 1)))
    refine ⟨_, rfl, _, rfl, _, _, rfl, rfl, _, _, rfl, rfl, ⟨by decide, by decide, by omega, by omega, by omega⟩, fun p0 np0 => ?_⟩
    have e3 : Ex H2 (upd H2 p0 (.lst (rgV 1 (n + 1)))) := Ex.new np0
    have hp0 : (upd H2 p0 (.lst (rgV 1 (n + 1)))) p0 = some (.lst (rgV 1 (n + 1))) := upd_same
    rw [show (fun i j : Int => V.int (i + j)) 3 (r1.fmod (m - 2)) = V.int n from congrArg V.int hn, show (fun i j : Int => V.int (i.fmod j)) r2 6 = V.int kd from congrArg V.int hkd]
    try rw [hn]
    have xsl : (rgV 1 (n + 1)).length = n.toNat := by rw [rgV_length]; omega
    refine ⟨d, p0, _, rgV 1 (n + 1), rfl, hd2.on e3, ⟨by omega, by rw [xsl]; omega⟩, .inl (.inl hp0), by rw [xsl]; omega, fun H' _ x hx => ?_, fun ys pl H3 pm npl e4 hd3 hpl => ?_⟩
    · unfold rgV at hx
      obtain ⟨i, _, rfl⟩ := List.mem_map.mp hx
      exact Sh.int _
    obtain ⟨ln, rfl, L⟩ := line_of (by omega) pm
    -- ties = []
    refine ⟨Nat.zero_le _, fun pt npt => ?_⟩
    have e5 : Ex H3 (upd H3 pt (.lst [])) := Ex.new npt
    have eA : ExA d H H3 := ((e1.trans e2).trans (ExA.of e3)).trans e4
    have hpt : H pt = none := by
      cases hq : H pt with
      | none => rfl
      | some o =>
        have nd : pt ≠ d := fun z => by
          obtain ⟨x, b, hx⟩ := hd3
          rw [z, hx] at npt
          cases npt
        have z := eA _ _ nd hq
        rw [npt] at z
        cases z
    have ndt : d ≠ pt := fun z => hdn (z ▸ hpt)
    have nlt : pl ≠ pt := ne_of_none hpl npt
    have nld : pl ≠ d := fun z => by
      obtain ⟨x, b, hx⟩ := hd3
      rw [← z, hpl] at hx
      injection hx with hx
      injection hx with hx
      have := L.len
      match ln, hx with
      | [a, b, c], hx => cases hx
    have N0 : NS H d pl pt ln n.toNat kd (k + 100) 1 0 (upd H3 pt (.lst [])) := by
      refine ⟨[], _, ⟨[], upd_same, rfl, (fun z => nomatch z), (fun i b t x => nomatch x)⟩, e5 _ _ hpl, eA.trans (ExA.of e5), hd3.on e5, ?_, Good.nil _ _, fun _ t z => nomatch z⟩
      rw [xsl]
      omega
    have lnl := L.len
    have k0 := hk.1
    generalize upd H3 pt (.lst []) = H5 at N0
    clear hpl hd3 e1 e2 e3 e4 e5 eA npt pm
    refine q_forR2 (lo := 1) (n := n) (ea_cons ev_c (ea_cons (ev_var rfl) ea_nil)) (by omega) (fun i σ' H' => ∃ y6 y7 y8, σ' = [some (.ref d), some (.int m), some (.int n), some (.int kd), some (.ref pl), some (.ref pt), y6, y7, y8] ∧
        NS H d pl pt ln n.toNat kd (k + 100 + 50 * i) (i + 1) 0 H') (fun H1 e1 => ⟨none, none, none, rfl, by simpa using N0.on e1⟩) ?_ ?_
    · rintro i σ' H' hi ⟨y6, y7, y8, rfl, ts, k', h1, h2, h3, h4, h5, h6, h7⟩
      refine ⟨_, rfl, d, k', rfl, h4, ⟨h5.1, by omega⟩, fun r H1 r0 er hdr => .inl ⟨r, rfl, ?_⟩⟩
      have N1 := NS.draw (kd := kd) h1 h2 h3 h4 h5 h6 h7 er hdr nld
      clear h1 h2 h3 h4 h5 h6 h7 er hdr H'
      show tCut _ _ _ [some (V.ref d), some (V.int m), some (V.int n), some (V.int kd), some (V.ref pl), some (V.ref pt), some (V.int (1 + (i : Int))), some (V.int r), y8] H1
      generalize hS : ([some (V.ref d), some (V.int m), some (V.int n), some (V.int kd), some (V.ref pl), some (V.ref pt), some (V.int (1 + (i : Int))), some (V.int r), y8] : L2.St) = S
      have hi2 : i + 1 < n.toNat := by omega
      have at1 : ∀ H', H' pl = some (.lst (ln.map V.int)) → Ev (tOp (rIxL K) (tVar 4) (tVar 6)) S H' (.int (at0 ln (i + 1))) := fun H' h => by
        subst hS
        refine ev_op (ev_var rfl) (ev_var rfl) (rv_ixL (.inl (.inl h)) ?_)
        have z := atI_int (l := ln) (i := 1 + (i : Int)) (by omega) (by omega)
        rwa [show (1 + (i : Int)).toNat = i + 1 by omega] at z
      -- if kind in [1, 4]
      have NSpl : ∀ {kmax a o H'}, NS H d pl pt ln n.toNat kd kmax a o H' → H' pl = some (.lst (ln.map V.int)) := fun ⟨_, _, _, h, _⟩ => h
      refine q_cut (M := fun σ' H' => σ' = S ∧ NS H d pl pt ln n.toNat kd (k + 100 + 50 * ↑i + 1) (i + 1) (if kd = 1 ∨ kd = 4 then i + 1 else 0) H') ?_ ?_
      · have tst : EvT (tTest (tOp (rIn K false) (tVar 3) (tLst (tCons (tC (V.int 1)) (tCons (tC (V.int 4)) tNil))))) S H1 (decide (kd = 1) || decide (kd = 4)) := by
          rw [← in14 kd]
          subst hS
          exact et_test (ev_opL (ev_var rfl) (el_lst (ea_cons ev_c (ea_cons ev_c ea_nil)) (by decide)) fun p H' hp _ => rv_isL (.inl (.inl hp)) rfl rfl)
        refine s_if (D := { nx := fun σ' H' => σ' = S ∧ NS H d pl pt ln n.toNat kd (k + 100 + 50 * ↑i + 1) (i + 1) (if kd = 1 ∨ kd = 4 then i + 1 else 0) H' , rt := _, ct := _, bk := _ }) tst (fun c H' e => ?_) fun c H' e => ?_
        · have c : kd = 1 ∨ kd = 4 := by simpa using c
          rw [if_pos c]
          have N2 := N1.on e
          obtain ⟨as, a1, a2, a3⟩ := N2.push (i := i) L hi2 (by omega) (by omega) (.inl rfl) (fun _ => rfl) hpt nlt ndt (by omega)
          subst hS
          refine s_appL a1 (ev_var rfl) (el_lst (ea_cons (ev_op (ev_var rfl) (ev_op (ev_var rfl) ev_c rv_I0) (rv_ixL (.inl (.inl (NSpl N2))) (v := .int (at0 ln i)) ?_)) (ea_cons (at1 _ (NSpl N2)) ea_nil)) (by show 2 ≤ 100000; decide)) (by rw [List.length_map]; omega) fun p H2 np e2 hp => ⟨rfl, a3 p H2 np e2 hp⟩
          have z := atI_int (l := ln) (i := 1 + (i : Int) - 1) (by omega) (by omega)
          rwa [show (1 + (i : Int) - 1).toNat = i by omega] at z
        · have c : ¬ (kd = 1 ∨ kd = 4) := by simpa using c
          rw [if_neg c]
          exact ⟨rfl, N1.on e⟩
      rintro _ H' ⟨hS', N2⟩
      rw [hS']
      clear hS'
      -- if kind == 2 or (kind == 3 and pick // 64 % 3 > 0)
      refine q_cut (M := fun σ' H' => σ' = S ∧ NS H d pl pt ln n.toNat kd (k + 100 + 50 * ↑i + 1) (i + 1) (if kd = 5 then 0 else i + 1) H') ?_ ?_
      · have tst : EvT (tOr (tTest (tOp rEq (tVar 3) (tC (V.int 2)))) (tAnd (tTest (tOp rEq (tVar 3) (tC (V.int 3)))) (tTest (tOp (rI0 fun i j => V.bl (decide (j < i)))
              (tOp (rI (fun x j => j ≠ 0) fun i j => V.int (i.fmod j)) (tOp (rI CDivN fun i j => V.int (i.fdiv j)) (tVar 7) (tC (V.int 64))) (tC (V.int 3))) (tC (V.int 0)))))) S H' (decide (V.int kd = V.int 2) || (decide (V.int kd = V.int 3) && decide (0 < (r.fdiv 64).fmod 3))) := by
          subst hS
          exact et_or (et_test (ev_op (ev_var rfl) ev_c (rv_eq rfl))) fun _ => et_and (et_test (ev_op (ev_var rfl) ev_c (rv_eq rfl))) fun _ => et_test (ev_op (ev_op (ev_op (ev_var rfl) ev_c (rv_I ⟨by decide, by decide⟩)) ev_c (rv_I (by decide))) ev_c rv_I0)
        refine s_if (D := { nx := fun σ' H' => σ' = S ∧ NS H d pl pt ln n.toNat kd (k + 100 + 50 * ↑i + 1) (i + 1) (if kd = 5 then 0 else i + 1) H', rt := _, ct := _, bk := _ }) tst (fun c H1 e => ?_) fun c H1 e => ?_
        · rw [dec_vi, dec_vi] at c
          have c : kd = 2 ∨ kd = 3 := by
            rcases Bool.or_eq_true_iff.mp c with c | c
            · exact .inl (of_decide_eq_true c)
            · exact .inr (of_decide_eq_true (Bool.and_eq_true_iff.mp c).1)
          rw [if_neg (by omega)]
          rw [if_neg (by omega)] at N2
          have N3 := N2.on e
          have fr := fmod_at (i := r) (j := 1 + (i : Int)) (by omega)
          obtain ⟨j, hj⟩ : ∃ j : Nat, r.fmod (1 + (i : Int)) = j := ⟨(r.fmod (1 + (i : Int))).toNat, by omega⟩
          obtain ⟨as, a1, a2, a3⟩ := N3.push (i := j) L hi2 (by omega) (Nat.zero_le _) (.inr rfl) (fun z => by omega) hpt nlt ndt (by omega)
          subst hS
          refine s_appL a1 (ev_var rfl) (el_lst (ea_cons (at1 _ (NSpl N3)) (ea_cons (ev_op (ev_var rfl) (ev_op (ev_var rfl) (ev_var rfl) (rv_I (by show 1 + (i : Int) ≠ 0; omega))) (rv_ixL (.inl (.inl (NSpl N3))) (v := .int (at0 ln j)) ?_)) ea_nil)) (by show 2 ≤ 100000; decide)) (by rw [List.length_map]; omega) fun p H2 np e2 hp => ⟨rfl, (a3 p H2 np e2 hp).mono (by omega) (Int.le_refl _)⟩
          have z := atI_int (l := ln) (i := r.fmod (1 + (i : Int))) (by omega) (by omega)
          rw [hj] at z ⊢
          exact z
        · refine ⟨rfl, (N2.on e).mono ?_ (Int.le_refl _)⟩
          by_cases c5 : kd = 5
          · rw [if_neg (by omega), if_pos c5]
            exact Nat.le_refl _
          · rw [if_neg c5]
            split
            · exact Nat.le_refl _
            · exact Nat.zero_le _
      rintro _ H' ⟨hS', N3⟩
      rw [hS']
      clear hS'
      -- for other in line[:at]
      subst hS
      refine s_forNL (el_sl (ev_var rfl) eo_none (eo_some (ev_var rfl)) (.inl (.inl (NSpl N3)))) (fun p j σ' H' => (∃ y8, σ' = [some (.ref d), some (.int m), some (.int n), some (.int kd), some (.ref pl), some (.ref pt), some (.int (1 + (i : Int))), some (.int r), y8]) ∧
          p ≠ d ∧ p ≠ pt ∧ H' p = some (.lst (cutV (ln.map V.int) none (some (1 + (i : Int))))) ∧ NS H d pl pt ln n.toNat kd (k + 100 + 50 * ↑i + 1 + j) (i + 1) (if kd = 5 then j else i + 1) H') ?_ ?_ ?_ ?_
      · intro p H1 np e1 hp
        obtain ⟨_, _, ⟨_, z, _⟩, _, _, ⟨_, _, z2⟩, _⟩ := id N3
        refine ⟨⟨_, rfl⟩, fun c => ?_, fun c => ?_, hp, ?_⟩
        · rw [← c, np] at z2
          cases z2
        · rw [← c, np] at z
          cases z
        · exact (N3.on e1).mono (by split <;> omega) (by omega)
      · rintro p j σ' H1 _ ⟨_, _, _, h, _⟩
        exact .inl (.inl h)
      · rintro p j x σ' H1 hx ⟨⟨y, rfl⟩, npd, nppt, hp, N4⟩
        rw [show (1 + (i : Int)) = ((i + 1 : Nat) : Int) by omega, cut_to] at hx
        have hj : j < i + 1 := by
          have z := (List.getElem?_eq_some_iff.mp hx).1
          rw [List.length_take] at z
          omega
        rw [List.getElem?_take_of_lt hj, List.getElem?_map, Option.map_eq_some_iff] at hx
        obtain ⟨o, ho, rfl⟩ := hx
        have eo : o = at0 ln j := by
          unfold at0
          rw [List.getD_eq_getElem?_getD, ho]
          rfl
        subst eo
        refine ⟨_, rfl, rfl, _, rfl, ?_⟩
        rw [dec_vi]
        by_cases c : kd = 5
        · rw [decide_eq_true c]
          rw [if_pos c] at N4
          refine iteT ?_
          obtain ⟨ts, k', h1, h2, h3, h4, h5, h6, h7⟩ := N4
          refine ⟨_, rfl, d, k', rfl, h4, ⟨h5.1, by omega⟩, fun r2 H2 r0 er hdr => .inl ⟨r2, rfl, _, _, rfl, rfl, (by show (4 : Int) ≠ 0; decide), rfl, _, rfl, ?_⟩⟩
          have N5 := NS.draw (kd := kd) h1 h2 h3 h4 h5 h6 h7 er hdr nld
          have hp2 := er _ _ npd hp
          clear h1 h2 h3 h4 h5 h6 h7 er hdr hp
          rw [dec_vi]
          by_cases c4 : r2.fmod 4 = 0
          · rw [decide_eq_true c4]
            refine iteT ?_
            obtain ⟨as, a1, a2, a3⟩ := N5.push (i := j) L hi2 (by omega) (Nat.le_refl _) (.inr rfl) (fun z => by omega) hpt nlt ndt (by omega)
            refine s_appL a1 (ev_var rfl) (el_lst (ea_cons (ev_op (ev_var rfl) (ev_var rfl) (rv_ixL (.inl (.inl (NSpl N5))) (v := .int (at0 ln (i + 1))) ?_)) (ea_cons (ev_var rfl) ea_nil)) (by show 2 ≤ 100000; decide)) (by rw [List.length_map]; omega) fun p2 H3 np e2 hp3 => ⟨⟨_, rfl⟩, npd, nppt, ?_, ?_⟩
            · have z := atI_int (l := ln) (i := 1 + (i : Int)) (by omega) (by omega)
              rwa [show (1 + (i : Int)).toNat = i + 1 by omega] at z
            · rw [upd_ne nppt]
              exact e2 _ _ hp2
            · rw [if_pos c]
              exact (a3 p2 H3 np e2 hp3).mono (Nat.le_refl _) (by omega)
          · rw [decide_eq_false c4]
            refine iteF ⟨⟨_, rfl⟩, npd, nppt, hp2, ?_⟩
            rw [if_pos c]
            exact N5.mono (by omega) (by omega)
        · rw [decide_eq_false c]
          refine iteF ⟨⟨_, rfl⟩, npd, nppt, hp, ?_⟩
          rw [if_neg c] at N4 ⊢
          exact N4.mono (Nat.le_refl _) (by omega)
      · rintro p σ' H1 ⟨⟨y, rfl⟩, _, _, _, N4⟩
        have cl : (cutV (ln.map V.int) none (some (1 + (i : Int)))).length = i + 1 := by
          rw [show (1 + (i : Int)) = ((i + 1 : Nat) : Int) by omega, cut_to, List.length_take, List.length_map]
          omega
        rw [cl] at N4
        refine ⟨_, _, _, rfl, ?_⟩
        have N5 : NS H d pl pt ln n.toNat kd (k + 100 + 50 * ↑i + 1 + ((i + 1 : Nat) : Int)) (i + 1) (i + 1) H1 := by
          by_cases c : kd = 5
          · rw [if_pos c] at N4
            exact N4
          · rw [if_neg c] at N4
            exact N4
        exact (N5.next (by omega)).mono (Nat.le_refl _) (by omega)
    · rintro σ' H' ⟨y6, y7, y8, rfl, N6⟩
      rw [show (n - 1).toNat + 1 = n.toNat by omega] at N6
      obtain ⟨ts, k', h1, h2, h3, h4, h5, h6, h7⟩ := N6
      refine q_cut (M := fun σ' H' => σ' = [some (.ref d), some (.int m), some (.int n), some (.int kd), some (.ref pl), some (.ref pt), y6, y7, y8] ∧ ∃ ts k', TM H' pt ts ∧ ExA d H H' ∧ Dr H' d k' ∧ (0 ≤ k' ∧ k' ≤ k + 5000) ∧ NetOk n ts) ?_ ?_
      · refine ⟨_, rfl, rfl, _, rfl, ?_⟩
        rw [dec_vi]
        have en : ((n.toNat : Nat) : Int) = n := by omega
        by_cases c : kd = 4
        · rw [decide_eq_true c]
          refine iteT ?_
          have N := Good.ring L h6 (by omega) (by omega) (h7 c)
          rw [en] at N
          obtain ⟨as, a1, a2, a3⟩ := h1.push2 (at0 ln 0) (at0 ln (n.toNat - 1))
          have few := h6.few
          have y1 : n.toNat * (n.toNat - 1) ≤ 40 * 40 := Nat.mul_le_mul (by omega) (by omega)
          obtain ⟨xx, bb, hdr⟩ := h4
          refine s_appL a1 (ev_var rfl) (el_lst (ea_cons (ev_op (ev_var rfl) ev_c (rv_ixL (.inl (.inl h2)) (v := .int (at0 ln 0)) ?_)) (ea_cons (ev_op (ev_var rfl) (ev_un (z := .int (-1)) ev_c fun H1 e Q q => ⟨1, rfl, q H1 (Ex.refl H1)⟩) (rv_ixL (.inl (.inl h2)) (v := .int (at0 ln (n.toNat - 1))) ?_)) ea_nil)) (by show 2 ≤ 100000; decide)) (by rw [List.length_map]; omega) fun p H2 np e2 hp => ⟨rfl, _, k', a3 p H2 np e2 hp, (h3.trans (ExA.of e2)).mut hpt, ⟨xx, bb, ?_⟩, ⟨h5.1, by omega⟩, N⟩
          · exact atI_int (l := ln) (i := 0) (by omega) (by omega)
          · have hg : ln[n.toNat - 1]? = some (at0 ln (n.toNat - 1)) := by
              unfold at0
              rw [List.getD_eq_getElem?_getD, List.getElem?_eq_getElem (by omega : n.toNat - 1 < ln.length)]
              rfl
            have hz := take_snoc hg
            rw [show n.toNat - 1 + 1 = n.toNat by omega, List.take_of_length_le (by omega)] at hz
            have z := atI_last ((ln.take (n.toNat - 1)).map V.int) (.int (at0 ln (n.toNat - 1)))
            have z2 : ln.map V.int = (ln.take (n.toNat - 1)).map V.int ++ [.int (at0 ln (n.toNat - 1))] := by
              rw [← List.map_singleton, ← List.map_append, ← hz]
            rw [z2]
            exact z
          · rw [upd_ne ndt]
            exact e2 _ _ hdr
        · rw [decide_eq_false c]
          refine iteF ⟨rfl, ts, k', h1, h3, h4, ⟨h5.1, by omega⟩, ?_⟩
          have N := Good.net (o := 0) L h6 (by omega) (by omega)
          rwa [en] at N
      rintro _ H' ⟨hS', ts, k', h1, h3, h4, h5, N⟩
      rw [hS']
      refine s_retU (eu_tup (ea_cons (ev_var rfl) (ea_cons (ev_var rfl) ea_nil)) (by show 2 ≤ 100000; decide)) fun p H2 np e2 hp => ?_
      have npH : H p = none := by
        cases hq : H p with
        | none => rfl
        | some o =>
          have nd : p ≠ d := fun z => by
            obtain ⟨x, b, hx⟩ := h4
            rw [z, hx] at np
            cases np
          have z := h3 _ _ nd hq
          rw [np] at z
          cases z
      exact q n ts pt p k' H2 N npH (h3.trans (ExA.of e2)) (h4.on e2) h5 (h1.on e2) hp
end
end K30

namespace K30
open PySem PySem.Spec PyProof.Rows L2 Vf Evl
/-! ### the law's own rounds -/
abbrev kk (a b : Int) : List Key := [.inl a, .inl b]
def NearAt (H : Hp) (p : Addr) (ts : List (Int × Int)) : Prop := ∃ kvs : List (List Key × V), H p = some (.dT kvs) ∧ kvs.length ≤ 2 * ts.length ∧ ∀ a b : Int, (valV kvs (kk a b)).isSome = MR.tdF ts a b
theorem NearAt.on {H H' : Hp} {p : Addr} {ts : List (Int × Int)} (h : NearAt H p ts) (e : Ex H H') : NearAt H' p ts := by
  obtain ⟨kvs, a, b, c⟩ := h
  exact ⟨kvs, e _ _ a, b, c⟩
theorem NearAt.exA {d : Addr} {k : Int} {H H' : Hp} {p : Addr} {ts : List (Int × Int)} (h : NearAt H p ts) (hd : Dr H d k) (e : ExA d H H') : NearAt H' p ts := by
  obtain ⟨kvs, a, b, c⟩ := h
  obtain ⟨x, bb, hx⟩ := hd
  refine ⟨kvs, e _ _ (fun z => ?_) a, b, c⟩
  rw [z, hx] at a
  cases a
theorem kk_eq {a b x y : Int} : (kk a b = kk x y) ↔ a = x ∧ b = y := by simp [kk]
theorem near_put {kvs : List (List Key × V)} {td : Int → Int → Bool} (h : ∀ a b : Int, (valV kvs (kk a b)).isSome = td a b) (x y : Int) : ∀ a b : Int, (valV (putK kvs (kk x y) (.bl true)) (kk a b)).isSome = td1 td x y a b := by
  intro a b
  rw [valV_put]
  unfold td1
  by_cases c : a = x ∧ b = y
  · rw [if_pos (kk_eq.mpr c), decide_eq_true c.1, decide_eq_true c.2]
    simp
  · rw [if_neg (fun z => c (kk_eq.mp z)), h]
    by_cases c1 : a = x
    · rw [decide_eq_false (fun z => c ⟨c1, z⟩)]
      simp
    · rw [decide_eq_false c1]
      simp
/-- where each person sits tells the standing -/
theorem stOf_is {n : Nat} {pl st : List Int} (P : MR.Plc n pl) (hl : st.length = n) (h : ∀ p : Int, 1 ≤ p → p ≤ n → st[(MR.g0 pl p - 1).toNat]? = some p) : MR.stOf pl = st := by
  have hl2 := P.stn.len
  refine List.ext_getElem? fun j => ?_
  by_cases hj : j < n
  · obtain ⟨i, hi, e⟩ := List.mem_iff_getElem.mp (P.row.all (i := ((j + 1 : Nat) : Int)) (by omega) (by omega))
    have hx : pl[i]? = some ((j + 1 : Nat) : Int) := by rw [List.getElem?_eq_getElem hi, e]
    have i0 : i ≠ 0 := fun z => by
      rw [z, P.zero] at hx
      have := Option.some.inj hx
      omega
    have il : i ≤ n := by have := P.row.len; omega
    have hg : MR.g0 pl (i : Int) = ((j + 1 : Nat) : Int) := by
      unfold MR.g0
      rw [List.getD_eq_getElem?_getD, Int.toNat_natCast, hx]
      rfl
    have t := MR.turn_at P.row hx
    rw [P.turn, Int.toNat_natCast, List.getElem?_cons_succ] at t
    have z := h (i : Int) (by omega) (by omega)
    rw [hg, show (((j + 1 : Nat) : Int) - 1).toNat = j by omega] at z
    rw [t, z]
  · rw [List.getElem?_eq_none (by omega), List.getElem?_eq_none (by omega)]
theorem stOf_at {n : Nat} {pl : List Int} (P : MR.Plc n pl) {p : Int} (h0 : 1 ≤ p) (h1 : p ≤ n) : (MR.stOf pl)[(MR.g0 pl p - 1).toNat]? = some p := by
  obtain ⟨a, b, c⟩ := P.of h0 h1
  have t := MR.turn_at P.row c
  rw [P.turn] at t
  rw [show (MR.g0 pl p).toNat = (MR.g0 pl p - 1).toNat + 1 by omega, List.getElem?_cons_succ] at t
  rw [t]
  exact congrArg some (by omega)
section
variable {P : Program} {w : World} {K : PySem.W.Frag} {mg : Str → Option Value} {base : Heap} {A : Ad}
def sp_l_near (K : PySem.W.Frag) : Sp := fun vs H Q _ => ∃ (a : Addr) (ts : List (Int × Int)), vs = [.ref a] ∧ TiesAt K H a ts ∧ ts.length ≤ 1000 ∧ ∀ p H2, H p = none → Ex H H2 → NearAt H2 p ts → Q (.ref p) H2
theorem ok_l_near (T : Txt K mg A) : FnOk P w K mg base CX0 1 A.f_l_near A.d_l_near ["_law_ties"] (sp_l_near K) := by
  refine T.F_l_near.ok sc_l_near (fun vs H Q E h => ?_) (fun cdv A' outer s H vs Q E hr h => ?_)
  · obtain ⟨a, ts, rfl, _⟩ := h
    rfl
  · obtain ⟨a, ts, rfl, hT, few, q⟩ := h
    obtain ⟨as, hS, hlen, hat⟩ := hT
    refine ⟨_, (pss_cons (ps_set (i := 1) sc_l_near.nd rfl (by first | exact .inl rfl | exact .inr rfl) pe_dnewT)
      (pss_cons (ps_for PassesOwn.never rfl (pi_listK (K := K) rfl (pv 0)) (pg_unlK (n := 2) (K := K) rfl rfl (pgs_cons (pg_name (i := 2) sc_l_near.nd rfl (by first | exact .inl rfl | exact .inr rfl)) (pgs_cons (pg_name (i := 3) sc_l_near.nd rfl (by first | exact .inl rfl | exact .inr rfl)) pgs_nil))) (pss_cons (ps_asg pe_bl (pg_sub (pv 1) (pe_tup (pa_cons (pv 2) (pa_cons (pv 3) pa_nil))) (set_dict (hu_of hr))))
      (pss_one (ps_asg pe_bl (pg_sub (pv 1) (pe_tup (pa_cons (pv 3) (pa_cons (pv 2) pa_nil))) (set_dict (hu_of hr)))))))
      (pss_one (ps_ret (pv 1))))), ?_⟩
    refine fun D nD => ?_
    have e0 : Ex H (upd H D (.dT [])) := Ex.new nD
    refine ⟨.ref a, rfl, a, rfl, ⟨_, ex_l e0 hS⟩, ?_⟩
    refine for_list (xs := as.map V.ref) (fun i σ' H' => (∃ y2 y3, σ' = [some (.ref a), some (.ref D), y2, y3]) ∧ Ex H H' ∧ NearAt H' D (ts.take i))
      ⟨⟨none, none, rfl⟩, e0, [], upd_same, Nat.zero_le _, fun a b => by rw [List.take_zero, tdF_nil]; rfl⟩ (fun i σ' H' _ z => ex_l z.2.1 hS) ?_ ?_
    · rintro i x σ' H' hx ⟨⟨y2, y3, rfl⟩, e2, kvs, h1, h2, h3⟩
      obtain ⟨b, hb, rfl⟩ := map_at hx
      have hi : i < ts.length := by rw [← hlen]; exact (List.getElem?_eq_some_iff.mp hb).1
      obtain ⟨t, ht⟩ : ∃ t, ts[i]? = some t := ⟨_, List.getElem?_eq_getElem hi⟩
      rw [List.length_take] at h2
      refine ⟨b, _, rfl, ex_l e2 (hat i b t hb ht), rfl, _, _, rfl, _, _, rfl, rfl, ?_⟩
      -- told[one, two] = True
      refine ⟨_, rfl, _, rfl, _, rfl, (by show 2 ≤ sizeLine; decide), fun t1 nt1 => ?_⟩
      have g1 : Ex H' (upd H' t1 (.tup [.int t.1, .int t.2])) := Ex.new nt1
      refine ⟨D, _, rfl, DPut.t (k := kk t.1 t.2) (g1 _ _ h1) upd_same (sz_lt (by omega)), ?_⟩
      have e3 := Ex.mut (o := .dT (putK kvs (kk t.1 t.2) (.bl true))) (e2.trans g1) nD
      have l1 := length_putK kvs (kk t.1 t.2) (.bl true)
      have h4 := near_put h3 t.1 t.2
      -- told[two, one] = True
      refine ⟨_, rfl, _, rfl, _, rfl, (by show 2 ≤ sizeLine; decide), fun t2 nt2 => ?_⟩
      have g2 : Ex _ (upd (upd (upd H' t1 (.tup [.int t.1, .int t.2])) D (.dT (putK kvs (kk t.1 t.2) (.bl true)))) t2 (.tup [.int t.2, .int t.1])) := Ex.new nt2
      refine ⟨D, _, rfl, DPut.t (k := kk t.2 t.1) (g2 _ _ upd_same) upd_same (sz_lt (by omega)), ?_⟩
      have l2 := length_putK (putK kvs (kk t.1 t.2) (.bl true)) (kk t.2 t.1) (.bl true)
      refine ⟨⟨_, _, rfl⟩, Ex.mut (e3.trans g2) nD, _, upd_same, ?_, ?_⟩
      · rw [List.length_take]
        omega
      · rw [take_snoc ht, tdF_snoc]
        exact near_put h4 t.2 t.1
    · rintro σ' H' ⟨⟨y2, y3, rfl⟩, e2, hN⟩
      rw [List.length_map, hlen, List.take_length] at hN
      exact ⟨_, rfl, q D H' nD e2 hN⟩
def sp_l_called (K : PySem.W.Frag) : Sp := fun vs H Q _ => ∃ (a b c : Addr) (ts : List (Int × Int)) (pl cs : List Int) (n : Nat), vs = [.ref a, .ref b, .ref c] ∧ NearAt H a ts ∧ SqL K H b (pl.map V.int) ∧ MR.Plc n pl ∧ SqL K H c (cs.map V.int) ∧
  (∀ x ∈ cs, 1 ≤ x ∧ x ≤ (n : Int)) ∧ 2 ≤ n ∧ n ≤ 900 ∧ RetL ((MR.runP (MR.tdF ts) pl (MR.pairsF n cs)).map V.int) H Q
theorem ok_l_called (T : Txt K mg A) : FnOk P w K mg base CX0 1 A.f_l_called A.d_l_called ["_law_near_here", "_law_where_here", "_law_calls"] (sp_l_called K) := by
  refine T.F_l_called.ok sc_l_called (fun vs H Q E h => ?_) (fun cdv A' outer s H vs Q E hr h => ?_)
  · obtain ⟨a, b, c, ts, pl, cs, n, rfl, _⟩ := h
    rfl
  · obtain ⟨a, b, c, ts, pl, cs, n, rfl, hN, hS, P0, hC, hc, n2, n9, q⟩ := h
    refine ⟨_, (pss_cons (ps_set (i := 3) sc_l_called.nd rfl (by first | exact .inl rfl | exact .inr rfl) (pe_callTy (call_listK (K := K) rfl) (by rfl) T.z_list (by decide +kernel) (pa_cons (pv 1) pa_nil)))
      (pss_cons (ps_for PassesOwn.never rfl (pi_listK (K := K) rfl (pv 2)) (pg_name (i := 4) sc_l_called.nd rfl (by first | exact .inl rfl | exact .inr rfl)) (pss_cons (ps_set (i := 5) sc_l_called.nd rfl (by first | exact .inl rfl | exact .inr rfl) (pe_op op_add (pe_op op_modN (pv 4) (pe_op op_sub (pe_callB (call_lenK (K := K) rfl) (by rfl) T.z_len PySem.boot_len (pa_cons (pv 1) pa_nil)) pe_int)) pe_int))
      (pss_cons (ps_par (i := 6) (j := 7) rfl sc_l_called.nd rfl rfl (by decide) rfl rfl (pa_cons (pe_ix (ix_listK (K := K) rfl) (pv 3) (pv 4) (fun _ _ => rfl)) (pa_cons (pe_ix (ix_listK (K := K) rfl) (pv 3) (pv 5) (fun _ _ => rfl)) pa_nil)) (by rfl))
      (pss_one (ps_if (pt_cmp (pc_dnotin (hu_of hr) (pe_tup (pa_cons (pv 6) (pa_cons (pv 7) pa_nil))) (pv 0))) (pss_one (ps_asg (pe_tup (pa_cons (pv 7) (pa_cons (pv 6) pa_nil))) (pg_tupK (n := 2) (K := K) rfl rfl (pgs_cons (pg_sub (pv 3) (pv 4) set_list) (pgs_cons (pg_sub (pv 3) (pv 5) set_list) pgs_nil))))) pss_nil)))))
      (pss_one (ps_ret (pv 3))))), ?_⟩
    have ok := MR.pairs_ok n2 hc
    refine ⟨_, rfl, b, _, rfl, .inl hS, fun p np => ?_⟩
    have e0 : Ex H (upd H p (.lst (pl.map V.int))) := Ex.new np
    refine ⟨.ref c, rfl, c, rfl, ⟨_, ex_l e0 hC⟩, ?_⟩
    refine for_list (xs := cs.map V.int) (fun i σ' H' => (∃ y4 y5 y6 y7, σ' = [some (.ref a), some (.ref b), some (.ref c), some (.ref p), y4, y5, y6, y7]) ∧ Ex H H' ∧ H' p = some (.lst ((MR.runP (MR.tdF ts) pl ((MR.pairsF n cs).take i)).map V.int)))
      ⟨⟨none, none, none, none, rfl⟩, e0, upd_same⟩ (fun i σ' H' _ z => ex_l z.2.1 hC) ?_ ?_
    · rintro i x σ' H' hx ⟨⟨y4, y5, y6, y7, rfl⟩, e1, hp⟩
      obtain ⟨one, h1, rfl⟩ := map_at hx
      have hpr : (MR.pairsF n cs)[i]? = some (one, MR.nxt n one) := by unfold MR.pairsF; rw [List.getElem?_map, h1]; rfl
      have okc := ok _ (List.mem_of_getElem? hpr)
      have Pi : MR.Plc n (MR.runP (MR.tdF ts) pl ((MR.pairsF n cs).take i)) := MR.run_plc P0 fun d hd => ok d (List.mem_of_mem_take hd)
      have hrm := run_more (td := MR.tdF ts) (pl := pl) hpr
      generalize MR.runP (MR.tdF ts) pl ((MR.pairsF n cs).take i) = m at hp Pi hrm
      obtain ⟨k1, k2, k3⟩ := okc
      have A1 := Pi.of k1.1 k1.2
      have A2 := Pi.of k2.1 k2.2
      have ml := Pi.row.len
      have pln := P0.row.len
      -- other = call % (len(where) - 1) + 1
      refine ⟨_, rfl, _, rfl, b, _, rfl, .inl (ex_l e1 hS), _, _, rfl, rfl, _, _, rfl, rfl, (by rw [List.length_map, pln]; show ((n + 1 : Nat) : Int) - 1 ≠ 0; omega), _, _, rfl, rfl, ?_⟩
      have e2' : one.fmod (((pl.map V.int).length : Int) - 1) + 1 = MR.nxt n one := by
        rw [List.length_map, pln, show (((n + 1 : Nat) : Int) - 1) = (n : Int) by omega, fm one (show (0 : Int) < n by omega)]
        rfl
      dsimp only [gName]
      show tSeq _ _ _ [some (.ref a), some (.ref b), some (.ref c), some (.ref p), some (.int one), some (.int (one.fmod (((pl.map V.int).length : Int) - 1) + 1)), y6, y7] H'
      rw [e2']
      -- one, two = (now[call], now[other])
      refine ⟨_, rfl, _, rfl, p, _, one, _, rfl, rfl, .inl (.inl hp), atI_int (by omega) (by omega), _, rfl, _, rfl, p, _, MR.nxt n one, _, rfl, rfl, .inl (.inl hp), atI_int (by omega) (by omega), _, _, rfl, ?_⟩
      have hp1 := hp
      have e11 := e1
      revert hp1 e11
      generalize H' = H1
      intro hp1 e11
      -- if (one, two) not in near
      refine ⟨_, rfl, _, rfl, (by show 2 ≤ sizeLine; decide), fun t2 nt2 => ?_⟩
      have g2 : Ex H1 (upd H1 t2 (.tup [.int (MR.g0 m one), .int (MR.g0 m (MR.nxt n one))])) := Ex.new nt2
      obtain ⟨nk, hn1, hn2, hn3⟩ := hN.on (e11.trans g2)
      have hg := DGet.t (k := kk (MR.g0 m one) (MR.g0 m (MR.nxt n one))) hn1 upd_same
      refine ⟨_, rfl, a, _, rfl, hg, _, rfl, ?_⟩
      rw [hn3]
      have hp2 := g2 _ _ hp1
      have e12 := e11.trans g2
      revert hp2 e12
      generalize upd H1 t2 (.tup [.int (MR.g0 m one), .int (MR.g0 m (MR.nxt n one))]) = H2
      intro hp2 e12
      by_cases tt : MR.tdF ts (MR.g0 m one) (MR.g0 m (MR.nxt n one)) = true
      · rw [tt]
        have es : MR.stepP (MR.tdF ts) m (one, MR.nxt n one) = m := by unfold MR.stepP; rw [if_pos tt]
        refine iteF ⟨⟨_, _, _, _, rfl⟩, e12, ?_⟩
        rw [hrm, es]
        exact hp2
      · rw [Bool.eq_false_iff.mpr tt]
        have es : MR.stepP (MR.tdF ts) m (one, MR.nxt n one) = (m.set one.toNat (MR.g0 m (MR.nxt n one))).set (MR.nxt n one).toNat (MR.g0 m one) := by unfold MR.stepP; rw [if_neg tt]
        have i1 : ∀ {l : List V} {k : Int}, l.length = n + 1 → 1 ≤ k → k ≤ n → ixN l.length k = some k.toNat := fun {l k} hl h1 h2 => by
          have z := ixN_nat (n := n + 1) (j := k.toNat) (by omega)
          rw [hl]
          rwa [show ((k.toNat : Nat) : Int) = k by omega] at z
        refine iteT ⟨_, rfl, _, rfl, (by show 2 ≤ sizeLine; decide), fun t3 nt3 => ?_⟩
        have g3 : Ex H2 (upd H2 t3 (.tup [.int (MR.g0 m (MR.nxt n one)), .int (MR.g0 m one)])) := Ex.new nt3
        refine ⟨t3, _, rfl, .inl (.inl upd_same), rfl, _, _, rfl, ?_⟩
        have hp3 := g3 _ _ hp2
        have e13 := e12.trans g3
        generalize (upd H2 t3 (.tup [.int (MR.g0 m (MR.nxt n one)), .int (MR.g0 m one)])) = H3 at hp3 e13
        refine ⟨_, rfl, _, rfl, p, _, _, _, rfl, rfl, hp3, i1 (by rw [List.length_map, ml]) k1.1 k1.2, ?_⟩
        refine ⟨_, _, rfl, _, rfl, _, rfl, p, _, _, _, rfl, rfl, upd_same, i1 (by rw [List.length_set, List.length_map, ml]) k2.1 k2.2, rfl, ?_⟩
        refine ⟨⟨_, _, _, _, rfl⟩, Ex.mut (Ex.mut e13 np) np, ?_⟩
        rw [upd_same, hrm, es, List.map_set, List.map_set]
    · rintro σ' H' ⟨⟨y4, y5, y6, y7, rfl⟩, e1, hp⟩
      have el : (MR.pairsF n cs).length = cs.length := by unfold MR.pairsF; rw [List.length_map]
      rw [List.length_map, ← el, List.take_length] at hp
      exact ⟨_, rfl, q p H' np e1 hp⟩
end
end K30

namespace K30
open PySem PySem.Spec PyProof.Rows L2 Vf Evl
theorem el_is {te : TE} {σ : L2.St} {H : Hp} {xs ys : List V} (h : EvL te σ H xs) (e : xs = ys) : EvL te σ H ys := by rw [← e]; exact h
/-! ### where each one sits, and who sits where, as the law tells them -/
theorem rep_ints (k : Nat) (x : Int) : (List.replicate k [V.int x]).flatten = (List.replicate k x).map V.int := by
  rw [List.map_replicate]
  simp
structure WhI (n : Nat) (st : List Int) (i : Nat) (L : List Int) : Prop where
  len : L.length = n + 1
  zero : L.getD 0 0 = 0
  at_ : ∀ (j : Nat) (x : Int), j < i → st[j]? = some x → L.getD x.toNat 0 = ((j : Int) + 1)
theorem WhI.start (n : Nat) (st : List Int) : WhI n st 0 (List.replicate (n + 1) 0) := by
  refine ⟨by simp, by simp, fun j x h => absurd h (Nat.not_lt_zero _)⟩
theorem WhI.go {n : Nat} {st : List Int} {i : Nat} {L : List Int} (S : MR.Stn n st) (h : WhI n st i L) {x : Int} (hx : st[i]? = some x) : WhI n st (i + 1) (L.set x.toNat ((i : Int) + 1)) := by
  have lo := S.lo x (List.mem_of_getElem? hx)
  have hl := h.len
  refine ⟨by rw [List.length_set, hl], ?_, fun j y hj hy => ?_⟩
  · rw [MR.g0_set (by omega), if_neg (by omega)]
    exact h.zero
  · have loy := S.lo y (List.mem_of_getElem? hy)
    rw [MR.g0_set (by omega)]
    by_cases e : y.toNat = x.toNat
    · rw [if_pos e]
      have exy : y = x := by omega
      subst exy
      have : j = i := by
        obtain ⟨q1, q2⟩ := List.getElem?_eq_some_iff.mp hy
        obtain ⟨q3, q4⟩ := List.getElem?_eq_some_iff.mp hx
        exact (List.getElem_inj S.nd).mp (q2.trans q4.symm)
      rw [this]
    · rw [if_neg e]
      refine h.at_ j y (Decidable.byContradiction fun z => ?_) hy
      have : j = i := by omega
      subst this
      exact e (by rw [Option.some.inj (hy.symm.trans hx)])
theorem WhI.done {n : Nat} {st : List Int} {L : List Int} (S : MR.Stn n st) (h : WhI n st n L) : L = MR.plOf st := by
  have P0 := S.plc
  refine MR.plc_ext h.len P0.row.len fun i hi => ?_
  by_cases e : i = 0
  · subst e
    rw [h.zero]
    have z := P0.zero
    rw [List.getD_eq_getElem?_getD, z]
    rfl
  · obtain ⟨j, hj, ej⟩ := List.mem_iff_getElem.mp (S.row.all (i := (i : Int)) (by omega) (by omega))
    cases j with
    | zero => simp at ej; omega
    | succ j =>
      have hj' : j < st.length := by simpa using hj
      have hx : st[j]? = some (i : Int) := by rw [List.getElem?_eq_getElem hj']; simpa using ej
      have a := h.at_ j _ (by rw [← S.len]; exact hj') hx
      have t := MR.turn_at S.row (i := j + 1) (x := (i : Int)) (by rw [List.getElem?_cons_succ]; exact hx)
      rw [Int.toNat_natCast] at a t
      rw [a, List.getD_eq_getElem?_getD]
      unfold MR.plOf
      rw [t]
      show (j : Int) + 1 = ((j + 1 : Nat) : Int)
      omega
structure SiI (n : Nat) (pl : List Int) (i : Nat) (L : List Int) : Prop where
  len : L.length = n
  at_ : ∀ p : Int, 1 ≤ p → p ≤ (i : Int) → L[(MR.g0 pl p - 1).toNat]? = some p
theorem SiI.go {n : Nat} {pl : List Int} {i : Nat} {L : List Int} (P : MR.Plc n pl) (h : SiI n pl i L) (hi : i < n) : SiI n pl (i + 1) (L.set (MR.g0 pl ((i : Int) + 1) - 1).toNat ((i : Int) + 1)) := by
  have hl := h.len
  have A1 := P.of (i := (i : Int) + 1) (by omega) (by omega)
  refine ⟨by rw [List.length_set, hl], fun p h0 h1 => ?_⟩
  have A2 := P.of (i := p) (by omega) (by omega)
  by_cases e : p = (i : Int) + 1
  · rw [e, List.getElem?_set_self (by omega)]
  · have ne : MR.g0 pl p ≠ MR.g0 pl ((i : Int) + 1) := fun z => e (P.inj (by omega) (by omega) (by omega) (by omega) z)
    rw [List.getElem?_set_ne (by omega)]
    exact h.at_ p h0 (by omega)
section
variable {P : Program} {w : World} {K : PySem.W.Frag} {mg : Str → Option Value} {base : Heap} {A : Ad}
def sp_l_where (K : PySem.W.Frag) : Sp := fun vs H Q _ => ∃ (a : Addr) (st : List Int) (n : Nat), vs = [.ref a] ∧ SqL K H a (st.map V.int) ∧ MR.Stn n st ∧ n ≤ 900 ∧ RetL ((MR.plOf st).map V.int) H Q
theorem ok_l_where (T : Txt K mg A) : FnOk P w K mg base CX0 1 A.f_l_where A.d_l_where ["_law_standing"] (sp_l_where K) := by
  refine T.F_l_where.ok sc_l_where (fun vs H Q E h => ?_) (fun cdv A' outer s H vs Q E hr h => ?_)
  · obtain ⟨a, st, n, rfl, _⟩ := h
    rfl
  · obtain ⟨a, st, n, rfl, hS, S, hn, q⟩ := h
    refine ⟨_, (pss_cons (ps_set (i := 1) sc_l_where.nd rfl (by first | exact .inl rfl | exact .inr rfl) (pe_op op_rep (pe_lst (pa_cons pe_int pa_nil)) (pe_op op_add (pe_callB (call_lenK (K := K) rfl) (by rfl) T.z_len PySem.boot_len (pa_cons (pv 0) pa_nil)) pe_int)))
      (pss_cons (ps_for PassesOwn.never rfl (pi_enum (by rfl) T.z_enumerate (pa_cons (pv 0) pa_nil)) (pg_tupK (n := 2) (K := K) rfl rfl (pgs_cons (pg_name (i := 2) sc_l_where.nd rfl (by first | exact .inl rfl | exact .inr rfl)) (pgs_cons (pg_name (i := 3) sc_l_where.nd rfl (by first | exact .inl rfl | exact .inr rfl)) pgs_nil))) (pss_one (ps_asg (pe_op op_add (pv 2) pe_int) (pg_sub (pv 1) (pv 3) set_list))))
      (pss_one (ps_ret (pv 1))))), ?_⟩
    have sl := S.len
    refine q_asgL (xs := (List.replicate (n + 1) (0 : Int)).map V.int) (el_is (el_rep (k := ((n + 1 : Nat) : Int)) (el_lst (ea_cons ev_c ea_nil) (by show 1 ≤ 100000; decide)) (ev_is (ev_op (ev_len (ev_var rfl) hS) ev_c rv_I0) (by rw [List.length_map, sl]; rfl)) (by omega) (by show 1 * _ ≤ _; omega)) (by rw [Int.toNat_natCast, rep_ints])) fun f H1 nf e1 hf => ?_
    refine ⟨.ref a, rfl, a, st.map V.int, rfl, ex_l e1 hS, ?_⟩
    refine for_enumL (xs := st.map V.int) (fun i σ' H' => (∃ y2 y3, σ' = [some (.ref a), some (.ref f), y2, y3]) ∧ Ex H H' ∧ ∃ L, H' f = some (.lst (L.map V.int)) ∧ WhI n st i L)
      ⟨⟨none, none, rfl⟩, e1, _, hf, WhI.start n st⟩ (fun i σ' H' z => ex_l z.2.1 hS) ?_ ?_
    · rintro i x Tt σ' H' hx ⟨⟨y2, y3, rfl⟩, e2, L, hL, I⟩ nT
      obtain ⟨c, hc, rfl⟩ := map_at hx
      have lo := S.lo c (List.mem_of_getElem? hc)
      have il := I.len
      have e3 : Ex H' (upd H' Tt (.tup [.int (i : Nat), .int c])) := Ex.new nT
      refine ⟨Tt, _, rfl, .inl (.inl upd_same), rfl, _, _, rfl, _, _, rfl, rfl, ?_⟩
      have hL3 := e3 _ _ hL
      refine s_setL (j := c.toNat) hL3 (ev_op (ev_var rfl) ev_c rv_I0) (ev_var rfl) (ev_is (ev_var rfl) (congrArg V.int (show c = ((c.toNat : Nat) : Int) by omega))) (by rw [List.length_map]; omega) fun H4 e4 => ?_
      refine ⟨⟨_, _, rfl⟩, Ex.mut ((e2.trans e3).trans e4) nf, _, ?_, I.go S hc⟩
      rw [upd_same, List.map_set]
    · rintro σ' H' ⟨⟨y2, y3, rfl⟩, e2, L, hL, I⟩
      rw [List.length_map, sl] at I
      rw [I.done S] at hL
      exact ⟨_, rfl, q f H' nf e2 hL⟩
def sp_l_sitting (K : PySem.W.Frag) : Sp := fun vs H Q _ => ∃ (a : Addr) (pl : List Int) (n : Nat), vs = [.ref a] ∧ SqL K H a (pl.map V.int) ∧ MR.Plc n pl ∧ n ≤ 900 ∧ RetL ((MR.stOf pl).map V.int) H Q
theorem ok_l_sitting (T : Txt K mg A) : FnOk P w K mg base CX0 1 A.f_l_sitting A.d_l_sitting ["_law_where_here"] (sp_l_sitting K) := by
  refine T.F_l_sitting.ok sc_l_sitting (fun vs H Q E h => ?_) (fun cdv A' outer s H vs Q E hr h => ?_)
  · obtain ⟨a, pl, n, rfl, _⟩ := h
    rfl
  · obtain ⟨a, pl, n, rfl, hS, P0, hn, q⟩ := h
    refine ⟨_, (pss_cons (ps_set (i := 1) sc_l_sitting.nd rfl (by first | exact .inl rfl | exact .inr rfl) (pe_op op_rep (pe_lst (pa_cons pe_int pa_nil)) (pe_op op_sub (pe_callB (call_lenK (K := K) rfl) (by rfl) T.z_len PySem.boot_len (pa_cons (pv 0) pa_nil)) pe_int)))
      (pss_cons (ps_for PassesOwn.never rfl (pi_range2 (by rfl) T.z_range (pa_cons pe_int (pa_cons (pe_callB (call_lenK (K := K) rfl) (by rfl) T.z_len PySem.boot_len (pa_cons (pv 0) pa_nil)) pa_nil))) (pg_name (i := 2) sc_l_sitting.nd rfl (by first | exact .inl rfl | exact .inr rfl)) (pss_one (ps_asg (pv 2) (pg_sub (pv 1) (pe_op op_sub (pe_ix (ix_listK (K := K) rfl) (pv 0) (pv 2) (fun _ _ => rfl)) pe_int) set_list))))
      (pss_one (ps_ret (pv 1))))), ?_⟩
    have sl := P0.row.len
    refine q_asgL (xs := (List.replicate n (0 : Int)).map V.int) (el_is (el_rep (k := ((n : Nat) : Int)) (el_lst (ea_cons ev_c ea_nil) (by show 1 ≤ 100000; decide)) (ev_is (ev_op (ev_len (ev_var rfl) hS) ev_c rv_I0) (by rw [List.length_map, sl]; exact congrArg V.int (show ((n + 1 : Nat) : Int) - 1 = (n : Int) by omega))) (by omega) (by show 1 * _ ≤ _; omega)) (by rw [Int.toNat_natCast, rep_ints])) fun f H1 nf e1 hf => ?_
    have len0 : EvA (tCons (tC (V.int 1)) (tCons (tCB (rLenS K) (tCons (tVar 0) tNil)) tNil)) [some (.ref a), some (.ref f), none] H1 [.int 1, .int ((n + 1 : Nat) : Int)] :=
      ea_cons ev_c (ea_cons (ev_is (ev_len (ev_var rfl) (ex_l e1 hS)) (by rw [List.length_map, sl])) ea_nil)
    refine q_forR2 (lo := 1) (n := ((n + 1 : Nat) : Int)) len0 (by omega) (fun i σ' H' => (∃ y2, σ' = [some (.ref a), some (.ref f), y2]) ∧ Ex H H' ∧ ∃ L, H' f = some (.lst (L.map V.int)) ∧ SiI n pl i L)
      (fun H2 e2 => ⟨⟨none, rfl⟩, e1.trans e2, _, e2 _ _ hf, by simp, fun p h0 h1 => by omega⟩) ?_ ?_
    · rintro i σ' H' hi ⟨⟨y2, rfl⟩, e2, L, hL, I⟩
      have il := I.len
      have hin : i < n := by omega
      have A1 := P0.of (i := (i : Int) + 1) (by omega) (by omega)
      have go := I.go P0 hin
      refine s_setL (j := (MR.g0 pl ((i : Int) + 1) - 1).toNat) hL (ev_var rfl) (ev_var rfl) (ev_is (ev_op (ev_op (ev_var rfl) (ev_var rfl) (rv_ixL (ex_l e2 hS) (atI_int (l := pl) (i := 1 + (i : Int)) (by omega) (by omega)))) ev_c rv_I0) ?_) (by rw [List.length_map]; omega) fun H4 e4 => ?_
      · refine congrArg V.int ?_
        show pl.getD (1 + (i : Int)).toNat 0 - 1 = _
        rw [show 1 + (i : Int) = (i : Int) + 1 by omega]
        show MR.g0 pl ((i : Int) + 1) - 1 = _
        omega
      refine ⟨⟨_, rfl⟩, Ex.mut (e2.trans e4) nf, _, ?_, go⟩
      rw [upd_same, List.map_set, show 1 + (i : Int) = (i : Int) + 1 by omega]
    · rintro σ' H' ⟨⟨y2, rfl⟩, e2, L, hL, I⟩
      rw [show (((n + 1 : Nat) : Int) - 1).toNat = n by omega] at I
      rw [← stOf_is P0 I.len I.at_] at hL
      exact ⟨_, rfl, q f H' nf e2 hL⟩
end
end K30

/-! Readings of tests for None, of ranges that begin below 0. -/
namespace Vf
open PySem PySem.Spec PyProof.Rows L2 Evl
section
variable {σ : L2.St} {H : Hp} {ta : TE} {x : V}
theorem et_isN (h : Ev ta σ H x) : EvT (tB (tIsN ta)) σ H (decide (x = .non)) := fun H1 e Q q => h H1 e _ fun H2 e2 => ⟨_, rfl, q H2 e2⟩
theorem et_notN (h : Ev ta σ H x) : EvT (tB (tNotN ta)) σ H (!decide (x = .non)) := fun H1 e Q q => h H1 e _ fun H2 e2 => ⟨_, rfl, q H2 e2⟩
theorem et_non (h : Ev ta σ H .non) : EvT (tB (tIsN ta)) σ H true := fun H1 e Q q => h H1 e _ fun H2 e2 => ⟨_, rfl, q H2 e2⟩
theorem et_int {i : Int} (h : Ev ta σ H (.int i)) : EvT (tB (tIsN ta)) σ H false := fun H1 e Q q => h H1 e _ fun H2 e2 => ⟨_, rfl, q H2 e2⟩
variable {D : Ends} {tu tz : TS}
theorem q_forR2n {ta : TA} {j : Nat} {lo n : Int} (h : EvA ta σ H [.int lo, .int n]) (hn : -100000 ≤ lo ∧ lo ≤ 100000 ∧ -100000 ≤ n ∧ n ≤ 100000) (Pv : Nat → L2.St → Hp → Prop) (h0 : ∀ H1, Ex H H1 → Pv 0 σ H1)
    (hs : ∀ (i : Nat) σ' H', lo + (i : Int) < n → Pv i σ' H' → tu { D with nx := Pv (i + 1), ct := Pv (i + 1), bk := tz D } (σ'.set j (some (.int (lo + (i : Int))))) H') (hd : ∀ σ' H', Pv (n - lo).toNat σ' H' → tz D σ' H') : tSeq (tFor (iRng2 ta) (gName j) tu) tz D σ H :=
  h H (Ex.refl H) _ fun H1 e => ⟨lo, n, rfl, ⟨by omega, by omega, by omega, by omega⟩, for_range (D := { D with nx := tz D }) (lo := lo) (n := (n - lo).toNat) Pv (h0 H1 e) (fun i σ' H' hi p => hs i σ' H' (by omega) p) hd⟩
end
end Vf
namespace K30
open PySem PySem.Spec PyProof.Rows L2 Vf Evl
/-! ### the least way, as the law finds it -/
theorem least_is {n : Nat} {f g : Nat → Bool} (h : (M30.bl n f).length = (M30.bl n g).length) (hd : 0 < (M30.bl n f).length) (hn : 0 < n) {b : Nat}
    (h1 : ∃ t : Int, -((M30.bl n f).length : Int) ≤ t ∧ t ≤ (M30.bl n f).length ∧ b = M30.lfar n (M30.bl n f) (M30.bl n g) t)
    (h2 : ∀ t : Int, -((M30.bl n f).length : Int) ≤ t → t ≤ (M30.bl n f).length → b ≤ M30.lfar n (M30.bl n f) (M30.bl n g) t) : M30.IsD n f g b := by
  have z := sort_is (difL n f g n)
  have dl : ((difL n f g n).mergeSort (fun a b => decide (a ≤ b))).length = n := by rw [z.1.length_eq]; unfold difL; rw [List.length_map, List.length_range]
  obtain ⟨m, hm⟩ : ∃ m, ((difL n f g n).mergeSort (fun a b => decide (a ≤ b)))[n / 2]? = some m := ⟨_, List.getElem?_eq_getElem (by omega)⟩
  obtain ⟨s1, s2⟩ := M30.med_isD h hn z.1 z.2 hm
  obtain ⟨t, t1, t2, e⟩ := h1
  have le := h2 (-m) (by omega) (by omega)
  rw [M30.lfar_is h hd (by omega) (by omega)] at le
  have ge := s1.2 _ (M30.dif_E h t)
  rw [M30.lfar_is h hd t1 t2] at e
  have : b = M30.far n fun k => M30.dif n f g k + -m := by omega
  rw [this]
  exact s1
theorem blI_at {n i : Nat} {f : Nat → Bool} {v : Int} (h : (blI n f)[i]? = some v) : i < (M30.bl n f).length ∧ v = ((M30.bl n f).getD i 0 : Nat) ∧ 1 ≤ v ∧ v ≤ n := by
  unfold blI at h
  rw [List.getElem?_map, Option.map_eq_some_iff] at h
  obtain ⟨c, hc, rfl⟩ := h
  have hi := (List.getElem?_eq_some_iff.mp hc).1
  have hb := M30.mem_bl.mp (List.mem_of_getElem? hc)
  obtain ⟨k, hk, _, rfl⟩ := hb
  refine ⟨hi, ?_, by omega, by omega⟩
  rw [List.getD_eq_getElem?_getD, hc]
  rfl
theorem blI_len' (n : Nat) (f : Nat → Bool) : (blI n f).length = (M30.bl n f).length := by unfold blI; rw [List.length_map]
theorem blI_getD {n : Nat} {f : Nat → Bool} {i : Nat} (h : i < (M30.bl n f).length) : (blI n f).getD i 0 = (((M30.bl n f).getD i 0 : Nat) : Int) := by
  unfold blI
  rw [List.getD_eq_getElem?_getD, List.getElem?_map, List.getElem?_eq_getElem h, List.getD_eq_getElem?_getD, List.getElem?_eq_getElem h]
  rfl
def bestI (n : Nat) (f g : Nat → Bool) (i : Nat) (v : V) : Prop := (i = 0 ∧ v = .non) ∨ ∃ b : Nat, v = .int (b : Int) ∧
  (∃ j : Nat, j < i ∧ b = M30.lfar n (M30.bl n f) (M30.bl n g) (-((M30.bl n f).length : Int) + (j : Int))) ∧ ∀ j : Nat, j < i → b ≤ M30.lfar n (M30.bl n f) (M30.bl n g) (-((M30.bl n f).length : Int) + (j : Int))
theorem bestI.go {n : Nat} {f g : Nat → Bool} {i : Nat} {b c : Nat} (h : bestI n f g i (.int (b : Int))) (hc : c = M30.lfar n (M30.bl n f) (M30.bl n g) (-((M30.bl n f).length : Int) + (i : Int))) :
    bestI n f g (i + 1) (.int ((if (c : Int) < (b : Int) then c else b : Nat) : Int)) := by
  rcases h with ⟨_, h⟩ | ⟨b', h, ⟨j, hj, e⟩, h2⟩
  · cases h
  · have : b = b' := by injection h with h; omega
    subst this
    by_cases lt : (c : Int) < (b : Int)
    · rw [if_pos lt]
      refine .inr ⟨c, rfl, ⟨i, by omega, hc⟩, fun k hk => ?_⟩
      by_cases ek : k = i
      · rw [ek, hc]; exact Nat.le_refl _
      · have := h2 k (by omega)
        omega
    · rw [if_neg lt]
      refine .inr ⟨b, rfl, ⟨j, by omega, e⟩, fun k hk => ?_⟩
      by_cases ek : k = i
      · rw [ek, ← hc]; omega
      · exact h2 k (by omega)
theorem bestI.first {n : Nat} {f g : Nat → Bool} {i : Nat} {c : Nat} (h : bestI n f g i .non) (hc : c = M30.lfar n (M30.bl n f) (M30.bl n g) (-((M30.bl n f).length : Int) + (i : Int))) : bestI n f g (i + 1) (.int (c : Int)) := by
  rcases h with ⟨h, _⟩ | ⟨_, h, _⟩
  · subst h
    refine .inr ⟨c, rfl, ⟨0, by omega, hc⟩, fun k hk => ?_⟩
    have : k = 0 := by omega
    rw [this, hc]; exact Nat.le_refl _
  · cases h
section
variable {P : Program} {w : World} {K : PySem.W.Frag} {mg : Str → Option Value} {base : Heap} {A : Ad}
def sp_l_least (K : PySem.W.Frag) : Sp := fun vs H Q _ => ∃ (a b : Addr) (n : Nat) (f g : Nat → Bool), vs = [.ref a, .ref b, .int (n : Int)] ∧ SqL K H a ((blI n f).map V.int) ∧ SqL K H b ((blI n g).map V.int) ∧ (3 ≤ n ∧ n ≤ 40) ∧
  (M30.bl n f).length = (M30.bl n g).length ∧ 0 < (M30.bl n f).length ∧ ∀ k : Nat, M30.IsD n f g k → RetV (.int (k : Int)) H Q
theorem ok_l_least (T : Txt K mg A) : FnOk P w K mg base CX0 1 A.f_l_least A.d_l_least ["_law_first", "_law_last", "_law_many"] (sp_l_least K) := by
  refine T.F_l_least.ok sc_l_least (fun vs H Q E h => ?_) (fun cdv A' outer s H vs Q E hr h => ?_)
  · obtain ⟨a, b, n, f, g, rfl, _⟩ := h
    rfl
  · obtain ⟨a, b, n, f, g, rfl, hS1, hS2, hn, hl, hd, q⟩ := h
    refine ⟨_, (pss_cons (ps_set (i := 3) sc_l_least.nd rfl (by first | exact .inl rfl | exact .inr rfl) (pe_callB (call_lenK (K := K) rfl) (by rfl) T.z_len PySem.boot_len (pa_cons (pv 0) pa_nil)))
      (pss_cons (ps_set (i := 4) sc_l_least.nd rfl (by first | exact .inl rfl | exact .inr rfl) pe_non)
      (pss_cons (ps_for PassesOwn.never rfl (pi_range2 (by rfl) T.z_range (pa_cons (pe_op op_sub pe_int (pv 3)) (pa_cons (pe_op op_add (pv 3) pe_int) pa_nil))) (pg_name (i := 5) sc_l_least.nd rfl (by first | exact .inl rfl | exact .inr rfl)) (pss_cons (ps_set (i := 6) sc_l_least.nd rfl (by first | exact .inl rfl | exact .inr rfl) pe_int)
      (pss_cons (ps_for PassesOwn.never rfl (pi_enum (by rfl) T.z_enumerate (pa_cons (pv 0) pa_nil)) (pg_tupK (n := 2) (K := K) rfl rfl (pgs_cons (pg_name (i := 7) sc_l_least.nd rfl (by first | exact .inl rfl | exact .inr rfl)) (pgs_cons (pg_name (i := 8) sc_l_least.nd rfl (by first | exact .inl rfl | exact .inr rfl)) pgs_nil))) (pss_cons (ps_set (i := 9) sc_l_least.nd rfl (by first | exact .inl rfl | exact .inr rfl) (pe_op op_add (pv 7) (pv 5)))
      (pss_cons (ps_set (i := 10) sc_l_least.nd rfl (by first | exact .inl rfl | exact .inr rfl) (pe_op op_add (pe_ix (ix_listK (K := K) rfl) (pv 1) (pe_op op_modN (pv 9) (pv 3)) (fun _ _ => rfl)) (pe_op op_mul (pv 2) (pe_op op_fdivN (pv 9) (pv 3)))))
      (pss_one (ps_set (i := 6) sc_l_least.nd rfl (by first | exact .inl rfl | exact .inr rfl) (pe_op op_add (pv 6) (pe_callB call_abs (by rfl) T.z_abs (by decide +kernel) (pa_cons (pe_op op_sub (pv 8) (pv 10)) pa_nil))))))))
      (pss_one (ps_set (i := 4) sc_l_least.nd rfl (by first | exact .inl rfl | exact .inr rfl) (pe_ifExp (PW.pt (pw_or (pt_cmp (pc_isN (pv 4))) (pw_or1 (pt_cmpR op_lt (pv 6) (pv 4) (nomark _))))) (pv 6) (pv 4)))))))
      (pss_one (ps_ret (pv 4)))))), ?_⟩
    have bl1 := blI_len' n f
    have bl2 := blI_len' n g
    have bn := blI_len n f
    obtain ⟨d, hD⟩ : ∃ d, (M30.bl n f).length = d := ⟨_, rfl⟩
    -- size = len(first)
    refine q_asg (v := .int (d : Int)) (ev_is (ev_len (ev_var rfl) hS1) (by rw [List.length_map, bl1, hD])) fun H1 e1 => ?_
    -- best = None
    refine q_asg (v := .non) ev_c fun H2 e2 => ?_
    have e12 := e1.trans e2
    refine q_forR2n (lo := 0 - (d : Int)) (n := (d : Int) + 1) (ea_cons (ev_op ev_c (ev_var rfl) rv_I0) (ea_cons (ev_op (ev_var rfl) ev_c rv_I0) ea_nil)) (by omega)
      (fun i σ' H' => ∃ v, (∃ y5 y6 y7 y8 y9 y10, σ' = [some (.ref a), some (.ref b), some (.int (n : Int)), some (.int (d : Int)), some v, y5, y6, y7, y8, y9, y10]) ∧ Ex H H' ∧ bestI n f g i v)
      (fun H3 e3 => ⟨.non, ⟨none, none, none, none, none, none, rfl⟩, e12.trans e3, .inl ⟨rfl, rfl⟩⟩) ?_ ?_
    · rintro i σ' H' hi ⟨v, ⟨y5, y6, y7, y8, y9, y10, rfl⟩, e3, hb⟩
      -- far = 0
      refine q_asg (v := .int 0) ev_c fun H4 e4 => ?_
      have e34 := e3.trans e4
      obtain ⟨t, ht⟩ : ∃ t : Int, 0 - (d : Int) + (i : Int) = t := ⟨_, rfl⟩
      show tSeq _ _ _ [some (.ref a), some (.ref b), some (.int (n : Int)), some (.int (d : Int)), some v, some (.int (0 - (d : Int) + (i : Int))), some (.int 0), y7, y8, y9, y10] H4
      rw [ht]
      -- for at, one in enumerate(first)
      refine ⟨.ref a, rfl, a, _, rfl, ex_l e34 hS1, ?_⟩
      refine for_enumL (xs := (blI n f).map V.int) (fun j σ' H' => (∃ y7 y8 y9 y10, σ' = [some (.ref a), some (.ref b), some (.int (n : Int)), some (.int (d : Int)), some v, some (.int t),
          some (.int ((M30.sumN j fun i => (((M30.bl n f).getD i 0 : Int) - M30.lgoal n (M30.bl n g) (M30.bl n f).length ((i : Int) + t)).natAbs : Nat) : Int)), y7, y8, y9, y10]) ∧ Ex H H')
        ⟨⟨y7, y8, y9, y10, rfl⟩, e34⟩ (fun j σ' H' z => ex_l z.2 hS1) ?_ ?_
      · rintro j x Tt σ' H5 hx ⟨⟨y7, y8, y9, y10, rfl⟩, e5⟩ nT
        obtain ⟨one, ho, rfl⟩ := map_at hx
        obtain ⟨hj, eo, o1, o2⟩ := blI_at ho
        have e6 : Ex H5 (upd H5 Tt (.tup [.int (j : Nat), .int one])) := Ex.new nT
        refine ⟨Tt, _, rfl, .inl (.inl upd_same), rfl, _, _, rfl, _, _, rfl, rfl, ?_⟩
        have e56 := e5.trans e6
        generalize upd H5 Tt (.tup [.int (j : Nat), .int one]) = H6 at e6 e56
        -- spot = at + turn
        refine q_asg (ev_op (ev_var rfl) (ev_var rfl) rv_I0) fun H7 e7 => ?_
        have e57 := e56.trans e7
        have fm := fmod_at (i := (j : Int) + t) (j := (d : Int)) (by omega)
        have gl : ∀ H', Ex H7 H' → Ev (tOp (rIxL K) (tVar 1) (tOp (rI (fun _ j => j ≠ 0) fun i j => .int (i.fmod j)) (tVar 9) (tVar 3))) [some (.ref a), some (.ref b), some (.int (n : Int)), some (.int (d : Int)), some v, some (.int t),
            some (.int ((M30.sumN j fun i => (((M30.bl n f).getD i 0 : Int) - M30.lgoal n (M30.bl n g) (M30.bl n f).length ((i : Int) + t)).natAbs : Nat) : Int)), some (.int (j : Int)), some (.int one), some (.int ((j : Int) + t)), y10] H' (.int (((M30.bl n g).getD (((j : Int) + t).fmod (d : Int)).toNat 0 : Nat) : Int)) := fun H' e' => by
          rw [← blI_getD (by omega)]
          exact ev_op (ev_var rfl) (ev_op (ev_var rfl) (ev_var rfl) (rv_I (by show (d : Int) ≠ 0; omega))) (rv_ixL (ex_l (e57.trans e') hS2) (atI_int (by omega) (by omega)))
        -- goal = last[spot % size] + many * (spot // size)
        refine q_asg (v := .int (M30.lgoal n (M30.bl n g) d ((j : Int) + t))) (ev_is (ev_op (gl H7 (Ex.refl H7)) (ev_op (ev_var rfl) (ev_op (ev_var rfl) (ev_var rfl) (rv_I ⟨by show (d : Int) ≠ 0; omega, by show ((d : Int)).natAbs < _; omega⟩)) (rv_I (.inl ⟨by omega, by omega⟩))) rv_I0) rfl) fun H8 e8 => ?_
        -- far = far + abs(one - goal)
        refine s_asg (v := .int ((M30.sumN (j + 1) fun i => (((M30.bl n f).getD i 0 : Int) - M30.lgoal n (M30.bl n g) (M30.bl n f).length ((i : Int) + t)).natAbs : Nat) : Int)) (ev_is (ev_op (ev_var rfl) (ev_cb (ea_cons (ev_op (ev_var rfl) (ev_var rfl) rv_I0) ea_nil) fun H9 e9 Q9 q9 => ⟨_, rfl, q9 H9 (Ex.refl H9)⟩) rv_I0) ?_) fun H9 e9 => ?_
        · refine congrArg V.int ?_
          rw [M30.sumN_succ, eo, hD]
          generalize (((M30.bl n f).getD j 0 : Nat) : Int) - M30.lgoal n (M30.bl n g) d ((j : Int) + t) = u
          generalize (M30.sumN j fun i => (((M30.bl n f).getD i 0 : Int) - M30.lgoal n (M30.bl n g) d ((i : Int) + t)).natAbs) = s
          split <;> omega
        · exact ⟨⟨_, _, _, _, rfl⟩, (e57.trans e8).trans e9⟩
      · rintro σ' H5 ⟨⟨y7, y8, y9, y10, rfl⟩, e5⟩
        rw [List.length_map, bl1]
        have ec : M30.lfar n (M30.bl n f) (M30.bl n g) (-((M30.bl n f).length : Int) + (i : Int)) = M30.sumN (M30.bl n f).length fun i => (((M30.bl n f).getD i 0 : Int) - M30.lgoal n (M30.bl n g) (M30.bl n f).length ((i : Int) + t)).natAbs := by
          unfold M30.lfar
          rw [hD, show -(d : Int) + (i : Int) = t by omega]
        generalize (M30.sumN (M30.bl n f).length fun i => (((M30.bl n f).getD i 0 : Int) - M30.lgoal n (M30.bl n g) (M30.bl n f).length ((i : Int) + t)).natAbs) = c at ec
        -- best = far if best is None or far < best else best
        by_cases vn : v = .non
        · subst vn
          refine s_asg (v := .int (c : Int)) (ev_if (b := true) (et_or (a := true) (b := true) (et_non (ev_var rfl)) (fun z => nomatch z)) (fun _ => ev_var rfl) (fun z => nomatch z)) fun H6 e6 => ?_
          exact ⟨_, ⟨_, _, _, _, _, _, rfl⟩, e5.trans e6, hb.first ec.symm⟩
        · obtain ⟨b', rfl⟩ : ∃ b' : Nat, v = .int (b' : Int) := by
            rcases hb with ⟨_, h⟩ | ⟨b', h, _⟩
            · exact absurd h vn
            · exact ⟨b', h⟩
          have tst : EvT (tOr (tB (tIsN (tVar 4))) (tTest (tOp (rI0 fun i j => V.bl (decide (i < j))) (tVar 6) (tVar 4)))) [some (.ref a), some (.ref b), some (.int (n : Int)), some (.int (d : Int)), some (.int (b' : Int)), some (.int t), some (.int (c : Int)), y7, y8, y9, y10] H5 (decide ((c : Int) < (b' : Int))) :=
            (et_or (a := false) (et_int (ev_var rfl)) fun _ => et_test (ev_op (ev_var rfl) (ev_var rfl) rv_I0))
          refine s_asg (v := .int ((if (c : Int) < (b' : Int) then c else b' : Nat) : Int)) (ev_if tst (fun z => ?_) (fun z => ?_)) fun H6 e6 => ?_
          · rw [if_pos (of_decide_eq_true z)]
            exact ev_var rfl
          · rw [if_neg (of_decide_eq_false z)]
            exact ev_var rfl
          · exact ⟨_, ⟨_, _, _, _, _, _, rfl⟩, e5.trans e6, hb.go ec.symm⟩
    · rintro σ' H' ⟨v, ⟨y5, y6, y7, y8, y9, y10, rfl⟩, e3, hb⟩
      rw [show ((d : Int) + 1 - (0 - (d : Int))).toNat = 2 * d + 1 by omega] at hb
      rcases hb with ⟨h, _⟩ | ⟨k, rfl, ⟨j, hj, e⟩, h2⟩
      · omega
      · have isd : M30.IsD n f g k := least_is hl hd (by omega) ⟨_, by omega, by omega, e⟩ fun t t1 t2 => by
          have z := h2 (t + (d : Int)).toNat (by omega)
          rwa [show -((M30.bl n f).length : Int) + (((t + (d : Int)).toNat : Nat) : Int) = t by omega] at z
        exact s_ret (v := .int (k : Int)) (ev_var rfl) fun H5 e5 => q k isd H5 (e3.trans e5)
end
end K30

namespace K30
open PySem PySem.Spec PyProof.Rows L2 Vf Evl
/-! ### the law's search, layer by layer -/
abbrev Key2 := List Key
def keyN (x : List Nat) : List Key := x.map fun c : Nat => (Sum.inl (c : Int) : Key)
def intsN (x : List Nat) : List V := (x.map fun c : Nat => (c : Int)).map V.int
theorem key_ints (x : List Nat) : (keyN x).map kV = intsN x := by
  unfold keyN intsN
  rw [List.map_map, List.map_map]
  rfl
theorem key_inj : ∀ {x y : List Nat}, keyN x = keyN y → x = y
  | [], [], _ => rfl
  | [], _ :: _, h => by cases h
  | _ :: _, [], h => by cases h
  | a :: x, b :: y, h => by
    unfold keyN at h
    rw [List.map_cons, List.map_cons] at h
    injection h with h1 h2
    rw [key_inj (x := x) (y := y) h2]
    injection h1 with h1
    rw [show a = b by omega]
theorem intsN_bl (n : Nat) (f : Nat → Bool) : intsN (M30.bl n f) = (blI n f).map V.int := rfl
def FAt (H : Hp) (D : Addr) (F : List Nat → Option Nat) : Prop := ∃ (kvs : List (List Key × V)) (Ks : List (List Nat)), H D = some (.dT kvs) ∧ (∀ x, valV kvs (keyN x) = (F x).map fun v : Nat => V.int (v : Int)) ∧ kvs.length ≤ Ks.length ∧ Ks.Nodup ∧ ∀ x ∈ Ks, (F x).isSome = true
theorem FAt.on {H H' : Hp} {D : Addr} {F : List Nat → Option Nat} (h : FAt H D F) (e : Ex H H') : FAt H' D F := by
  obtain ⟨kvs, Ks, a, b⟩ := h
  exact ⟨kvs, Ks, e _ _ a, b⟩
theorem FAt.off {H H' : Hp} {D : Addr} {F : List Nat → Option Nat} (h : FAt H D F) (e : H' D = H D) : FAt H' D F := by
  obtain ⟨kvs, Ks, a, b⟩ := h
  exact ⟨kvs, Ks, e.trans a, b⟩
theorem FAt.get {H : Hp} {D t : Addr} {F : List Nat → Option Nat} (h : FAt H D F) {x : List Nat} (ht : H t = some (.tup (intsN x))) : DGet H D (.ref t) ((F x).map fun v : Nat => V.int (v : Int)) := by
  obtain ⟨kvs, Ks, a, b, _⟩ := h
  rw [← b]
  exact DGet.t a (by rw [key_ints]; exact ht)
theorem FAt.put {H : Hp} {D t : Addr} {F : List Nat → Option Nat} (h : FAt H D F) {x : List Nat} (hx : F x = none) (ht : H t = some (.tup (intsN x))) (v : Nat) (hl : ∀ Ks : List (List Nat), Ks.Nodup → (∀ x ∈ Ks, (F x).isSome = true) → Ks.length < 90000) :
    ∃ H', DPut H D (.ref t) (.int (v : Int)) H' ∧ FAt H' D (M30.putF F x v) ∧ (∃ o, H' = upd H D o) := by
  obtain ⟨kvs, Ks, a, b, c, nd, k⟩ := h
  have few := hl Ks nd k
  refine ⟨_, DPut.t (k := keyN x) a (by rw [key_ints]; exact ht) (sz_lt (by omega)), ⟨_, x :: Ks, upd_same, fun y => ?_, ?_, ?_, fun y hy => ?_⟩, _, rfl⟩
  · rw [valV_put]
    unfold M30.putF
    by_cases e : y = x
    · rw [if_pos (by rw [e]), if_pos e]
      rfl
    · rw [if_neg (fun z => e (key_inj z)), if_neg e]
      exact b y
  · have := length_putK kvs (keyN x) (V.int (v : Int))
    rw [List.length_cons]
    omega
  · refine List.nodup_cons.mpr ⟨fun z => ?_, nd⟩
    have := k x z
    rw [hx] at this
    cases this
  · unfold M30.putF
    by_cases e : y = x
    · rw [if_pos e]; rfl
    · rw [if_neg e]
      exact k y ((List.mem_cons.mp hy).resolve_left e)
theorem fat_one {H : Hp} {D : Addr} {x : List Nat} (h : H D = some (.dT [(keyN x, V.int 0)])) : FAt H D (M30.putF (fun _ => none) x 0) := by
  refine ⟨_, [x], h, fun y => ?_, Nat.le_refl _, by simp, fun y hy => ?_⟩
  · show valV (putK [] (keyN x) (V.int 0)) (keyN y) = _
    rw [valV_put]
    unfold M30.putF
    by_cases e : y = x
    · rw [if_pos (by rw [e]), if_pos e]; rfl
    · rw [if_neg (fun z => e (key_inj z)), if_neg e]; rfl
  · unfold M30.putF
    rw [if_pos (List.mem_singleton.mp hy)]
    rfl
theorem ex_of_exA {D : Addr} {H H0 H' : Hp} (e : Ex H H0) (a : ExA D H0 H') (h : H D = none) : Ex H H' := fun b o hb => a b o (fun z => by rw [z, h] at hb; cases hb) (e b o hb)
/-- a layer: lists of breaks, none of them the dict -/
def LayAt (K : PySem.W.Frag) (H : Hp) (D ly : Addr) (L : List (List Nat)) : Prop := ∃ as : List Addr, H ly = some (.lst (as.map V.ref)) ∧ as.length = L.length ∧ ∀ (i : Nat) (a : Addr) (x : List Nat), as[i]? = some a → L[i]? = some x → SqL K H a (intsN x) ∧ a ≠ D
def RowsAt (H : Hp) (D wd : Addr) (W : List (List Nat)) : Prop := ∃ ps : List Addr, H wd = some (.lst (ps.map V.ref)) ∧ ps.length = W.length ∧ D ∉ ps ∧ wd ∉ ps ∧ ∀ (i : Nat) (a : Addr) (x : List Nat), ps[i]? = some a → W[i]? = some x → H a = some (.lst (intsN x))
theorem RowsAt.on {H H' : Hp} {D wd : Addr} {W : List (List Nat)} (h : RowsAt H D wd W) (e : Ex H H') : RowsAt H' D wd W := by
  obtain ⟨ps, a, b, c, d, k⟩ := h
  exact ⟨ps, e _ _ a, b, c, d, fun i p x h1 h2 => e _ _ (k i p x h1 h2)⟩
theorem RowsAt.offD {H : Hp} {D wd : Addr} {W : List (List Nat)} (h : RowsAt H D wd W) (ne : wd ≠ D) (o : HO) : RowsAt (upd H D o) D wd W := by
  obtain ⟨ps, a, b, c, d, k⟩ := h
  refine ⟨ps, by rw [upd_ne ne]; exact a, b, c, d, fun i p x h1 h2 => ?_⟩
  rw [upd_ne (fun z => c (by rw [← z]; exact List.mem_of_getElem? h1))]
  exact k i p x h1 h2
theorem RowsAt.push {H : Hp} {D wd p : Addr} {W : List (List Nat)} {x : List Nat} (h : RowsAt H D wd W) (hp : H p = some (.lst (intsN x))) (nD : p ≠ D) (nW : p ≠ wd) :
    ∃ ps : List Addr, H wd = some (.lst (ps.map V.ref)) ∧ ps.length = W.length ∧ ∀ H', Ex H H' → RowsAt (upd H' wd (.lst (ps.map V.ref ++ [.ref p]))) D wd (W ++ [x]) := by
  obtain ⟨ps, a, b, c, d, k⟩ := h
  refine ⟨ps, a, b, fun H' e => ⟨ps ++ [p], by rw [upd_same, List.map_append]; rfl, by simp [b], fun z => ?_, fun z => ?_, fun i q y h1 h2 => ?_⟩⟩
  · rcases List.mem_append.mp z with z | z
    · exact c z
    · exact nD (List.mem_singleton.mp z).symm
  · rcases List.mem_append.mp z with z | z
    · exact d z
    · exact nW (List.mem_singleton.mp z).symm
  · by_cases hi : i < ps.length
    · rw [List.getElem?_append_left hi] at h1
      rw [List.getElem?_append_left (by rw [← b]; exact hi)] at h2
      rw [upd_ne (fun z => d (by rw [← z]; exact List.mem_of_getElem? h1))]
      exact e _ _ (k i q y h1 h2)
    · have ei : i = ps.length := by
        have z := (List.getElem?_eq_some_iff.mp h1).1
        rw [List.length_append, List.length_singleton] at z
        omega
      rw [ei, List.getElem?_append_right (Nat.le_refl _), Nat.sub_self] at h1
      rw [ei, b, List.getElem?_append_right (Nat.le_refl _), Nat.sub_self] at h2
      cases h1
      cases h2
      rw [upd_ne nW]
      exact e _ _ hp
theorem RowsAt.lay {K : PySem.W.Frag} {H : Hp} {D wd : Addr} {W : List (List Nat)} (h : RowsAt H D wd W) : LayAt K H D wd W := by
  obtain ⟨ps, a, b, c, d, k⟩ := h
  exact ⟨ps, a, b, fun i p x h1 h2 => ⟨.inl (.inl (k i p x h1 h2)), fun z => c (by rw [← z]; exact List.mem_of_getElem? h1)⟩⟩
/-- breaks are whole numbers that may be shown and compared -/
theorem bl_dn {n : Nat} (f : Nat → Bool) (h : n ≤ 40) : Dn (dInts (blI n f)) 1300 2 := by
  refine (dn_ints fun x hx => ?_).mono (by have := blI_len n f; omega) (by decide)
  obtain ⟨i, hi⟩ := List.getElem?_of_mem hx
  have := blI_at hi
  omega
theorem bl_sh {K : PySem.W.Frag} {H : Hp} {a : Addr} {n : Nat} {f : Nat → Bool} (h : n ≤ 40) (hS : SqL K H a ((blI n f).map V.int)) : Sh K H (.ref a) :=
  ⟨_, dp_ints hS, (bl_dn f h).lay_, Nat.le_trans (bl_dn f h).dep_ (by decide)⟩
theorem et_neNil {K : PySem.W.Frag} {σ : L2.St} {H : Hp} {i : Nat} {l : Addr} {xs : List V} (h : σ[i]? = some (some (.ref l))) (hl : SqL K H l xs) (hx : ∀ H1, Ex H H1 → ∀ x ∈ xs, Sh K H1 x) : EvT (tTest (tOp (rNeD K) (tVar i) (tLst tNil))) σ H (!xs.isEmpty) := fun H1 e Q q =>
  ⟨_, h, Nat.zero_le _, fun z nz => ne_nil (ex_l (e.trans (Ex.new nz)) hl) upd_same (hx _ (e.trans (Ex.new nz))) ⟨_, rfl, q _ (Ex.new nz)⟩⟩
section
variable {P : Program} {w : World} {K : PySem.W.Frag} {mg : Str → Option Value} {base : Heap} {A : Ad}
def sp_l_steps : Sp := fun vs H Q _ => ∃ (a b : Addr) (n : Nat) (f g : Nat → Bool), vs = [.ref a, .ref b, .int (n : Int)] ∧ H a = some (.lst ((blI n f).map V.int)) ∧ H b = some (.lst ((blI n g).map V.int)) ∧ (3 ≤ n ∧ n ≤ 8) ∧
  (M30.bl n f).length = (M30.bl n g).length ∧ 0 < (M30.bl n f).length ∧ (M30.bl n f).length < n ∧ ∀ k : Nat, M30.IsD n f g k → RetV (.int (k : Int)) H Q
theorem ok_l_steps (T : Txt K mg A) : FnOk P w K mg base CX0 2 A.f_l_steps A.d_l_steps ["_law_first", "_law_last", "_law_many"] sp_l_steps := by
  have G_l_turned : FnOk P w K mg base CX0 1 A.f_l_turned A.d_l_turned ["_law_some", "_law_call", "_law_many"] (sp_l_turned K) := ok_l_turned T
  refine T.F_l_steps.ok sc_l_steps (fun vs H Q E h => ?_) (fun cdv A' outer s H vs Q E hr h => ?_)
  · obtain ⟨a, b, n, f, g, rfl, _⟩ := h
    rfl
  · obtain ⟨a, b, n, f, g, rfl, hS1, hS2, hn, hl, hd, hd2, q⟩ := h
    refine ⟨_, (pss_cons (ps_set (i := 3) sc_l_steps.nd rfl (by first | exact .inl rfl | exact .inr rfl) (pe_disp1T (Nat.lt_of_succ_lt (hu_of hr)) (pe_callTy call_tuple_of (by rfl) T.z_tuple (by decide +kernel) (pa_cons (pv 0) pa_nil)) pe_int))
      (pss_cons (ps_set (i := 4) sc_l_steps.nd rfl (by first | exact .inl rfl | exact .inr rfl) (pe_lst (pa_cons (pv 0) pa_nil)))
      (pss_cons (ps_while PassesOwn.never (pt_cmpR (op_neD hr.units) (pv 4) (pe_lst pa_nil) (nomark _)) (pss_cons (ps_set (i := 5) sc_l_steps.nd rfl (by first | exact .inl rfl | exact .inr rfl) (pe_lst pa_nil))
      (pss_cons (ps_for PassesOwn.never rfl (pi_listK (K := K) rfl (pv 4)) (pg_name (i := 6) sc_l_steps.nd rfl (by first | exact .inl rfl | exact .inr rfl)) (pss_one (ps_for PassesOwn.never rfl (pi_range2 (by rfl) T.z_range (pa_cons pe_int (pa_cons (pe_op op_add (pv 2) pe_int) pa_nil))) (pg_name (i := 7) sc_l_steps.nd rfl (by first | exact .inl rfl | exact .inr rfl)) (pss_cons (ps_set (i := 8) sc_l_steps.nd rfl (by first | exact .inl rfl | exact .inr rfl) (pe_call G_l_turned (hr.mono (by decide)) (by rfl) T.g_l_turned T.F_l_turned.kp T.b_l_turned .nil pass0 (pa_cons (pv 6) (pa_cons (pv 7) (pa_cons (pv 2) pa_nil)))))
      (pss_one (ps_if (PW.pt (pw_and (pt_cmp (pc_notN (pv 8))) (pw_and1 (pt_cmp (pc_dnotin (hu_of hr) (pe_callTy call_tuple_of (by rfl) T.z_tuple (by decide +kernel) (pa_cons (pv 8) pa_nil)) (pv 3)))))) (pss_cons (ps_asg (pe_op op_add (pe_dget (hu_of hr) (pv 3) (pe_callTy call_tuple_of (by rfl) T.z_tuple (by decide +kernel) (pa_cons (pv 6) pa_nil)) (fun _ _ => rfl)) pe_int) (pg_sub (pv 3) (pe_callTy call_tuple_of (by rfl) T.z_tuple (by decide +kernel) (pa_cons (pv 8) pa_nil)) (set_dict (hu_of hr))))
      (pss_one (ps_expr (pe_bmK (K := K) rfl PySem.F.plainAttrs_list PySem.F.slot_list_append PySem.F.type_list_append mt_append (pv 5) (pa_cons (pv 8) pa_nil))))) pss_nil))))))
      (pss_one (ps_set (i := 4) sc_l_steps.nd rfl (by first | exact .inl rfl | exact .inr rfl) (pv 5))))))
      (pss_one (ps_ret (pe_dget1 (hu_of hr) (pv 3) (pe_callTy call_tuple_of (by rfl) T.z_tuple (by decide +kernel) (pa_cons (pv 1) pa_nil)) ⟨rfl, rfl, rfl, rfl⟩)))))), ?_⟩
    obtain ⟨v, hv⟩ := M30.isD_of (M30.dif_E hl 0)
    have qv := q v hv
    have dk : M30.Dk n f g v := ⟨hv, hl.symm⟩
    clear q
    have n2 : 2 ≤ n := by omega
    have nn : n * n ≤ 64 := Nat.mul_le_mul hn.2 hn.2
    -- found = {tuple(first): 0}
    refine fun D nD => ⟨_, rfl, a, _, rfl, .inl ⟨.inl (.inl (Ex.new nD _ _ hS1)), fun l nl => ?_⟩⟩
    have naD : a ≠ D := ne_of_none hS1 nD
    have e1 : Ex H (upd H D (.dT [])) := Ex.new nD
    have nlD : l ≠ D := fun z => by rw [z, upd_same] at nl; cases nl
    refine ⟨l, keyN (M30.bl n f), rfl, by rw [upd_same, key_ints, intsN_bl], by rw [upd_ne (Ne.symm nlD), upd_same], ?_⟩
    have e2 := (e1.trans (Ex.new (o := .tup ((blI n f).map V.int)) nl)).mut (o := .dT [(keyN (M30.bl n f), V.int 0)]) nD
    have hF := fat_one (H := upd (upd (upd H D (.dT [])) l (.tup ((blI n f).map V.int))) D (.dT [(keyN (M30.bl n f), V.int 0)])) (D := D) (x := M30.bl n f) upd_same
    revert e2 hF
    generalize upd (upd (upd H D (.dT [])) l (.tup ((blI n f).map V.int))) D (.dT [(keyN (M30.bl n f), V.int 0)]) = H2
    intro e2 hF
    -- layer = [first]
    refine q_asgL (el_lst (ea_cons (ev_var rfl) ea_nil) (by show 1 ≤ 100000; decide)) fun ly H3 nly e3 hly => ?_
    have lay0 : LayAt K H3 D ly [M30.bl n f] := ⟨[a], hly, rfl, fun i p x h1 h2 => by
      match i, h1, h2 with
      | 0, h1, h2 =>
        cases h1
        cases h2
        exact ⟨.inl (.inl ((e2.trans e3) _ _ hS1)), naD⟩
      | _ + 1, h1, _ => cases h1⟩
    have nlyD : ly ≠ D := fun z => by
      obtain ⟨kvs, Ks, h, _⟩ := hF
      rw [z, h] at nly
      cases nly
    -- while layer != []
    refine q_while (fun m σ' H' => ∃ (ly : Addr) (F : List Nat → Option Nat) (L : List (List Nat)) (k : Nat), (∃ y5 y6 y7 y8, σ' = [some (.ref a), some (.ref b), some (.int (n : Int)), some (.ref D), some (.ref ly), y5, y6, y7, y8]) ∧ Ex H H' ∧ FAt H' D F ∧ LayAt K H' D ly L ∧ ly ≠ D ∧ M30.Jw n f k F L ∧
        m = (if L = [] then 0 else n * n + 1 - k)) (if [M30.bl n f] = [] then 0 else n * n + 1 - 0) ⟨ly, _, _, 0, ⟨none, none, none, none, rfl⟩, e2.trans e3, hF.on e3, lay0, nlyD, M30.Jw.start n f, rfl⟩ ?_
    rintro m σ' H' ⟨ly, F, L, k, ⟨y5, y6, y7, y8, rfl⟩, eH, hF, hL, nlyD, J, hm⟩
    clear hly e3 lay0 nly e2
    obtain ⟨as, hly, hlen, hat⟩ := hL
    have tst : EvT (tTest (tOp (rNeD K) (tVar 4) (tLst tNil))) [some (.ref a), some (.ref b), some (.int (n : Int)), some (.ref D), some (.ref ly), y5, y6, y7, y8] H' (!(as.map V.ref).isEmpty) :=
      et_neNil rfl (.inl (.inl hly)) fun H1 e x hx => by
        obtain ⟨p, hp, rfl⟩ := List.mem_map.mp hx
        obtain ⟨i, hi⟩ := List.getElem?_of_mem hp
        have hi2 : i < L.length := by rw [← hlen]; exact (List.getElem?_eq_some_iff.mp hi).1
        have hx := List.getElem?_eq_getElem hi2
        obtain ⟨g2, eg, _⟩ := (J.c _).mp (List.mem_of_getElem? hx)
        have z := (hat i p _ hi hx).1
        rw [eg] at z
        exact bl_sh (n := n) (f := g2) (by omega) (ex_l e z)
    refine ⟨_, tst, fun hne H1 e1 => ?_, fun hne H1 e1 => ?_⟩
    · have Lne : L ≠ [] := fun z => by
        rw [z] at hlen
        rw [List.eq_nil_of_length_eq_zero hlen] at hne
        cases hne
      rw [if_neg Lne] at hm
      have kn := J.few Lne
      refine ⟨fun σ' H' => ∃ (ly : Addr) (F : List Nat → Option Nat) (L : List (List Nat)), (∃ y5 y6 y7 y8, σ' = [some (.ref a), some (.ref b), some (.int (n : Int)), some (.ref D), some (.ref ly), y5, y6, y7, y8]) ∧ Ex H H' ∧ FAt H' D F ∧ LayAt K H' D ly L ∧ ly ≠ D ∧ M30.Jw n f (k + 1) F L,
        fun σ2 H2 ⟨ly, F, L, h1, h2, h3, h4, h5, h6⟩ => ⟨if L = [] then 0 else n * n + 1 - (k + 1), ?_, ly, F, L, k + 1, h1, h2, h3, h4, h5, h6, rfl⟩, ?_⟩
      · split <;> omega
      have hF1 := hF.on e1
      have hly1 := e1 _ _ hly
      have hat1 : ∀ (i : Nat) (p : Addr) (x : List Nat), as[i]? = some p → L[i]? = some x → SqL K H1 p (intsN x) ∧ p ≠ D := fun i p x h1 h2 => ⟨ex_l e1 (hat i p x h1 h2).1, (hat i p x h1 h2).2⟩
      have eH1 := eH.trans e1
      clear hF hly hat tst hne e1 eH
      -- wider = []
      refine q_asgL (el_lst ea_nil (Nat.zero_le _)) fun wd H2 nwd e2 hwd => ?_
      have hF2 := hF1.on e2
      have nwdD : wd ≠ D := fun z => by
        obtain ⟨kvs, Ks, h, _⟩ := hF1
        rw [z, h] at nwd
        cases nwd
      have eH2 := eH1.trans e2
      have hly2 := e2 _ _ hly1
      have nwl : wd ≠ ly := fun z => by rw [z, hly1] at nwd; cases nwd
      have hat2 : ∀ (i : Nat) (p : Addr) (x : List Nat), as[i]? = some p → L[i]? = some x → SqL K H2 p (intsN x) ∧ p ≠ D := fun i p x h1 h2 => ⟨ex_l e2 (hat1 i p x h1 h2).1, (hat1 i p x h1 h2).2⟩
      have nwH : H wd = none := fresh_back eH1 nwd
      have rows0 : RowsAt H2 D wd [] := ⟨[], hwd, rfl, by simp, by simp, fun i p x h1 => by cases h1⟩
      -- what stands within a pass
      have keep : ∀ H', ExA D H1 H' → H' ly = some (.lst (as.map V.ref)) ∧ ∀ (i : Nat) (p : Addr) (x : List Nat), as[i]? = some p → L[i]? = some x → SqL K H' p (intsN x) := fun H' e => ⟨e _ _ nlyD hly1, fun i p x h1 h2 => (e.list (hat1 i p x h1 h2).2 (hat1 i p x h1 h2).1)⟩
      refine q_forLn (xs := as.map V.ref) (ev_var rfl) (.inl (.inl hly2)) (fun i σ' H' => (∃ y6 y7 y8, σ' = [some (.ref a), some (.ref b), some (.int (n : Int)), some (.ref D), some (.ref ly), some (.ref wd), y6, y7, y8]) ∧ ExA D H1 H' ∧
          ∃ (F2 : List Nat → Option Nat) (W : List (List Nat)), FAt H' D F2 ∧ RowsAt H' D wd W ∧ M30.Jp n f k F2 L W i 0 ∧ W.Nodup) (fun H3 e3 => ⟨⟨_, _, _, rfl⟩, ExA.of (e2.trans e3), F, [], hF2.on e3, rows0.on e3, J.go, List.nodup_nil⟩) (fun i σ' H' _ z => .inl (.inl (keep _ z.2.1).1)) ?_ ?_
      · rintro i x σ' H3 hx ⟨⟨y6, y7, y8, rfl⟩, e3, F2, W, hF3, hR3, J3, nd3⟩
        obtain ⟨p, hp, rfl⟩ := map_at hx
        have hi : i < L.length := by rw [← hlen]; exact (List.getElem?_eq_some_iff.mp hp).1
        have hLi := List.getElem?_eq_getElem hi
        obtain ⟨g0, eg0, dk0⟩ := (J.c _).mp (List.mem_of_getElem? hLi)
        rw [eg0] at hLi
        have npD := (hat1 i p _ hp hLi).2
        -- for call in range(1, many + 1)
        refine s_forR2 (lo := 1) (n := (n : Int) + 1) (ea_cons ev_c (ea_cons (ev_op (ev_var rfl) ev_c rv_I0) ea_nil)) (by omega) (fun c σ' H' => (∃ y7 y8, σ' = [some (.ref a), some (.ref b), some (.int (n : Int)), some (.ref D), some (.ref ly), some (.ref wd), some (.ref p), y7, y8]) ∧ ExA D H1 H' ∧
          ∃ (F2 : List Nat → Option Nat) (W : List (List Nat)), FAt H' D F2 ∧ RowsAt H' D wd W ∧ M30.Jp n f k F2 L W i c ∧ W.Nodup) (fun H4 e4 => ⟨⟨_, _, rfl⟩, e3.trans (ExA.of e4), F2, W, hF3.on e4, hR3.on e4, J3, nd3⟩) ?_ ?_
        · clear e3 hF3 hR3 J3 nd3 F2 W
          rintro c σ' H4 hc ⟨⟨y7, y8, rfl⟩, e4, F2, W, hF4, hR4, J4, nd4⟩
          have hcn : c < n := by omega
          have hp4 := (keep _ e4).2 i p _ hp hLi
          rw [intsN_bl] at hp4
          show tSeq _ _ _ [some (.ref a), some (.ref b), some (.int (n : Int)), some (.ref D), some (.ref ly), some (.ref wd), some (.ref p), some (.int (1 + (c : Int))), y8] H4
          rw [show 1 + (c : Int) = (c : Int) + 1 by omega]
          -- more = turned(some, call, many)
          refine ⟨_, rfl, _, rfl, _, rfl, p, n, c, g0, rfl, hp4, hcn, by omega, fun same H5 e5 => ?_, fun ne pm H5 npm e5 hpm => ?_⟩
          · -- it cannot be turned on
            refine ⟨_, rfl, _, rfl, iteF ?_⟩
            exact ⟨⟨_, _, rfl⟩, e4.trans (ExA.of e5), F2, W, hF4.on e5, hR4.on e5, J4.skip hLi hcn same, nd4⟩
          · have hF5 := hF4.on e5
            have hR5 := hR4.on e5
            have npmD : pm ≠ D := fun z => by
              obtain ⟨kvs, Ks, h, _⟩ := hF4
              rw [z, h] at npm
              cases npm
            have npmW : pm ≠ wd := fun z => by
              obtain ⟨ps, h, _⟩ := hR4
              rw [z, h] at npm
              cases npm
            have eA5 := e4.trans (ExA.of (a := D) e5)
            have hpm' : H5 pm = some (.lst (intsN (M30.bl n (M30.sw n c g0)))) := by rw [intsN_bl]; exact hpm
            generalize hx : M30.bl n (M30.sw n c g0) = x at hpm'
            -- if more is not None and tuple(more) not in found
            refine ⟨_, rfl, _, rfl, iteT ?_⟩
            refine ⟨_, rfl, pm, _, rfl, .inl ⟨.inl (.inl hpm'), fun t nt => ?_⟩⟩
            have e6 : Ex H5 (upd H5 t (.tup (intsN x))) := Ex.new nt
            have ht : (upd H5 t (.tup (intsN x))) t = some (.tup (intsN x)) := upd_same
            have hF6 := hF5.on e6
            have hR6 := hR5.on e6
            have eA6 := eA5.trans (ExA.of (a := D) e6)
            have hpm6 := e6 _ _ hpm'
            generalize upd H5 t (.tup (intsN x)) = H6 at e6 ht hF6 hR6 eA6 hpm6
            refine ⟨_, rfl, D, _, rfl, hF6.get ht, _, rfl, ?_⟩
            cases hfx : F2 x with
            | some u =>
              refine iteF ?_
              exact ⟨⟨_, _, rfl⟩, eA6, F2, W, hF6, hR6, J4.known hLi hcn (by rw [hx]; exact hfx), nd4⟩
            | none =>
              refine iteT ?_
              have fk : F2 (M30.bl n g0) = some k := J4.b _ _ dk0 (Nat.le_refl _)
              -- found[tuple(more)] = found[tuple(some)] + 1
              have hp6 := (keep _ eA6).2 i p _ hp hLi
              refine ⟨_, rfl, _, rfl, p, _, rfl, .inl ⟨hp6, fun t2 nt2 => ?_⟩⟩
              have e7 : Ex H6 (upd H6 t2 (.tup (intsN (M30.bl n g0)))) := Ex.new nt2
              have g7 := (hF6.on e7).get (t := t2) (x := M30.bl n g0) upd_same
              rw [fk] at g7
              refine ⟨D, _, rfl, g7, _, _, rfl, rfl, ?_⟩
              have hF7 := hF6.on e7
              have hR7 := hR6.on e7
              have hpm7 := e7 _ _ hpm6
              have eA7 := eA6.trans (ExA.of (a := D) e7)
              revert hF7 hR7 hpm7 eA7
              clear g7
              generalize upd H6 t2 (.tup (intsN (M30.bl n g0))) = H7
              intro hF7 hR7 hpm7 eA7
              refine ⟨_, rfl, _, rfl, pm, _, rfl, .inl ⟨.inl (.inl hpm7), fun t3 nt3 => ?_⟩⟩
              have e8 : Ex H7 (upd H7 t3 (.tup (intsN x))) := Ex.new nt3
              obtain ⟨H9, p9, f9, o9, rfl⟩ := (hF7.on e8).put hfx (t := t3) upd_same (k + 1) fun Ks nd hk => by
                have z := M30.nodup_few (b := M30.subs n) nd fun y hy => by
                  have := hk y hy
                  cases hy2 : F2 y with
                  | none => rw [hy2] at this; cases this
                  | some u =>
                    obtain ⟨g3, e3, _⟩ := J4.a y u hy2
                    rw [e3]
                    exact M30.bl_subs g3 n
                rw [M30.subs_len] at z
                have : 2 ^ n ≤ 2 ^ 8 := Nat.pow_le_pow_right (by decide) hn.2
                omega
              refine ⟨D, _, rfl, p9, ?_⟩
              have hR9 := (hR7.on e8).offD nwdD o9
              have hpm9 : (upd (upd H7 t3 (.tup (intsN x))) D o9) pm = some (.lst (intsN x)) := by rw [upd_ne npmD]; exact e8 _ _ hpm7
              have eA9 : ExA D H1 (upd (upd H7 t3 (.tup (intsN x))) D o9) := (eA7.trans (ExA.of e8)).trans (ExA.upd D _ o9)
              clear p9
              generalize upd (upd H7 t3 (.tup (intsN x))) D o9 = H9 at f9 hR9 hpm9 eA9
              -- wider.append(more)
              obtain ⟨ps, w1, w2, w3⟩ := hR9.push hpm9 npmD npmW
              have wl : W.length < 90000 := by
                have z := M30.nodup_few (b := M30.subs n) nd4 fun y hy => by
                  obtain ⟨g3, e3, _⟩ := J4.a y _ ((J4.c y).mp hy)
                  rw [e3]
                  exact M30.bl_subs g3 n
                rw [M30.subs_len] at z
                have : 2 ^ n ≤ 2 ^ 8 := Nat.pow_le_pow_right (by decide) hn.2
                omega
              refine s_app w1 (ev_var rfl) (ev_var rfl) (by rw [List.length_map, w2]; omega) fun H10 e10 => ?_
              refine ⟨⟨_, _, rfl⟩, ?_, M30.putF F2 x (k + 1), W ++ [x], ?_, w3 H10 e10, ?_, ?_⟩
              · exact (eA9.trans (ExA.of e10)).mut nwd
              · exact (f9.on e10).off (by rw [upd_ne (Ne.symm nwdD)])
              · have z := J4.put hLi hcn n2 dk0 (by rw [hx]; exact hfx)
                rw [hx] at z
                exact z
              · refine List.nodup_append.mpr ⟨nd4, by simp, fun y hy z hz e => ?_⟩
                rw [List.mem_singleton.mp hz] at e
                rw [e, J4.c, hfx] at hy
                cases hy
        · rintro σ' H4 ⟨⟨y7, y8, rfl⟩, e4, F2, W, hF4, hR4, J4, nd4⟩
          rw [show ((n : Int) + 1 - 1).toNat = n by omega] at J4
          exact ⟨⟨_, _, _, rfl⟩, e4, F2, W, hF4, hR4, J4.row, nd4⟩
      · rintro σ' H3 ⟨⟨y6, y7, y8, rfl⟩, e3, F2, W, hF3, hR3, J3, nd3⟩
        rw [List.length_map, hlen] at J3
        refine s_asg (v := .ref wd) (ev_var rfl) fun H4 e4 => ?_
        exact ⟨wd, F2, W, ⟨_, _, _, _, rfl⟩, (ex_of_exA eH1 e3 nD).trans e4, hF3.on e4, (hR3.on e4).lay, nwdD, J3.close J.c n2 hd hd2⟩
    · have Ln : L = [] := by
        cases as with
        | nil => exact List.eq_nil_of_length_eq_zero hlen.symm
        | cons x xs => cases hne
      subst Ln
      have fg := J.done n2 hd hd2 dk
      have hF1 := hF.on e1
      -- return found.get(tuple(last))
      have isd : IsD H1 D := by
        obtain ⟨kvs, Ks, h, _⟩ := hF1
        exact .inr ⟨kvs, .inl h⟩
      refine ⟨_, rfl, D, rfl, isd, _, rfl, b, _, rfl, .inl ⟨.inl (.inl (e1 _ _ (eH _ _ hS2))), fun t nt => ?_⟩⟩
      have e2 : Ex H1 (upd H1 t (.tup ((blI n g).map V.int))) := Ex.new nt
      have g2 := (hF1.on e2).get (t := t) (x := M30.bl n g) upd_same
      rw [fg] at g2
      exact ⟨_, g2, qv _ ((eH.trans e1).trans e2)⟩
end
end K30

namespace K30
open PySem PySem.Spec PyProof.Rows L2 Vf Evl
/-! ### the other orders that the law makes of one -/
theorem stn_perm {n : Nat} {a b : List Int} (h : MR.Stn n a) (p : b.Perm a) : MR.Stn n b := ⟨by rw [p.length_eq, h.len], fun x hx => h.lo x (p.mem_iff.mp hx), p.nodup_iff.mpr h.nd⟩
theorem map_perm {ys : List V} {ns : List Int} (p : ys.Perm (ns.map V.int)) : ∃ ms : List Int, ys = ms.map V.int ∧ ms.Perm ns := by
  let un : V → Int := fun v => match v with | .int i => i | _ => 0
  have q := p.map un
  have e1 : (ns.map V.int).map un = ns := by
    rw [List.map_map]
    exact (List.map_congr_left fun _ _ => rfl).trans (List.map_id _)
  rw [e1] at q
  refine ⟨ys.map un, ?_, q⟩
  rw [List.map_map]
  refine ((List.map_congr_left fun v hv => ?_).trans (List.map_id _)).symm
  obtain ⟨i, _, rfl⟩ := List.mem_map.mp (p.mem_iff.mp hv)
  rfl
theorem exA_fresh {d p : Addr} {H H' : Hp} (e : ExA d H H') (hd : ∃ k, Dr H' d k) (h : H' p = none) : H p = none := by
  cases hq : H p with
  | none => rfl
  | some o =>
    obtain ⟨k, x, b, hx⟩ := hd
    have nd : p ≠ d := fun z => by
      rw [z, hx] at h
      cases h
    have z := e _ _ nd hq
    rw [h] at z
    cases z
theorem ne_draws {H : Hp} {s d : Addr} {st : List Int} {k : Int} (h : H s = some (.lst (st.map V.int))) (hd : Dr H d k) : s ≠ d := by
  rintro rfl
  obtain ⟨x, b, hx⟩ := hd
  rw [h] at hx
  injection hx with hx
  injection hx with hx
  match st, hx with
  | [a, b, c], hx => cases hx
theorem swap_perm : ∀ (l : List Int) (i : Nat) (x y : Int), l[i]? = some x → l[i + 1]? = some y → ((l.set i y).set (i + 1) x).Perm l
  | [], i, x, y, h, _ => by cases h
  | [a], 0, x, y, _, h => by cases h
  | a :: b :: l, 0, x, y, h1, h2 => by
    cases h1
    cases h2
    exact List.Perm.swap _ _ _
  | a :: l, i + 1, x, y, h1, h2 => by
    show (a :: (l.set i y).set (i + 1) x).Perm (a :: l)
    exact (swap_perm l i x y h1 h2).cons a
def shiftF (n by_ : Int) (ord : List Int) : List Int := ord.map fun c => (c + by_ - 1).fmod n + 1
theorem shift_stn {n : Nat} (hn : 0 < n) (b : Int) {ord : List Int} (O : MR.Stn n ord) : MR.Stn n (shiftF n b ord) := by
  unfold shiftF
  refine ⟨by rw [List.length_map, O.len], fun x hx => ?_, ?_⟩
  · obtain ⟨c, hc, rfl⟩ := List.mem_map.mp hx
    have := fmod_at (i := c + b - 1) (j := (n : Int)) (by omega)
    omega
  · rw [List.nodup_iff_pairwise_ne, List.pairwise_map]
    refine List.Pairwise.imp_of_mem ?_ (List.nodup_iff_pairwise_ne.mp O.nd)
    intro x y hx hy hxy e
    have lx := O.lo x hx
    have ly := O.lo y hy
    rw [fm _ (show (0 : Int) < n by omega), fm _ (show (0 : Int) < n by omega)] at e
    have e : (x + b - 1) % (n : Int) = (y + b - 1) % (n : Int) := by omega
    have d : ((x + b - 1) - (y + b - 1)) % (n : Int) = 0 := Int.emod_eq_emod_iff_emod_sub_eq_zero.mp e
    have d2 : (n : Int) ∣ (x - y) := by
      have := Int.dvd_of_emod_eq_zero d
      rwa [show (x + b - 1) - (y + b - 1) = x - y by omega] at this
    obtain ⟨c, hc⟩ := d2
    have c1 : -1 < c := by
      refine Int.lt_of_mul_lt_mul_left (a := (n : Int)) ?_ (by omega)
      rw [← hc]; omega
    have c2 : c < 1 := by
      refine Int.lt_of_mul_lt_mul_left (a := (n : Int)) ?_ (by omega)
      rw [← hc]; omega
    have : c = 0 := by omega
    rw [this, Int.mul_zero] at hc
    exact hxy (by omega)
theorem given_fun (l : List Int) (φ : Int → Int) : given l.length (fun _ => true) (fun i => V.int (φ (l.getD i 0))) = (l.map φ).map V.int := by
  unfold given
  rw [List.filter_eq_self.mpr fun _ _ => rfl]
  refine List.ext_getElem? fun i => ?_
  rw [List.getElem?_map, List.map_map, List.getElem?_map]
  by_cases h : i < l.length
  · rw [List.getElem?_range h, List.getElem?_eq_getElem h]
    show some (V.int (φ (l.getD i 0))) = some (V.int (φ l[i]))
    rw [List.getD_eq_getElem?_getD, List.getElem?_eq_getElem h]
    rfl
  · rw [List.getElem?_eq_none (by rw [List.length_range]; omega), List.getElem?_eq_none (by omega)]
    rfl
theorem cut_rot (xs : List V) : (cutV xs (some 1) none ++ cutV xs none (some 1)).Perm xs := by
  rw [show (1 : Int) = ((1 : Nat) : Int) from rfl, cut_to]
  unfold cutV
  rw [HT.sIx_none, HT.sIx_nat]
  refine (List.perm_append_comm).trans ?_
  by_cases h : 1 ≤ xs.length
  · rw [Nat.min_eq_left h, List.take_of_length_le (l := xs.drop 1) (by rw [List.length_drop]; omega), List.take_append_drop]
  · have : xs = [] := List.eq_nil_of_length_eq_zero (by omega)
    subst this
    exact .nil
theorem cut_rot2 (xs : List V) : (cutV xs (some (-1)) none ++ cutV xs none (some (-1))).Perm xs := by
  rw [cut_last]
  have e : cutV xs (some (-1)) none = xs.drop (xs.length - 1) := by
    show List.take (xs.length - (if (-1 : Int) < 0 then ((-1 : Int) + (xs.length : Int)).toNat else min ((-1 : Int)).toNat xs.length)) (List.drop (if (-1 : Int) < 0 then ((-1 : Int) + (xs.length : Int)).toNat else min ((-1 : Int)).toNat xs.length) xs) = _
    rw [if_pos (by decide), show ((-1 : Int) + (xs.length : Int)).toNat = xs.length - 1 by omega, List.take_of_length_le (by rw [List.length_drop]; omega)]
  rw [e]
  refine (List.perm_append_comm).trans ?_
  rw [List.take_append_drop]
theorem el_shift {K : PySem.W.Frag} {H : Hp} {y0 y1 y4 y5 y6 y7 y8 y9 : Option V} {n b : Int} {j : Nat} {a : Addr} {l : List Int} (hj : [y0, y1, some (.int n), some (.int b), y4, y5, y6, y7, y8, y9][j]? = some (some (.ref a))) (hl : SqL K H a (l.map V.int)) (hz : l.length ≤ 1000) (hn : n ≠ 0) :
    EvL (tLc (iList K (tVar j)) (gName 9) tYes (tOp (rI0 fun i j => V.int (i + j)) (tOp (rI (fun _ j => j ≠ 0) fun i j => .int (i.fmod j)) (tOp (rI0 fun i j => V.int (i - j)) (tOp (rI0 fun i j => V.int (i + j)) (tVar 9) (tVar 3)) (tC (.int 1))) (tVar 2)) (tC (.int 1))) [9])
      [y0, y1, some (.int n), some (.int b), y4, y5, y6, y7, y8, y9] H ((shiftF n b l).map V.int) := by
  unfold shiftF
  rw [← given_fun]
  have go := el_lcL (K := K) (H := H) (σ := [y0, y1, some (.int n), some (.int b), y4, y5, y6, y7, y8, y9]) (xs := l.map V.int) (j := 9) (vs := [9]) (t := tYes) (tl := tVar j)
    (te := tOp (rI0 fun i j => V.int (i + j)) (tOp (rI (fun _ j => j ≠ 0) fun i j => .int (i.fmod j)) (tOp (rI0 fun i j => V.int (i - j)) (tOp (rI0 fun i j => V.int (i + j)) (tVar 9) (tVar 3)) (tC (.int 1))) (tVar 2)) (tC (.int 1)))
    (fun _ => true) (fun i => V.int ((l.getD i 0 + b - 1).fmod n + 1)) (ev_var hj) hl (by rw [List.length_map]; omega) (fun x => rfl) (fun i x H1 e1 hx => et_yes) (fun i x H1 e1 hx _ => by
      obtain ⟨c, hc, rfl⟩ := map_at hx
      rw [show l.getD i 0 = c by rw [List.getD_eq_getElem?_getD, hc]; rfl]
      exact ev_op (ev_op (ev_op (ev_op (ev_var rfl) (ev_var rfl) rv_I0) ev_c rv_I0) (ev_var rfl) (rv_I hn)) ev_c rv_I0)
  rw [List.length_map] at go
  exact go
section
variable {P : Program} {w : World} {K : PySem.W.Frag} {mg : Str → Option Value} {base : Heap} {A : Ad}
def sp_l_others : Sp := fun vs H Q _ => ∃ (d a : Addr) (k : Int) (ord : List Int) (n : Nat), vs = [.ref d, .ref a] ∧ Dr H d k ∧ (0 ≤ k ∧ k < 2 ^ 39) ∧ H a = some (.lst (ord.map V.int)) ∧ MR.Stn n ord ∧ (3 ≤ n ∧ n ≤ 40) ∧
  ∀ (p : Addr) (as : List Addr) (k' : Int) (H2 : Hp), H p = none → ExA d H H2 → Dr H2 d k' → (0 ≤ k' ∧ k' ≤ k + 200) → H2 p = some (.lst (as.map V.ref)) → as.length = 5 → (∀ b ∈ as, ∃ o, H2 b = some (.lst (o.map V.int)) ∧ MR.Stn n o) → Q (.ref p) H2
theorem ok_l_others (T : Txt K mg A) : FnOk P w K mg base CX0 3 A.f_l_others A.d_l_others ["_law_draws_here", "_law_order"] sp_l_others := by
  have G_l_next : FnOk P w K mg base CX0 1 A.f_l_next A.d_l_next ["_law_draws_here"] sp_l_next := ok_l_next T
  have G_l_mixed : FnOk P w K mg base CX0 2 A.f_l_mixed A.d_l_mixed ["_law_draws_here", "_law_some"] (sp_l_mixed K) := ok_l_mixed T
  refine T.F_l_others.ok sc_l_others (fun vs H Q E h => ?_) (fun cdv A' outer s H vs Q E hr h => ?_)
  · obtain ⟨d, a, k, ord, n, rfl, _⟩ := h
    rfl
  · obtain ⟨d, a, k, ord, n, rfl, hd, hk, hS, O, hn, q⟩ := h
    refine ⟨_, (pss_cons (ps_set (i := 2) sc_l_others.nd rfl (by first | exact .inl rfl | exact .inr rfl) (pe_callB (call_lenK (K := K) rfl) (by rfl) T.z_len PySem.boot_len (pa_cons (pv 1) pa_nil)))
      (pss_cons (ps_set (i := 3) sc_l_others.nd rfl (by first | exact .inl rfl | exact .inr rfl) (pe_op op_add pe_int (pe_op op_modN (pe_callTy call_int1 (by rfl) T.z_int (by decide +kernel) (pa_cons (pe_call G_l_next (hr.mono (by decide)) (by rfl) T.g_l_next T.F_l_next.kp T.b_l_next .nil pass0 (pa_cons (pv 0) pa_nil)) pa_nil)) (pe_op op_sub (pv 2) pe_int))))
      (pss_cons (ps_setLc (i := 4) (own := [("_law_call", 9)]) rfl sc_l_others.nd rfl rfl (sw_true rfl rfl rfl (by decide +kernel)) (pi_listK (K := K) rfl (pv 1)) (blkOk_by (by kernel_rfl)) (fun _ _ _ _ _ => (pg_name (i := 9) sc_l_others.nd rfl (by first | exact .inl rfl | exact .inr rfl))) (fun _ _ _ _ _ => pts_nil) (fun _ _ _ _ _ => (pe_op op_add (pe_op op_modN (pe_op op_sub (pe_op op_add (pv 9) (pv 3)) pe_int) (pv 2)) pe_int)))
      (pss_cons (ps_set (i := 5) sc_l_others.nd rfl (by first | exact .inl rfl | exact .inr rfl) (pe_callTy (call_listK (K := K) rfl) (by rfl) T.z_list (by decide +kernel) (pa_cons (pv 1) pa_nil)))
      (pss_cons (ps_for PassesOwn.never rfl (pi_range1 (by rfl) T.z_range (pa_cons (pe_op op_modN (pe_callTy call_int1 (by rfl) T.z_int (by decide +kernel) (pa_cons (pe_call G_l_next (hr.mono (by decide)) (by rfl) T.g_l_next T.F_l_next.kp T.b_l_next .nil pass0 (pa_cons (pv 0) pa_nil)) pa_nil)) pe_int) pa_nil)) (pg_name (i := 6) sc_l_others.nd rfl (by first | exact .inl rfl | exact .inr rfl)) (pss_cons (ps_set (i := 7) sc_l_others.nd rfl (by first | exact .inl rfl | exact .inr rfl) (pe_op op_modN (pe_callTy call_int1 (by rfl) T.z_int (by decide +kernel) (pa_cons (pe_call G_l_next (hr.mono (by decide)) (by rfl) T.g_l_next T.F_l_next.kp T.b_l_next .nil pass0 (pa_cons (pv 0) pa_nil)) pa_nil)) (pv 2)))
      (pss_one (ps_if (PW.pt (pw_and (pt_cmpR op_lt (pv 7) (pe_op op_sub (pv 2) pe_int) (nomark _)) (pw_and1 (pt_cmpR (op_notInK (K := K) rfl) (pe_op op_modN (pe_op op_sub (pe_ix (ix_listK (K := K) rfl) (pv 5) (pv 7) (fun _ _ => rfl)) (pe_ix (ix_listK (K := K) rfl) (pv 5) (pe_op op_add (pv 7) pe_int) (fun _ _ => rfl))) (pv 2)) (pe_lst (pa_cons pe_int (pa_cons (pe_op op_sub (pv 2) pe_int) pa_nil))) (by rfl))))) (pss_one (ps_asg (pe_tup (pa_cons (pe_ix (ix_listK (K := K) rfl) (pv 5) (pe_op op_add (pv 7) pe_int) (fun _ _ => rfl)) (pa_cons (pe_ix (ix_listK (K := K) rfl) (pv 5) (pv 7) (fun _ _ => rfl)) pa_nil))) (pg_tupK (n := 2) (K := K) rfl rfl (pgs_cons (pg_sub (pv 5) (pv 7) set_list) (pgs_cons (pg_sub (pv 5) (pe_op op_add (pv 7) pe_int) set_list) pgs_nil))))) (pss_one (ps_if (pt_cmpR op_eq (pv 7) (pe_op op_sub (pv 2) pe_int) (nomark _)) (pss_one (ps_set (i := 5) sc_l_others.nd rfl (by first | exact .inl rfl | exact .inr rfl) (pe_ifExp (pt_cmpR op_eq (pe_op op_modN (pv 6) pe_int) pe_int (nomark _)) (pe_op op_cat (pe_slice (sl_listK (K := K) rfl) (pv 5) (po_some pe_int) po_none) (pe_slice (sl_listK (K := K) rfl) (pv 5) po_none (po_some pe_int))) (pe_op op_cat (pe_slice (sl_listK (K := K) rfl) (pv 5) (po_some (pe_un un_neg pe_int)) po_none) (pe_slice (sl_listK (K := K) rfl) (pv 5) po_none (po_some (pe_un un_neg pe_int))))))) pss_nil))))))
      (pss_cons (ps_set (i := 8) sc_l_others.nd rfl (by first | exact .inl rfl | exact .inr rfl) (pe_call G_l_mixed (hr.mono (by decide)) (by rfl) T.g_l_mixed T.F_l_mixed.kp T.b_l_mixed .nil pass0 (pa_cons (pv 0) (pa_cons (pv 1) pa_nil))))
      (pss_one (ps_ret (pe_lst (pa_cons (pv 4) (pa_cons (pv 5) (pa_cons (pv 8) (pa_cons (pe_revK (K := K) rfl (pv 1)) (pa_cons (pe_lc (own := [("_law_call", 9)]) rfl sc_l_others.nd (pi_listK (K := K) rfl (pv 5)) (blkOk_by (by kernel_rfl)) (fun _ _ _ _ _ => (pg_name (i := 9) sc_l_others.nd rfl (by first | exact .inl rfl | exact .inr rfl))) (fun _ _ _ _ _ => pts_nil) (fun _ _ _ _ _ => (pe_op op_add (pe_op op_modN (pe_op op_sub (pe_op op_add (pv 9) (pv 3)) pe_int) (pv 2)) pe_int))) pa_nil)))))))))))))), ?_⟩
    have ol := O.len
    -- many = len(order)
    refine q_asg (v := .int (n : Int)) (ev_is (ev_len (ev_var rfl) (.inl (.inl hS))) (by rw [List.length_map, ol])) fun H1 e1 => ?_
    have hd1 := hd.on e1
    -- by = 1 + int(next(draws)) % (many - 1)
    refine ⟨_, rfl, d, k, rfl, hd1, ⟨hk.1, by omega⟩, fun r H2 r0 e2 hd2 => .inl ⟨r, rfl, _, rfl, _, _, rfl, rfl, _, _, rfl, rfl, (by show (n : Int) - 1 ≠ 0; omega), _, _, rfl, rfl, ?_⟩⟩
    obtain ⟨b, hb⟩ : ∃ b : Int, 1 + r.fmod ((n : Int) - 1) = b := ⟨_, rfl⟩
    show tSeq _ _ _ [some (.ref d), some (.ref a), some (.int (n : Int)), some (.int (1 + r.fmod ((n : Int) - 1))), none, none, none, none, none, none] H2
    rw [hb]
    have eA2 := (ExA.of (a := d) e1).trans e2
    have hS2 := eA2 _ _ (ne_draws hS hd) hS
    -- shifted = [..]
    refine q_asgL (el_shift (K := K) (j := 1) rfl (.inl (.inl hS2)) (by omega) (by omega)) fun sh H3 nsh e3 hsh => ?_
    have hS3 := e3 _ _ hS2
    have hd3 := hd2.on e3
    have eA3 := eA2.trans (ExA.of e3)
    -- bent = list(order)
    refine ⟨_, rfl, a, _, rfl, .inl (.inl (.inl hS3)), fun bb nbb => ?_⟩
    have e4 : Ex H3 (upd H3 bb (.lst (ord.map V.int))) := Ex.new nbb
    have hbb : (upd H3 bb (.lst (ord.map V.int))) bb = some (.lst (ord.map V.int)) := upd_same
    have hS4 := e4 _ _ hS3
    have hsh4 := e4 _ _ hsh
    have hd4 := hd3.on e4
    have eA4 := eA3.trans (ExA.of e4)
    have nbb0 := exA_fresh eA3 ⟨_, hd3⟩ nbb
    have nsb : sh ≠ bb := ne_of_none hsh nbb
    have nab : a ≠ bb := ne_of_none hS3 nbb
    have nsd := ne_draws hsh hd3
    have nad := ne_draws hS hd
    have sO := shift_stn (n := n) (by omega) b O
    generalize upd H3 bb (.lst (ord.map V.int)) = H4 at e4 hbb hS4 hsh4 hd4 eA4
    clear e1 e2 e3 e4 hd1 hd2 hd3 hS2 hS3 hsh eA2 eA3
    -- for turn in range(int(next(draws)) % 40)
    refine ⟨_, rfl, d, _, rfl, hd4, ⟨by omega, by omega⟩, fun r2 H5 r20 e5 hd5 => .inl ⟨r2, rfl, _, _, rfl, rfl, (by show (40 : Int) ≠ 0; decide), ?_⟩⟩
    have f2 := fmod_at (i := r2) (j := 40) (by decide)
    have hbb5 := e5 _ _ (ne_draws hbb hd4) hbb
    have hsh5 := e5 _ _ nsd hsh4
    have eA5 := eA4.trans e5
    clear e5 hd4 hbb hS4 hsh4 eA4
    refine ⟨r2.fmod 40, rfl, by omega, by omega, for_range (lo := 0) (n := (r2.fmod 40).toNat) (fun i σ' H' => ∃ (bb : Addr) (o : List Int) (k' : Int), (∃ y6 y7, σ' = [some (.ref d), some (.ref a), some (.int (n : Int)), some (.int b), some (.ref sh), some (.ref bb), y6, y7, none, none]) ∧ ExA d H H' ∧ H' bb = some (.lst (o.map V.int)) ∧ MR.Stn n o ∧ H bb = none ∧ sh ≠ bb ∧ H' sh = some (.lst ((shiftF n b ord).map V.int)) ∧ Dr H' d k' ∧ (0 ≤ k' ∧ k' ≤ k + 50 + i))
      ⟨bb, ord, _, ⟨none, none, rfl⟩, eA5, hbb5, O, nbb0, nsb, hsh5, hd5, by omega, by omega⟩ ?_ ?_⟩
    · rintro i σ' H6 hi ⟨bb, o, k', ⟨y6, y7, rfl⟩, eA, hbb, O2, nbb0, nsb, hsh, hd6, hk'⟩
      have ol2 := O2.len
      -- at = int(next(draws)) % many
      refine ⟨_, rfl, d, _, rfl, hd6, ⟨by omega, by omega⟩, fun r3 H7 r30 e7 hd7 => .inl ⟨r3, rfl, _, rfl, _, _, rfl, rfl, (by show (n : Int) ≠ 0; omega), ?_⟩⟩
      have f3 := fmod_at (i := r3) (j := (n : Int)) (by omega)
      obtain ⟨t, ht⟩ : ∃ t : Nat, r3.fmod (n : Int) = (t : Int) := ⟨(r3.fmod (n : Int)).toNat, by omega⟩
      rw [ht] at f3
      dsimp only [gName]
      show tIfS _ _ _ _ [some (.ref d), some (.ref a), some (.int (n : Int)), some (.int b), some (.ref sh), some (.ref bb), some (.int (0 + (i : Int))), some (.int (r3.fmod (n : Int))), none, none] H7
      rw [ht]
      have hbb7 := e7 _ _ (ne_draws hbb hd6) hbb
      have hsh7 := e7 _ _ (ne_draws hsh hd6) hsh
      have eA7 := eA.trans e7
      clear eA hbb hsh hd6 e7
      -- if at < many - 1 and ..
      have tst : ∃ c : Bool, EvT (tAnd (tTest (tOp (rI0 fun i j => V.bl (decide (i < j))) (tVar 7) (tOp (rI0 fun i j => V.int (i - j)) (tVar 2) (tC (.int 1)))))
          (tTest (tOp (rIn K true) (tOp (rI (fun _ j => j ≠ 0) fun i j => .int (i.fmod j)) (tOp (rI0 fun i j => V.int (i - j)) (tOp (rIxL K) (tVar 5) (tVar 7)) (tOp (rIxL K) (tVar 5) (tOp (rI0 fun i j => V.int (i + j)) (tVar 7) (tC (.int 1))))) (tVar 2)) (tLst (tCons (tC (.int 1)) (tCons (tOp (rI0 fun i j => V.int (i - j)) (tVar 2) (tC (.int 1))) tNil))))))
          [some (.ref d), some (.ref a), some (.int (n : Int)), some (.int b), some (.ref sh), some (.ref bb), some (.int (0 + (i : Int))), some (.int (t : Int)), none, none] H7 (decide ((t : Int) < (n : Int) - 1) && c) := by
        by_cases c : (t : Int) < (n : Int) - 1
        · refine ⟨_, et_and (et_test (ev_op (ev_var rfl) (ev_op (ev_var rfl) ev_c rv_I0) rv_I0)) fun _ => et_test (ev_opL (ev_op (ev_op (ev_op (ev_var rfl) (ev_var rfl) (rv_ixL (.inl (.inl hbb7)) (atI_int (l := o) (i := (t : Int)) (by omega) (by omega)))) (ev_op (ev_var rfl) (ev_op (ev_var rfl) ev_c rv_I0) (rv_ixL (.inl (.inl hbb7)) (atI_int (l := o) (i := (t : Int) + 1) (by omega) (by omega)))) rv_I0) (ev_var rfl) (rv_I (by show (n : Int) ≠ 0; omega)))
            (el_lst (ea_cons ev_c (ea_cons (ev_op (ev_var rfl) ev_c rv_I0) ea_nil)) (by show 2 ≤ 100000; decide)) fun p H' hp _ => rv_niL (.inl (.inl hp)) rfl rfl)⟩
        · refine ⟨false, ?_⟩
          rw [decide_eq_false c]
          exact et_and (a := false) (b := false) (et_test (ev_is (ev_op (ev_var rfl) (ev_op (ev_var rfl) ev_c rv_I0) rv_I0) (by rw [decide_eq_false c]))) fun z => nomatch z
      obtain ⟨c, tst⟩ := tst
      refine s_if tst (fun z H8 e8 => ?_) fun z H8 e8 => ?_
      · have tn : (t : Int) < (n : Int) - 1 := of_decide_eq_true (Bool.and_eq_true_iff.mp z).1
        have hbb8 := e8 _ _ hbb7
        have x1 : o[t]? = some (o.getD t 0) := by rw [List.getD_eq_getElem?_getD, List.getElem?_eq_getElem (by omega)]; rfl
        have x2 : o[t + 1]? = some (o.getD (t + 1) 0) := by rw [List.getD_eq_getElem?_getD, List.getElem?_eq_getElem (by omega)]; rfl
        have a1 := atI_int (l := o) (i := (t : Int)) (by omega) (by omega)
        have a2 := atI_int (l := o) (i := (t : Int) + 1) (by omega) (by omega)
        rw [Int.toNat_natCast] at a1
        rw [show ((t : Int) + 1).toNat = t + 1 by omega] at a2
        -- bent[at], bent[at + 1] = (bent[at + 1], bent[at])
        refine ⟨_, rfl, _, rfl, _, _, rfl, rfl, bb, _, _, _, rfl, rfl, .inl (.inl hbb8), a2, _, rfl, _, rfl, bb, _, _, _, rfl, rfl, .inl (.inl hbb8), a1, (by show 2 ≤ sizeLine; decide), fun t1 nt1 => ?_⟩
        have e9 : Ex H8 (upd H8 t1 (.tup [.int (o.getD (t + 1) 0), .int (o.getD t 0)])) := Ex.new nt1
        have hbb9 := e9 _ _ hbb8
        have nb1 : bb ≠ t1 := ne_of_none hbb8 nt1
        refine ⟨t1, _, rfl, .inl (.inl upd_same), rfl, _, _, rfl, ?_⟩
        refine ⟨_, rfl, _, rfl, bb, _, _, t, rfl, rfl, hbb9, ?_, ?_⟩
        · rw [List.length_map, ol2]
          exact ixN_nat (by omega)
        refine ⟨_, _, rfl, _, rfl, _, rfl, _, _, rfl, rfl, bb, _, _, t + 1, rfl, rfl, upd_same, ?_, rfl, ?_⟩
        · rw [List.length_set, List.length_map, ol2, show ((t : Int) + 1) = ((t + 1 : Nat) : Int) by omega]
          exact ixN_nat (by omega)
        have eX := ((eA7.trans (ExA.of e8)).trans (ExA.of e9))
        have ndb : d ≠ bb := fun z => by
          obtain ⟨x, y, hx⟩ := hd
          rw [z, nbb0] at hx
          cases hx
        refine ⟨bb, _, k' + 1, ⟨_, _, rfl⟩, (eX.mut nbb0).mut nbb0, by rw [upd_same, ← List.map_set, ← List.map_set], stn_perm O2 (swap_perm o t _ _ x1 x2), nbb0, nsb, ?_, ?_, by omega, by omega⟩
        · rw [upd_ne nsb, upd_ne nsb]
          exact e9 _ _ (e8 _ _ hsh7)
        · obtain ⟨x, y, hx⟩ := (hd7.on e8).on e9
          exact ⟨x, y, by rw [upd_ne ndb, upd_ne ndb]; exact hx⟩
      · clear z tst
        have hbb8 := e8 _ _ hbb7
        -- elif at == many - 1
        have tst2 : EvT (tTest (tOp rEq (tVar 7) (tOp (rI0 fun i j => V.int (i - j)) (tVar 2) (tC (.int 1))))) [some (.ref d), some (.ref a), some (.int (n : Int)), some (.int b), some (.ref sh), some (.ref bb), some (.int (0 + (i : Int))), some (.int (t : Int)), none, none] H8 (decide (V.int (t : Int) = V.int ((n : Int) - 1))) :=
          et_test (ev_op (ev_var rfl) (ev_op (ev_var rfl) ev_c rv_I0) (rv_eq rfl))
        refine s_when tst2 (fun _ H9 e9 => ?_) fun _ H9 e9 => ?_
        · have hbb9 := e9 _ _ hbb8
          have e89 := e8.trans e9
          have fin : ∀ (xs : List V) (p : Addr) (H' : Hp), xs.Perm (o.map V.int) → H9 p = none → Ex H9 H' → H' p = some (.lst xs) → ∃ (bb : Addr) (o : List Int) (k' : Int), (∃ y6 y7, ([some (V.ref d), some (V.ref a), some (V.int (n : Int)), some (V.int b), some (V.ref sh), some (V.ref p), some (V.int (0 + (i : Int))), some (V.int (t : Int)), none, none] : L2.St) = [some (.ref d), some (.ref a), some (.int (n : Int)), some (.int b), some (.ref sh), some (.ref bb), y6, y7, none, none]) ∧ ExA d H H' ∧ H' bb = some (.lst (o.map V.int)) ∧ MR.Stn n o ∧ H bb = none ∧ sh ≠ bb ∧ H' sh = some (.lst ((shiftF n b ord).map V.int)) ∧ Dr H' d k' ∧ (0 ≤ k' ∧ k' ≤ k + 50 + ((i + 1 : Nat) : Int)) := fun xs p H' pm np e' hp => by
            obtain ⟨ms, rfl, pm2⟩ := map_perm pm
            have hsh9 := e89 _ _ hsh7
            have eA9 := eA7.trans (ExA.of e89)
            have hd9 := hd7.on e89
            exact ⟨p, ms, k' + 1, ⟨_, _, rfl⟩, eA9.trans (ExA.of e'), hp, stn_perm O2 pm2, exA_fresh eA9 ⟨_, hd9⟩ np, ne_of_none hsh9 np, e' _ _ hsh9, hd9.on e', by omega, by omega⟩
          have len2 : ∀ (lo hi : Option Int), (cutV (o.map V.int) lo hi).length ≤ 40 := fun lo hi => Nat.le_trans (cutV_length _ _ _) (by rw [List.length_map, ol2]; omega)
          have sl : ∀ (lo hi : Option Int) (tl th : TO), EvO tl [some (.ref d), some (.ref a), some (.int (n : Int)), some (.int b), some (.ref sh), some (.ref bb), some (.int (0 + (i : Int))), some (.int (t : Int)), none, none] H9 lo → EvO th [some (.ref d), some (.ref a), some (.int (n : Int)), some (.int b), some (.ref sh), some (.ref bb), some (.int (0 + (i : Int))), some (.int (t : Int)), none, none] H9 hi →
              EvL (tSl (rSlL K) (tVar 5) tl th) [some (.ref d), some (.ref a), some (.int (n : Int)), some (.int b), some (.ref sh), some (.ref bb), some (.int (0 + (i : Int))), some (.int (t : Int)), none, none] H9 (cutV (o.map V.int) lo hi) := fun lo hi tl th h1 h2 => el_sl (ev_var rfl) h1 h2 (.inl (.inl hbb9))
          have neg1 : ∀ {σ : L2.St} {H' : Hp}, Ev (tUn (rU fun i => V.int (-i)) (tC (.int 1))) σ H' (.int (-1)) := fun {σ H'} => ev_un ev_c fun H1 _ Q q => ⟨1, rfl, q H1 (Ex.refl H1)⟩
          refine et_test (ev_op (ev_op (ev_var rfl) ev_c (rv_I (by show (2 : Int) ≠ 0; decide))) ev_c (rv_eq rfl)) H9 (Ex.refl H9) _ fun H10 e10 => ?_
          by_cases c0 : V.int ((0 + (i : Int)).fmod 2) = V.int 0
          · rw [decide_eq_true c0]
            refine iteT (el_cat (sl _ _ _ _ (eo_some ev_c) eo_none) (sl _ _ _ _ eo_none (eo_some ev_c)) (by have := len2 (some 1) none; have := len2 none (some 1); omega) H10 e10 _ fun p H11 np e11 hp => ?_)
            exact fin _ p H11 (cut_rot _) (fresh_back e10 np) (e10.trans e11) hp
          · rw [decide_eq_false c0]
            refine iteF (el_cat (sl (some (-1)) none _ _ (eo_some neg1) eo_none) (sl none (some (-1)) _ _ eo_none (eo_some neg1)) (by have := len2 (some (-1)) none; have := len2 none (some (-1)); omega) H10 e10 _ fun p H11 np e11 hp => ?_)
            exact fin _ p H11 (cut_rot2 _) (fresh_back e10 np) (e10.trans e11) hp
        · have e89 := e8.trans e9
          exact ⟨bb, o, k' + 1, ⟨_, _, rfl⟩, eA7.trans (ExA.of e89), e89 _ _ hbb7, O2, nbb0, nsb, e89 _ _ hsh7, hd7.on e89, by omega, by omega⟩
    · rintro σ' H6 ⟨bb, o, k', ⟨y6, y7, rfl⟩, eA, hbb, O2, nbb0, nsb, hsh, hd6, hk'⟩
      have hS6 := eA _ _ nad hS
      -- mixed_here = mixed(draws, order)
      refine ⟨_, rfl, _, rfl, d, a, k', ord.map V.int, rfl, hd6, ⟨by omega, by rw [List.length_map, ol]; omega⟩, .inl (.inl hS6), by rw [List.length_map, ol]; omega, fun H' _ x hx => ?_, fun ys mx H7 pm nmx e7 hd7 hmx => ?_⟩
      · obtain ⟨i, _, rfl⟩ := List.mem_map.mp hx
        exact Sh.int _
      obtain ⟨ms, rfl, pm2⟩ := map_perm pm
      have eA7 := eA.trans e7
      have hS7 := eA7 _ _ nad hS
      have hbb7 := e7 _ _ (ne_draws hbb hd6) hbb
      have hsh7 := e7 _ _ (ne_draws hsh hd6) hsh
      -- return [..]
      refine ⟨_, rfl, _, rfl, _, rfl, _, rfl, a, _, rfl, .inl (.inl hS7), fun rv nrv => ?_⟩
      have e8 : Ex H7 (upd H7 rv (.lst (ord.map V.int).reverse)) := Ex.new nrv
      have hrv : (upd H7 rv (.lst (ord.map V.int).reverse)) rv = some (.lst (ord.reverse.map V.int)) := by rw [upd_same, List.map_reverse]
      generalize upd H7 rv (.lst (ord.map V.int).reverse) = H8 at e8 hrv
      refine el_shift (K := K) (j := 5) rfl (.inl (.inl (e8 _ _ hbb7))) (by rw [O2.len]; omega) (by omega) H8 (Ex.refl H8) _ fun s2 H9 ns2 e9 hs2 => ?_
      refine ⟨(by show 5 ≤ sizeLine; decide), fun p np => ?_⟩
      have e89 := e8.trans e9
      have e10 : Ex H9 (upd H9 p (.lst [V.ref sh, V.ref bb, V.ref mx, V.ref rv, V.ref s2])) := Ex.new np
      have e70 := e89.trans e10
      have eA0 := eA7.trans (ExA.of (a := d) e70)
      refine q p [sh, bb, mx, rv, s2] _ _ (exA_fresh (eA7.trans (ExA.of (a := d) e89)) ⟨_, hd7.on e89⟩ np) eA0 (hd7.on e70) (by rw [List.length_map, ol]; omega) upd_same rfl fun x hx => ?_
      simp only [List.mem_cons, List.not_mem_nil, or_false] at hx
      rcases hx with rfl | rfl | rfl | rfl | rfl
      · exact ⟨_, e70 _ _ hsh7, sO⟩
      · exact ⟨_, e70 _ _ hbb7, O2⟩
      · exact ⟨_, e70 _ _ hmx, stn_perm O pm2⟩
      · exact ⟨_, e10 _ _ (e9 _ _ hrv), stn_perm O (List.reverse_perm _)⟩
      · exact ⟨_, e10 _ _ hs2, shift_stn (by omega) b O2⟩
end
end K30

namespace K30
open PySem PySem.Spec PyProof.Rows L2 Vf Evl
/-! ### what the law asks of two orders -/
def swL (n : Nat) (f : Nat → Bool) (m : List Nat) : Nat → Bool := m.foldl (fun f i => M30.sw n i f) f
theorem swL_snoc (n : Nat) (f : Nat → Bool) (m : List Nat) (i : Nat) : swL n f (m ++ [i]) = M30.sw n i (swL n f m) := by
  unfold swL
  rw [List.foldl_append]
  rfl
theorem pth_sw {n : Nat} {f h : Nat → Bool} {m : List Nat} (p : M30.Pth n f m h) : h = swL n f m ∧ ∀ (j c : Nat), m[j]? = some c → c < n ∧ swL n f (m.take j) c ≠ swL n f (m.take j) (M30.pr n c) := by
  induction p with
  | nil => exact ⟨rfl, fun j c z => by simp at z⟩
  | @snoc m h i p hi ne ih =>
    obtain ⟨ih1, ih2⟩ := ih
    refine ⟨by rw [swL_snoc, ← ih1], fun j c z => ?_⟩
    by_cases hj : j < m.length
    · rw [List.getElem?_append_left hj] at z
      rw [List.take_append_of_le_length (by omega)]
      exact ih2 j c z
    · have ej : j = m.length := by
        have w := (List.getElem?_eq_some_iff.mp z).1
        rw [List.length_append, List.length_singleton] at w
        omega
      rw [ej, List.getElem?_append_right (Nat.le_refl _), Nat.sub_self] at z
      cases z
      rw [ej, List.take_append_of_le_length (Nat.le_refl _), List.take_length, ← ih1]
      exact ⟨hi, ne⟩
theorem _root_.Vf.Dn.dpt {d : PyData} {len dep : Nat} (D : Dn d len dep) (h : dep ≤ 60) : d.depth ≤ 60 := Nat.le_trans D.dep_ h
theorem _root_.Vf.Dn.siz {d : PyData} {len dep : Nat} (D : Dn d len dep) (h : len ≤ 100000) : d.shown.length ≤ sizeLine := sz_of (Nat.le_trans D.len_ h)
theorem few_dn {l : List Int} (h : ∀ x ∈ l, 1 ≤ x ∧ x ≤ 40) (hl : l.length ≤ 100) : Dn (dInts l) 1300 2 :=
  (dn_ints fun x hx => by have := h x hx; omega).mono (by omega) (by decide)
theorem stn_dn {n : Nat} {s : List Int} (S : MR.Stn n s) (h : n ≤ 40) : Dn (dInts s) 1300 2 := few_dn (fun x hx => by have := S.lo x hx; omega) (by rw [S.len]; omega)
theorem dn2 {a b : PyData} {len dep : Nat} (x : Dn a len dep) (y : Dn b len dep) : Dn (.list [a, b]) ((len + 2) * 2 + 2) (dep + 1) := by
  refine Dn.list (len := len) (dep := dep) fun d hd => ?_
  simp only [List.mem_cons, List.not_mem_nil, or_false] at hd
  rcases hd with rfl | rfl
  · exact x
  · exact y
theorem dn_none : Dn .none 4 0 := ⟨by decide, rfl, rfl, rfl, Nat.le_refl _⟩
theorem calls_len (m : List Nat) : (M30.calls m).length = m.length := by unfold M30.calls; rw [List.length_map]
theorem calls_dn {n : Nat} {m : List Nat} (h : ∀ i ∈ m, i < n) (hn : n ≤ 40) (hl : m.length ≤ 1600) : Dn (dInts (M30.calls m)) 19300 1 := by
  refine (dn_ints fun x hx => ?_).mono (by rw [calls_len]; omega) (Nat.le_refl _)
  unfold M30.calls at hx
  obtain ⟨i, hi, rfl⟩ := List.mem_map.mp hx
  have := h i hi
  omega
section
variable {P : Program} {w : World} {K : PySem.W.Frag} {mg : Str → Option Value} {base : Heap} {A : Ad}
def sp_l_right : Sp := fun vs H Q _ => ∃ (a b : Addr) (o1 o2 : List Int) (n : Nat), vs = [.ref a, .ref b] ∧ H a = some (.lst (o1.map V.int)) ∧ H b = some (.lst (o2.map V.int)) ∧ MR.Stn n o1 ∧ MR.Stn n o2 ∧ (3 ≤ n ∧ n ≤ 40) ∧ RetV (.bl true) H Q
theorem ok_l_right (T : Txt K mg A) : FnG P w K mg base CX0 6 A.f_l_right A.d_l_right ["_law_order", "_law_other"] sp_l_right := by
  have G_l_breaks : FnOk P w K mg base CX0 1 A.f_l_breaks A.d_l_breaks ["_law_order"] (sp_breaks_of K) := ok_l_breaks T
  have G_l_turned : FnOk P w K mg base CX0 1 A.f_l_turned A.d_l_turned ["_law_some", "_law_call", "_law_many"] (sp_l_turned K) := ok_l_turned T
  have G_l_least : FnOk P w K mg base CX0 1 A.f_l_least A.d_l_least ["_law_first", "_law_last", "_law_many"] (sp_l_least K) := ok_l_least T
  have G_fewest_turns : FnOk P w K mg base CX0 5 A.f_fewest_turns A.d_fewest_turns ["order", "other"] (sp_fewest_turns K) := ok_fewest_turns T
  have G_turns : FnOk P w K mg base CX0 5 A.f_turns A.d_turns ["order", "other"] (sp_turns K) := ok_turns T
  refine okG T.F_l_right sc_l_right (fun vs H Q E h => ?_) (fun cdv A' outer s0 H vs Q E hgd hr h => ?_)
  · obtain ⟨a, b, o1, o2, n, rfl, _⟩ := h
    rfl
  · obtain ⟨a, b, o1, o2, n, rfl, hS1, hS2, O1, O2, hn, q⟩ := h
    refine ⟨_, (pss_cons (ps_set (i := 2) sc_l_right.nd rfl (by first | exact .inl rfl | exact .inr rfl) (pe_callB (call_repr_D hgd hr) (by rfl) T.z_repr (by decide +kernel) (pa_cons (pe_lst (pa_cons (pv 0) (pa_cons (pv 1) pa_nil))) pa_nil)))
      (pss_cons (ps_set (i := 3) sc_l_right.nd rfl (by first | exact .inl rfl | exact .inr rfl) (pe_callB (call_lenK (K := K) rfl) (by rfl) T.z_len PySem.boot_len (pa_cons (pv 0) pa_nil)))
      (pss_cons (ps_par (i := 4) (j := 5) rfl sc_l_right.nd rfl rfl (by decide) rfl rfl (pa_cons (pe_call G_l_breaks (hr.mono (by decide)) (by rfl) T.g_l_breaks T.F_l_breaks.kp T.b_l_breaks .nil pass0 (pa_cons (pv 0) pa_nil)) (pa_cons (pe_call G_l_breaks (hr.mono (by decide)) (by rfl) T.g_l_breaks T.F_l_breaks.kp T.b_l_breaks .nil pass0 (pa_cons (pv 1) pa_nil)) pa_nil)) (by rfl))
      (pss_cons (ps_set (i := 6) sc_l_right.nd rfl (by first | exact .inl rfl | exact .inr rfl) (pe_lst (pa_cons (pe_call G_fewest_turns (hr.mono (by decide)) (by rfl) T.g_fewest_turns T.F_fewest_turns.kp T.b_fewest_turns .nil pass0 (pa_cons (pv 0) (pa_cons (pv 1) pa_nil))) (pa_cons (pe_callK0 G_fewest_turns (hr.mono (by decide)) (by rfl) T.g_fewest_turns T.F_fewest_turns.kp T.kb_fewest_turns pass0 (pk_cons (pv 1) (pk_cons (pv 0) pk_nil))) pa_nil))))
      (pss_cons (ps_set (i := 7) sc_l_right.nd rfl (by first | exact .inl rfl | exact .inr rfl) (pe_lst (pa_cons (pe_call G_turns (hr.mono (by decide)) (by rfl) T.g_turns T.F_turns.kp T.b_turns .nil pass0 (pa_cons (pv 0) (pa_cons (pv 1) pa_nil))) (pa_cons (pe_callK0 G_turns (hr.mono (by decide)) (by rfl) T.g_turns T.F_turns.kp T.kb_turns pass0 (pk_cons (pv 1) (pk_cons (pv 0) pk_nil))) pa_nil))))
      (pss_cons (ps_if (pt_cmpR op_ne (pe_callB (call_lenK (K := K) rfl) (by rfl) T.z_len PySem.boot_len (pa_cons (pv 4) pa_nil)) (pe_callB (call_lenK (K := K) rfl) (by rfl) T.z_len PySem.boot_len (pa_cons (pv 5) pa_nil)) (nomark _)) (pss_one (ps_ret (pe_cmpR op_eq (pe_callB (call_repr_D hgd hr) (by rfl) T.z_repr (by decide +kernel) (pa_cons (pe_lst (pa_cons (pv 6) (pa_cons (pv 7) pa_nil))) pa_nil)) (pe_callB (call_repr_D hgd hr) (by rfl) T.z_repr (by decide +kernel) (pa_cons (pe_op op_rep (pe_lst (pa_cons (pe_lst (pa_cons pe_non (pa_cons pe_non pa_nil))) pa_nil)) pe_int) pa_nil)) (nomark _)))) pss_nil)
      (pss_cons (ps_set (i := 8) sc_l_right.nd rfl (by first | exact .inl rfl | exact .inr rfl) (pe_call G_l_least (hr.mono (by decide)) (by rfl) T.g_l_least T.F_l_least.kp T.b_l_least .nil pass0 (pa_cons (pv 4) (pa_cons (pv 5) (pa_cons (pv 3) pa_nil)))))
      (pss_cons (ps_if (PW.pt (pw_or (pt_cmpR op_ne (pe_callB (call_repr_D hgd hr) (by rfl) T.z_repr (by decide +kernel) (pa_cons (pv 6) pa_nil)) (pe_callB (call_repr_D hgd hr) (by rfl) T.z_repr (by decide +kernel) (pa_cons (pe_lst (pa_cons (pv 8) (pa_cons (pv 8) pa_nil))) pa_nil)) (nomark _)) (pw_or (pt_cmpR op_ne (pe_callB (call_repr_D hgd hr) (by rfl) T.z_repr (by decide +kernel) (pa_cons (pe_ix (ix_listK (K := K) rfl) (pv 7) pe_int (fun _ _ => rfl)) pa_nil)) (pe_callB (call_repr_D hgd hr) (by rfl) T.z_repr (by decide +kernel) (pa_cons (pe_ix (ix_listK (K := K) rfl) (pv 7) pe_int (fun _ _ => rfl)) pa_nil)) (nomark _)) (pw_or1 (pt_cmpR op_ne (pe_callB (call_lenK (K := K) rfl) (by rfl) T.z_len PySem.boot_len (pa_cons (pe_ix (ix_listK (K := K) rfl) (pv 7) pe_int (fun _ _ => rfl)) pa_nil)) (pv 8) (nomark _)))))) (pss_one (ps_ret pe_bl)) pss_nil)
      (pss_cons (ps_for PassesOwn.never rfl (pi_listK (K := K) rfl (pe_ix (ix_listK (K := K) rfl) (pv 7) pe_int (fun _ _ => rfl))) (pg_name (i := 9) sc_l_right.nd rfl (by first | exact .inl rfl | exact .inr rfl)) (pss_cons (ps_set (i := 4) sc_l_right.nd rfl (by first | exact .inl rfl | exact .inr rfl) (pe_ifExp (pt_cmpR op_in_rng (pv 9) (pe_callTy cr_range2 (by rfl) T.z_range (by decide +kernel) (pa_cons pe_int (pa_cons (pe_op op_add (pv 3) pe_int) pa_nil))) (by rfl)) (pe_call G_l_turned (hr.mono (by decide)) (by rfl) T.g_l_turned T.F_l_turned.kp T.b_l_turned .nil pass0 (pa_cons (pv 4) (pa_cons (pv 9) (pa_cons (pv 3) pa_nil)))) pe_non))
      (pss_one (ps_if (pt_cmp (pc_isN (pv 4))) (pss_one (ps_ret pe_bl)) pss_nil))))
      (pss_cons (ps_expr (pe_bmK (K := K) rfl PySem.F.plainAttrs_list PySem.F.slot_list_append PySem.F.type_list_append mt_append (pe_ix (ix_listK (K := K) rfl) (pv 7) pe_int (fun _ _ => rfl)) (pa_cons pe_non pa_nil)))
      (pss_one (ps_ret (pe_and (pe_cmpR (op_eqD hr.units) (pv 4) (pv 5) (nomark _)) (pe_and (pe_cmpR op_eq (pe_callB (call_repr_D hgd hr) (by rfl) T.z_repr (by decide +kernel) (pa_cons (pe_call G_turns (hr.mono (by decide)) (by rfl) T.g_turns T.F_turns.kp T.b_turns .nil pass0 (pa_cons (pv 0) (pa_cons (pv 1) pa_nil))) pa_nil)) (pe_callB (call_repr_D hgd hr) (by rfl) T.z_repr (by decide +kernel) (pa_cons (pe_ix (ix_listK (K := K) rfl) (pv 7) pe_int (fun _ _ => rfl)) pa_nil)) (nomark _)) (pe_one (pe_cmpR op_eq (pe_callB (call_repr_D hgd hr) (by rfl) T.z_repr (by decide +kernel) (pa_cons (pe_lst (pa_cons (pv 0) (pa_cons (pv 1) pa_nil))) pa_nil)) (pv 2) (nomark _))))))))))))))))), ?_⟩
    have ol1 := O1.len
    have ol2 := O2.len
    have dnO := dn2 (stn_dn O1 hn.2) (stn_dn O2 hn.2)
    -- before = repr([order, other])
    refine ⟨_, rfl, _, rfl, (by show 2 ≤ sizeLine; decide), fun p1 np1 => ?_⟩
    have g1 : Ex H (upd H p1 (.lst [.ref a, .ref b])) := Ex.new np1
    refine ⟨p1, _, rfl, .lst (.inl (.inl upd_same)) (.cons (dp_ints (.inl (.inl (g1 _ _ hS1)))) (.cons (dp_ints (.inl (.inl (g1 _ _ hS2)))) .nil)), dnO.show_, dnO.dict_, dnO.dpt (by decide), dnO.siz (by decide), ?_⟩
    generalize hsh : (PyData.list [dInts o1, dInts o2]).shown = bsh
    generalize upd H p1 (.lst [.ref a, .ref b]) = H1 at g1
    -- many = len(order)
    dsimp only [gName]
    refine q_asg (σ := [some (.ref a), some (.ref b), some (.str bsh), none, none, none, none, none, none, none]) (v := .int (n : Int)) (ev_is (ev_len (ev_var rfl) (.inl (.inl (g1 _ _ hS1)))) (by rw [List.length_map, ol1])) fun H2 e2 => ?_
    have g2 := g1.trans e2
    -- first, last = (breaks(order), breaks(other))
    refine ⟨_, rfl, a, o1, n, rfl, .inl (.inl (g2 _ _ hS1)), O1, hn, fun pf H3 npf e3 hpf => ⟨_, rfl, b, o2, n, rfl, .inl (.inl ((g2.trans e3) _ _ hS2)), O2, hn, fun pl H4 npl e4 hpl => ⟨_, _, rfl, ?_⟩⟩⟩
    have hpf4 := e4 _ _ hpf
    have g4 := (g2.trans e3).trans e4
    clear e2 e3 e4 g1 g2 hpf
    obtain ⟨f, hf⟩ : ∃ f, M30.mk n o1 = f := ⟨_, rfl⟩
    obtain ⟨g, hg⟩ : ∃ g, M30.mk n o2 = g := ⟨_, rfl⟩
    rw [hf] at hpf4
    rw [hg] at hpl
    have bf := blI_len' n f
    have bg := blI_len' n g
    have s1 : ∀ H', Ex H4 H' → SqL K H' a (o1.map V.int) := fun H' e => .inl (.inl ((g4.trans e) _ _ hS1))
    have s2 : ∀ H', Ex H4 H' → SqL K H' b (o2.map V.int) := fun H' e => .inl (.inl ((g4.trans e) _ _ hS2))
    by_cases eq : (M30.bl n f).length = (M30.bl n g).length
    · -- as many breaks
      obtain ⟨k0, isd0⟩ := M30.isD_of (M30.dif_E eq 0)
      have dk0 : M30.Dk n f g k0 := ⟨isd0, eq.symm⟩
      have kb := dk0.bound
      have nn : n * n ≤ 40 * 40 := Nat.mul_le_mul hn.2 hn.2
      obtain ⟨⟨h, pth, hh⟩, isdm⟩ := turnsF_is (o2 := o2) O1 (show 2 ≤ n by omega) (by rw [hf, hg]; exact eq)
      rw [hf, hg] at pth isdm
      rw [hg] at hh
      have ml := isdm.one isd0
      obtain ⟨m, hm⟩ : ∃ m, turnsF n f g = m := ⟨_, rfl⟩
      rw [hm] at pth isdm ml
      obtain ⟨psw, pat⟩ := pth_sw pth
      have dnM := calls_dn pth.bound hn.2 (by omega)
      have dnK := dn2 (dn_none.mono (by decide : 4 ≤ 10) (Nat.le_refl _)) (dn_none.mono (by decide : 4 ≤ 10) (Nat.le_refl _))
      have dnI : Dn (.list [PyData.int (k0 : Int), PyData.int (k0 : Int)]) ((10 + 2) * 2 + 2) (0 + 1) := dn2 (Dn.int (by omega) (by omega)) (Dn.int (by omega) (by omega))
      have cl1 : ∀ (H' : Hp) (Qx : VK), Ex H4 H' → (∀ H2, Ex H' H2 → Qx (.int (k0 : Int)) H2) → sp_fewest_turns K [.ref a, .ref b] H' Qx E0 := fun H' Qx e k => ⟨a, b, o1, o2, n, rfl, s1 _ e, O1, s2 _ e, O2, hn, fun ne => absurd (by rw [hf, hg]; exact eq) ne, fun _ k1 i1 H2 e2 => by
        rw [hf, hg] at i1
        rw [i1.one isd0]
        exact k H2 e2⟩
      have cl2 : ∀ (H' : Hp) (Qx : VK), Ex H4 H' → RetL ((M30.calls m).map V.int) H' Qx → sp_turns K [.ref a, .ref b] H' Qx E0 := fun H' Qx e k => ⟨a, b, o1, o2, n, rfl, s1 _ e, O1, s2 _ e, O2, hn, fun ne => absurd (by rw [hf, hg]; exact eq) ne, fun _ => by
        rw [hf, hg, hm]
        exact k⟩
      -- told = [..]
      refine ⟨_, rfl, _, rfl, cl1 _ _ (Ex.refl _) fun H5 e5 => ⟨_, rfl, _, rfl, cl1 _ _ e5 fun H6 e6 => ⟨(by show 2 ≤ sizeLine; decide), fun tp ntp => ?_⟩⟩⟩
      have e7 : Ex H6 (upd H6 tp (.lst [.int (k0 : Int), .int (k0 : Int)])) := Ex.new ntp
      have htp : (upd H6 tp (.lst [.int (k0 : Int), .int (k0 : Int)])) tp = some (.lst [.int (k0 : Int), .int (k0 : Int)]) := upd_same
      have g7 := (e5.trans e6).trans e7
      generalize upd H6 tp (.lst [.int (k0 : Int), .int (k0 : Int)]) = H7 at e7 htp g7
      -- rows = [..]
      refine ⟨_, rfl, _, rfl, cl2 _ _ g7 fun t1 H8 nt1 e8 ht1 => ⟨_, rfl, _, rfl, cl2 _ _ (g7.trans e8) fun t2 H9 nt2 e9 ht2 => ⟨(by show 2 ≤ sizeLine; decide), fun rp nrp => ?_⟩⟩⟩
      have e10 : Ex H9 (upd H9 rp (.lst [.ref t1, .ref t2])) := Ex.new nrp
      have hrp : (upd H9 rp (.lst [.ref t1, .ref t2])) rp = some (.lst [.ref t1, .ref t2]) := upd_same
      have g810 := (e8.trans e9).trans e10
      have g10 := g7.trans g810
      have ht110 := (e9.trans e10) _ _ ht1
      have ht210 := e10 _ _ ht2
      have htp10 := g810 _ _ htp
      have nt12 : t1 ≠ t2 := ne_of_none ht1 nt2
      have nt1H : H t1 = none := fresh_back (g4.trans g7) nt1
      have nr1 : rp ≠ t1 := fun z => by
        have := e9 _ _ ht1
        rw [← z, nrp] at this
        cases this
      have nf1 : pf ≠ t1 := fun z => by
        have := g7 _ _ hpf4
        rw [z, nt1] at this
        cases this
      have nl1 : pl ≠ t1 := fun z => by
        have := g7 _ _ hpl
        rw [z, nt1] at this
        cases this
      generalize upd H9 rp (.lst [.ref t1, .ref t2]) = H10 at e10 hrp g810 g10 ht110 ht210 htp10
      clear e5 e6 e7 htp g7 ht1 ht2 e8 e9 e10 g810 nt1 nt2
      have hpf10 := g10 _ _ hpf4
      have hpl10 := g10 _ _ hpl
      dsimp only [gName]
      show tSeq (tIfS _ _ tNext) _ _ [some (.ref a), some (.ref b), some (.str bsh), some (.int (n : Int)), some (.ref pf), some (.ref pl), some (.ref tp), some (.ref rp), none, none] H10
      -- if len(first) != len(last)
      refine q_when (b := false) (et_test (ev_is (ev_op (ev_len (ev_var rfl) (.inl (.inl hpf10))) (ev_len (ev_var rfl) (.inl (.inl hpl10))) (rv_ne rfl)) (by
        rw [List.length_map, List.length_map, bf, bg, eq, decide_eq_true rfl]
        rfl))) (fun z => nomatch z) fun _ H11 e11 => ?_
      have g11 := g10.trans e11
      -- due = least(first, last, many)
      have hpos : 0 < (M30.bl n f).length := by
        obtain ⟨⟨k, hk, fk⟩, _⟩ := M30.mk_both O1 (show 2 ≤ n by omega)
        rw [hf] at fk
        exact List.length_pos_of_mem ((M30.bl_at hk).mpr fk)
      refine ⟨_, rfl, _, rfl, _, rfl, pf, pl, n, f, g, rfl, .inl (.inl (e11 _ _ hpf10)), .inl (.inl (e11 _ _ hpl10)), hn, eq, hpos, fun k1 i1 H12 e12 => ?_⟩
      rw [i1.one isd0]
      clear i1 k1
      have g12 := g11.trans e12
      have e1012 := e11.trans e12
      have hrp12 := e1012 _ _ hrp
      have ht112 := e1012 _ _ ht110
      have ht212 := e1012 _ _ ht210
      have htp12 := e1012 _ _ htp10
      have hpf12 := e1012 _ _ hpf10
      have hpl12 := e1012 _ _ hpl10
      clear e11 e12 g11 e1012 hrp ht110 ht210 htp10 hpf10 hpl10
      -- if repr(told) != repr([due, due]) or ..
      refine ⟨_, rfl, tp, _, rfl, .lst (.inl (.inl htp12)) (.cons (.int _) (.cons (.int _) .nil)), dnI.show_, dnI.dict_, dnI.dpt (by decide), dnI.siz (by decide), _, rfl, _, rfl, (by show 2 ≤ sizeLine; decide), fun p8 np8 => ?_⟩
      have e13 : Ex H12 (upd H12 p8 (.lst [.int (k0 : Int), .int (k0 : Int)])) := Ex.new np8
      refine ⟨p8, _, rfl, .lst (.inl (.inl upd_same)) (.cons (.int _) (.cons (.int _) .nil)), dnI.show_, dnI.dict_, dnI.dpt (by decide), dnI.siz (by decide), rfl, _, rfl, ?_⟩
      rw [decide_eq_true rfl]
      refine iteF ?_
      have g13 := g12.trans e13
      have hrp13 := e13 _ _ hrp12
      have ht113 := e13 _ _ ht112
      have ht213 := e13 _ _ ht212
      have hpf13 := e13 _ _ hpf12
      have hpl13 := e13 _ _ hpl12
      generalize upd H12 p8 (.lst [.int (k0 : Int), .int (k0 : Int)]) = H13 at e13 g13 hrp13 ht113 ht213 hpf13 hpl13
      refine ⟨_, rfl, rp, _, _, _, rfl, rfl, .inl (.inl hrp13), rfl, t1, _, rfl, dp_ints (.inl (.inl ht113)), dnM.show_, dnM.dict_, dnM.dpt (by decide), dnM.siz (by decide), _, rfl, rp, _, _, _, rfl, rfl, .inl (.inl hrp13), rfl, t2, _, rfl, dp_ints (.inl (.inl ht213)), dnM.show_, dnM.dict_, dnM.dpt (by decide), dnM.siz (by decide), rfl, _, rfl, ?_⟩
      rw [decide_eq_true rfl]
      refine iteF ⟨_, rfl, rp, _, _, _, rfl, rfl, .inl (.inl hrp13), rfl, t1, _, rfl, .inl (.inl (.inl ht113)), _, rfl, rfl, _, rfl, ?_⟩
      rw [List.length_map, calls_len, ml, decide_eq_true rfl]
      refine iteF ?_
      -- for call in rows[1]
      dsimp only [tNext]
      show tSeq (tFor _ _ _) _ _ [some (.ref a), some (.ref b), some (.str bsh), some (.int (n : Int)), some (.ref pf), some (.ref pl), some (.ref tp), some (.ref rp), some (.int (k0 : Int)), none] H13
      refine q_forLn (xs := (M30.calls m).map V.int) (a := t2) (ev_op (ev_var rfl) ev_c (rv_ixL (.inl (.inl hrp13)) rfl)) (.inl (.inl ht213)) (fun i σ' H' => ∃ pf, (∃ y9, σ' = [some (.ref a), some (.ref b), some (.str bsh), some (.int (n : Int)), some (.ref pf), some (.ref pl), some (.ref tp), some (.ref rp), some (.int (k0 : Int)), y9]) ∧
          Ex H13 H' ∧ H' pf = some (.lst ((blI n (swL n f (m.take i))).map V.int)) ∧ pf ≠ t1) (fun H14 e14 => ⟨pf, ⟨none, rfl⟩, e14, e14 _ _ hpf13, nf1⟩) (fun i σ' H' _ z => by obtain ⟨_, _, z, _⟩ := z; exact .inl (.inl (z _ _ ht213))) ?_ ?_
      · rintro i x σ' H14 hx ⟨pf, ⟨y9, rfl⟩, e14, hpf14, nf1⟩
        obtain ⟨c, hc, rfl⟩ := map_at hx
        unfold M30.calls at hc
        rw [List.getElem?_map, Option.map_eq_some_iff] at hc
        obtain ⟨i0, hi0, rfl⟩ := hc
        obtain ⟨lt, ne⟩ := pat i i0 hi0
        have hti : m.take (i + 1) = m.take i ++ [i0] := take_snoc hi0
        show tSeq _ _ _ [some (.ref a), some (.ref b), some (.str bsh), some (.int (n : Int)), some (.ref pf), some (.ref pl), some (.ref tp), some (.ref rp), some (.int (k0 : Int)), some (.int ((i0 + 1 : Nat) : Int))] H14
        rw [show ((i0 + 1 : Nat) : Int) = (i0 : Int) + 1 by omega]
        -- first = turned(first, call, many) if call in range(1, many + 1) else None
        refine ⟨_, rfl, _, rfl, _, _, rfl, rfl, _, _, rfl, fun pr npr => ⟨_, pr, _, _, rfl, rfl, upd_same, _, rfl, ?_⟩⟩
        have e15 : Ex H14 (upd H14 pr (.rng 1 ((n : Int) + 1))) := Ex.new npr
        rw [decide_eq_true (show (1 : Int) ≤ (i0 : Int) + 1 ∧ (i0 : Int) + 1 < (n : Int) + 1 by omega)]
        refine iteT ⟨_, rfl, _, rfl, _, rfl, pf, n, i0, _, rfl, .inl (.inl (e15 _ _ hpf14)), lt, hn, fun same => absurd same ne, fun _ pm H16 npm e16 hpm => ?_⟩
        -- if first is None
        refine ⟨_, rfl, _, rfl, iteF ?_⟩
        have e1416 := e15.trans e16
        refine ⟨pm, ⟨_, rfl⟩, e14.trans e1416, ?_, ?_⟩
        · rw [hti, swL_snoc]
          exact hpm
        · rintro rfl
          have z := e15 _ _ (e14 _ _ ht113)
          rw [z] at npm
          cases npm
      · rintro σ' H14 ⟨pf, ⟨y9, rfl⟩, e14, hpf14, nf1⟩
        rw [List.length_map, calls_len, List.take_length, ← psw] at hpf14
        have ehg : blI n h = blI n g := by unfold blI; rw [M30.bl_congr hh]
        rw [ehg] at hpf14
        -- rows[0].append(None)
        refine q_app (l := t1) (e14 _ _ ht113) (ev_op (ev_var rfl) ev_c (rv_ixL (.inl (.inl (e14 _ _ hrp13))) rfl)) ev_c (by rw [List.length_map, calls_len]; omega) fun H15 e15 => ?_
        have e1315 := e14.trans e15
        have gA : ∀ b o, b ≠ t1 → H13 b = some o → (upd H15 t1 (.lst ((M30.calls m).map V.int ++ [.non]))) b = some o := fun b o ne hb => by rw [upd_ne ne]; exact e1315 _ _ hb
        have hpf16 : (upd H15 t1 (.lst ((M30.calls m).map V.int ++ [.non]))) pf = some (.lst ((blI n g).map V.int)) := by rw [upd_ne nf1]; exact e15 _ _ hpf14
        have hpl16 := gA _ _ nl1 hpl13
        have hrp16 := gA _ _ nr1 hrp13
        have ht216 := gA _ _ nt12.symm ht213
        have na1 : a ≠ t1 := ne_of_none hS1 nt1H
        have nb1 : b ≠ t1 := ne_of_none hS2 nt1H
        have g16 : Ex H (upd H15 t1 (.lst ((M30.calls m).map V.int ++ [.non]))) := ((g4.trans g13).trans e1315).mut nt1H
        generalize upd H15 t1 (.lst ((M30.calls m).map V.int ++ [.non])) = H16 at hpf16 hpl16 hrp16 ht216 g16
        -- return first == last and ..
        refine ⟨_, rfl, _, rfl, eq_ints (.inl (.inl hpf16)) (.inl (.inl hpl16)) ⟨_, rfl, ?_⟩⟩
        rw [decide_eq_true rfl]
        refine iteT ⟨_, rfl, _, rfl, a, b, o1, o2, n, rfl, .inl (.inl (g16 _ _ hS1)), O1, .inl (.inl (g16 _ _ hS2)), O2, hn, fun ne => absurd (by rw [hf, hg]; exact eq) ne, fun _ t3 H17 nt3 e17 ht3 => ?_⟩
        rw [hf, hg, hm] at ht3
        refine ⟨t3, _, rfl, dp_ints (.inl (.inl ht3)), dnM.show_, dnM.dict_, dnM.dpt (by decide), dnM.siz (by decide), _, rfl, rp, _, _, _, rfl, rfl, .inl (.inl (e17 _ _ hrp16)), rfl, t2, _, rfl, dp_ints (.inl (.inl (e17 _ _ ht216))), dnM.show_, dnM.dict_, dnM.dpt (by decide), dnM.siz (by decide), rfl, _, rfl, ?_⟩
        rw [decide_eq_true rfl]
        refine iteT ⟨_, rfl, _, rfl, (by show 2 ≤ sizeLine; decide), fun p9 np9 => ?_⟩
        have g17 := g16.trans e17
        have g18 := g17.trans (Ex.new (o := .lst [.ref a, .ref b]) np9)
        refine ⟨p9, _, rfl, .lst (.inl (.inl upd_same)) (.cons (dp_ints (.inl (.inl (g18 _ _ hS1)))) (.cons (dp_ints (.inl (.inl (g18 _ _ hS2)))) .nil)), dnO.show_, dnO.dict_, dnO.dpt (by decide), dnO.siz (by decide), _, rfl, rfl, ?_⟩
        rw [hsh, decide_eq_true rfl]
        exact q _ g18
    · -- not as many
      have cl1 : ∀ (H' : Hp) (Qx : VK), Ex H4 H' → (∀ H2, Ex H' H2 → Qx .non H2) → sp_fewest_turns K [.ref a, .ref b] H' Qx E0 := fun H' Qx e k => ⟨a, b, o1, o2, n, rfl, s1 _ e, O1, s2 _ e, O2, hn, fun _ => k, fun z => absurd (by rw [hf, hg] at z; exact z) eq⟩
      have cl2 : ∀ (H' : Hp) (Qx : VK), Ex H4 H' → (∀ H2, Ex H' H2 → Qx .non H2) → sp_turns K [.ref a, .ref b] H' Qx E0 := fun H' Qx e k => ⟨a, b, o1, o2, n, rfl, s1 _ e, O1, s2 _ e, O2, hn, fun _ => k, fun z => absurd (by rw [hf, hg] at z; exact z) eq⟩
      have dnN := dn2 dn_none dn_none
      have dnNN := dn2 dnN dnN
      -- told, rows
      refine ⟨_, rfl, _, rfl, cl1 _ _ (Ex.refl _) fun H5 e5 => ⟨_, rfl, _, rfl, cl1 _ _ e5 fun H6 e6 => ⟨(by show 2 ≤ sizeLine; decide), fun tp ntp => ?_⟩⟩⟩
      have e7 : Ex H6 (upd H6 tp (.lst [.non, .non])) := Ex.new ntp
      have htp : (upd H6 tp (.lst [.non, .non])) tp = some (.lst [.non, .non]) := upd_same
      have g7 := (e5.trans e6).trans e7
      generalize upd H6 tp (.lst [.non, .non]) = H7 at e7 htp g7
      refine ⟨_, rfl, _, rfl, cl2 _ _ g7 fun H8 e8 => ⟨_, rfl, _, rfl, cl2 _ _ (g7.trans e8) fun H9 e9 => ⟨(by show 2 ≤ sizeLine; decide), fun rp nrp => ?_⟩⟩⟩
      have e10 : Ex H9 (upd H9 rp (.lst [.non, .non])) := Ex.new nrp
      have hrp : (upd H9 rp (.lst [.non, .non])) rp = some (.lst [.non, .non]) := upd_same
      have g710 := (e8.trans e9).trans e10
      have htp10 := g710 _ _ htp
      have g10 := g7.trans g710
      generalize upd H9 rp (.lst [.non, .non]) = H10 at e10 hrp g710 htp10 g10
      have hpf10 := g10 _ _ hpf4
      have hpl10 := g10 _ _ hpl
      dsimp only [gName]
      show tSeq (tIfS _ _ tNext) _ _ [some (.ref a), some (.ref b), some (.str bsh), some (.int (n : Int)), some (.ref pf), some (.ref pl), some (.ref tp), some (.ref rp), none, none] H10
      refine q_when (b := true) (et_test (ev_is (ev_op (ev_len (ev_var rfl) (.inl (.inl hpf10))) (ev_len (ev_var rfl) (.inl (.inl hpl10))) (rv_ne rfl)) (by
        rw [List.length_map, List.length_map, bf, bg, decide_eq_false fun z => eq (by injection z; omega)]
        rfl))) (fun _ H11 e11 => ?_) fun z => nomatch z
      -- return repr([told, rows]) == repr([[None, None]] * 2)
      refine ⟨_, rfl, _, rfl, (by show 2 ≤ sizeLine; decide), fun p2 np2 => ?_⟩
      have e12 := e11.trans (Ex.new (o := .lst [.ref tp, .ref rp]) np2)
      have e411 := (g10.trans e12)
      refine ⟨p2, _, rfl, .lst (.inl (.inl upd_same)) (.cons (.lst (.inl (.inl (e12 _ _ htp10))) (.cons .non (.cons .non .nil))) (.cons (.lst (.inl (.inl (e12 _ _ hrp))) (.cons .non (.cons .non .nil))) .nil)), dnNN.show_, dnNN.dict_, dnNN.dpt (by decide), dnNN.siz (by decide), ?_⟩
      generalize upd H11 p2 (.lst [.ref tp, .ref rp]) = H12 at e12 e411
      refine ⟨(by show 2 ≤ sizeLine; decide), fun q1 nq1 => ⟨(by show 1 ≤ sizeLine; decide), fun q2 nq2 => ⟨q2, 2, _, rfl, rfl, upd_same, by decide, by decide, (by show 2 ≤ sizeLine; decide), fun q3 nq3 => ?_⟩⟩⟩
      have h1 : Ex H12 (upd H12 q1 (.lst [.non, .non])) := Ex.new nq1
      have h2 : Ex (upd H12 q1 (.lst [.non, .non])) (upd (upd H12 q1 (.lst [.non, .non])) q2 (.lst [.ref q1])) := Ex.new nq2
      have h3 := h2.trans (Ex.new (o := .lst (List.replicate ((2 : Int)).toNat [V.ref q1]).flatten) nq3)
      have hq1 := h3 _ _ (upd_same (H := H12) (a := q1) (o := .lst [.non, .non]))
      refine ⟨q3, _, rfl, .lst (xs := [V.ref q1, V.ref q1]) (.inl (.inl upd_same)) (.cons (.lst (.inl (.inl hq1)) (.cons .non (.cons .non .nil))) (.cons (.lst (.inl (.inl hq1)) (.cons .non (.cons .non .nil))) .nil)), dnNN.show_, dnNN.dict_, dnNN.dpt (by decide), dnNN.siz (by decide), rfl, ?_⟩
      rw [decide_eq_true rfl]
      exact q _ (((g4.trans e411).trans h1).trans h3)
end
end K30

namespace K30
open PySem PySem.Spec PyProof.Rows L2 Vf Evl
/-! ### where rounds lead -/
theorem roundsZ_one (td : Int → Int → Bool) (n : Int) (ord pl : List Int) : roundsZ td n ord 1 pl = MR.runP td pl (MR.pairsF n ord) := rfl
section
variable {P : Program} {w : World} {K : PySem.W.Frag} {mg : Str → Option Value} {base : Heap} {A : Ad}
def sp_l_leads_right (K : PySem.W.Frag) : Sp := fun vs H Q _ => ∃ (a s o p : Addr) (ts : List (Int × Int)) (st o1 o2 : List Int) (n : Nat), vs = [.int (n : Int), .ref a, .ref s, .ref o, .ref p] ∧ TiesAt K H a ts ∧ NetOk (n : Int) ts ∧ SqL K H s (st.map V.int) ∧ MR.Stn n st ∧
  SqL K H o (o1.map V.int) ∧ MR.Stn n o1 ∧ H p = some (.lst (o2.map V.int)) ∧ MR.Stn n o2 ∧ RetV (.bl true) H Q
theorem ok_l_leads_right (T : Txt K mg A) : FnOk P w K mg base CX0 7 A.f_l_leads_right A.d_l_leads_right ["_law_seats", "_law_ties", "_law_standing", "_law_order", "_law_other"] (sp_l_leads_right K) := by
  have G_turns : FnOk P w K mg base CX0 5 A.f_turns A.d_turns ["order", "other"] (sp_turns K) := ok_turns T
  have G_l_near : FnOk P w K mg base CX0 1 A.f_l_near A.d_l_near ["_law_ties"] (sp_l_near K) := ok_l_near T
  have G_l_where : FnOk P w K mg base CX0 1 A.f_l_where A.d_l_where ["_law_standing"] (sp_l_where K) := ok_l_where T
  have G_l_sitting : FnOk P w K mg base CX0 1 A.f_l_sitting A.d_l_sitting ["_law_where_here"] (sp_l_sitting K) := ok_l_sitting T
  have G_l_called : FnOk P w K mg base CX0 1 A.f_l_called A.d_l_called ["_law_near_here", "_law_where_here", "_law_calls"] (sp_l_called K) := ok_l_called T
  have G_called : FnOk P w K mg base CX0 6 A.f_called A.d_called ["seats", "ties", "standing", "calls"] (sp_called K) := ok_called T
  have G_after_rounds : FnOk P w K mg base CX0 6 A.f_after_rounds A.d_after_rounds ["seats", "ties", "standing", "order", "many"] (sp_after_rounds K) := ok_after_rounds T
  obtain ⟨ds_ar, rd_after_rounds, hb_after_rounds⟩ := T.bd_after_rounds
  refine T.F_l_leads_right.ok sc_l_leads_right (fun vs H Q E h => ?_) (fun cdv A' outer s0 H vs Q E hr h => ?_)
  · obtain ⟨a, s, o, p, ts, st, o1, o2, n, rfl, _⟩ := h
    rfl
  · obtain ⟨a, s, o, p, ts, st, o1, o2, n, rfl, hT, N, hS, S, hO, O1, hP, O2, q⟩ := h
    refine ⟨_, (pss_cons (ps_set (i := 5) sc_l_leads_right.nd rfl (by first | exact .inl rfl | exact .inr rfl) (pe_call G_turns (hr.mono (by decide)) (by rfl) T.g_turns T.F_turns.kp T.b_turns .nil pass0 (pa_cons (pv 3) (pa_cons (pv 4) pa_nil))))
      (pss_cons (ps_if (pt_cmp (pc_isN (pv 5))) (pss_one (ps_ret pe_bl)) pss_nil)
      (pss_cons (ps_par (i := 6) (j := 7) rfl sc_l_leads_right.nd rfl rfl (by decide) rfl rfl (pa_cons (pe_call G_l_near (hr.mono (by decide)) (by rfl) T.g_l_near T.F_l_near.kp T.b_l_near .nil pass0 (pa_cons (pv 1) pa_nil)) (pa_cons (pe_call G_l_where (hr.mono (by decide)) (by rfl) T.g_l_where T.F_l_where.kp T.b_l_where .nil pass0 (pa_cons (pv 2) pa_nil)) pa_nil)) (by rfl))
      (pss_cons (ps_set (i := 8) sc_l_leads_right.nd rfl (by first | exact .inl rfl | exact .inr rfl) (pe_call G_l_sitting (hr.mono (by decide)) (by rfl) T.g_l_sitting T.F_l_sitting.kp T.b_l_sitting .nil pass0 (pa_cons (pe_call G_l_called (hr.mono (by decide)) (by rfl) T.g_l_called T.F_l_called.kp T.b_l_called .nil pass0 (pa_cons (pv 6) (pa_cons (pv 7) (pa_cons (pv 3) pa_nil)))) pa_nil)))
      (pss_cons (ps_if (pt_cmpR (op_neD hr.units) (pe_call G_l_sitting (hr.mono (by decide)) (by rfl) T.g_l_sitting T.F_l_sitting.kp T.b_l_sitting .nil pass0 (pa_cons (pe_call G_l_called (hr.mono (by decide)) (by rfl) T.g_l_called T.F_l_called.kp T.b_l_called .nil pass0 (pa_cons (pv 6) (pa_cons (pv 7) (pa_cons (pe_op op_cat (pe_op op_cat (pv 5) (pv 4)) (pe_revK (K := K) rfl (pv 5))) pa_nil)))) pa_nil)) (pv 8) (nomark _)) (pss_one (ps_ret pe_bl)) pss_nil)
      (pss_cons (ps_set (i := 9) sc_l_leads_right.nd rfl (by first | exact .inl rfl | exact .inr rfl) (pe_call G_after_rounds (hr.mono (by decide)) (by rfl) T.g_after_rounds T.F_after_rounds.kp hb_after_rounds rd_after_rounds pass0 (pa_cons (pv 0) (pa_cons (pv 1) (pa_cons (pe_call G_called (hr.mono (by decide)) (by rfl) T.g_called T.F_called.kp T.b_called .nil pass0 (pa_cons (pv 0) (pa_cons (pv 1) (pa_cons (pv 2) (pa_cons (pv 5) pa_nil))))) (pa_cons (pv 4) pa_nil))))))
      (pss_one (ps_ret (pe_and (pe_cmpR (op_eqD hr.units) (pe_call G_called (hr.mono (by decide)) (by rfl) T.g_called T.F_called.kp T.b_called .nil pass0 (pa_cons (pv 0) (pa_cons (pv 1) (pa_cons (pv 9) (pa_cons (pe_revK (K := K) rfl (pv 5)) pa_nil))))) (pv 8) (nomark _)) (pe_one (pe_cmpR (op_eqD hr.units) (pe_call G_after_rounds (hr.mono (by decide)) (by rfl) T.g_after_rounds T.F_after_rounds.kp hb_after_rounds rd_after_rounds pass0 (pa_cons (pv 0) (pa_cons (pv 1) (pa_cons (pv 2) (pa_cons (pv 3) pa_nil))))) (pv 8) (nomark _)))))))))))), ?_⟩
    have n1 := N.lo
    have n2 := N.hi
    have few := N.few
    have hn : 3 ≤ n ∧ n ≤ 40 := by omega
    have P0 := S.plc
    have sym := MR.tdF_sym ts
    have ol1 := O1.len
    have ol2 := O2.len
    -- path = turns(order, other)
    refine ⟨_, rfl, _, rfl, o, p, o1, o2, n, rfl, hO, O1, .inl (.inl hP), O2, hn, fun ne H1 e1 => ?_, fun eq pp H1 npp e1 hpp => ?_⟩
    · exact ⟨_, rfl, _, rfl, iteT (q _ e1)⟩
    refine ⟨_, rfl, _, rfl, iteF ?_⟩
    obtain ⟨⟨h, pth, hh⟩, isdm⟩ := turnsF_is (o2 := o2) O1 (show 2 ≤ n by omega) eq
    have kb := M30.Dk.bound ⟨isdm, eq.symm⟩
    have nn40 : n * n ≤ 40 * 40 := Nat.mul_le_mul hn.2 hn.2
    obtain ⟨m, hm⟩ : ∃ m, turnsF n (M30.mk n o1) (M30.mk n o2) = m := ⟨_, rfl⟩
    rw [hm] at pth isdm hpp kb
    have mb : ∀ x ∈ M30.calls m, 1 ≤ x ∧ x ≤ (n : Int) := fun x hx => by
      unfold M30.calls at hx
      obtain ⟨j, hj, rfl⟩ := List.mem_map.mp hx
      have := pth.bound j hj
      omega
    have cl := calls_len m
    have lead := M30.leads sym O1 O2 hn.1 pth (fun k _ => rfl) hh P0
    have mbr : ∀ x ∈ (M30.calls m).reverse, 1 ≤ x ∧ x ≤ (n : Int) := fun x hx => mb x (List.mem_reverse.mp hx)
    have call3 : ∀ x ∈ M30.calls m ++ o2 ++ (M30.calls m).reverse, 1 ≤ x ∧ x ≤ (n : Int) := fun x hx => by
      rcases List.mem_append.mp hx with hx | hx
      · rcases List.mem_append.mp hx with hx | hx
        · exact mb x hx
        · exact O2.lo x hx
      · exact mbr x hx
    have PG := MR.run_plc (td := MR.tdF ts) P0 (MR.pairs_ok (n := n) (by omega) O1.lo)
    obtain ⟨G, hG⟩ : ∃ G, MR.runP (MR.tdF ts) (MR.plOf st) (MR.pairsF n o1) = G := ⟨_, rfl⟩
    rw [hG] at PG lead
    -- near, where
    refine ⟨_, rfl, a, ts, rfl, hT.mono e1, few, fun nn H2 nnn e2 hN => ⟨_, rfl, s, st, n, rfl, ex_l (e1.trans e2) hS, S, by omega, fun wh H3 nwh e3 hwh => ⟨_, _, rfl, ?_⟩⟩⟩
    have g3 := (e1.trans e2).trans e3
    have hN3 := hN.on e3
    have hpp3 := (e2.trans e3) _ _ hpp
    -- goal = sitting(called(near, where, order))
    refine ⟨_, rfl, _, rfl, _, rfl, nn, wh, o, ts, MR.plOf st, o1, n, rfl, hN3, .inl (.inl hwh), P0, ex_l g3 hO, O1.lo, by omega, by omega, fun u1 H4 nu1 e4 hu1 => ?_⟩
    rw [hG] at hu1
    refine ⟨u1, G, n, rfl, .inl (.inl hu1), PG, by omega, fun gl H5 ngl e5 hgl => ?_⟩
    have e35 := e4.trans e5
    have g5 := g3.trans e35
    have hN5 := hN3.on e35
    have hwh5 := e35 _ _ hwh
    have hpp5 := e35 _ _ hpp3
    clear hN hwh hpp hpp3 hN3 e1 e2 e3 e4 e5 hu1
    -- if sitting(called(near, where, path + other + path[::-1])) != goal
    refine ⟨_, rfl, _, rfl, _, rfl, _, rfl, pp, p, _, _, rfl, rfl, hpp5, g5 _ _ hP, sz_of (by rw [List.length_map, List.length_map, cl]; omega), fun c1 nc1 => ?_⟩
    have f1 : Ex H5 (upd H5 c1 (.lst ((M30.calls m).map V.int ++ o2.map V.int))) := Ex.new nc1
    refine ⟨_, rfl, pp, _, rfl, .inl (.inl (f1 _ _ hpp5)), fun c2 nc2 => ?_⟩
    have f2 : Ex (upd H5 c1 (.lst ((M30.calls m).map V.int ++ o2.map V.int))) (upd (upd H5 c1 (.lst ((M30.calls m).map V.int ++ o2.map V.int))) c2 (.lst ((M30.calls m).map V.int).reverse)) := Ex.new nc2
    refine ⟨c1, c2, _, _, rfl, rfl, f2 _ _ upd_same, upd_same, sz_of (by rw [List.length_append, List.length_reverse, List.length_map, List.length_map, cl]; omega), fun c3 nc3 => ?_⟩
    have f3 := (f1.trans f2).trans (Ex.new (o := .lst (((M30.calls m).map V.int ++ o2.map V.int) ++ ((M30.calls m).map V.int).reverse)) nc3)
    refine ⟨nn, wh, c3, ts, MR.plOf st, M30.calls m ++ o2 ++ (M30.calls m).reverse, n, rfl, hN5.on f3, .inl (.inl (f3 _ _ hwh5)), P0, .inl (.inl (by rw [upd_same, List.map_append, List.map_append, List.map_reverse])), call3, by omega, by omega, fun u2 H6 nu2 e6 hu2 => ?_⟩
    rw [← lead] at hu2
    refine ⟨u2, G, n, rfl, .inl (.inl hu2), PG, by omega, fun g2 H7 ng2 e7 hg2 => ?_⟩
    have e57 := (f3.trans e6).trans e7
    have g7 := g5.trans e57
    have hgl7 := e57 _ _ hgl
    refine ⟨_, rfl, ne_ints (.inl (.inl hg2)) (.inl (.inl hgl7)) ⟨_, rfl, ?_⟩⟩
    rw [decide_eq_true rfl]
    refine iteF ?_
    have hpp7 := e57 _ _ hpp5
    clear e57 f1 f2 f3 e6 e7 hu2 hg2 hgl hpp5 hwh5 hN5 g5 g3
    -- now = after_rounds(seats, ties, called(seats, ties, standing, path), other)
    have PM := MR.run_plc (td := MR.tdF ts) P0 (MR.pairs_ok (n := n) (by omega) mb)
    have PX := MR.run_plc (td := MR.tdF ts) PM (MR.pairs_ok (n := n) (by omega) O2.lo)
    refine ⟨_, rfl, _, rfl, _, rfl, _, rfl, _, rfl, _, rfl, a, s, pp, ts, st, M30.calls m, n, rfl, hT.mono g7, N, ex_l g7 hS, S, .inl (.inl hpp7), mb, by omega, fun v1 H8 nv1 e8 hv1 => ?_⟩
    have g8 := g7.trans e8
    refine ⟨_, rfl, a, v1, p, ts, _, o2, n, 1, rfl, hT.mono g8, N, .inl (.inl hv1), PM.stn, .inl (.inl (g8 _ _ hP)), O2, fun nw H9 nnw e9 hnw => ?_⟩
    rw [roundsZ_one, PM.back] at hnw
    have g9 := g8.trans e9
    have hpp9 := (e8.trans e9) _ _ hpp7
    have hgl9 := (e8.trans e9) _ _ hgl7
    -- return called(seats, ties, now, path[::-1]) == goal and ..
    refine ⟨_, rfl, _, rfl, _, rfl, _, rfl, pp, _, rfl, .inl (.inl hpp9), fun c4 nc4 => ?_⟩
    have e10 : Ex H9 (upd H9 c4 (.lst ((M30.calls m).map V.int).reverse)) := Ex.new nc4
    have g10 := g9.trans e10
    refine ⟨a, nw, c4, ts, _, (M30.calls m).reverse, n, rfl, hT.mono g10, N, .inl (.inl (e10 _ _ hnw)), PX.stn, .inl (.inl (by rw [upd_same, List.map_reverse])), mbr, by rw [List.length_reverse]; omega, fun v2 H11 nv2 e11 hv2 => ?_⟩
    have fin : MR.runP (MR.tdF ts) (MR.runP (MR.tdF ts) (MR.runP (MR.tdF ts) (MR.plOf st) (MR.pairsF n (M30.calls m))) (MR.pairsF n o2)) (MR.pairsF n (M30.calls m).reverse) = G := by
      rw [lead]
      unfold MR.pairsF
      rw [List.map_append, List.map_append, MR.run_append, MR.run_append]
    rw [PX.back, fin] at hv2
    have g11 := g10.trans e11
    refine ⟨_, rfl, eq_ints (.inl (.inl hv2)) (.inl (.inl ((e10.trans e11) _ _ hgl9))) ⟨_, rfl, ?_⟩⟩
    rw [decide_eq_true rfl]
    refine iteT ⟨_, rfl, _, rfl, _, rfl, _, rfl, a, s, o, ts, st, o1, n, 1, rfl, hT.mono g11, N, ex_l g11 hS, S, ex_l g11 hO, O1, fun v3 H12 nv3 e12 hv3 => ?_⟩
    rw [roundsZ_one, hG] at hv3
    refine ⟨_, rfl, eq_ints (.inl (.inl hv3)) (.inl (.inl (((e10.trans e11).trans e12) _ _ hgl9))) ?_⟩
    rw [decide_eq_true rfl]
    exact q _ (g11.trans e12)
end
end K30

namespace K30
open PySem PySem.Spec PyProof.Rows L2 Vf Evl
section
variable {K : PySem.W.Frag} {σ : L2.St} {H : Hp} {te tl : TE}
def EvD (te : TE) (σ : L2.St) (H : Hp) : Prop := ∀ H1, Ex H H1 → ∀ Q : VK, (∀ (R : Addr) (ds : List Addr) (H2 : Hp), Ex H1 H2 → H2 R = some (.lst (ds.map V.ref)) → R ∉ ds → (∀ d ∈ ds, Dr H2 d 0) → ds.length ≤ 100 → Q (.ref R) H2) → te σ H1 Q
def DW (H1 : Hp) (Dl : Addr) (i : Nat) (H' : Hp) : Prop := H1 Dl = none ∧ Ex H1 H' ∧ ∃ ds : List Addr, H' Dl = some (.lst (ds.map V.ref)) ∧ ds.length = i ∧ Dl ∉ ds ∧ ∀ d ∈ ds, Dr H' d 0
theorem ed_lc {cs : List Int} {j : Nat} {vs : List Nat} (h : EvL tl σ H (cs.map V.int)) (hl : cs.length ≤ 100) (hw : ∀ x, wipe ((wipe σ vs).set j (some x)) vs = wipe σ vs) (hj : ∀ x, ((wipe σ vs).set j (some x))[j]? = some (some x)) :
    EvD (tLc (iList K tl) (gName j) tYes (tCall sp_l_draws [] E0 (tCons (tVar j) tNil)) vs) σ H := by
  intro H0 e Q q
  refine h H0 e _ fun a H1 na e1 hx => ⟨a, rfl, ⟨_, .inl (.inl hx)⟩, fun Dl hD => ?_⟩
  refine lc_list (xs := cs.map V.int) (DW H1 Dl) ⟨hD, Ex.new hD, [], upd_same, rfl, (by simp), fun d hd => (by simp at hd)⟩
    (fun i H' _ p => .inl (.inl (p.2.1 _ _ hx))) (fun i x H' hi p => ⟨hw x, ?_⟩) fun H' p => ?_
  · obtain ⟨c, hc, rfl⟩ := map_at hi
    obtain ⟨p1, p2, ds, h1, h2, h3, h4⟩ := p
    have hlt := (List.getElem?_eq_some_iff.mp hc).1
    show tCall sp_l_draws [] E0 (tCons (tVar j) tNil) _ H' fun y H4 => ∃ acc, H4 Dl = some (.lst acc) ∧ acc.length < sizeLine ∧ DW H1 Dl (i + 1) (upd H4 Dl (.lst (acc ++ [y])))
    refine ⟨_, hj _, c, rfl, fun x b p H2 np e2 hp => ⟨ds.map V.ref, e2 _ _ h1, sz_lt (by rw [List.length_map]; omega), p1, Ex.mut (p2.trans e2) p1, ds ++ [p], ?_, ?_, ?_, ?_⟩⟩
    · rw [upd_same, List.map_append]
      rfl
    · rw [List.length_append, h2]
      rfl
    · intro z
      rcases List.mem_append.mp z with z | z
      · exact h3 z
      · rw [List.mem_singleton.mp z, np] at h1
        cases h1
    · intro d hd
      rcases List.mem_append.mp hd with z | z
      · obtain ⟨xx, bb, hh⟩ := h4 d z
        refine ⟨xx, bb, ?_⟩
        rw [upd_ne (show d ≠ Dl from fun y => h3 (y ▸ z))]
        exact e2 _ _ hh
      · rw [List.mem_singleton.mp z]
        refine ⟨x, b, ?_⟩
        rw [upd_ne (show p ≠ Dl from fun y => by rw [y, h1] at np; cases np)]
        exact hp
  · obtain ⟨p1, p2, ds, h1, h2, h3, h4⟩ := p
    exact q Dl ds H' (e1.trans p2) h1 h3 h4 (by rw [h2, List.length_map]; exact hl)
theorem q_forD {tu tz : TS} {D : Ends} {j : Nat} (h : EvD te σ H) (Pv : Addr → List Addr → Nat → L2.St → Hp → Prop) (h0 : ∀ R ds H1, Ex H H1 → H1 R = some (.lst (ds.map V.ref)) → R ∉ ds → (∀ d ∈ ds, Dr H1 d 0) → ds.length ≤ 100 → Pv R ds 0 σ H1)
    (hl : ∀ R ds i σ' H', Pv R ds i σ' H' → H' R = some (.lst (ds.map V.ref))) (hs : ∀ R (ds : List Addr) i d σ' H', ds[i]? = some d → Pv R ds i σ' H' → tu { D with nx := Pv R ds (i + 1), ct := Pv R ds (i + 1), bk := tz D } (σ'.set j (some (.ref d))) H')
    (hd : ∀ R ds i σ' H', Pv R ds i σ' H' → tz D σ' H') : tSeq (tFor (iList K te) (gName j) tu) tz D σ H :=
  h H (Ex.refl H) _ fun R ds H1 e1 hR nR hds dl => ⟨R, rfl, ⟨_, .inl (.inl hR)⟩, for_list (xs := ds.map V.ref) (D := { D with nx := tz D }) (Pv R ds) (h0 R ds H1 e1 hR nR hds dl) (fun i σ' H' _ z => .inl (.inl (hl R ds i σ' H' z)))
    (fun i x σ' H' hx z => by
      obtain ⟨d, hd, rfl⟩ := map_at hx
      exact hs R ds i d σ' H' hd z) fun σ' H' z => hd R ds _ σ' H' z⟩
/-- each of the draws is a list of draws, and none of them far gone -/
def Drs (H : Hp) (ds : List Addr) (m : Int) : Prop := ∀ d ∈ ds, ∃ k, Dr H d k ∧ 0 ≤ k ∧ k ≤ m
theorem Drs.step {H H' : Hp} {ds : List Addr} {m m' : Int} {d : Addr} {k : Int} (h : Drs H ds m) (e : ExA d H H') (hd : Dr H' d k) (h0 : 0 ≤ k) (h1 : k ≤ m') (hm : m ≤ m') : Drs H' ds m' := fun b hb => by
  by_cases c : b = d
  · rw [c]
    exact ⟨k, hd, h0, h1⟩
  · obtain ⟨kk, ⟨x, bb, hx⟩, k0, k1⟩ := h b hb
    exact ⟨kk, ⟨x, bb, e _ _ c hx⟩, k0, by omega⟩
theorem Drs.on {H H' : Hp} {ds : List Addr} {m m' : Int} (h : Drs H ds m) (e : Ex H H') (hm : m ≤ m') : Drs H' ds m' := fun b hb => by
  obtain ⟨kk, hd, k0, k1⟩ := h b hb
  exact ⟨kk, hd.on e, k0, by omega⟩
end

/-! ### lists written down -/
theorem cut_fr (xs : List V) (k : Nat) : cutV xs (some (k : Int)) none = xs.drop k := by
  unfold cutV
  rw [HT.sIx_none, HT.sIx_nat]
  by_cases h : k ≤ xs.length
  · rw [Nat.min_eq_left h, List.take_of_length_le (by rw [List.length_drop]; omega)]
  · rw [Nat.min_eq_right (by omega), List.drop_eq_nil_of_le (by omega), List.drop_eq_nil_of_le (by omega)]
    simp
theorem cut_turn (xs : List V) (k : Nat) : (cutV xs (some (k : Int)) none ++ cutV xs none (some (k : Int))).Perm xs := by
  rw [cut_fr, cut_to]
  refine (List.perm_append_comm).trans ?_
  rw [List.take_append_drop]
theorem stn_line {n : Nat} {ln : List Int} (L : LineOk n ln) : MR.Stn n ln := ⟨L.len, L.at_, L.nd⟩
theorem bl_less {n : Nat} {f : Nat → Bool} (h : ∃ k, k < n ∧ f k = false) : (M30.bl n f).length < n := by
  obtain ⟨k, hk, hf⟩ := h
  refine Decidable.byContradiction fun z => ?_
  have le : (M30.bl n f).length ≤ n := by
    unfold M30.bl
    rw [List.length_map]
    exact Nat.le_trans (List.length_filter_le _ _) (by rw [List.length_range]; exact Nat.le_refl _)
  have e : ((List.range n).filter f).length = (List.range n).length := by
    have : (M30.bl n f).length = n := by omega
    unfold M30.bl at this
    rw [List.length_map] at this
    rw [this, List.length_range]
  have := List.length_filter_eq_length_iff.mp e k (List.mem_range.mpr hk)
  rw [hf] at this
  cases this
section
variable {P : Program} {w : World} {K : PySem.W.Frag} {σ : L2.St} {H : Hp} {ta tb : TE}
theorem ev_andV {a b : Bool} (h1 : Ev ta σ H (.bl a)) (h2 : a = true → Ev tb σ H (.bl b)) : Ev (tAndV ta tb) σ H (.bl (a && b)) := fun H1 e Q q => h1 H1 e _ fun H2 e2 => by
  cases a with
  | true => exact ⟨true, rfl, iteT (h2 rfl H2 (e.trans e2) Q fun H3 e3 => q H3 (e2.trans e3))⟩
  | false => exact ⟨false, rfl, iteF (q H2 e2)⟩
def lI (l : List Int) : TA := l.foldr (fun i t => tCons (tC (.int i)) t) tNil
theorem ea_lI {l : List Int} : EvA (lI l) σ H (l.map V.int) := by
  induction l with
  | nil => exact ea_nil
  | cons x l ih => exact ea_cons ev_c ih
theorem el_lI {l : List Int} (h : l.length ≤ 100000) : EvL (tLst (lI l)) σ H (l.map V.int) := el_lst ea_lI (by rw [List.length_map]; exact h)
theorem ev_few {o1 o2 : List Int} {n k0 : Nat} (h1 : EvL ta σ H (o1.map V.int)) (h2 : EvL tb σ H (o2.map V.int)) (O1 : MR.Stn n o1) (O2 : MR.Stn n o2) (hn : 3 ≤ n ∧ n ≤ 40) (eq : (M30.bl n (M30.mk n o1)).length = (M30.bl n (M30.mk n o2)).length) (isd : M30.IsD n (M30.mk n o1) (M30.mk n o2) k0) :
    Ev (tCall (sp_fewest_turns K) [] E0 (tCons ta (tCons tb tNil))) σ H (.int (k0 : Int)) := fun H1 e Q q =>
  h1 H1 e _ fun a H2 na e2 ha => h2 H2 (e.trans e2) _ fun b H3 nb e3 hb => ⟨a, b, o1, o2, n, rfl, .inl (.inl (e3 _ _ ha)), O1, .inl (.inl hb), O2, hn, fun ne => absurd eq ne, fun _ k i H4 e4 => by
    rw [i.one isd]
    exact q H4 ((e2.trans e3).trans e4)⟩
theorem ev_fewN {o1 o2 : List Int} {n : Nat} (h1 : EvL ta σ H (o1.map V.int)) (h2 : EvL tb σ H (o2.map V.int)) (O1 : MR.Stn n o1) (O2 : MR.Stn n o2) (hn : 3 ≤ n ∧ n ≤ 40) (ne : (M30.bl n (M30.mk n o1)).length ≠ (M30.bl n (M30.mk n o2)).length) :
    Ev (tCall (sp_fewest_turns K) [] E0 (tCons ta (tCons tb tNil))) σ H .non := fun H1 e Q q =>
  h1 H1 e _ fun a H2 na e2 ha => h2 H2 (e.trans e2) _ fun b H3 nb e3 hb => ⟨a, b, o1, o2, n, rfl, .inl (.inl (e3 _ _ ha)), O1, .inl (.inl hb), O2, hn, fun _ H4 e4 => q H4 ((e2.trans e3).trans e4), fun eq => absurd eq ne⟩
theorem el_turns {o1 o2 l : List Int} {n : Nat} (h1 : EvL ta σ H (o1.map V.int)) (h2 : EvL tb σ H (o2.map V.int)) (O1 : MR.Stn n o1) (O2 : MR.Stn n o2) (hn : 3 ≤ n ∧ n ≤ 40) (eq : (M30.bl n (M30.mk n o1)).length = (M30.bl n (M30.mk n o2)).length) (ht : M30.calls (turnsF n (M30.mk n o1) (M30.mk n o2)) = l) :
    EvL (tCall (sp_turns K) [] E0 (tCons ta (tCons tb tNil))) σ H (l.map V.int) := fun H1 e Q q =>
  h1 H1 e _ fun a H2 na e2 ha => h2 H2 (e.trans e2) _ fun b H3 nb e3 hb => ⟨a, b, o1, o2, n, rfl, .inl (.inl (e3 _ _ ha)), O1, .inl (.inl hb), O2, hn, fun ne => absurd eq ne, fun _ p H4 np e4 hp => by
    rw [ht] at hp
    exact q p H4 (fresh_back (e2.trans e3) np) ((e2.trans e3).trans e4) hp⟩
theorem ev_right {o1 o2 : List Int} {n : Nat} (h1 : EvL ta σ H (o1.map V.int)) (h2 : EvL tb σ H (o2.map V.int)) (O1 : MR.Stn n o1) (O2 : MR.Stn n o2) (hn : 3 ≤ n ∧ n ≤ 40) : Ev (tCall sp_l_right [] E0 (tCons ta (tCons tb tNil))) σ H (.bl true) := fun H1 e Q q =>
  h1 H1 e _ fun a H2 na e2 ha => h2 H2 (e.trans e2) _ fun b H3 nb e3 hb => ⟨a, b, o1, o2, n, rfl, e3 _ _ ha, hb, O1, O2, hn, fun H4 e4 => q H4 ((e2.trans e3).trans e4)⟩
theorem ev_neL {a : List Int} (h : EvL ta σ H (a.map V.int)) (k : EvL tb σ H (a.map V.int)) : Ev (tOp (rNeD K) ta tb) σ H (.bl false) := fun H1 e Q q =>
  h H1 e _ fun p H2 np e2 hp => k H2 (e.trans e2) _ fun r H3 nr e3 hr => ne_ints (.inl (.inl (e3 _ _ hp))) (.inl (.inl hr)) (by
    rw [decide_eq_true rfl]
    exact q H3 (e2.trans e3))
theorem ev_ne2N (h : EvL ta σ H [.int 2, .non]) (k : EvL tb σ H [.int 2, .non]) : Ev (tOp (rNeD K) ta tb) σ H (.bl false) := fun H1 e Q q =>
  h H1 e _ fun p H2 np e2 hp => k H2 (e.trans e2) _ fun r H3 nr e3 hr => ⟨.list [.int 2, .none], .list [.int 2, .none], .lst (.inl (.inl (e3 _ _ hp))) (.cons (.int 2) (.cons .non .nil)), .lst (.inl (.inl hr)) (.cons (.int 2) (.cons .non .nil)), rfl, rfl, q H3 (e2.trans e3)⟩
end
/-! ### what they come to -/
def stnB (n : Nat) (s : List Int) : Bool := decide (s.length = n) && s.all (fun x => decide (1 ≤ x) && decide (x ≤ (n : Int))) && decide s.Nodup
theorem stnB_ok {n : Nat} {s : List Int} (h : stnB n s = true) : MR.Stn n s := by
  unfold stnB at h
  simp only [Bool.and_eq_true, decide_eq_true_eq, List.all_eq_true] at h
  obtain ⟨⟨h1, h2⟩, h3⟩ := h
  exact ⟨h1, fun x hx => by have := h2 x hx; exact ⟨this.1, by omega⟩, h3⟩
theorem isd_4 : M30.IsD 4 (M30.mk 4 [1, 2, 3, 4]) (M30.mk 4 [3, 4, 1, 2]) 2 := by
  have hd : (M30.bl 4 (M30.mk 4 [1, 2, 3, 4])).length = 1 := by decide +kernel
  refine least_is (by decide +kernel) (by decide +kernel) (by decide) ?_ ?_
  · rw [hd]
    exact ⟨0, by decide, by decide, by decide +kernel⟩
  · rw [hd]
    intro t h1 h2
    have : t = -1 ∨ t = 0 ∨ t = 1 := by omega
    rcases this with rfl | rfl | rfl <;> decide +kernel
theorem turns_5 : M30.calls (turnsF 5 (M30.mk 5 [1, 2, 3, 4, 5]) (M30.mk 5 [2, 3, 4, 5, 1])) = [1] := by
  have e : (-1 : Int) = med 5 (M30.mk 5 [1, 2, 3, 4, 5]) (M30.mk 5 [2, 3, 4, 5, 1]) := med_of (ns := [-1, -1, -1, -1, 0]) (by decide +kernel) (by decide) (by decide)
  unfold turnsF stF
  rw [← e]
  decide +kernel
theorem turns_4 : M30.calls (turnsF 4 (M30.mk 4 [1, 3, 2, 4]) (M30.mk 4 [3, 1, 4, 2])) = [] := by
  have e : (0 : Int) = med 4 (M30.mk 4 [1, 3, 2, 4]) (M30.mk 4 [3, 1, 4, 2]) := med_of (ns := [0, 0, 0, 0]) (by decide +kernel) (by decide) (by decide)
  unfold turnsF stF
  rw [← e]
  decide +kernel
end K30

namespace K30
open PySem PySem.Spec PyProof.Rows L2 Vf Evl
section
variable {P : Program} {w : World} {K : PySem.W.Frag} {mg : Str → Option Value} {base : Heap} {A : Ad}
def sp_law (K : PySem.W.Frag) : Sp := fun vs H Q _ => ∃ (a : Addr) (ns : List Int), vs = [.ref a] ∧ SqL K H a (ns.map V.int) ∧ ns.length ≤ 63 ∧ ∀ H2, Q (.bl true) H2
theorem ok_law (T : Txt K mg A) : FnG P w K mg base CX0 8 A.f_law A.d_law ["_law_script"] (sp_law K) := by
  have G_l_draws : FnOk P w K mg base CX0 1 A.f_l_draws A.d_l_draws ["_law_cell"] sp_l_draws := ok_l_draws T
  have G_l_next : FnOk P w K mg base CX0 1 A.f_l_next A.d_l_next ["_law_draws_here"] sp_l_next := ok_l_next T
  have G_l_mixed : FnOk P w K mg base CX0 2 A.f_l_mixed A.d_l_mixed ["_law_draws_here", "_law_some"] (sp_l_mixed K) := ok_l_mixed T
  have G_l_net : FnOk P w K mg base CX0 3 A.f_l_net A.d_l_net ["_law_draws_here", "_law_most"] sp_l_net := ok_l_net T
  have G_l_others : FnOk P w K mg base CX0 3 A.f_l_others A.d_l_others ["_law_draws_here", "_law_order"] sp_l_others := ok_l_others T
  have G_l_breaks : FnOk P w K mg base CX0 1 A.f_l_breaks A.d_l_breaks ["_law_order"] (sp_breaks_of K) := ok_l_breaks T
  have G_l_least : FnOk P w K mg base CX0 1 A.f_l_least A.d_l_least ["_law_first", "_law_last", "_law_many"] (sp_l_least K) := ok_l_least T
  have G_l_steps : FnOk P w K mg base CX0 2 A.f_l_steps A.d_l_steps ["_law_first", "_law_last", "_law_many"] sp_l_steps := ok_l_steps T
  have G_l_right : FnG P w K mg base CX0 6 A.f_l_right A.d_l_right ["_law_order", "_law_other"] sp_l_right := ok_l_right T
  have G_l_leads_right : FnOk P w K mg base CX0 7 A.f_l_leads_right A.d_l_leads_right ["_law_seats", "_law_ties", "_law_standing", "_law_order", "_law_other"] (sp_l_leads_right K) := ok_l_leads_right T
  have G_fewest_turns : FnOk P w K mg base CX0 5 A.f_fewest_turns A.d_fewest_turns ["order", "other"] (sp_fewest_turns K) := ok_fewest_turns T
  have G_turns : FnOk P w K mg base CX0 5 A.f_turns A.d_turns ["order", "other"] (sp_turns K) := ok_turns T
  refine okG T.F_law sc_law (fun vs H Q E h => ?_) (fun cdv A' outer s H vs Q E hgd hr h => ?_)
  · obtain ⟨a, ns, rfl, _⟩ := h
    rfl
  · obtain ⟨a, ns, rfl, hS, hl, q⟩ := h
    refine ⟨_, (pss_cons (ps_for PassesOwn.never rfl (pi_listK (K := K) rfl (pe_lc (own := [("_law_cell", 12)]) rfl sc_law.nd (pi_listK (K := K) rfl (pe_op op_cat (pe_slice (sl_listK (K := K) rfl) (pv 0) po_none (po_some pe_int)) (pe_lst (pa_cons pe_int pa_nil)))) (blkOk_by (by kernel_rfl)) (fun _ _ _ _ _ => (pg_name (i := 12) sc_law.nd rfl (by first | exact .inl rfl | exact .inr rfl))) (fun _ _ _ _ _ => pts_nil) (fun _ _ _ _ _ => (pe_call G_l_draws (hr.mono (by decide)) (by rfl) T.g_l_draws T.F_l_draws.kp T.b_l_draws .nil pass0 (pa_cons (pv 12) pa_nil))))) (pg_name (i := 1) sc_law.nd rfl (by first | exact .inl rfl | exact .inr rfl)) (pss_cons (ps_for PassesOwn.never rfl (pi_listK (K := K) rfl (pe_lst (pa_cons pe_int (pa_cons pe_int (pa_cons pe_int pa_nil))))) (pg_name (i := 2) sc_law.nd rfl (by first | exact .inl rfl | exact .inr rfl)) (pss_cons (ps_set (i := 3) sc_law.nd rfl (by first | exact .inl rfl | exact .inr rfl) (pe_call G_l_mixed (hr.mono (by decide)) (by rfl) T.g_l_mixed T.F_l_mixed.kp T.b_l_mixed .nil pass0 (pa_cons (pv 1) (pa_cons (pe_listRg rfl (by rfl) T.z_list (prg_2 (by rfl) T.z_range pe_int (pe_op op_add pe_int (pe_op op_modN (pe_callTy call_int1 (by rfl) T.z_int (by decide +kernel) (pa_cons (pe_call G_l_next (hr.mono (by decide)) (by rfl) T.g_l_next T.F_l_next.kp T.b_l_next .nil pass0 (pa_cons (pv 1) pa_nil)) pa_nil)) (pe_op op_sub (pv 2) pe_int))))) pa_nil))))
      (pss_one (ps_for PassesOwn.never rfl (pi_listK (K := K) rfl (pe_call G_l_others (hr.mono (by decide)) (by rfl) T.g_l_others T.F_l_others.kp T.b_l_others .nil pass0 (pa_cons (pv 1) (pa_cons (pv 3) pa_nil)))) (pg_name (i := 4) sc_law.nd rfl (by first | exact .inl rfl | exact .inr rfl)) (pss_cons (ps_if (pt_not (pt_val (pe_callG G_l_right hgd (hr.mono (by decide)) (by rfl) T.g_l_right T.F_l_right.kp T.b_l_right (pa_cons (pv 3) (pa_cons (pv 4) pa_nil))))) (pss_one (ps_ret pe_bl)) pss_nil)
      (pss_cons (ps_par (i := 5) (j := 6) rfl sc_law.nd rfl rfl (by decide) rfl rfl (pa_cons (pe_call G_l_breaks (hr.mono (by decide)) (by rfl) T.g_l_breaks T.F_l_breaks.kp T.b_l_breaks .nil pass0 (pa_cons (pv 3) pa_nil)) (pa_cons (pe_call G_l_breaks (hr.mono (by decide)) (by rfl) T.g_l_breaks T.F_l_breaks.kp T.b_l_breaks .nil pass0 (pa_cons (pv 4) pa_nil)) pa_nil)) (by rfl))
      (pss_one (ps_if (PW.pt (pw_and (pt_cmpR op_lt (pe_callB (call_lenK (K := K) rfl) (by rfl) T.z_len PySem.boot_len (pa_cons (pv 3) pa_nil)) pe_int (nomark _)) (pw_and1 (pt_cmpR op_eq (pe_callB (call_lenK (K := K) rfl) (by rfl) T.z_len PySem.boot_len (pa_cons (pv 5) pa_nil)) (pe_callB (call_lenK (K := K) rfl) (by rfl) T.z_len PySem.boot_len (pa_cons (pv 6) pa_nil)) (nomark _))))) (pss_one (ps_if (pt_cmpR op_ne (pe_call G_l_steps (hr.mono (by decide)) (by rfl) T.g_l_steps T.F_l_steps.kp T.b_l_steps .nil pass0 (pa_cons (pv 5) (pa_cons (pv 6) (pa_cons (pe_callB (call_lenK (K := K) rfl) (by rfl) T.z_len PySem.boot_len (pa_cons (pv 3) pa_nil)) pa_nil)))) (pe_call G_l_least (hr.mono (by decide)) (by rfl) T.g_l_least T.F_l_least.kp T.b_l_least .nil pass0 (pa_cons (pv 5) (pa_cons (pv 6) (pa_cons (pe_callB (call_lenK (K := K) rfl) (by rfl) T.z_len PySem.boot_len (pa_cons (pv 3) pa_nil)) pa_nil)))) (nomark _)) (pss_one (ps_ret pe_bl)) pss_nil)) pss_nil))))))))
      (pss_cons (ps_asg (pe_call G_l_net (hr.mono (by decide)) (by rfl) T.g_l_net T.F_l_net.kp T.b_l_net .nil pass0 (pa_cons (pv 1) (pa_cons pe_int pa_nil))) (pg_tupK (n := 2) (K := K) rfl rfl (pgs_cons (pg_name (i := 7) sc_law.nd rfl (by first | exact .inl rfl | exact .inr rfl)) (pgs_cons (pg_name (i := 8) sc_law.nd rfl (by first | exact .inl rfl | exact .inr rfl)) pgs_nil))))
      (pss_cons (ps_par (i := 9) (j := 3) rfl sc_law.nd rfl rfl (by decide) rfl rfl (pa_cons (pe_call G_l_mixed (hr.mono (by decide)) (by rfl) T.g_l_mixed T.F_l_mixed.kp T.b_l_mixed .nil pass0 (pa_cons (pv 1) (pa_cons (pe_listRg rfl (by rfl) T.z_list (prg_2 (by rfl) T.z_range pe_int (pe_op op_add (pv 7) pe_int))) pa_nil))) (pa_cons (pe_call G_l_mixed (hr.mono (by decide)) (by rfl) T.g_l_mixed T.F_l_mixed.kp T.b_l_mixed .nil pass0 (pa_cons (pv 1) (pa_cons (pe_listRg rfl (by rfl) T.z_list (prg_2 (by rfl) T.z_range pe_int (pe_op op_add (pv 7) pe_int))) pa_nil))) pa_nil)) (by rfl))
      (pss_one (ps_for PassesOwn.never rfl (pi_listK (K := K) rfl (pe_call G_l_others (hr.mono (by decide)) (by rfl) T.g_l_others T.F_l_others.kp T.b_l_others .nil pass0 (pa_cons (pv 1) (pa_cons (pv 3) pa_nil)))) (pg_name (i := 4) sc_law.nd rfl (by first | exact .inl rfl | exact .inr rfl)) (pss_one (ps_if (pt_not (pt_val (pe_call G_l_leads_right (hr.mono (by decide)) (by rfl) T.g_l_leads_right T.F_l_leads_right.kp T.b_l_leads_right .nil pass0 (pa_cons (pv 7) (pa_cons (pv 8) (pa_cons (pv 9) (pa_cons (pv 3) (pa_cons (pv 4) pa_nil)))))))) (pss_one (ps_ret pe_bl)) pss_nil))))))))
      (pss_cons (ps_if (pt_cmpR (op_neD hr.units) (pe_lst (pa_cons (pe_call G_fewest_turns (hr.mono (by decide)) (by rfl) T.g_fewest_turns T.F_fewest_turns.kp T.b_fewest_turns .nil pass0 (pa_cons (pe_lst (pa_cons pe_int (pa_cons pe_int (pa_cons pe_int (pa_cons pe_int pa_nil))))) (pa_cons (pe_lst (pa_cons pe_int (pa_cons pe_int (pa_cons pe_int (pa_cons pe_int pa_nil))))) pa_nil))) (pa_cons (pe_call G_fewest_turns (hr.mono (by decide)) (by rfl) T.g_fewest_turns T.F_fewest_turns.kp T.b_fewest_turns .nil pass0 (pa_cons (pe_lst (pa_cons pe_int (pa_cons pe_int (pa_cons pe_int (pa_cons pe_int pa_nil))))) (pa_cons (pe_lst (pa_cons pe_int (pa_cons pe_int (pa_cons pe_int (pa_cons pe_int pa_nil))))) pa_nil))) pa_nil))) (pe_lst (pa_cons pe_int (pa_cons pe_non pa_nil))) (nomark _)) (pss_one (ps_ret pe_bl)) pss_nil)
      (pss_cons (ps_if (PW.pt (pw_or (pt_cmpR (op_neD hr.units) (pe_call G_turns (hr.mono (by decide)) (by rfl) T.g_turns T.F_turns.kp T.b_turns .nil pass0 (pa_cons (pe_lst (pa_cons pe_int (pa_cons pe_int (pa_cons pe_int (pa_cons pe_int (pa_cons pe_int pa_nil)))))) (pa_cons (pe_lst (pa_cons pe_int (pa_cons pe_int (pa_cons pe_int (pa_cons pe_int (pa_cons pe_int pa_nil)))))) pa_nil))) (pe_lst (pa_cons pe_int pa_nil)) (nomark _)) (pw_or1 (pt_cmpR (op_neD hr.units) (pe_call G_turns (hr.mono (by decide)) (by rfl) T.g_turns T.F_turns.kp T.b_turns .nil pass0 (pa_cons (pe_lst (pa_cons pe_int (pa_cons pe_int (pa_cons pe_int (pa_cons pe_int pa_nil))))) (pa_cons (pe_lst (pa_cons pe_int (pa_cons pe_int (pa_cons pe_int (pa_cons pe_int pa_nil))))) pa_nil))) (pe_lst pa_nil) (nomark _))))) (pss_one (ps_ret pe_bl)) pss_nil)
      (pss_cons (ps_set (i := 10) sc_law.nd rfl (by first | exact .inl rfl | exact .inr rfl) (pe_listRg rfl (by rfl) T.z_list (prg_2 (by rfl) T.z_range pe_int pe_int)))
      (pss_cons (ps_for PassesOwn.never rfl (pi_listK (K := K) rfl (pe_lst (pa_cons pe_int (pa_cons pe_int (pa_cons pe_int (pa_cons pe_int pa_nil)))))) (pg_name (i := 11) sc_law.nd rfl (by first | exact .inl rfl | exact .inr rfl)) (pss_one (ps_if (pt_not (pt_val (pe_callG G_l_right hgd (hr.mono (by decide)) (by rfl) T.g_l_right T.F_l_right.kp T.b_l_right (pa_cons (pv 10) (pa_cons (pe_op op_cat (pe_slice (sl_listK (K := K) rfl) (pv 10) (po_some (pv 11)) po_none) (pe_slice (sl_listK (K := K) rfl) (pv 10) po_none (po_some (pv 11)))) pa_nil))))) (pss_one (ps_ret pe_bl)) pss_nil)))
      (pss_one (ps_ret (pe_and (pe_callG G_l_right hgd (hr.mono (by decide)) (by rfl) T.g_l_right T.F_l_right.kp T.b_l_right (pa_cons (pe_lst (pa_cons pe_int (pa_cons pe_int (pa_cons pe_int (pa_cons pe_int pa_nil))))) (pa_cons (pe_lst (pa_cons pe_int (pa_cons pe_int (pa_cons pe_int (pa_cons pe_int pa_nil))))) pa_nil))) (pe_one (pe_callG G_l_right hgd (hr.mono (by decide)) (by rfl) T.g_l_right T.F_l_right.kp T.b_l_right (pa_cons (pe_lst (pa_cons pe_int (pa_cons pe_int (pa_cons pe_int pa_nil)))) (pa_cons (pe_lst (pa_cons pe_int (pa_cons pe_int (pa_cons pe_int pa_nil)))) pa_nil)))))))))))), ?_⟩
    -- for draws in [_law_draws(cell) for cell in script[:5] + [0]]
    have lead : EvL (tOp rCat (tSl (rSlL K) (tVar 0) tNoPart (tPart (tC (.int 5)))) (tLst (tCons (tC (.int 0)) tNil))) [some (.ref a), none, none, none, none, none, none, none, none, none, none, none, none] H ((ns.take 5 ++ [0]).map V.int) := by
      intro H1 e1 Q q
      refine el_sl (ev_var rfl) eo_none (eo_some ev_c) hS H1 e1 _ fun p H2 np e2 hp => ?_
      rw [show (5 : Int) = ((5 : Nat) : Int) from rfl, cut_to, ← List.map_take] at hp
      refine el_lst (ea_cons (x := .int 0) ev_c ea_nil) (by show 1 ≤ 100000; decide) H2 (Ex.refl H2) _ fun p2 H3 np2 e3 hp2 => ?_
      refine ⟨p, p2, _, _, rfl, rfl, e3 _ _ hp, hp2, ?_, fun p3 np3 => ?_⟩
      · rw [List.length_map, List.length_take]
        exact sz_of (by show min 5 ns.length + 1 ≤ 100000; omega)
      · exact q p3 _ (fresh_back (e2.trans e3) np3) ((e2.trans e3).trans (Ex.new np3)) (by rw [upd_same, List.map_append]; rfl)
    refine q_forD (K := K) (ed_lc (K := K) (vs := [12]) (j := 12) lead (by rw [List.length_append, List.length_take]; show min 5 ns.length + 1 ≤ 100; omega) (fun x => rfl) (fun x => rfl)) (fun R ds i σ' H' => (∃ y1 y2 y3 y4 y5 y6 y7 y8 y9, σ' = [some (.ref a), y1, y2, y3, y4, y5, y6, y7, y8, y9, none, none, none]) ∧ H' R = some (.lst (ds.map V.ref)) ∧ R ∉ ds ∧ ds.length ≤ 100 ∧ Drs H' ds (100000 * i))
      (fun R ds H1 e1 hR nR hds dl => ⟨⟨none, none, none, none, none, none, none, none, none, rfl⟩, hR, nR, dl, fun d hd => ⟨0, hds d hd, by omega, by omega⟩⟩) (fun R ds i σ' H' z => z.2.1) ?_ ?_
    · rintro R ds i d σ' H2 hd ⟨⟨y1, y2, y3, y4, y5, y6, y7, y8, y9, rfl⟩, hR2, nR, dl, hD2⟩
      have dmem := List.mem_of_getElem? hd
      have il : i < 100 := by have := (List.getElem?_eq_some_iff.mp hd).1; omega
      have nRd : R ≠ d := fun z => nR (z ▸ dmem)
      -- for most in [5, 8, 40]
      refine q_forNLn (xs := [.int 5, .int 8, .int 40]) (el_lst (ea_cons ev_c (ea_cons ev_c (ea_cons ev_c ea_nil))) (by show 3 ≤ 100000; decide)) (fun p j σ' H' => (∃ y2 y3 y4 y5 y6 y7 y8 y9, σ' = [some (.ref a), some (.ref d), y2, y3, y4, y5, y6, y7, y8, y9, none, none, none]) ∧
          H' p = some (.lst [.int 5, .int 8, .int 40]) ∧ p ≠ d ∧ H' R = some (.lst (ds.map V.ref)) ∧ Drs H' ds (100000 * i + 20000 * j)) ?_ (fun p j σ' H' _ z => .inl (.inl z.2.1)) ?_ ?_
      · intro p H3 np e3 hp
        refine ⟨⟨_, _, _, _, _, _, _, _, rfl⟩, hp, fun z => ?_, e3 _ _ hR2, hD2.on e3 (by omega)⟩
        obtain ⟨k, ⟨xx, bb, hh⟩, _⟩ := hD2 d dmem
        rw [← z, np] at hh
        cases hh
      · clear hR2 hD2
        rintro p j x σ' H3 hx ⟨⟨y2, y3, y4, y5, y6, y7, y8, y9, rfl⟩, hp, npd, hR3, hD3⟩
        obtain ⟨m, rfl, hm1, hm2, hj⟩ : ∃ m : Int, x = .int m ∧ 5 ≤ m ∧ m ≤ 40 ∧ j < 3 := by
          match j, hx with
          | 0, hx => exact ⟨5, (Option.some.inj hx).symm, by decide, by decide, by decide⟩
          | 1, hx => exact ⟨8, (Option.some.inj hx).symm, by decide, by decide, by decide⟩
          | 2, hx => exact ⟨40, (Option.some.inj hx).symm, by decide, by decide, by decide⟩
        obtain ⟨k, hdk, k0, k1⟩ := hD3 d dmem
        -- order = mixed(draws, list(range(1, 4 + int(next(draws)) % (most - 2))))
        refine ⟨_, rfl, _, rfl, d, k, rfl, hdk, ⟨k0, by omega⟩, fun r H4 r0 e4 hd4 => .inl ⟨r, rfl, _, rfl, _, _, rfl, rfl, _, _, rfl, rfl, (by show m - 2 ≠ 0; omega), _, _, rfl, rfl, _, _, rfl, rfl, ?_⟩⟩
        have fr := fmod_at (i := r) (j := m - 2) (by omega)
        obtain ⟨n, hn⟩ : ∃ n : Nat, 4 + r.fmod (m - 2) = (n : Int) + 1 := ⟨(3 + r.fmod (m - 2)).toNat, by omega⟩
        rw [hn]
        have n3 : 3 ≤ n := by omega
        have n40 : n ≤ 40 := by omega
        refine ⟨⟨by decide, by decide, by omega, by omega, by omega⟩, fun p0 np0 => ?_⟩
        have e5 : Ex H4 (upd H4 p0 (.lst (rgV 1 ((n : Int) + 1)))) := Ex.new np0
        have xsl : (rgV 1 ((n : Int) + 1)).length = n := by rw [rgV_length]; omega
        refine ⟨d, p0, _, rgV 1 ((n : Int) + 1), rfl, hd4.on e5, ⟨by omega, by rw [xsl]; omega⟩, .inl (.inl upd_same), by rw [xsl]; omega, fun H' _ x hx => ?_, fun ys po H6 pm npo e6 hd6 hpo => ?_⟩
        · unfold rgV at hx
          obtain ⟨i, _, rfl⟩ := List.mem_map.mp hx
          exact Sh.int _
        obtain ⟨ord, rfl, L⟩ := line_of (by omega) pm
        rw [Int.toNat_natCast] at L
        have O := stn_line L
        rw [xsl] at hd6
        have eA6 := (e4.trans (ExA.of e5)).trans e6
        -- for other in others(draws, order)
        refine ⟨_, rfl, _, rfl, d, po, _, ord, n, rfl, hd6, ⟨by omega, by omega⟩, hpo, O, ⟨n3, n40⟩, fun ol as k7 H7 nol e7 hd7 hk7 hol asl has => ?_⟩
        have hpo7 := e7 _ _ (ne_draws hpo hd6) hpo
        have eA7 := eA6.trans e7
        refine ⟨ol, rfl, ⟨_, .inl (.inl hol)⟩, for_list (xs := as.map V.ref) (fun u σ' H' => (∃ y4 y5 y6, σ' = [some (.ref a), some (.ref d), some (.int m), some (.ref po), y4, y5, y6, y7, y8, y9, none, none, none]) ∧ Ex H7 H') ⟨⟨_, _, _, rfl⟩, Ex.refl _⟩ (fun u σ' H' _ z => .inl (.inl (z.2 _ _ hol))) ?_ ?_⟩
        · rintro u x σ' H8 hx ⟨⟨y4, y5, y6, rfl⟩, e8⟩
          obtain ⟨ot, hot, rfl⟩ := map_at hx
          obtain ⟨oth, hoth, O2⟩ := has ot (List.mem_of_getElem? hot)
          have hpo8 := e8 _ _ hpo7
          have hot8 := e8 _ _ hoth
          -- if not right(order, other)
          refine ⟨_, rfl, _, rfl, po, ot, ord, oth, n, rfl, hpo8, hot8, O, O2, ⟨n3, n40⟩, fun H9 e9 => ⟨true, rfl, iteF ?_⟩⟩
          -- first, last = (breaks(order), breaks(other))
          refine ⟨_, rfl, po, ord, n, rfl, .inl (.inl (e9 _ _ hpo8)), O, ⟨n3, n40⟩, fun pf H10 npf e10 hpf => ⟨_, rfl, ot, oth, n, rfl, .inl (.inl ((e9.trans e10) _ _ hot8)), O2, ⟨n3, n40⟩, fun pl H11 npl e11 hpl => ⟨_, _, rfl, ?_⟩⟩⟩
          have e811 := (e9.trans e10).trans e11
          have hpf11 := e11 _ _ hpf
          have hpo11 := e811 _ _ hpo8
          have bf := blI_len' n (M30.mk n ord)
          have bg := blI_len' n (M30.mk n oth)
          -- if len(order) < 9 and len(first) == len(last)
          dsimp only [tNext]
          show tIfS _ _ tNext _ [some (.ref a), some (.ref d), some (.int m), some (.ref po), some (.ref ot), some (.ref pf), some (.ref pl), y7, y8, y9, none, none, none] H11
          have fin : ∀ H', Ex H11 H' → (∃ y4 y5 y6, ([some (V.ref a), some (V.ref d), some (V.int m), some (V.ref po), some (V.ref ot), some (V.ref pf), some (V.ref pl), y7, y8, y9, none, none, none] : L2.St) = [some (.ref a), some (.ref d), some (.int m), some (.ref po), y4, y5, y6, y7, y8, y9, none, none, none]) ∧ Ex H7 H' := fun H' e => ⟨⟨_, _, _, rfl⟩, (e8.trans e811).trans e⟩
          refine s_when (et_and (et_test (ev_op (ev_len (ev_var rfl) (.inl (.inl hpo11))) ev_c rv_I0)) fun _ => et_test (ev_op (ev_len (ev_var rfl) (.inl (.inl hpf11))) (ev_len (ev_var rfl) (.inl (.inl hpl))) (rv_eq rfl))) (fun z H12 e12 => ?_) (fun z H12 e12 => fin H12 e12)
          have z1 := of_decide_eq_true (Bool.and_eq_true_iff.mp z).1
          have z2 := of_decide_eq_true (Bool.and_eq_true_iff.mp z).2
          rw [List.length_map, O.len] at z1
          have eq : (M30.bl n (M30.mk n ord)).length = (M30.bl n (M30.mk n oth)).length := by
            rw [List.length_map, List.length_map, bf, bg] at z2
            injection z2 with z2
            omega
          obtain ⟨k9, isd⟩ := M30.isD_of (M30.dif_E eq 0)
          obtain ⟨⟨kt, hkt, ft⟩, hF⟩ := M30.mk_both O (show 2 ≤ n by omega)
          have hpos : 0 < (M30.bl n (M30.mk n ord)).length := List.length_pos_of_mem ((M30.bl_at hkt).mpr ft)
          have hpf12 := e12 _ _ hpf11
          have hpl12 := e12 _ _ hpl
          have hpo12 := e12 _ _ hpo11
          have ln : ((ord.map V.int).length : Int) = (n : Int) := by rw [List.length_map, O.len]
          -- if steps(first, last, len(order)) != least(first, last, len(order))
          refine ⟨_, rfl, _, rfl, _, rfl, po, _, rfl, .inl (.inl (.inl hpo12)), ?_⟩
          rw [ln]
          refine ⟨pf, pl, n, _, _, rfl, hpf12, hpl12, ⟨n3, by omega⟩, eq, hpos, bl_less hF, fun k11 i11 H13 e13 => ?_⟩
          refine ⟨_, rfl, _, rfl, _, rfl, po, _, rfl, .inl (.inl (.inl (e13 _ _ hpo12))), ?_⟩
          rw [ln]
          refine ⟨pf, pl, n, _, _, rfl, .inl (.inl (e13 _ _ hpf12)), .inl (.inl (e13 _ _ hpl12)), ⟨n3, n40⟩, eq, hpos, fun k12 i12 H14 e14 => ?_⟩
          rw [i11.one isd, i12.one isd]
          refine ⟨rfl, _, rfl, ?_⟩
          rw [decide_eq_true rfl]
          exact iteF (fin H14 ((e12.trans e13).trans e14))
        · rintro σ' H8 ⟨⟨y4, y5, y6, rfl⟩, e8⟩
          have eA8 := eA7.trans (ExA.of e8)
          exact ⟨⟨_, _, _, _, _, _, _, _, rfl⟩, eA8 _ _ npd hp, npd, eA8 _ _ nRd hR3, hD3.step eA8 (hd7.on e8) (by omega) (by omega) (by omega)⟩
      · rintro p σ' H3 ⟨⟨y2, y3, y4, y5, y6, y7, y8, y9, rfl⟩, hp, npd, hR3, hD3⟩
        obtain ⟨k, hdk, k0, k1⟩ := hD3 d dmem
        have k1 : k ≤ 100000 * (i : Int) + 20000 * 3 := k1
        -- seats, ties = net(draws, 12)
        refine ⟨_, rfl, d, k, 12, rfl, hdk, ⟨k0, by omega⟩, ⟨by decide, by decide⟩, fun nI ts at_ tt k4 H4 N ntt e4 hd4 hk4 hT4 htt => ?_⟩
        refine ⟨tt, _, rfl, .inl (.inl htt), rfl, _, _, rfl, _, _, rfl, rfl, ?_⟩
        have n1 := N.lo
        have n2 := N.hi
        obtain ⟨n, rfl⟩ : ∃ n : Nat, nI = (n : Int) := ⟨nI.toNat, by omega⟩
        have xsl : (rgV 1 ((n : Int) + 1)).length = n := by rw [rgV_length]; omega
        have sh : ∀ (H' : Hp), ∀ x ∈ rgV 1 ((n : Int) + 1), Sh K H' x := fun H' x hx => by
          unfold rgV at hx
          obtain ⟨i, _, rfl⟩ := List.mem_map.mp hx
          exact Sh.int _
        -- standing, order = (mixed(..), mixed(..))
        refine ⟨_, rfl, _, rfl, _, _, rfl, rfl, _, _, rfl, rfl, ⟨by decide, by decide, by omega, by omega, by omega⟩, fun p0 np0 => ?_⟩
        have e5 : Ex H4 (upd H4 p0 (.lst (rgV 1 ((n : Int) + 1)))) := Ex.new np0
        refine ⟨d, p0, k4, rgV 1 ((n : Int) + 1), rfl, hd4.on e5, ⟨hk4.1, by rw [xsl]; omega⟩, .inl (.inl upd_same), by rw [xsl]; omega, fun H' _ x hx => sh H' x hx, fun ys ps H6 pm nps e6 hd6 hps => ?_⟩
        obtain ⟨st, rfl, L⟩ := line_of (by omega) pm
        rw [Int.toNat_natCast] at L
        have S := stn_line L
        rw [xsl] at hd6
        have hT6 := (hT4.on e5).exA (hd4.on e5) e6
        have eA6 := (e4.trans (ExA.of e5)).trans e6
        clear pm L e5 e6 e4
        refine ⟨_, rfl, _, rfl, _, _, rfl, rfl, _, _, rfl, rfl, ⟨by decide, by decide, by omega, by omega, by omega⟩, fun p1 np1 => ?_⟩
        have e7 : Ex H6 (upd H6 p1 (.lst (rgV 1 ((n : Int) + 1)))) := Ex.new np1
        refine ⟨d, p1, _, rgV 1 ((n : Int) + 1), rfl, hd6.on e7, ⟨by omega, by rw [xsl]; omega⟩, .inl (.inl upd_same), by rw [xsl]; omega, fun H' _ x hx => sh H' x hx, fun ys po H8 pm npo e8 hd8 hpo => ⟨_, _, rfl, ?_⟩⟩
        obtain ⟨ord, rfl, L⟩ := line_of (by omega) pm
        rw [Int.toNat_natCast] at L
        have O := stn_line L
        rw [xsl] at hd8
        have hT8 := (hT6.on e7).exA (hd6.on e7) e8
        have hps8 := e8 _ _ (ne_draws (e7 _ _ hps) (hd6.on e7)) (e7 _ _ hps)
        have eA8 := (eA6.trans (ExA.of e7)).trans e8
        clear pm L e7 e8 hT4 hT6 hps
        -- for other in others(draws, order)
        refine ⟨_, rfl, _, rfl, d, po, _, ord, n, rfl, hd8, ⟨by omega, by omega⟩, hpo, O, ⟨by omega, by omega⟩, fun ol as k9 H9 nol e9 hd9 hk9 hol asl has => ?_⟩
        have hpo9 := e9 _ _ (ne_draws hpo hd8) hpo
        have hps9 := e9 _ _ (ne_draws hps8 hd8) hps8
        have hT9 := hT8.exA hd8 e9
        have eA9 := eA8.trans e9
        refine ⟨ol, rfl, ⟨_, .inl (.inl hol)⟩, for_list (xs := as.map V.ref) (fun u σ' H' => (∃ y4, σ' = [some (.ref a), some (.ref d), y2, some (.ref po), y4, y5, y6, some (.int (n : Int)), some (.ref at_), some (.ref ps), none, none, none]) ∧ Ex H9 H') ⟨⟨_, rfl⟩, Ex.refl _⟩ (fun u σ' H' _ z => .inl (.inl (z.2 _ _ hol))) ?_ ?_⟩
        · rintro u x σ' H10 hx ⟨⟨y4, rfl⟩, e10⟩
          obtain ⟨ot, hot, rfl⟩ := map_at hx
          obtain ⟨oth, hoth, O2⟩ := has ot (List.mem_of_getElem? hot)
          refine ⟨_, rfl, _, rfl, _, rfl, _, rfl, _, rfl, at_, ps, po, ot, ts, st, ord, oth, n, rfl, (hT9.on e10).at_, N, .inl (.inl (e10 _ _ hps9)), S, .inl (.inl (e10 _ _ hpo9)), O, e10 _ _ hoth, O2, fun H11 e11 => ⟨true, rfl, iteF ?_⟩⟩
          exact ⟨⟨_, rfl⟩, e10.trans e11⟩
        · rintro σ' H10 ⟨⟨y4, rfl⟩, e10⟩
          have eA10 := eA9.trans (ExA.of e10)
          exact ⟨⟨_, _, _, _, _, _, _, _, _, rfl⟩, eA10 _ _ nRd hR3, nR, dl, hD3.step eA10 (hd9.on e10) (by omega) (by omega) (by show 100000 * (i : Int) + 20000 * 3 ≤ 100000 * ((i + 1 : Nat) : Int); omega)⟩
    · rintro R ds i σ' H2 ⟨⟨y1, y2, y3, y4, y5, y6, y7, y8, y9, rfl⟩, _⟩
      have hh : ∀ n : Nat, 3 ≤ n → n ≤ 5 → 3 ≤ n ∧ n ≤ 40 := fun n h1 h2 => ⟨h1, by omega⟩
      -- if [fewest_turns(..), fewest_turns(..)] != [2, None]
      refine q_when (b := false) (et_test (ev_ne2N (el_lst (ea_cons (ev_few (o1 := [1, 2, 3, 4]) (o2 := [3, 4, 1, 2]) (n := 4) (k0 := 2) (el_lI (l := [1, 2, 3, 4]) (by decide)) (el_lI (l := [3, 4, 1, 2]) (by decide)) (stnB_ok (by decide)) (stnB_ok (by decide)) (by decide) (by decide +kernel) isd_4)
        (ea_cons (ev_fewN (o1 := [1, 3, 2, 4]) (o2 := [1, 2, 3, 4]) (n := 4) (el_lI (l := [1, 3, 2, 4]) (by decide)) (el_lI (l := [1, 2, 3, 4]) (by decide)) (stnB_ok (by decide)) (stnB_ok (by decide)) (by decide) (by decide +kernel)) ea_nil)) (by show 2 ≤ 100000; decide)) (el_lst (ea_cons ev_c (ea_cons ev_c ea_nil)) (by show 2 ≤ 100000; decide)))) (fun z => nomatch z) fun _ H3 e3 => ?_
      -- if turns(..) != [1] or turns(..) != []
      refine q_when (b := false) (et_or (a := false) (b := false) (et_test (ev_neL (a := [1]) (el_turns (o1 := [1, 2, 3, 4, 5]) (o2 := [2, 3, 4, 5, 1]) (n := 5) (el_lI (l := [1, 2, 3, 4, 5]) (by decide)) (el_lI (l := [2, 3, 4, 5, 1]) (by decide)) (stnB_ok (by decide)) (stnB_ok (by decide)) (by decide) (by decide +kernel) turns_5) (el_lI (l := [1]) (by decide)))) fun _ =>
        et_test (ev_neL (a := []) (el_turns (o1 := [1, 3, 2, 4]) (o2 := [3, 1, 4, 2]) (n := 4) (el_lI (l := [1, 3, 2, 4]) (by decide)) (el_lI (l := [3, 1, 4, 2]) (by decide)) (stnB_ok (by decide)) (stnB_ok (by decide)) (by decide) (by decide +kernel) turns_4) (el_lI (l := []) (by decide)))) (fun z => nomatch z) fun _ H4 e4 => ?_
      -- ordered = list(range(1, 41))
      refine ⟨_, _, rfl, rfl, ⟨by decide, by decide, by decide, by decide, by decide⟩, fun r nr => ?_⟩
      have hr0 : (upd H4 r (.lst (rgV 1 41))) r = some (.lst (((List.range 40).map fun i : Nat => 1 + (i : Int)).map V.int)) := by
        rw [upd_same]
        unfold rgV
        rw [List.map_map]
        rfl
      have R40 : MR.Stn 40 ((List.range 40).map fun i : Nat => 1 + (i : Int)) := stnB_ok (by decide +kernel)
      generalize ((List.range 40).map fun i : Nat => 1 + (i : Int)) = row at hr0 R40
      generalize upd H4 r (.lst (rgV 1 41)) = H5 at hr0
      -- for at in [1, 7, 20, 39]
      dsimp only [gName]
      show tSeq _ _ _ [some (.ref a), y1, y2, y3, y4, y5, y6, y7, y8, y9, some (.ref r), none, none] H5
      refine q_forNLn (xs := [.int 1, .int 7, .int 20, .int 39]) (el_lst (ea_cons ev_c (ea_cons ev_c (ea_cons ev_c (ea_cons ev_c ea_nil)))) (by show 4 ≤ 100000; decide)) (fun p j σ' H' => (∃ y11, σ' = [some (.ref a), y1, y2, y3, y4, y5, y6, y7, y8, y9, some (.ref r), y11, none]) ∧ H' p = some (.lst [.int 1, .int 7, .int 20, .int 39]) ∧ H' r = some (.lst (row.map V.int)))
        (fun p H6 np e6 hp => ⟨⟨_, rfl⟩, hp, e6 _ _ hr0⟩) (fun p j σ' H' _ z => .inl (.inl z.2.1)) ?_ ?_
      · rintro p j x σ' H6 hx ⟨⟨y11, rfl⟩, hp, hr6⟩
        obtain ⟨t, rfl⟩ : ∃ t : Nat, x = .int (t : Int) := by
          match j, hx with
          | 0, hx => exact ⟨1, (Option.some.inj hx).symm⟩
          | 1, hx => exact ⟨7, (Option.some.inj hx).symm⟩
          | 2, hx => exact ⟨20, (Option.some.inj hx).symm⟩
          | 3, hx => exact ⟨39, (Option.some.inj hx).symm⟩
        have rl := R40.len
        have l1 := cutV_length (row.map V.int) (some (t : Int)) none
        have l2 := cutV_length (row.map V.int) none (some (t : Int))
        rw [List.length_map] at l1 l2
        obtain ⟨ms, ems, pm⟩ := map_perm (cut_turn (row.map V.int) t)
        have go : EvL (tOp rCat (tSl (rSlL K) (tVar 10) (tPart (tVar 11)) tNoPart) (tSl (rSlL K) (tVar 10) tNoPart (tPart (tVar 11)))) [some (.ref a), y1, y2, y3, y4, y5, y6, y7, y8, y9, some (.ref r), some (.int (t : Int)), none] H6 (ms.map V.int) := by
          rw [← ems]
          exact el_cat (el_sl (ev_var rfl) (eo_some (ev_var rfl)) eo_none (.inl (.inl hr6))) (el_sl (ev_var rfl) eo_none (eo_some (ev_var rfl)) (.inl (.inl hr6))) (by omega)
        refine ⟨_, rfl, go H6 (Ex.refl H6) _ fun c H7 nc e7 hc => ⟨r, c, row, ms, 40, rfl, e7 _ _ hr6, hc, R40, stn_perm R40 pm, by decide, fun H8 e8 => ⟨true, rfl, iteF ?_⟩⟩⟩
        exact ⟨⟨_, rfl⟩, (e7.trans e8) _ _ hp, (e7.trans e8) _ _ hr6⟩
      · rintro p σ' H6 ⟨⟨y11, rfl⟩, _, _⟩
        refine s_ret (v := .bl true) ?_ fun H12 e12 => q H12
        exact ev_andV (a := true) (b := true) (ev_right (o1 := [2, 4, 1, 3]) (o2 := [1, 3, 2, 4]) (n := 4) (el_lI (l := [2, 4, 1, 3]) (by decide)) (el_lI (l := [1, 3, 2, 4]) (by decide)) (stnB_ok (by decide)) (stnB_ok (by decide)) (by decide)) fun _ =>
          ev_right (o1 := [1, 2, 3]) (o2 := [1, 2, 3]) (n := 3) (el_lI (l := [1, 2, 3]) (by decide)) (el_lI (l := [1, 2, 3]) (by decide)) (stnB_ok (by decide)) (stnB_ok (by decide)) (by decide)
theorem all_mk {P : Program} {w : World} {K : PySem.W.Frag} {h : Heap} {mg : Str → Option Value} {fa : Addr} (X : K.In h) (G : h.Ns mainGlobals mg) (hfa : mg "law" = some (.ref fa))
    {f_is_whole : Addr} {od_is_whole an_is_whole : Option Addr} {sl_is_whole : Array (Option Value)} {oc_is_whole kV_is_whole dc_is_whole pm_is_whole cd_is_whole ct_is_whole : Value}
    (a_is_whole : PySem.W.nsIn K mainGlobals "is_whole" = some (some (.ref f_is_whole)))
    (l_is_whole : K.lookup f_is_whole = some ⟨oc_is_whole, od_is_whole, .func (PySem.W.fnOf "is_whole" "is_whole" (defArgs s_is_whole) (defBody s_is_whole) (defScope s_is_whole) .none kV_is_whole dc_is_whole pm_is_whole an_is_whole cd_is_whole ct_is_whole), sl_is_whole⟩)
    (c_is_whole : PySem.W.codeIn K cd_is_whole "is_whole" = true) (k_is_whole : PySem.W.keepIn K (.ref f_is_whole) = true)
    {f_is_from_one : Addr} {od_is_from_one an_is_from_one : Option Addr} {sl_is_from_one : Array (Option Value)} {oc_is_from_one kV_is_from_one dc_is_from_one pm_is_from_one cd_is_from_one ct_is_from_one : Value}
    (a_is_from_one : PySem.W.nsIn K mainGlobals "is_from_one" = some (some (.ref f_is_from_one)))
    (l_is_from_one : K.lookup f_is_from_one = some ⟨oc_is_from_one, od_is_from_one, .func (PySem.W.fnOf "is_from_one" "is_from_one" (defArgs s_is_from_one) (defBody s_is_from_one) (defScope s_is_from_one) .none kV_is_from_one dc_is_from_one pm_is_from_one an_is_from_one cd_is_from_one ct_is_from_one), sl_is_from_one⟩)
    (c_is_from_one : PySem.W.codeIn K cd_is_from_one "is_from_one" = true) (k_is_from_one : PySem.W.keepIn K (.ref f_is_from_one) = true)
    {f_first_wrong : Addr} {od_first_wrong an_first_wrong : Option Addr} {sl_first_wrong : Array (Option Value)} {oc_first_wrong kV_first_wrong dc_first_wrong pm_first_wrong cd_first_wrong ct_first_wrong : Value}
    (a_first_wrong : PySem.W.nsIn K mainGlobals "first_wrong" = some (some (.ref f_first_wrong)))
    (l_first_wrong : K.lookup f_first_wrong = some ⟨oc_first_wrong, od_first_wrong, .func (PySem.W.fnOf "first_wrong" "first_wrong" (defArgs s_first_wrong) (defBody s_first_wrong) (defScope s_first_wrong) .none kV_first_wrong dc_first_wrong pm_first_wrong an_first_wrong cd_first_wrong ct_first_wrong), sl_first_wrong⟩)
    (c_first_wrong : PySem.W.codeIn K cd_first_wrong "first_wrong" = true) (k_first_wrong : PySem.W.keepIn K (.ref f_first_wrong) = true)
    {f_check_count : Addr} {od_check_count an_check_count : Option Addr} {sl_check_count : Array (Option Value)} {oc_check_count kV_check_count dc_check_count pm_check_count cd_check_count ct_check_count : Value}
    (a_check_count : PySem.W.nsIn K mainGlobals "check_count" = some (some (.ref f_check_count)))
    (l_check_count : K.lookup f_check_count = some ⟨oc_check_count, od_check_count, .func (PySem.W.fnOf "check_count" "check_count" (defArgs s_check_count) (defBody s_check_count) (defScope s_check_count) .none kV_check_count dc_check_count pm_check_count an_check_count cd_check_count ct_check_count), sl_check_count⟩)
    (c_check_count : PySem.W.codeIn K cd_check_count "check_count" = true) (k_check_count : PySem.W.keepIn K (.ref f_check_count) = true)
    {f_is_tie : Addr} {od_is_tie an_is_tie : Option Addr} {sl_is_tie : Array (Option Value)} {oc_is_tie kV_is_tie dc_is_tie pm_is_tie cd_is_tie ct_is_tie : Value}
    (a_is_tie : PySem.W.nsIn K mainGlobals "is_tie" = some (some (.ref f_is_tie)))
    (l_is_tie : K.lookup f_is_tie = some ⟨oc_is_tie, od_is_tie, .func (PySem.W.fnOf "is_tie" "is_tie" (defArgs s_is_tie) (defBody s_is_tie) (defScope s_is_tie) .none kV_is_tie dc_is_tie pm_is_tie an_is_tie cd_is_tie ct_is_tie), sl_is_tie⟩)
    (c_is_tie : PySem.W.codeIn K cd_is_tie "is_tie" = true) (k_is_tie : PySem.W.keepIn K (.ref f_is_tie) = true)
    {f_check_ties : Addr} {od_check_ties an_check_ties : Option Addr} {sl_check_ties : Array (Option Value)} {oc_check_ties kV_check_ties dc_check_ties pm_check_ties cd_check_ties ct_check_ties : Value}
    (a_check_ties : PySem.W.nsIn K mainGlobals "check_ties" = some (some (.ref f_check_ties)))
    (l_check_ties : K.lookup f_check_ties = some ⟨oc_check_ties, od_check_ties, .func (PySem.W.fnOf "check_ties" "check_ties" (defArgs s_check_ties) (defBody s_check_ties) (defScope s_check_ties) .none kV_check_ties dc_check_ties pm_check_ties an_check_ties cd_check_ties ct_check_ties), sl_check_ties⟩)
    (c_check_ties : PySem.W.codeIn K cd_check_ties "check_ties" = true) (k_check_ties : PySem.W.keepIn K (.ref f_check_ties) = true)
    {f_check_net : Addr} {od_check_net an_check_net : Option Addr} {sl_check_net : Array (Option Value)} {oc_check_net kV_check_net dc_check_net pm_check_net cd_check_net ct_check_net : Value}
    (a_check_net : PySem.W.nsIn K mainGlobals "check_net" = some (some (.ref f_check_net)))
    (l_check_net : K.lookup f_check_net = some ⟨oc_check_net, od_check_net, .func (PySem.W.fnOf "check_net" "check_net" (defArgs s_check_net) (defBody s_check_net) (defScope s_check_net) .none kV_check_net dc_check_net pm_check_net an_check_net cd_check_net ct_check_net), sl_check_net⟩)
    (c_check_net : PySem.W.codeIn K cd_check_net "check_net" = true) (k_check_net : PySem.W.keepIn K (.ref f_check_net) = true)
    {f_check_standing : Addr} {od_check_standing an_check_standing : Option Addr} {sl_check_standing : Array (Option Value)} {oc_check_standing kV_check_standing dc_check_standing pm_check_standing cd_check_standing ct_check_standing : Value}
    (a_check_standing : PySem.W.nsIn K mainGlobals "check_standing" = some (some (.ref f_check_standing)))
    (l_check_standing : K.lookup f_check_standing = some ⟨oc_check_standing, od_check_standing, .func (PySem.W.fnOf "check_standing" "check_standing" (defArgs s_check_standing) (defBody s_check_standing) (defScope s_check_standing) .none kV_check_standing dc_check_standing pm_check_standing an_check_standing cd_check_standing ct_check_standing), sl_check_standing⟩)
    (c_check_standing : PySem.W.codeIn K cd_check_standing "check_standing" = true) (k_check_standing : PySem.W.keepIn K (.ref f_check_standing) = true)
    {f_check_order_of : Addr} {od_check_order_of an_check_order_of : Option Addr} {sl_check_order_of : Array (Option Value)} {oc_check_order_of kV_check_order_of dc_check_order_of pm_check_order_of cd_check_order_of ct_check_order_of : Value}
    (a_check_order_of : PySem.W.nsIn K mainGlobals "check_order_of" = some (some (.ref f_check_order_of)))
    (l_check_order_of : K.lookup f_check_order_of = some ⟨oc_check_order_of, od_check_order_of, .func (PySem.W.fnOf "check_order_of" "check_order_of" (defArgs s_check_order_of) (defBody s_check_order_of) (defScope s_check_order_of) .none kV_check_order_of dc_check_order_of pm_check_order_of an_check_order_of cd_check_order_of ct_check_order_of), sl_check_order_of⟩)
    (c_check_order_of : PySem.W.codeIn K cd_check_order_of "check_order_of" = true) (k_check_order_of : PySem.W.keepIn K (.ref f_check_order_of) = true)
    {f_check_order : Addr} {od_check_order an_check_order : Option Addr} {sl_check_order : Array (Option Value)} {oc_check_order kV_check_order dc_check_order pm_check_order cd_check_order ct_check_order : Value}
    (a_check_order : PySem.W.nsIn K mainGlobals "check_order" = some (some (.ref f_check_order)))
    (l_check_order : K.lookup f_check_order = some ⟨oc_check_order, od_check_order, .func (PySem.W.fnOf "check_order" "check_order" (defArgs s_check_order) (defBody s_check_order) (defScope s_check_order) .none kV_check_order dc_check_order pm_check_order an_check_order cd_check_order ct_check_order), sl_check_order⟩)
    (c_check_order : PySem.W.codeIn K cd_check_order "check_order" = true) (k_check_order : PySem.W.keepIn K (.ref f_check_order) = true)
    {f_check_calls : Addr} {od_check_calls an_check_calls : Option Addr} {sl_check_calls : Array (Option Value)} {oc_check_calls kV_check_calls dc_check_calls pm_check_calls cd_check_calls ct_check_calls : Value}
    (a_check_calls : PySem.W.nsIn K mainGlobals "check_calls" = some (some (.ref f_check_calls)))
    (l_check_calls : K.lookup f_check_calls = some ⟨oc_check_calls, od_check_calls, .func (PySem.W.fnOf "check_calls" "check_calls" (defArgs s_check_calls) (defBody s_check_calls) (defScope s_check_calls) .none kV_check_calls dc_check_calls pm_check_calls an_check_calls cd_check_calls ct_check_calls), sl_check_calls⟩)
    (c_check_calls : PySem.W.codeIn K cd_check_calls "check_calls" = true) (k_check_calls : PySem.W.keepIn K (.ref f_check_calls) = true)
    {f_check_many : Addr} {od_check_many an_check_many : Option Addr} {sl_check_many : Array (Option Value)} {oc_check_many kV_check_many dc_check_many pm_check_many cd_check_many ct_check_many : Value}
    (a_check_many : PySem.W.nsIn K mainGlobals "check_many" = some (some (.ref f_check_many)))
    (l_check_many : K.lookup f_check_many = some ⟨oc_check_many, od_check_many, .func (PySem.W.fnOf "check_many" "check_many" (defArgs s_check_many) (defBody s_check_many) (defScope s_check_many) .none kV_check_many dc_check_many pm_check_many an_check_many cd_check_many ct_check_many), sl_check_many⟩)
    (c_check_many : PySem.W.codeIn K cd_check_many "check_many" = true) (k_check_many : PySem.W.keepIn K (.ref f_check_many) = true)
    {f_next_call : Addr} {od_next_call an_next_call : Option Addr} {sl_next_call : Array (Option Value)} {oc_next_call kV_next_call dc_next_call pm_next_call cd_next_call ct_next_call : Value}
    (a_next_call : PySem.W.nsIn K mainGlobals "next_call" = some (some (.ref f_next_call)))
    (l_next_call : K.lookup f_next_call = some ⟨oc_next_call, od_next_call, .func (PySem.W.fnOf "next_call" "next_call" (defArgs s_next_call) (defBody s_next_call) (defScope s_next_call) .none kV_next_call dc_next_call pm_next_call an_next_call cd_next_call ct_next_call), sl_next_call⟩)
    (c_next_call : PySem.W.codeIn K cd_next_call "next_call" = true) (k_next_call : PySem.W.keepIn K (.ref f_next_call) = true)
    {f_breaks_of : Addr} {od_breaks_of an_breaks_of : Option Addr} {sl_breaks_of : Array (Option Value)} {oc_breaks_of kV_breaks_of dc_breaks_of pm_breaks_of cd_breaks_of ct_breaks_of : Value}
    (a_breaks_of : PySem.W.nsIn K mainGlobals "breaks_of" = some (some (.ref f_breaks_of)))
    (l_breaks_of : K.lookup f_breaks_of = some ⟨oc_breaks_of, od_breaks_of, .func (PySem.W.fnOf "breaks_of" "breaks_of" (defArgs s_breaks_of) (defBody s_breaks_of) (defScope s_breaks_of) .none kV_breaks_of dc_breaks_of pm_breaks_of an_breaks_of cd_breaks_of ct_breaks_of), sl_breaks_of⟩)
    (c_breaks_of : PySem.W.codeIn K cd_breaks_of "breaks_of" = true) (k_breaks_of : PySem.W.keepIn K (.ref f_breaks_of) = true)
    {f_fewest_turns : Addr} {od_fewest_turns an_fewest_turns : Option Addr} {sl_fewest_turns : Array (Option Value)} {oc_fewest_turns kV_fewest_turns dc_fewest_turns pm_fewest_turns cd_fewest_turns ct_fewest_turns : Value}
    (a_fewest_turns : PySem.W.nsIn K mainGlobals "fewest_turns" = some (some (.ref f_fewest_turns)))
    (l_fewest_turns : K.lookup f_fewest_turns = some ⟨oc_fewest_turns, od_fewest_turns, .func (PySem.W.fnOf "fewest_turns" "fewest_turns" (defArgs s_fewest_turns) (defBody s_fewest_turns) (defScope s_fewest_turns) .none kV_fewest_turns dc_fewest_turns pm_fewest_turns an_fewest_turns cd_fewest_turns ct_fewest_turns), sl_fewest_turns⟩)
    (c_fewest_turns : PySem.W.codeIn K cd_fewest_turns "fewest_turns" = true) (k_fewest_turns : PySem.W.keepIn K (.ref f_fewest_turns) = true)
    {f_turns : Addr} {od_turns an_turns : Option Addr} {sl_turns : Array (Option Value)} {oc_turns kV_turns dc_turns pm_turns cd_turns ct_turns : Value}
    (a_turns : PySem.W.nsIn K mainGlobals "turns" = some (some (.ref f_turns)))
    (l_turns : K.lookup f_turns = some ⟨oc_turns, od_turns, .func (PySem.W.fnOf "turns" "turns" (defArgs s_turns) (defBody s_turns) (defScope s_turns) .none kV_turns dc_turns pm_turns an_turns cd_turns ct_turns), sl_turns⟩)
    (c_turns : PySem.W.codeIn K cd_turns "turns" = true) (k_turns : PySem.W.keepIn K (.ref f_turns) = true)
    {f_falls_of : Addr} {od_falls_of an_falls_of : Option Addr} {sl_falls_of : Array (Option Value)} {oc_falls_of kV_falls_of dc_falls_of pm_falls_of cd_falls_of ct_falls_of : Value}
    (a_falls_of : PySem.W.nsIn K mainGlobals "falls_of" = some (some (.ref f_falls_of)))
    (l_falls_of : K.lookup f_falls_of = some ⟨oc_falls_of, od_falls_of, .func (PySem.W.fnOf "falls_of" "falls_of" (defArgs s_falls_of) (defBody s_falls_of) (defScope s_falls_of) .none kV_falls_of dc_falls_of pm_falls_of an_falls_of cd_falls_of ct_falls_of), sl_falls_of⟩)
    (c_falls_of : PySem.W.codeIn K cd_falls_of "falls_of" = true) (k_falls_of : PySem.W.keepIn K (.ref f_falls_of) = true)
    {f_steps_needed : Addr} {od_steps_needed an_steps_needed : Option Addr} {sl_steps_needed : Array (Option Value)} {oc_steps_needed kV_steps_needed dc_steps_needed pm_steps_needed cd_steps_needed ct_steps_needed : Value}
    (a_steps_needed : PySem.W.nsIn K mainGlobals "steps_needed" = some (some (.ref f_steps_needed)))
    (l_steps_needed : K.lookup f_steps_needed = some ⟨oc_steps_needed, od_steps_needed, .func (PySem.W.fnOf "steps_needed" "steps_needed" (defArgs s_steps_needed) (defBody s_steps_needed) (defScope s_steps_needed) .none kV_steps_needed dc_steps_needed pm_steps_needed an_steps_needed cd_steps_needed ct_steps_needed), sl_steps_needed⟩)
    (c_steps_needed : PySem.W.codeIn K cd_steps_needed "steps_needed" = true) (k_steps_needed : PySem.W.keepIn K (.ref f_steps_needed) = true)
    {f_calls_when_due : Addr} {od_calls_when_due an_calls_when_due : Option Addr} {sl_calls_when_due : Array (Option Value)} {oc_calls_when_due kV_calls_when_due dc_calls_when_due pm_calls_when_due cd_calls_when_due ct_calls_when_due : Value}
    (a_calls_when_due : PySem.W.nsIn K mainGlobals "calls_when_due" = some (some (.ref f_calls_when_due)))
    (l_calls_when_due : K.lookup f_calls_when_due = some ⟨oc_calls_when_due, od_calls_when_due, .func (PySem.W.fnOf "calls_when_due" "calls_when_due" (defArgs s_calls_when_due) (defBody s_calls_when_due) (defScope s_calls_when_due) .none kV_calls_when_due dc_calls_when_due pm_calls_when_due an_calls_when_due cd_calls_when_due ct_calls_when_due), sl_calls_when_due⟩)
    (c_calls_when_due : PySem.W.codeIn K cd_calls_when_due "calls_when_due" = true) (k_calls_when_due : PySem.W.keepIn K (.ref f_calls_when_due) = true)
    {f_is_due : Addr} {od_is_due an_is_due : Option Addr} {sl_is_due : Array (Option Value)} {oc_is_due kV_is_due dc_is_due pm_is_due cd_is_due ct_is_due : Value}
    (a_is_due : PySem.W.nsIn K mainGlobals "is_due" = some (some (.ref f_is_due)))
    (l_is_due : K.lookup f_is_due = some ⟨oc_is_due, od_is_due, .func (PySem.W.fnOf "is_due" "is_due" (defArgs s_is_due) (defBody s_is_due) (defScope s_is_due) .none kV_is_due dc_is_due pm_is_due an_is_due cd_is_due ct_is_due), sl_is_due⟩)
    (c_is_due : PySem.W.codeIn K cd_is_due "is_due" = true) (k_is_due : PySem.W.keepIn K (.ref f_is_due) = true)
    {f_places_of : Addr} {od_places_of an_places_of : Option Addr} {sl_places_of : Array (Option Value)} {oc_places_of kV_places_of dc_places_of pm_places_of cd_places_of ct_places_of : Value}
    (a_places_of : PySem.W.nsIn K mainGlobals "places_of" = some (some (.ref f_places_of)))
    (l_places_of : K.lookup f_places_of = some ⟨oc_places_of, od_places_of, .func (PySem.W.fnOf "places_of" "places_of" (defArgs s_places_of) (defBody s_places_of) (defScope s_places_of) .none kV_places_of dc_places_of pm_places_of an_places_of cd_places_of ct_places_of), sl_places_of⟩)
    (c_places_of : PySem.W.codeIn K cd_places_of "places_of" = true) (k_places_of : PySem.W.keepIn K (.ref f_places_of) = true)
    {f_standing_of : Addr} {od_standing_of an_standing_of : Option Addr} {sl_standing_of : Array (Option Value)} {oc_standing_of kV_standing_of dc_standing_of pm_standing_of cd_standing_of ct_standing_of : Value}
    (a_standing_of : PySem.W.nsIn K mainGlobals "standing_of" = some (some (.ref f_standing_of)))
    (l_standing_of : K.lookup f_standing_of = some ⟨oc_standing_of, od_standing_of, .func (PySem.W.fnOf "standing_of" "standing_of" (defArgs s_standing_of) (defBody s_standing_of) (defScope s_standing_of) .none kV_standing_of dc_standing_of pm_standing_of an_standing_of cd_standing_of ct_standing_of), sl_standing_of⟩)
    (c_standing_of : PySem.W.codeIn K cd_standing_of "standing_of" = true) (k_standing_of : PySem.W.keepIn K (.ref f_standing_of) = true)
    {f_turned_about : Addr} {od_turned_about an_turned_about : Option Addr} {sl_turned_about : Array (Option Value)} {oc_turned_about kV_turned_about dc_turned_about pm_turned_about cd_turned_about ct_turned_about : Value}
    (a_turned_about : PySem.W.nsIn K mainGlobals "turned_about" = some (some (.ref f_turned_about)))
    (l_turned_about : K.lookup f_turned_about = some ⟨oc_turned_about, od_turned_about, .func (PySem.W.fnOf "turned_about" "turned_about" (defArgs s_turned_about) (defBody s_turned_about) (defScope s_turned_about) .none kV_turned_about dc_turned_about pm_turned_about an_turned_about cd_turned_about ct_turned_about), sl_turned_about⟩)
    (c_turned_about : PySem.W.codeIn K cd_turned_about "turned_about" = true) (k_turned_about : PySem.W.keepIn K (.ref f_turned_about) = true)
    {f_tied_seats : Addr} {od_tied_seats an_tied_seats : Option Addr} {sl_tied_seats : Array (Option Value)} {oc_tied_seats kV_tied_seats dc_tied_seats pm_tied_seats cd_tied_seats ct_tied_seats : Value}
    (a_tied_seats : PySem.W.nsIn K mainGlobals "tied_seats" = some (some (.ref f_tied_seats)))
    (l_tied_seats : K.lookup f_tied_seats = some ⟨oc_tied_seats, od_tied_seats, .func (PySem.W.fnOf "tied_seats" "tied_seats" (defArgs s_tied_seats) (defBody s_tied_seats) (defScope s_tied_seats) .none kV_tied_seats dc_tied_seats pm_tied_seats an_tied_seats cd_tied_seats ct_tied_seats), sl_tied_seats⟩)
    (c_tied_seats : PySem.W.codeIn K cd_tied_seats "tied_seats" = true) (k_tied_seats : PySem.W.keepIn K (.ref f_tied_seats) = true)
    {f_people_called : Addr} {od_people_called an_people_called : Option Addr} {sl_people_called : Array (Option Value)} {oc_people_called kV_people_called dc_people_called pm_people_called cd_people_called ct_people_called : Value}
    (a_people_called : PySem.W.nsIn K mainGlobals "people_called" = some (some (.ref f_people_called)))
    (l_people_called : K.lookup f_people_called = some ⟨oc_people_called, od_people_called, .func (PySem.W.fnOf "people_called" "people_called" (defArgs s_people_called) (defBody s_people_called) (defScope s_people_called) .none kV_people_called dc_people_called pm_people_called an_people_called cd_people_called ct_people_called), sl_people_called⟩)
    (c_people_called : PySem.W.codeIn K cd_people_called "people_called" = true) (k_people_called : PySem.W.keepIn K (.ref f_people_called) = true)
    {f_places_after : Addr} {od_places_after an_places_after : Option Addr} {sl_places_after : Array (Option Value)} {oc_places_after kV_places_after dc_places_after pm_places_after cd_places_after ct_places_after : Value}
    (a_places_after : PySem.W.nsIn K mainGlobals "places_after" = some (some (.ref f_places_after)))
    (l_places_after : K.lookup f_places_after = some ⟨oc_places_after, od_places_after, .func (PySem.W.fnOf "places_after" "places_after" (defArgs s_places_after) (defBody s_places_after) (defScope s_places_after) .none kV_places_after dc_places_after pm_places_after an_places_after cd_places_after ct_places_after), sl_places_after⟩)
    (c_places_after : PySem.W.codeIn K cd_places_after "places_after" = true) (k_places_after : PySem.W.keepIn K (.ref f_places_after) = true)
    {f_called : Addr} {od_called an_called : Option Addr} {sl_called : Array (Option Value)} {oc_called kV_called dc_called pm_called cd_called ct_called : Value}
    (a_called : PySem.W.nsIn K mainGlobals "called" = some (some (.ref f_called)))
    (l_called : K.lookup f_called = some ⟨oc_called, od_called, .func (PySem.W.fnOf "called" "called" (defArgs s_called) (defBody s_called) (defScope s_called) .none kV_called dc_called pm_called an_called cd_called ct_called), sl_called⟩)
    (c_called : PySem.W.codeIn K cd_called "called" = true) (k_called : PySem.W.keepIn K (.ref f_called) = true)
    {f_after_rounds : Addr} {od_after_rounds an_after_rounds : Option Addr} {sl_after_rounds : Array (Option Value)} {oc_after_rounds kV_after_rounds dc_after_rounds pm_after_rounds cd_after_rounds ct_after_rounds : Value}
    (a_after_rounds : PySem.W.nsIn K mainGlobals "after_rounds" = some (some (.ref f_after_rounds)))
    {D_after_rounds : Addr} {Dc_after_rounds : Value} {Dd_after_rounds : Option Addr} {Dn_after_rounds : Nat} {Dt_after_rounds : Tok} {Ds_after_rounds : Array (Option Value)} (y_after_rounds : K.lookup D_after_rounds = some ⟨Dc_after_rounds, Dd_after_rounds, .seq #[.int 1 Dt_after_rounds] Dn_after_rounds, Ds_after_rounds⟩)
    (l_after_rounds : K.lookup f_after_rounds = some ⟨oc_after_rounds, od_after_rounds, .func (PySem.W.fnOf "after_rounds" "after_rounds" (defArgs s_after_rounds) (defBody s_after_rounds) (defScope s_after_rounds) (.ref D_after_rounds) kV_after_rounds dc_after_rounds pm_after_rounds an_after_rounds cd_after_rounds ct_after_rounds), sl_after_rounds⟩)
    (c_after_rounds : PySem.W.codeIn K cd_after_rounds "after_rounds" = true) (k_after_rounds : PySem.W.keepIn K (.ref f_after_rounds) = true)
    {f_places_after_rounds : Addr} {od_places_after_rounds an_places_after_rounds : Option Addr} {sl_places_after_rounds : Array (Option Value)} {oc_places_after_rounds kV_places_after_rounds dc_places_after_rounds pm_places_after_rounds cd_places_after_rounds ct_places_after_rounds : Value}
    (a_places_after_rounds : PySem.W.nsIn K mainGlobals "places_after_rounds" = some (some (.ref f_places_after_rounds)))
    (l_places_after_rounds : K.lookup f_places_after_rounds = some ⟨oc_places_after_rounds, od_places_after_rounds, .func (PySem.W.fnOf "places_after_rounds" "places_after_rounds" (defArgs s_places_after_rounds) (defBody s_places_after_rounds) (defScope s_places_after_rounds) .none kV_places_after_rounds dc_places_after_rounds pm_places_after_rounds an_places_after_rounds cd_places_after_rounds ct_places_after_rounds), sl_places_after_rounds⟩)
    (c_places_after_rounds : PySem.W.codeIn K cd_places_after_rounds "places_after_rounds" = true) (k_places_after_rounds : PySem.W.keepIn K (.ref f_places_after_rounds) = true)
    {f_l_draws : Addr} {od_l_draws an_l_draws : Option Addr} {sl_l_draws : Array (Option Value)} {oc_l_draws kV_l_draws dc_l_draws pm_l_draws cd_l_draws ct_l_draws : Value}
    (a_l_draws : PySem.W.nsIn K mainGlobals "_law_draws" = some (some (.ref f_l_draws)))
    (l_l_draws : K.lookup f_l_draws = some ⟨oc_l_draws, od_l_draws, .func (PySem.W.fnOf "_law_draws" "_law_draws" (defArgs s_l_draws) (defBody s_l_draws) (defScope s_l_draws) .none kV_l_draws dc_l_draws pm_l_draws an_l_draws cd_l_draws ct_l_draws), sl_l_draws⟩)
    (c_l_draws : PySem.W.codeIn K cd_l_draws "_law_draws" = true) (k_l_draws : PySem.W.keepIn K (.ref f_l_draws) = true)
    {f_l_next : Addr} {od_l_next an_l_next : Option Addr} {sl_l_next : Array (Option Value)} {oc_l_next kV_l_next dc_l_next pm_l_next cd_l_next ct_l_next : Value}
    (a_l_next : PySem.W.nsIn K mainGlobals "_law_next" = some (some (.ref f_l_next)))
    (l_l_next : K.lookup f_l_next = some ⟨oc_l_next, od_l_next, .func (PySem.W.fnOf "_law_next" "_law_next" (defArgs s_l_next) (defBody s_l_next) (defScope s_l_next) .none kV_l_next dc_l_next pm_l_next an_l_next cd_l_next ct_l_next), sl_l_next⟩)
    (c_l_next : PySem.W.codeIn K cd_l_next "_law_next" = true) (k_l_next : PySem.W.keepIn K (.ref f_l_next) = true)
    {f_l_mixed : Addr} {od_l_mixed an_l_mixed : Option Addr} {sl_l_mixed : Array (Option Value)} {oc_l_mixed kV_l_mixed dc_l_mixed pm_l_mixed cd_l_mixed ct_l_mixed : Value}
    (a_l_mixed : PySem.W.nsIn K mainGlobals "_law_mixed" = some (some (.ref f_l_mixed)))
    (l_l_mixed : K.lookup f_l_mixed = some ⟨oc_l_mixed, od_l_mixed, .func (PySem.W.fnOf "_law_mixed" "_law_mixed" (defArgs s_l_mixed) (defBody s_l_mixed) (defScope s_l_mixed) .none kV_l_mixed dc_l_mixed pm_l_mixed an_l_mixed cd_l_mixed ct_l_mixed), sl_l_mixed⟩)
    (c_l_mixed : PySem.W.codeIn K cd_l_mixed "_law_mixed" = true) (k_l_mixed : PySem.W.keepIn K (.ref f_l_mixed) = true)
    {f_l_net : Addr} {od_l_net an_l_net : Option Addr} {sl_l_net : Array (Option Value)} {oc_l_net kV_l_net dc_l_net pm_l_net cd_l_net ct_l_net : Value}
    (a_l_net : PySem.W.nsIn K mainGlobals "_law_net" = some (some (.ref f_l_net)))
    (l_l_net : K.lookup f_l_net = some ⟨oc_l_net, od_l_net, .func (PySem.W.fnOf "_law_net" "_law_net" (defArgs s_l_net) (defBody s_l_net) (defScope s_l_net) .none kV_l_net dc_l_net pm_l_net an_l_net cd_l_net ct_l_net), sl_l_net⟩)
    (c_l_net : PySem.W.codeIn K cd_l_net "_law_net" = true) (k_l_net : PySem.W.keepIn K (.ref f_l_net) = true)
    {f_l_near : Addr} {od_l_near an_l_near : Option Addr} {sl_l_near : Array (Option Value)} {oc_l_near kV_l_near dc_l_near pm_l_near cd_l_near ct_l_near : Value}
    (a_l_near : PySem.W.nsIn K mainGlobals "_law_near" = some (some (.ref f_l_near)))
    (l_l_near : K.lookup f_l_near = some ⟨oc_l_near, od_l_near, .func (PySem.W.fnOf "_law_near" "_law_near" (defArgs s_l_near) (defBody s_l_near) (defScope s_l_near) .none kV_l_near dc_l_near pm_l_near an_l_near cd_l_near ct_l_near), sl_l_near⟩)
    (c_l_near : PySem.W.codeIn K cd_l_near "_law_near" = true) (k_l_near : PySem.W.keepIn K (.ref f_l_near) = true)
    {f_l_where : Addr} {od_l_where an_l_where : Option Addr} {sl_l_where : Array (Option Value)} {oc_l_where kV_l_where dc_l_where pm_l_where cd_l_where ct_l_where : Value}
    (a_l_where : PySem.W.nsIn K mainGlobals "_law_where" = some (some (.ref f_l_where)))
    (l_l_where : K.lookup f_l_where = some ⟨oc_l_where, od_l_where, .func (PySem.W.fnOf "_law_where" "_law_where" (defArgs s_l_where) (defBody s_l_where) (defScope s_l_where) .none kV_l_where dc_l_where pm_l_where an_l_where cd_l_where ct_l_where), sl_l_where⟩)
    (c_l_where : PySem.W.codeIn K cd_l_where "_law_where" = true) (k_l_where : PySem.W.keepIn K (.ref f_l_where) = true)
    {f_l_sitting : Addr} {od_l_sitting an_l_sitting : Option Addr} {sl_l_sitting : Array (Option Value)} {oc_l_sitting kV_l_sitting dc_l_sitting pm_l_sitting cd_l_sitting ct_l_sitting : Value}
    (a_l_sitting : PySem.W.nsIn K mainGlobals "_law_sitting" = some (some (.ref f_l_sitting)))
    (l_l_sitting : K.lookup f_l_sitting = some ⟨oc_l_sitting, od_l_sitting, .func (PySem.W.fnOf "_law_sitting" "_law_sitting" (defArgs s_l_sitting) (defBody s_l_sitting) (defScope s_l_sitting) .none kV_l_sitting dc_l_sitting pm_l_sitting an_l_sitting cd_l_sitting ct_l_sitting), sl_l_sitting⟩)
    (c_l_sitting : PySem.W.codeIn K cd_l_sitting "_law_sitting" = true) (k_l_sitting : PySem.W.keepIn K (.ref f_l_sitting) = true)
    {f_l_called : Addr} {od_l_called an_l_called : Option Addr} {sl_l_called : Array (Option Value)} {oc_l_called kV_l_called dc_l_called pm_l_called cd_l_called ct_l_called : Value}
    (a_l_called : PySem.W.nsIn K mainGlobals "_law_called" = some (some (.ref f_l_called)))
    (l_l_called : K.lookup f_l_called = some ⟨oc_l_called, od_l_called, .func (PySem.W.fnOf "_law_called" "_law_called" (defArgs s_l_called) (defBody s_l_called) (defScope s_l_called) .none kV_l_called dc_l_called pm_l_called an_l_called cd_l_called ct_l_called), sl_l_called⟩)
    (c_l_called : PySem.W.codeIn K cd_l_called "_law_called" = true) (k_l_called : PySem.W.keepIn K (.ref f_l_called) = true)
    {f_l_breaks : Addr} {od_l_breaks an_l_breaks : Option Addr} {sl_l_breaks : Array (Option Value)} {oc_l_breaks kV_l_breaks dc_l_breaks pm_l_breaks cd_l_breaks ct_l_breaks : Value}
    (a_l_breaks : PySem.W.nsIn K mainGlobals "_law_breaks" = some (some (.ref f_l_breaks)))
    (l_l_breaks : K.lookup f_l_breaks = some ⟨oc_l_breaks, od_l_breaks, .func (PySem.W.fnOf "_law_breaks" "_law_breaks" (defArgs s_l_breaks) (defBody s_l_breaks) (defScope s_l_breaks) .none kV_l_breaks dc_l_breaks pm_l_breaks an_l_breaks cd_l_breaks ct_l_breaks), sl_l_breaks⟩)
    (c_l_breaks : PySem.W.codeIn K cd_l_breaks "_law_breaks" = true) (k_l_breaks : PySem.W.keepIn K (.ref f_l_breaks) = true)
    {f_l_turned : Addr} {od_l_turned an_l_turned : Option Addr} {sl_l_turned : Array (Option Value)} {oc_l_turned kV_l_turned dc_l_turned pm_l_turned cd_l_turned ct_l_turned : Value}
    (a_l_turned : PySem.W.nsIn K mainGlobals "_law_turned" = some (some (.ref f_l_turned)))
    (l_l_turned : K.lookup f_l_turned = some ⟨oc_l_turned, od_l_turned, .func (PySem.W.fnOf "_law_turned" "_law_turned" (defArgs s_l_turned) (defBody s_l_turned) (defScope s_l_turned) .none kV_l_turned dc_l_turned pm_l_turned an_l_turned cd_l_turned ct_l_turned), sl_l_turned⟩)
    (c_l_turned : PySem.W.codeIn K cd_l_turned "_law_turned" = true) (k_l_turned : PySem.W.keepIn K (.ref f_l_turned) = true)
    {f_l_steps : Addr} {od_l_steps an_l_steps : Option Addr} {sl_l_steps : Array (Option Value)} {oc_l_steps kV_l_steps dc_l_steps pm_l_steps cd_l_steps ct_l_steps : Value}
    (a_l_steps : PySem.W.nsIn K mainGlobals "_law_steps" = some (some (.ref f_l_steps)))
    (l_l_steps : K.lookup f_l_steps = some ⟨oc_l_steps, od_l_steps, .func (PySem.W.fnOf "_law_steps" "_law_steps" (defArgs s_l_steps) (defBody s_l_steps) (defScope s_l_steps) .none kV_l_steps dc_l_steps pm_l_steps an_l_steps cd_l_steps ct_l_steps), sl_l_steps⟩)
    (c_l_steps : PySem.W.codeIn K cd_l_steps "_law_steps" = true) (k_l_steps : PySem.W.keepIn K (.ref f_l_steps) = true)
    {f_l_least : Addr} {od_l_least an_l_least : Option Addr} {sl_l_least : Array (Option Value)} {oc_l_least kV_l_least dc_l_least pm_l_least cd_l_least ct_l_least : Value}
    (a_l_least : PySem.W.nsIn K mainGlobals "_law_least" = some (some (.ref f_l_least)))
    (l_l_least : K.lookup f_l_least = some ⟨oc_l_least, od_l_least, .func (PySem.W.fnOf "_law_least" "_law_least" (defArgs s_l_least) (defBody s_l_least) (defScope s_l_least) .none kV_l_least dc_l_least pm_l_least an_l_least cd_l_least ct_l_least), sl_l_least⟩)
    (c_l_least : PySem.W.codeIn K cd_l_least "_law_least" = true) (k_l_least : PySem.W.keepIn K (.ref f_l_least) = true)
    {f_l_right : Addr} {od_l_right an_l_right : Option Addr} {sl_l_right : Array (Option Value)} {oc_l_right kV_l_right dc_l_right pm_l_right cd_l_right ct_l_right : Value}
    (a_l_right : PySem.W.nsIn K mainGlobals "_law_right" = some (some (.ref f_l_right)))
    (l_l_right : K.lookup f_l_right = some ⟨oc_l_right, od_l_right, .func (PySem.W.fnOf "_law_right" "_law_right" (defArgs s_l_right) (defBody s_l_right) (defScope s_l_right) .none kV_l_right dc_l_right pm_l_right an_l_right cd_l_right ct_l_right), sl_l_right⟩)
    (c_l_right : PySem.W.codeIn K cd_l_right "_law_right" = true) (k_l_right : PySem.W.keepIn K (.ref f_l_right) = true)
    {f_l_leads_right : Addr} {od_l_leads_right an_l_leads_right : Option Addr} {sl_l_leads_right : Array (Option Value)} {oc_l_leads_right kV_l_leads_right dc_l_leads_right pm_l_leads_right cd_l_leads_right ct_l_leads_right : Value}
    (a_l_leads_right : PySem.W.nsIn K mainGlobals "_law_leads_right" = some (some (.ref f_l_leads_right)))
    (l_l_leads_right : K.lookup f_l_leads_right = some ⟨oc_l_leads_right, od_l_leads_right, .func (PySem.W.fnOf "_law_leads_right" "_law_leads_right" (defArgs s_l_leads_right) (defBody s_l_leads_right) (defScope s_l_leads_right) .none kV_l_leads_right dc_l_leads_right pm_l_leads_right an_l_leads_right cd_l_leads_right ct_l_leads_right), sl_l_leads_right⟩)
    (c_l_leads_right : PySem.W.codeIn K cd_l_leads_right "_law_leads_right" = true) (k_l_leads_right : PySem.W.keepIn K (.ref f_l_leads_right) = true)
    {f_l_others : Addr} {od_l_others an_l_others : Option Addr} {sl_l_others : Array (Option Value)} {oc_l_others kV_l_others dc_l_others pm_l_others cd_l_others ct_l_others : Value}
    (a_l_others : PySem.W.nsIn K mainGlobals "_law_others" = some (some (.ref f_l_others)))
    (l_l_others : K.lookup f_l_others = some ⟨oc_l_others, od_l_others, .func (PySem.W.fnOf "_law_others" "_law_others" (defArgs s_l_others) (defBody s_l_others) (defScope s_l_others) .none kV_l_others dc_l_others pm_l_others an_l_others cd_l_others ct_l_others), sl_l_others⟩)
    (c_l_others : PySem.W.codeIn K cd_l_others "_law_others" = true) (k_l_others : PySem.W.keepIn K (.ref f_l_others) = true)
    {f_law : Addr} {od_law an_law : Option Addr} {sl_law : Array (Option Value)} {oc_law kV_law dc_law pm_law cd_law ct_law : Value}
    (a_law : PySem.W.nsIn K mainGlobals "law" = some (some (.ref f_law)))
    (l_law : K.lookup f_law = some ⟨oc_law, od_law, .func (PySem.W.fnOf "law" "law" (defArgs s_law) (defBody s_law) (defScope s_law) .none kV_law dc_law pm_law an_law cd_law ct_law), sl_law⟩)
    (c_law : PySem.W.codeIn K cd_law "law" = true) (k_law : PySem.W.keepIn K (.ref f_law) = true)
    {t_LEAST_COUNT : Tok} (q_LEAST_COUNT : PySem.W.nsIn K mainGlobals "LEAST_COUNT" = some (some (.int 3 t_LEAST_COUNT)))
    {t_MOST_COUNT : Tok} (q_MOST_COUNT : PySem.W.nsIn K mainGlobals "MOST_COUNT" = some (some (.int 40 t_MOST_COUNT)))
    (z_isinstance : PySem.W.nsIn K mainGlobals "isinstance" = some none)
    (z_int : PySem.W.nsIn K mainGlobals "int" = some none)
    (z_bool : PySem.W.nsIn K mainGlobals "bool" = some none)
    (z_set : PySem.W.nsIn K mainGlobals "set" = some none)
    (z_enumerate : PySem.W.nsIn K mainGlobals "enumerate" = some none)
    (z_list : PySem.W.nsIn K mainGlobals "list" = some none)
    (z_len : PySem.W.nsIn K mainGlobals "len" = some none)
    (z_tuple : PySem.W.nsIn K mainGlobals "tuple" = some none)
    (z_sorted : PySem.W.nsIn K mainGlobals "sorted" = some none)
    (z_range : PySem.W.nsIn K mainGlobals "range" = some none)
    (z_sum : PySem.W.nsIn K mainGlobals "sum" = some none)
    (z_abs : PySem.W.nsIn K mainGlobals "abs" = some none)
    (z_zip : PySem.W.nsIn K mainGlobals "zip" = some none)
    (z_any : PySem.W.nsIn K mainGlobals "any" = some none)
    (z_repr : PySem.W.nsIn K mainGlobals "repr" = some none)
    : ∃ fd : FuncData, (∀ (s : Shared) (u : Value), BindsTo s fd ⟨[u], []⟩ [("_law_script", u)]) ∧ ∀ base : Heap, K.In base → base.Ns mainGlobals mg → FnG P w K mg base CX0 8 fa fd ["_law_script"] (sp_law K) := by
  have e := hfa.symm.trans (PySem.W.mg_of X G a_law)
  cases e
  have F_is_whole := fun_mk (st := s_is_whole) l_is_whole c_is_whole k_is_whole
  have F_is_from_one := fun_mk (st := s_is_from_one) l_is_from_one c_is_from_one k_is_from_one
  have F_first_wrong := fun_mk (st := s_first_wrong) l_first_wrong c_first_wrong k_first_wrong
  have F_check_count := fun_mk (st := s_check_count) l_check_count c_check_count k_check_count
  have F_is_tie := fun_mk (st := s_is_tie) l_is_tie c_is_tie k_is_tie
  have F_check_ties := fun_mk (st := s_check_ties) l_check_ties c_check_ties k_check_ties
  have F_check_net := fun_mk (st := s_check_net) l_check_net c_check_net k_check_net
  have F_check_standing := fun_mk (st := s_check_standing) l_check_standing c_check_standing k_check_standing
  have F_check_order_of := fun_mk (st := s_check_order_of) l_check_order_of c_check_order_of k_check_order_of
  have F_check_order := fun_mk (st := s_check_order) l_check_order c_check_order k_check_order
  have F_check_calls := fun_mk (st := s_check_calls) l_check_calls c_check_calls k_check_calls
  have F_check_many := fun_mk (st := s_check_many) l_check_many c_check_many k_check_many
  have F_next_call := fun_mk (st := s_next_call) l_next_call c_next_call k_next_call
  have F_breaks_of := fun_mk (st := s_breaks_of) l_breaks_of c_breaks_of k_breaks_of
  have F_fewest_turns := fun_mk (st := s_fewest_turns) l_fewest_turns c_fewest_turns k_fewest_turns
  have F_turns := fun_mk (st := s_turns) l_turns c_turns k_turns
  have F_falls_of := fun_mk (st := s_falls_of) l_falls_of c_falls_of k_falls_of
  have F_steps_needed := fun_mk (st := s_steps_needed) l_steps_needed c_steps_needed k_steps_needed
  have F_calls_when_due := fun_mk (st := s_calls_when_due) l_calls_when_due c_calls_when_due k_calls_when_due
  have F_is_due := fun_mk (st := s_is_due) l_is_due c_is_due k_is_due
  have F_places_of := fun_mk (st := s_places_of) l_places_of c_places_of k_places_of
  have F_standing_of := fun_mk (st := s_standing_of) l_standing_of c_standing_of k_standing_of
  have F_turned_about := fun_mk (st := s_turned_about) l_turned_about c_turned_about k_turned_about
  have F_tied_seats := fun_mk (st := s_tied_seats) l_tied_seats c_tied_seats k_tied_seats
  have F_people_called := fun_mk (st := s_people_called) l_people_called c_people_called k_people_called
  have F_places_after := fun_mk (st := s_places_after) l_places_after c_places_after k_places_after
  have F_called := fun_mk (st := s_called) l_called c_called k_called
  have F_after_rounds : FunD K "after_rounds" "after_rounds" (defArgs s_after_rounds) (defBody s_after_rounds) (defScope s_after_rounds) [.int 1] [] f_after_rounds (PySem.W.fnOf "after_rounds" "after_rounds" (defArgs s_after_rounds) (defBody s_after_rounds) (defScope s_after_rounds) (.ref D_after_rounds) kV_after_rounds dc_after_rounds pm_after_rounds an_after_rounds cd_after_rounds ct_after_rounds) := ⟨⟨_, _, _, _, _, _, _, _, _, _, rfl, l_after_rounds, c_after_rounds, .inr ⟨by simp, D_after_rounds, _, [.int 1 Dt_after_rounds], _, rfl, y_after_rounds, rfl, .cons ⟨_, rfl⟩ .nil⟩, .inl rfl⟩, k_after_rounds⟩
  have F_places_after_rounds := fun_mk (st := s_places_after_rounds) l_places_after_rounds c_places_after_rounds k_places_after_rounds
  have F_l_draws := fun_mk (st := s_l_draws) l_l_draws c_l_draws k_l_draws
  have F_l_next := fun_mk (st := s_l_next) l_l_next c_l_next k_l_next
  have F_l_mixed := fun_mk (st := s_l_mixed) l_l_mixed c_l_mixed k_l_mixed
  have F_l_net := fun_mk (st := s_l_net) l_l_net c_l_net k_l_net
  have F_l_near := fun_mk (st := s_l_near) l_l_near c_l_near k_l_near
  have F_l_where := fun_mk (st := s_l_where) l_l_where c_l_where k_l_where
  have F_l_sitting := fun_mk (st := s_l_sitting) l_l_sitting c_l_sitting k_l_sitting
  have F_l_called := fun_mk (st := s_l_called) l_l_called c_l_called k_l_called
  have F_l_breaks := fun_mk (st := s_l_breaks) l_l_breaks c_l_breaks k_l_breaks
  have F_l_turned := fun_mk (st := s_l_turned) l_l_turned c_l_turned k_l_turned
  have F_l_steps := fun_mk (st := s_l_steps) l_l_steps c_l_steps k_l_steps
  have F_l_least := fun_mk (st := s_l_least) l_l_least c_l_least k_l_least
  have F_l_right := fun_mk (st := s_l_right) l_l_right c_l_right k_l_right
  have F_l_leads_right := fun_mk (st := s_l_leads_right) l_l_leads_right c_l_leads_right k_l_leads_right
  have F_l_others := fun_mk (st := s_l_others) l_l_others c_l_others k_l_others
  have F_law := fun_mk (st := s_law) l_law c_law k_law
  let A : Ad := ⟨f_is_whole, f_is_from_one, f_first_wrong, f_check_count, f_is_tie, f_check_ties, f_check_net, f_check_standing, f_check_order_of, f_check_order, f_check_calls, f_check_many, f_next_call, f_breaks_of, f_fewest_turns, f_turns, f_falls_of, f_steps_needed, f_calls_when_due, f_is_due, f_places_of, f_standing_of, f_turned_about, f_tied_seats, f_people_called, f_places_after, f_called, f_after_rounds, f_places_after_rounds, f_l_draws, f_l_next, f_l_mixed, f_l_net, f_l_near, f_l_where, f_l_sitting, f_l_called, f_l_breaks, f_l_turned, f_l_steps, f_l_least, f_l_right, f_l_leads_right, f_l_others, fa,
    (PySem.W.fnOf "is_whole" "is_whole" (defArgs s_is_whole) (defBody s_is_whole) (defScope s_is_whole) .none kV_is_whole dc_is_whole pm_is_whole an_is_whole cd_is_whole ct_is_whole),
    (PySem.W.fnOf "is_from_one" "is_from_one" (defArgs s_is_from_one) (defBody s_is_from_one) (defScope s_is_from_one) .none kV_is_from_one dc_is_from_one pm_is_from_one an_is_from_one cd_is_from_one ct_is_from_one),
    (PySem.W.fnOf "first_wrong" "first_wrong" (defArgs s_first_wrong) (defBody s_first_wrong) (defScope s_first_wrong) .none kV_first_wrong dc_first_wrong pm_first_wrong an_first_wrong cd_first_wrong ct_first_wrong),
    (PySem.W.fnOf "check_count" "check_count" (defArgs s_check_count) (defBody s_check_count) (defScope s_check_count) .none kV_check_count dc_check_count pm_check_count an_check_count cd_check_count ct_check_count),
    (PySem.W.fnOf "is_tie" "is_tie" (defArgs s_is_tie) (defBody s_is_tie) (defScope s_is_tie) .none kV_is_tie dc_is_tie pm_is_tie an_is_tie cd_is_tie ct_is_tie),
    (PySem.W.fnOf "check_ties" "check_ties" (defArgs s_check_ties) (defBody s_check_ties) (defScope s_check_ties) .none kV_check_ties dc_check_ties pm_check_ties an_check_ties cd_check_ties ct_check_ties),
    (PySem.W.fnOf "check_net" "check_net" (defArgs s_check_net) (defBody s_check_net) (defScope s_check_net) .none kV_check_net dc_check_net pm_check_net an_check_net cd_check_net ct_check_net),
    (PySem.W.fnOf "check_standing" "check_standing" (defArgs s_check_standing) (defBody s_check_standing) (defScope s_check_standing) .none kV_check_standing dc_check_standing pm_check_standing an_check_standing cd_check_standing ct_check_standing),
    (PySem.W.fnOf "check_order_of" "check_order_of" (defArgs s_check_order_of) (defBody s_check_order_of) (defScope s_check_order_of) .none kV_check_order_of dc_check_order_of pm_check_order_of an_check_order_of cd_check_order_of ct_check_order_of),
    (PySem.W.fnOf "check_order" "check_order" (defArgs s_check_order) (defBody s_check_order) (defScope s_check_order) .none kV_check_order dc_check_order pm_check_order an_check_order cd_check_order ct_check_order),
    (PySem.W.fnOf "check_calls" "check_calls" (defArgs s_check_calls) (defBody s_check_calls) (defScope s_check_calls) .none kV_check_calls dc_check_calls pm_check_calls an_check_calls cd_check_calls ct_check_calls),
    (PySem.W.fnOf "check_many" "check_many" (defArgs s_check_many) (defBody s_check_many) (defScope s_check_many) .none kV_check_many dc_check_many pm_check_many an_check_many cd_check_many ct_check_many),
    (PySem.W.fnOf "next_call" "next_call" (defArgs s_next_call) (defBody s_next_call) (defScope s_next_call) .none kV_next_call dc_next_call pm_next_call an_next_call cd_next_call ct_next_call),
    (PySem.W.fnOf "breaks_of" "breaks_of" (defArgs s_breaks_of) (defBody s_breaks_of) (defScope s_breaks_of) .none kV_breaks_of dc_breaks_of pm_breaks_of an_breaks_of cd_breaks_of ct_breaks_of),
    (PySem.W.fnOf "fewest_turns" "fewest_turns" (defArgs s_fewest_turns) (defBody s_fewest_turns) (defScope s_fewest_turns) .none kV_fewest_turns dc_fewest_turns pm_fewest_turns an_fewest_turns cd_fewest_turns ct_fewest_turns),
    (PySem.W.fnOf "turns" "turns" (defArgs s_turns) (defBody s_turns) (defScope s_turns) .none kV_turns dc_turns pm_turns an_turns cd_turns ct_turns),
    (PySem.W.fnOf "falls_of" "falls_of" (defArgs s_falls_of) (defBody s_falls_of) (defScope s_falls_of) .none kV_falls_of dc_falls_of pm_falls_of an_falls_of cd_falls_of ct_falls_of),
    (PySem.W.fnOf "steps_needed" "steps_needed" (defArgs s_steps_needed) (defBody s_steps_needed) (defScope s_steps_needed) .none kV_steps_needed dc_steps_needed pm_steps_needed an_steps_needed cd_steps_needed ct_steps_needed),
    (PySem.W.fnOf "calls_when_due" "calls_when_due" (defArgs s_calls_when_due) (defBody s_calls_when_due) (defScope s_calls_when_due) .none kV_calls_when_due dc_calls_when_due pm_calls_when_due an_calls_when_due cd_calls_when_due ct_calls_when_due),
    (PySem.W.fnOf "is_due" "is_due" (defArgs s_is_due) (defBody s_is_due) (defScope s_is_due) .none kV_is_due dc_is_due pm_is_due an_is_due cd_is_due ct_is_due),
    (PySem.W.fnOf "places_of" "places_of" (defArgs s_places_of) (defBody s_places_of) (defScope s_places_of) .none kV_places_of dc_places_of pm_places_of an_places_of cd_places_of ct_places_of),
    (PySem.W.fnOf "standing_of" "standing_of" (defArgs s_standing_of) (defBody s_standing_of) (defScope s_standing_of) .none kV_standing_of dc_standing_of pm_standing_of an_standing_of cd_standing_of ct_standing_of),
    (PySem.W.fnOf "turned_about" "turned_about" (defArgs s_turned_about) (defBody s_turned_about) (defScope s_turned_about) .none kV_turned_about dc_turned_about pm_turned_about an_turned_about cd_turned_about ct_turned_about),
    (PySem.W.fnOf "tied_seats" "tied_seats" (defArgs s_tied_seats) (defBody s_tied_seats) (defScope s_tied_seats) .none kV_tied_seats dc_tied_seats pm_tied_seats an_tied_seats cd_tied_seats ct_tied_seats),
    (PySem.W.fnOf "people_called" "people_called" (defArgs s_people_called) (defBody s_people_called) (defScope s_people_called) .none kV_people_called dc_people_called pm_people_called an_people_called cd_people_called ct_people_called),
    (PySem.W.fnOf "places_after" "places_after" (defArgs s_places_after) (defBody s_places_after) (defScope s_places_after) .none kV_places_after dc_places_after pm_places_after an_places_after cd_places_after ct_places_after),
    (PySem.W.fnOf "called" "called" (defArgs s_called) (defBody s_called) (defScope s_called) .none kV_called dc_called pm_called an_called cd_called ct_called),
    (PySem.W.fnOf "after_rounds" "after_rounds" (defArgs s_after_rounds) (defBody s_after_rounds) (defScope s_after_rounds) (.ref D_after_rounds) kV_after_rounds dc_after_rounds pm_after_rounds an_after_rounds cd_after_rounds ct_after_rounds),
    (PySem.W.fnOf "places_after_rounds" "places_after_rounds" (defArgs s_places_after_rounds) (defBody s_places_after_rounds) (defScope s_places_after_rounds) .none kV_places_after_rounds dc_places_after_rounds pm_places_after_rounds an_places_after_rounds cd_places_after_rounds ct_places_after_rounds),
    (PySem.W.fnOf "_law_draws" "_law_draws" (defArgs s_l_draws) (defBody s_l_draws) (defScope s_l_draws) .none kV_l_draws dc_l_draws pm_l_draws an_l_draws cd_l_draws ct_l_draws),
    (PySem.W.fnOf "_law_next" "_law_next" (defArgs s_l_next) (defBody s_l_next) (defScope s_l_next) .none kV_l_next dc_l_next pm_l_next an_l_next cd_l_next ct_l_next),
    (PySem.W.fnOf "_law_mixed" "_law_mixed" (defArgs s_l_mixed) (defBody s_l_mixed) (defScope s_l_mixed) .none kV_l_mixed dc_l_mixed pm_l_mixed an_l_mixed cd_l_mixed ct_l_mixed),
    (PySem.W.fnOf "_law_net" "_law_net" (defArgs s_l_net) (defBody s_l_net) (defScope s_l_net) .none kV_l_net dc_l_net pm_l_net an_l_net cd_l_net ct_l_net),
    (PySem.W.fnOf "_law_near" "_law_near" (defArgs s_l_near) (defBody s_l_near) (defScope s_l_near) .none kV_l_near dc_l_near pm_l_near an_l_near cd_l_near ct_l_near),
    (PySem.W.fnOf "_law_where" "_law_where" (defArgs s_l_where) (defBody s_l_where) (defScope s_l_where) .none kV_l_where dc_l_where pm_l_where an_l_where cd_l_where ct_l_where),
    (PySem.W.fnOf "_law_sitting" "_law_sitting" (defArgs s_l_sitting) (defBody s_l_sitting) (defScope s_l_sitting) .none kV_l_sitting dc_l_sitting pm_l_sitting an_l_sitting cd_l_sitting ct_l_sitting),
    (PySem.W.fnOf "_law_called" "_law_called" (defArgs s_l_called) (defBody s_l_called) (defScope s_l_called) .none kV_l_called dc_l_called pm_l_called an_l_called cd_l_called ct_l_called),
    (PySem.W.fnOf "_law_breaks" "_law_breaks" (defArgs s_l_breaks) (defBody s_l_breaks) (defScope s_l_breaks) .none kV_l_breaks dc_l_breaks pm_l_breaks an_l_breaks cd_l_breaks ct_l_breaks),
    (PySem.W.fnOf "_law_turned" "_law_turned" (defArgs s_l_turned) (defBody s_l_turned) (defScope s_l_turned) .none kV_l_turned dc_l_turned pm_l_turned an_l_turned cd_l_turned ct_l_turned),
    (PySem.W.fnOf "_law_steps" "_law_steps" (defArgs s_l_steps) (defBody s_l_steps) (defScope s_l_steps) .none kV_l_steps dc_l_steps pm_l_steps an_l_steps cd_l_steps ct_l_steps),
    (PySem.W.fnOf "_law_least" "_law_least" (defArgs s_l_least) (defBody s_l_least) (defScope s_l_least) .none kV_l_least dc_l_least pm_l_least an_l_least cd_l_least ct_l_least),
    (PySem.W.fnOf "_law_right" "_law_right" (defArgs s_l_right) (defBody s_l_right) (defScope s_l_right) .none kV_l_right dc_l_right pm_l_right an_l_right cd_l_right ct_l_right),
    (PySem.W.fnOf "_law_leads_right" "_law_leads_right" (defArgs s_l_leads_right) (defBody s_l_leads_right) (defScope s_l_leads_right) .none kV_l_leads_right dc_l_leads_right pm_l_leads_right an_l_leads_right cd_l_leads_right ct_l_leads_right),
    (PySem.W.fnOf "_law_others" "_law_others" (defArgs s_l_others) (defBody s_l_others) (defScope s_l_others) .none kV_l_others dc_l_others pm_l_others an_l_others cd_l_others ct_l_others),
    (PySem.W.fnOf "law" "law" (defArgs s_law) (defBody s_law) (defScope s_law) .none kV_law dc_law pm_law an_law cd_law ct_law),t_LEAST_COUNT, t_MOST_COUNT⟩
  have T : Txt K mg A :=
    { F_is_whole := F_is_whole
      g_is_whole := PySem.W.mg_of X G a_is_whole
      b_is_whole := F_is_whole.binds (ps := ["thing"]) fun _ _ _ _ _ _ us hl => match us, hl with | [_], _ => rfl
      F_is_from_one := F_is_from_one
      g_is_from_one := PySem.W.mg_of X G a_is_from_one
      b_is_from_one := F_is_from_one.binds (ps := ["thing", "most"]) fun _ _ _ _ _ _ us hl => match us, hl with | [_, _], _ => rfl
      F_first_wrong := F_first_wrong
      g_first_wrong := PySem.W.mg_of X G a_first_wrong
      b_first_wrong := F_first_wrong.binds (ps := ["things", "most"]) fun _ _ _ _ _ _ us hl => match us, hl with | [_, _], _ => rfl
      F_check_count := F_check_count
      g_check_count := PySem.W.mg_of X G a_check_count
      b_check_count := F_check_count.binds (ps := ["number"]) fun _ _ _ _ _ _ us hl => match us, hl with | [_], _ => rfl
      F_is_tie := F_is_tie
      g_is_tie := PySem.W.mg_of X G a_is_tie
      b_is_tie := F_is_tie.binds (ps := ["thing", "seats"]) fun _ _ _ _ _ _ us hl => match us, hl with | [_, _], _ => rfl
      F_check_ties := F_check_ties
      g_check_ties := PySem.W.mg_of X G a_check_ties
      b_check_ties := F_check_ties.binds (ps := ["ties", "seats"]) fun _ _ _ _ _ _ us hl => match us, hl with | [_, _], _ => rfl
      F_check_net := F_check_net
      g_check_net := PySem.W.mg_of X G a_check_net
      b_check_net := F_check_net.binds (ps := ["seats", "ties"]) fun _ _ _ _ _ _ us hl => match us, hl with | [_, _], _ => rfl
      F_check_standing := F_check_standing
      g_check_standing := PySem.W.mg_of X G a_check_standing
      b_check_standing := F_check_standing.binds (ps := ["standing", "seats"]) fun _ _ _ _ _ _ us hl => match us, hl with | [_, _], _ => rfl
      F_check_order_of := F_check_order_of
      g_check_order_of := PySem.W.mg_of X G a_check_order_of
      b_check_order_of := F_check_order_of.binds (ps := ["order", "count"]) fun _ _ _ _ _ _ us hl => match us, hl with | [_, _], _ => rfl
      F_check_order := F_check_order
      g_check_order := PySem.W.mg_of X G a_check_order
      b_check_order := F_check_order.binds (ps := ["order"]) fun _ _ _ _ _ _ us hl => match us, hl with | [_], _ => rfl
      F_check_calls := F_check_calls
      g_check_calls := PySem.W.mg_of X G a_check_calls
      b_check_calls := F_check_calls.binds (ps := ["calls", "count"]) fun _ _ _ _ _ _ us hl => match us, hl with | [_, _], _ => rfl
      F_check_many := F_check_many
      g_check_many := PySem.W.mg_of X G a_check_many
      b_check_many := F_check_many.binds (ps := ["many"]) fun _ _ _ _ _ _ us hl => match us, hl with | [_], _ => rfl
      F_next_call := F_next_call
      g_next_call := PySem.W.mg_of X G a_next_call
      b_next_call := F_next_call.binds (ps := ["call", "count"]) fun _ _ _ _ _ _ us hl => match us, hl with | [_, _], _ => rfl
      F_breaks_of := F_breaks_of
      g_breaks_of := PySem.W.mg_of X G a_breaks_of
      b_breaks_of := F_breaks_of.binds (ps := ["order"]) fun _ _ _ _ _ _ us hl => match us, hl with | [_], _ => rfl
      F_fewest_turns := F_fewest_turns
      g_fewest_turns := PySem.W.mg_of X G a_fewest_turns
      b_fewest_turns := F_fewest_turns.binds (ps := ["order", "other"]) fun _ _ _ _ _ _ us hl => match us, hl with | [_, _], _ => rfl
      kb_fewest_turns := swap2_binds fun _ _  => rfl
      F_turns := F_turns
      g_turns := PySem.W.mg_of X G a_turns
      b_turns := F_turns.binds (ps := ["order", "other"]) fun _ _ _ _ _ _ us hl => match us, hl with | [_, _], _ => rfl
      kb_turns := swap2_binds fun _ _  => rfl
      F_falls_of := F_falls_of
      g_falls_of := PySem.W.mg_of X G a_falls_of
      b_falls_of := F_falls_of.binds (ps := ["order"]) fun _ _ _ _ _ _ us hl => match us, hl with | [_], _ => rfl
      F_steps_needed := F_steps_needed
      g_steps_needed := PySem.W.mg_of X G a_steps_needed
      b_steps_needed := F_steps_needed.binds (ps := ["order", "other"]) fun _ _ _ _ _ _ us hl => match us, hl with | [_, _], _ => rfl
      F_calls_when_due := F_calls_when_due
      g_calls_when_due := PySem.W.mg_of X G a_calls_when_due
      b_calls_when_due := F_calls_when_due.binds (ps := ["falls", "steps"]) fun _ _ _ _ _ _ us hl => match us, hl with | [_, _], _ => rfl
      F_is_due := F_is_due
      g_is_due := PySem.W.mg_of X G a_is_due
      b_is_due := F_is_due.binds (ps := ["left", "ahead", "here"]) fun _ _ _ _ _ _ us hl => match us, hl with | [_, _, _], _ => rfl
      F_places_of := F_places_of
      g_places_of := PySem.W.mg_of X G a_places_of
      b_places_of := F_places_of.binds (ps := ["standing"]) fun _ _ _ _ _ _ us hl => match us, hl with | [_], _ => rfl
      F_standing_of := F_standing_of
      g_standing_of := PySem.W.mg_of X G a_standing_of
      b_standing_of := F_standing_of.binds (ps := ["places"]) fun _ _ _ _ _ _ us hl => match us, hl with | [_], _ => rfl
      F_turned_about := F_turned_about
      g_turned_about := PySem.W.mg_of X G a_turned_about
      b_turned_about := F_turned_about.binds (ps := ["row"]) fun _ _ _ _ _ _ us hl => match us, hl with | [_], _ => rfl
      F_tied_seats := F_tied_seats
      g_tied_seats := PySem.W.mg_of X G a_tied_seats
      b_tied_seats := F_tied_seats.binds (ps := ["seats", "ties"]) fun _ _ _ _ _ _ us hl => match us, hl with | [_, _], _ => rfl
      F_people_called := F_people_called
      g_people_called := PySem.W.mg_of X G a_people_called
      b_people_called := F_people_called.binds (ps := ["calls", "count"]) fun _ _ _ _ _ _ us hl => match us, hl with | [_, _], _ => rfl
      F_places_after := F_places_after
      g_places_after := PySem.W.mg_of X G a_places_after
      b_places_after := F_places_after.binds (ps := ["places", "pairs", "tied"]) fun _ _ _ _ _ _ us hl => match us, hl with | [_, _, _], _ => rfl
      F_called := F_called
      g_called := PySem.W.mg_of X G a_called
      b_called := F_called.binds (ps := ["seats", "ties", "standing", "calls"]) fun _ _ _ _ _ _ us hl => match us, hl with | [_, _, _, _], _ => rfl
      F_after_rounds := F_after_rounds
      g_after_rounds := PySem.W.mg_of X G a_after_rounds
      b_after_rounds := bindsD0 (ps := ["seats", "ties", "standing", "order", "many"]) F_after_rounds (by simp) fun _ _ _ _ _ _ _ us its hl h2 => match us, hl, its, h2 with | [_, _, _, _, _], _, [_], _ => ⟨_, rfl, rfl⟩
      bd_after_rounds := F_after_rounds.binds1 (ps := ["seats", "ties", "standing", "order", "many"]) 4 0 (by simp) rfl fun _ _ _ _ _ _ _ us its hl h2 => match us, hl, its, h2 with | [_, _, _, _], _, [_], _ => ⟨_, rfl, rfl⟩
      F_places_after_rounds := F_places_after_rounds
      g_places_after_rounds := PySem.W.mg_of X G a_places_after_rounds
      b_places_after_rounds := F_places_after_rounds.binds (ps := ["start", "pairs", "tied", "many"]) fun _ _ _ _ _ _ us hl => match us, hl with | [_, _, _, _], _ => rfl
      F_l_draws := F_l_draws
      g_l_draws := PySem.W.mg_of X G a_l_draws
      b_l_draws := F_l_draws.binds (ps := ["_law_cell"]) fun _ _ _ _ _ _ us hl => match us, hl with | [_], _ => rfl
      F_l_next := F_l_next
      g_l_next := PySem.W.mg_of X G a_l_next
      b_l_next := F_l_next.binds (ps := ["_law_draws_here"]) fun _ _ _ _ _ _ us hl => match us, hl with | [_], _ => rfl
      F_l_mixed := F_l_mixed
      g_l_mixed := PySem.W.mg_of X G a_l_mixed
      b_l_mixed := F_l_mixed.binds (ps := ["_law_draws_here", "_law_some"]) fun _ _ _ _ _ _ us hl => match us, hl with | [_, _], _ => rfl
      F_l_net := F_l_net
      g_l_net := PySem.W.mg_of X G a_l_net
      b_l_net := F_l_net.binds (ps := ["_law_draws_here", "_law_most"]) fun _ _ _ _ _ _ us hl => match us, hl with | [_, _], _ => rfl
      F_l_near := F_l_near
      g_l_near := PySem.W.mg_of X G a_l_near
      b_l_near := F_l_near.binds (ps := ["_law_ties"]) fun _ _ _ _ _ _ us hl => match us, hl with | [_], _ => rfl
      F_l_where := F_l_where
      g_l_where := PySem.W.mg_of X G a_l_where
      b_l_where := F_l_where.binds (ps := ["_law_standing"]) fun _ _ _ _ _ _ us hl => match us, hl with | [_], _ => rfl
      F_l_sitting := F_l_sitting
      g_l_sitting := PySem.W.mg_of X G a_l_sitting
      b_l_sitting := F_l_sitting.binds (ps := ["_law_where_here"]) fun _ _ _ _ _ _ us hl => match us, hl with | [_], _ => rfl
      F_l_called := F_l_called
      g_l_called := PySem.W.mg_of X G a_l_called
      b_l_called := F_l_called.binds (ps := ["_law_near_here", "_law_where_here", "_law_calls"]) fun _ _ _ _ _ _ us hl => match us, hl with | [_, _, _], _ => rfl
      F_l_breaks := F_l_breaks
      g_l_breaks := PySem.W.mg_of X G a_l_breaks
      b_l_breaks := F_l_breaks.binds (ps := ["_law_order"]) fun _ _ _ _ _ _ us hl => match us, hl with | [_], _ => rfl
      F_l_turned := F_l_turned
      g_l_turned := PySem.W.mg_of X G a_l_turned
      b_l_turned := F_l_turned.binds (ps := ["_law_some", "_law_call", "_law_many"]) fun _ _ _ _ _ _ us hl => match us, hl with | [_, _, _], _ => rfl
      F_l_steps := F_l_steps
      g_l_steps := PySem.W.mg_of X G a_l_steps
      b_l_steps := F_l_steps.binds (ps := ["_law_first", "_law_last", "_law_many"]) fun _ _ _ _ _ _ us hl => match us, hl with | [_, _, _], _ => rfl
      F_l_least := F_l_least
      g_l_least := PySem.W.mg_of X G a_l_least
      b_l_least := F_l_least.binds (ps := ["_law_first", "_law_last", "_law_many"]) fun _ _ _ _ _ _ us hl => match us, hl with | [_, _, _], _ => rfl
      F_l_right := F_l_right
      g_l_right := PySem.W.mg_of X G a_l_right
      b_l_right := F_l_right.binds (ps := ["_law_order", "_law_other"]) fun _ _ _ _ _ _ us hl => match us, hl with | [_, _], _ => rfl
      F_l_leads_right := F_l_leads_right
      g_l_leads_right := PySem.W.mg_of X G a_l_leads_right
      b_l_leads_right := F_l_leads_right.binds (ps := ["_law_seats", "_law_ties", "_law_standing", "_law_order", "_law_other"]) fun _ _ _ _ _ _ us hl => match us, hl with | [_, _, _, _, _], _ => rfl
      F_l_others := F_l_others
      g_l_others := PySem.W.mg_of X G a_l_others
      b_l_others := F_l_others.binds (ps := ["_law_draws_here", "_law_order"]) fun _ _ _ _ _ _ us hl => match us, hl with | [_, _], _ => rfl
      F_law := F_law
      g_law := PySem.W.mg_of X G a_law
      b_law := F_law.binds (ps := ["_law_script"]) fun _ _ _ _ _ _ us hl => match us, hl with | [_], _ => rfl
      g_LEAST_COUNT := PySem.W.mg_of X G q_LEAST_COUNT
      g_MOST_COUNT := PySem.W.mg_of X G q_MOST_COUNT
      z_isinstance := PySem.W.mg_none_of X G z_isinstance
      z_int := PySem.W.mg_none_of X G z_int
      z_bool := PySem.W.mg_none_of X G z_bool
      z_set := PySem.W.mg_none_of X G z_set
      z_enumerate := PySem.W.mg_none_of X G z_enumerate
      z_list := PySem.W.mg_none_of X G z_list
      z_len := PySem.W.mg_none_of X G z_len
      z_tuple := PySem.W.mg_none_of X G z_tuple
      z_sorted := PySem.W.mg_none_of X G z_sorted
      z_range := PySem.W.mg_none_of X G z_range
      z_sum := PySem.W.mg_none_of X G z_sum
      z_abs := PySem.W.mg_none_of X G z_abs
      z_zip := PySem.W.mg_none_of X G z_zip
      z_any := PySem.W.mg_none_of X G z_any
      z_repr := PySem.W.mg_none_of X G z_repr }
  exact ⟨_, fun s u => .of_eq rfl, fun base _ _ => ok_law (A := A) T⟩
end
end K30

open PySem PySem.W PyProof.Rows
theorem PySem.Challenge.cw_apartcalls_k30_whole_turns_holds : PySem.Challenge.rw_apartcalls_k30_whole_turns.Holds := by
  w_on
  o_law
  k_head
  (case hw => w_witness2)
  k_fill
  refine Vf.walkG_of (l := PySem.Challenge.rw_apartcalls_k30_whole_turns) (n := 63) (k := 8) (x := "_law_script") (sp := K30.sp_law) rfl (by decide) rfl ⟨rfl, by decide, by decide⟩ (fun w h Y => PySem.W.kIn_of Y) ?F (fun K H a ns hl _ hS => ⟨a, ns, rfl, hS, hl, fun _ => rfl⟩)
  case F =>
    intro w mg fa h KX G hmg
    refine' K30.all_mk KX G hmg ?a_is_whole ?l_is_whole ?c_is_whole ?k_is_whole ?a_is_from_one ?l_is_from_one ?c_is_from_one ?k_is_from_one ?a_first_wrong ?l_first_wrong ?c_first_wrong ?k_first_wrong ?a_check_count ?l_check_count ?c_check_count ?k_check_count ?a_is_tie ?l_is_tie ?c_is_tie ?k_is_tie ?a_check_ties ?l_check_ties ?c_check_ties ?k_check_ties ?a_check_net ?l_check_net ?c_check_net ?k_check_net ?a_check_standing ?l_check_standing ?c_check_standing ?k_check_standing ?a_check_order_of ?l_check_order_of ?c_check_order_of ?k_check_order_of ?a_check_order ?l_check_order ?c_check_order ?k_check_order ?a_check_calls ?l_check_calls ?c_check_calls ?k_check_calls ?a_check_many ?l_check_many ?c_check_many ?k_check_many ?a_next_call ?l_next_call ?c_next_call ?k_next_call ?a_breaks_of ?l_breaks_of ?c_breaks_of ?k_breaks_of ?a_fewest_turns ?l_fewest_turns ?c_fewest_turns ?k_fewest_turns ?a_turns ?l_turns ?c_turns ?k_turns ?a_falls_of ?l_falls_of ?c_falls_of ?k_falls_of ?a_steps_needed ?l_steps_needed ?c_steps_needed ?k_steps_needed ?a_calls_when_due ?l_calls_when_due ?c_calls_when_due ?k_calls_when_due ?a_is_due ?l_is_due ?c_is_due ?k_is_due ?a_places_of ?l_places_of ?c_places_of ?k_places_of ?a_standing_of ?l_standing_of ?c_standing_of ?k_standing_of ?a_turned_about ?l_turned_about ?c_turned_about ?k_turned_about ?a_tied_seats ?l_tied_seats ?c_tied_seats ?k_tied_seats ?a_people_called ?l_people_called ?c_people_called ?k_people_called ?a_places_after ?l_places_after ?c_places_after ?k_places_after ?a_called ?l_called ?c_called ?k_called ?a_after_rounds ?y_after_rounds ?l_after_rounds ?c_after_rounds ?k_after_rounds ?a_places_after_rounds ?l_places_after_rounds ?c_places_after_rounds ?k_places_after_rounds ?a_l_draws ?l_l_draws ?c_l_draws ?k_l_draws ?a_l_next ?l_l_next ?c_l_next ?k_l_next ?a_l_mixed ?l_l_mixed ?c_l_mixed ?k_l_mixed ?a_l_net ?l_l_net ?c_l_net ?k_l_net ?a_l_near ?l_l_near ?c_l_near ?k_l_near ?a_l_where ?l_l_where ?c_l_where ?k_l_where ?a_l_sitting ?l_l_sitting ?c_l_sitting ?k_l_sitting ?a_l_called ?l_l_called ?c_l_called ?k_l_called ?a_l_breaks ?l_l_breaks ?c_l_breaks ?k_l_breaks ?a_l_turned ?l_l_turned ?c_l_turned ?k_l_turned ?a_l_steps ?l_l_steps ?c_l_steps ?k_l_steps ?a_l_least ?l_l_least ?c_l_least ?k_l_least ?a_l_right ?l_l_right ?c_l_right ?k_l_right ?a_l_leads_right ?l_l_leads_right ?c_l_leads_right ?k_l_leads_right ?a_l_others ?l_l_others ?c_l_others ?k_l_others ?a_law ?l_law ?c_law ?k_law ?q_LEAST_COUNT ?q_MOST_COUNT ?z_isinstance ?z_int ?z_bool ?z_set ?z_enumerate ?z_list ?z_len ?z_tuple ?z_sorted ?z_range ?z_sum ?z_abs ?z_zip ?z_any ?z_repr
    (case a_is_whole => k_is)
    (case l_is_whole => k_is)
    (case c_is_whole => k_is)
    (case k_is_whole => k_is)
    (case a_is_from_one => k_is)
    (case l_is_from_one => k_is)
    (case c_is_from_one => k_is)
    (case k_is_from_one => k_is)
    (case a_first_wrong => k_is)
    (case l_first_wrong => k_is)
    (case c_first_wrong => k_is)
    (case k_first_wrong => k_is)
    (case a_check_count => k_is)
    (case l_check_count => k_is)
    (case c_check_count => k_is)
    (case k_check_count => k_is)
    (case a_is_tie => k_is)
    (case l_is_tie => k_is)
    (case c_is_tie => k_is)
    (case k_is_tie => k_is)
    (case a_check_ties => k_is)
    (case l_check_ties => k_is)
    (case c_check_ties => k_is)
    (case k_check_ties => k_is)
    (case a_check_net => k_is)
    (case l_check_net => k_is)
    (case c_check_net => k_is)
    (case k_check_net => k_is)
    (case a_check_standing => k_is)
    (case l_check_standing => k_is)
    (case c_check_standing => k_is)
    (case k_check_standing => k_is)
    (case a_check_order_of => k_is)
    (case l_check_order_of => k_is)
    (case c_check_order_of => k_is)
    (case k_check_order_of => k_is)
    (case a_check_order => k_is)
    (case l_check_order => k_is)
    (case c_check_order => k_is)
    (case k_check_order => k_is)
    (case a_check_calls => k_is)
    (case l_check_calls => k_is)
    (case c_check_calls => k_is)
    (case k_check_calls => k_is)
    (case a_check_many => k_is)
    (case l_check_many => k_is)
    (case c_check_many => k_is)
    (case k_check_many => k_is)
    (case a_next_call => k_is)
    (case l_next_call => k_is)
    (case c_next_call => k_is)
    (case k_next_call => k_is)
    (case a_breaks_of => k_is)
    (case l_breaks_of => k_is)
    (case c_breaks_of => k_is)
    (case k_breaks_of => k_is)
    (case a_fewest_turns => k_is)
    (case l_fewest_turns => k_is)
    (case c_fewest_turns => k_is)
    (case k_fewest_turns => k_is)
    (case a_turns => k_is)
    (case l_turns => k_is)
    (case c_turns => k_is)
    (case k_turns => k_is)
    (case a_falls_of => k_is)
    (case l_falls_of => k_is)
    (case c_falls_of => k_is)
    (case k_falls_of => k_is)
    (case a_steps_needed => k_is)
    (case l_steps_needed => k_is)
    (case c_steps_needed => k_is)
    (case k_steps_needed => k_is)
    (case a_calls_when_due => k_is)
    (case l_calls_when_due => k_is)
    (case c_calls_when_due => k_is)
    (case k_calls_when_due => k_is)
    (case a_is_due => k_is)
    (case l_is_due => k_is)
    (case c_is_due => k_is)
    (case k_is_due => k_is)
    (case a_places_of => k_is)
    (case l_places_of => k_is)
    (case c_places_of => k_is)
    (case k_places_of => k_is)
    (case a_standing_of => k_is)
    (case l_standing_of => k_is)
    (case c_standing_of => k_is)
    (case k_standing_of => k_is)
    (case a_turned_about => k_is)
    (case l_turned_about => k_is)
    (case c_turned_about => k_is)
    (case k_turned_about => k_is)
    (case a_tied_seats => k_is)
    (case l_tied_seats => k_is)
    (case c_tied_seats => k_is)
    (case k_tied_seats => k_is)
    (case a_people_called => k_is)
    (case l_people_called => k_is)
    (case c_people_called => k_is)
    (case k_people_called => k_is)
    (case a_places_after => k_is)
    (case l_places_after => k_is)
    (case c_places_after => k_is)
    (case k_places_after => k_is)
    (case a_called => k_is)
    (case l_called => k_is)
    (case c_called => k_is)
    (case k_called => k_is)
    (case a_after_rounds => k_is)
    (case l_after_rounds => k_is)
    (case c_after_rounds => k_is)
    (case k_after_rounds => k_is)
    (case a_places_after_rounds => k_is)
    (case l_places_after_rounds => k_is)
    (case c_places_after_rounds => k_is)
    (case k_places_after_rounds => k_is)
    (case a_l_draws => k_is)
    (case l_l_draws => k_is)
    (case c_l_draws => k_is)
    (case k_l_draws => k_is)
    (case a_l_next => k_is)
    (case l_l_next => k_is)
    (case c_l_next => k_is)
    (case k_l_next => k_is)
    (case a_l_mixed => k_is)
    (case l_l_mixed => k_is)
    (case c_l_mixed => k_is)
    (case k_l_mixed => k_is)
    (case a_l_net => k_is)
    (case l_l_net => k_is)
    (case c_l_net => k_is)
    (case k_l_net => k_is)
    (case a_l_near => k_is)
    (case l_l_near => k_is)
    (case c_l_near => k_is)
    (case k_l_near => k_is)
    (case a_l_where => k_is)
    (case l_l_where => k_is)
    (case c_l_where => k_is)
    (case k_l_where => k_is)
    (case a_l_sitting => k_is)
    (case l_l_sitting => k_is)
    (case c_l_sitting => k_is)
    (case k_l_sitting => k_is)
    (case a_l_called => k_is)
    (case l_l_called => k_is)
    (case c_l_called => k_is)
    (case k_l_called => k_is)
    (case a_l_breaks => k_is)
    (case l_l_breaks => k_is)
    (case c_l_breaks => k_is)
    (case k_l_breaks => k_is)
    (case a_l_turned => k_is)
    (case l_l_turned => k_is)
    (case c_l_turned => k_is)
    (case k_l_turned => k_is)
    (case a_l_steps => k_is)
    (case l_l_steps => k_is)
    (case c_l_steps => k_is)
    (case k_l_steps => k_is)
    (case a_l_least => k_is)
    (case l_l_least => k_is)
    (case c_l_least => k_is)
    (case k_l_least => k_is)
    (case a_l_right => k_is)
    (case l_l_right => k_is)
    (case c_l_right => k_is)
    (case k_l_right => k_is)
    (case a_l_leads_right => k_is)
    (case l_l_leads_right => k_is)
    (case c_l_leads_right => k_is)
    (case k_l_leads_right => k_is)
    (case a_l_others => k_is)
    (case l_l_others => k_is)
    (case c_l_others => k_is)
    (case k_l_others => k_is)
    (case a_law => k_is)
    (case l_law => k_is)
    (case c_law => k_is)
    (case k_law => k_is)
    (case q_LEAST_COUNT => k_is)
    (case q_MOST_COUNT => k_is)
    (case z_isinstance => k_is)
    (case z_int => k_is)
    (case z_bool => k_is)
    (case z_set => k_is)
    (case z_enumerate => k_is)
    (case z_list => k_is)
    (case z_len => k_is)
    (case z_tuple => k_is)
    (case z_sorted => k_is)
    (case z_range => k_is)
    (case z_sum => k_is)
    (case z_abs => k_is)
    (case z_zip => k_is)
    (case z_any => k_is)
    (case z_repr => k_is)
    (case y_after_rounds => k_is)

