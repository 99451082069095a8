import PyProof.Rows.All
import Wide.All
import OpenK.AllK
import Wide.FinOn
import HandS.ForMost
import HandS.IsInst
import HandS.AnyAll
import HandS.EndTab
import HandS.EndBits
import HandS.Wide
import HandS.Conv
import HandS.Strs
import PyProof.ListStr
import PyProof.Rows.SetFrom
import HandS.NoneIn
import PySem.Challenge.RW_shifttape_k12_written_and_read
set_option Elab.async false
set_option linter.all false
set_option maxRecDepth 100000
namespace Kt
open PySem PySem.Spec PyProof.Rows L2
/-- one sign as a text -/
def sg (c : Nat) : Str := ⟨#[c]⟩
theorem sg_inj {a b : Nat} (h : sg a = sg b) : a = b := by
  have h1 : (#[a] : Array Nat) = #[b] := congrArg Str.cps h
  simpa using h1
def signs (z : Str) : List Str := z.cps.toList.map sg
/-- the distinct ones, as they come -/
def uqs (l : List Nat) (c : Nat) : List Nat := if c ∈ l then l else l ++ [c]
def uq (l : List Nat) : List Nat := l.foldl uqs []
theorem uq_snoc (l : List Nat) (c : Nat) : uq (l ++ [c]) = uqs (uq l) c := by
  unfold uq; rw [List.foldl_append]; rfl
theorem uq_le (l : List Nat) : (uq l).length ≤ l.length := by
  suffices h : ∀ (r : List Nat) (a : List Nat), (r.foldl uqs a).length ≤ a.length + r.length by
    have := h l []; simpa [uq] using this
  intro r
  induction r with
  | nil => intro a; simp
  | cons x r ih =>
    intro a
    have h1 := ih (uqs a x)
    have h2 : (uqs a x).length ≤ a.length + 1 := by unfold uqs; split <;> simp
    simp only [List.foldl_cons, List.length_cons]; omega
theorem uq_nodup {l : List Nat} (h : l.Nodup) : uq l = l := by
  suffices g : ∀ (r a : List Nat), (a ++ r).Nodup → r.foldl uqs a = a ++ r by
    simpa [uq] using g l [] (by simpa using h)
  intro r
  induction r with
  | nil => intro a _; simp
  | cons x r ih =>
    intro a hn
    have hx : x ∉ a := fun hm => by
      have := List.nodup_append.mp hn
      exact this.2.2 x hm x (by simp) rfl
    have e : uqs a x = a ++ [x] := by unfold uqs; rw [if_neg hx]
    rw [List.foldl_cons, e, ih (a ++ [x]) (by simpa using hn)]; simp

section
variable {X : Cx}
/-- list(s), s a text -/
theorem call_listS (hc : X.calm = true) : CallR X (.type "list") (fun xs H Q => ∃ z : Str, xs = [.str z] ∧ z.length ≤ 1000 ∧ ∀ p, H p = none → Q (.ref p) (upd H p (.lst ((signs z).map V.str)))) := by
  intro pins s σ H xs us Q I r h
  obtain ⟨z, rfl, hz, q⟩ := h
  obtain ⟨u, rfl, ru⟩ := r.one
  obtain ⟨t, rfl⟩ := ru
  have hz2 : z.cps.size ≤ 1000 := hz
  have hln : ((signs z).map V.str).length = z.cps.size := by simp [signs]
  have hbig : (1000 : Nat) ≤ sizeLine := by decide
  refine PySem.call_list_str (hn := Nat.le_trans hz2 hbig) (I.ok.hd hc) z t fun h' tk acc c' hk hS hacc => ?_
  refine ⟨.ref s.heap.objs.size, _, I.laid hk (Nat.le_refl _) (show ObjOk X.prog X.w _ _ _ (.lst ((signs z).map V.str)) from ⟨?_, acc.toList, c', ?_, ?_⟩), rfl, q _ (I.hok.fresh (Nat.le_refl _))⟩
  · rw [hln]; exact Nat.le_trans hz2 hbig
  · refine vals_of_at (by rw [hln, Array.length_toList, hacc.1]) fun j x v h1 h2 => ?_
    obtain ⟨c, k, e1, rfl⟩ := hacc.2 j v (by rw [← Array.getElem?_toList]; exact h2)
    have e2 : ((signs z).map V.str)[j]? = some (.str (sg c)) := by
      simp [signs, e1]
    rw [e2] at h1
    cases h1
    exact ⟨k, rfl⟩
  · rw [Array.toArray_toList]; exact hS
/-- x += y of texts -/
theorem ip_addS : PIp X .Add (fun x y H Q => ∃ i j : Str, x = .str i ∧ y = .str j ∧ i.length + j.length ≤ sizeLine ∧ Q (.str (i ++ j)) H) :=
  fun pins s σ H x y v u Q I r1 r2 h => iop_add_str pins s σ H x y v u Q I r1 r2 h
end

/-! ### len(set(s)), s a text -/
section
variable {prog : Program} {w : World} {A : Around} {R : Result → Shared → Prop} {J : Addr} {fp wr : List Addr} {G : Array GenState → Array GenState → Prop} {St : Nat → Shared → Prop}
/-- what stands in the set behind i signs -/
def InU (prog : Program) (w : World) (h : Heap) (D : Addr) (z : Str) (i : Nat) : Prop :=
  h.SetOf (PySem.strKind prog w) D (fun k => decide (k ∈ (uq (z.cps.toList.take i)).map sg)) (uq (z.cps.toList.take i)).length
theorem InU.at' {h h' : Heap} {D : Addr} {z : Str} {i : Nat} (u : InU prog w h D z i) (k : ∀ o, h.get? D = some o → h'.get? D = some o) : InU prog w h' D z i := by
  obtain ⟨o, es, ep, t, ho, rest⟩ := u
  exact ⟨o, es, ep, t, k o ho, rest⟩
theorem loopSigns {z : Str} (W : WalksS prog w A.in1 J fp wr G z.cps.size (SignAt z) St) (D : Addr) (hD : D ∉ fp) (hz : z.cps.size ≤ 1000) :
    ∀ (k i : Nat) (s : Shared), z.cps.size - i = k → i ≤ z.cps.size → St i s → InU prog w s.heap D z i →
      (∀ s', Moved (D :: wr) G s s' → InU prog w s'.heap D z z.cps.size → R (.ok (.ret .none)) s') →
      codeAny (model prog w) A (.builtin "set.update.loop" ⟨[.ref D, .ref J], []⟩) R s := by
  have out : D ∉ wr := fun q => hD (W.sub _ q)
  have sub : ∀ b ∈ wr, b ∈ D :: wr := fun b hb => List.mem_cons_of_mem _ hb
  intro k
  induction k with
  | zero =>
    intro i s hk hi st u fin
    obtain rfl : i = z.cps.size := by omega
    refine codeAny_builtin PyProof.Rows.F.entry_set_update_loop ?_
    rw [Around.under_plainId PyProof.Rows.F.plain_set_update_loop _]
    refine wpAny_bind (m := pyNext (.ref J)) (W.done s _ _ st fun s' mv => ?_)
    exact wpAny_pure (fin s' (mv.mono sub) (u.at' fun o e => mv.heap D o out e))
  | succ k ih =>
    intro i s hk hi st u fin
    have lt : i < z.cps.size := by omega
    refine codeAny_builtin PyProof.Rows.F.entry_set_update_loop ?_
    rw [Around.under_plainId PyProof.Rows.F.plain_set_update_loop _]
    refine wpAny_bind (m := pyNext (.ref J)) (W.item i s _ _ lt st fun v s' hv st' mv => ?_)
    obtain ⟨c, t, hc, rfl⟩ := hv
    have u1 := u.at' fun o e => mv.heap D o out e
    refine wpAny_bind (m := holding [Value.str (sg c) t] (setAdd D (.str (sg c) t))) (wpAny_holding ?_)
    unfold setAdd
    refine wpAny_holding (wpAny_bind ((PySem.strKind prog w).pyHash (k := sg c) (strKind_is _ _ _ _) ?_))
    have room : (uq (z.cps.toList.take i)).length + 1 < scanBound := by
      have h1 := uq_le (z.cps.toList.take i)
      have h2 : (z.cps.toList.take i).length ≤ i := by rw [List.length_take]; exact Nat.min_le_left _ _
      unfold scanBound; omega
    refine wpAny_setAddHashed_of (knd := PySem.strKind prog w) (s := { s' with toks := s'.toks + 1 }) (strKind_is _ _ _ _) rfl u1 room fun h' sb u2 => ?_
    have u3 : InU prog w h' D z (i + 1) := by
      have e0 : z.cps.toList.take (i + 1) = z.cps.toList.take i ++ [c] := by
        rw [List.take_add_one, Array.getElem?_toList, hc]; rfl
      unfold InU
      rw [e0, uq_snoc]
      refine SetOf_congr u2 (fun q => ?_) ?_
      · unfold uqs
        by_cases hm : c ∈ uq (z.cps.toList.take i)
        · rw [if_pos hm]
          by_cases e : q = sg c
          · subst e
            have : sg c ∈ (uq (z.cps.toList.take i)).map sg := List.mem_map.mpr ⟨c, hm, rfl⟩
            simp [this]
          · simp [e]
        · rw [if_neg hm, List.map_append]
          simp [List.mem_append, Bool.decide_or]
      · unfold uqs
        by_cases hm : c ∈ uq (z.cps.toList.take i)
        · have : sg c ∈ (uq (z.cps.toList.take i)).map sg := List.mem_map.mpr ⟨c, hm, rfl⟩
          rw [if_pos hm, if_pos (decide_eq_true this)]
        · have : ¬ sg c ∈ (uq (z.cps.toList.take i)).map sg := fun h => by
            obtain ⟨d, h1, h2⟩ := List.mem_map.mp h
            rw [sg_inj h2] at h1
            exact hm h1
          rw [if_neg hm, if_neg (by simpa using this), List.length_append]; rfl
    refine wpAny_pure ⟨plainId_quiet PyProof.Rows.F.plain_set_update_loop _, ih (i + 1) _ (by omega) lt (W.frame _ s' _ _ st' (Nat.le_succ _) fun b hb o e => ?_) u3 fun s2 mv2 u4 => ?_⟩
    · exact (sb.2 b (fun q => hD (q ▸ hb))).trans e
    · refine fin s2 (Moved.trans W.gtrans ((mv.mono sub).then_heap (Nat.le_succ _) fun b o hb e => ?_) mv2) u4
      exact (sb.2 b (fun q => hb (q ▸ List.mem_cons_self))).trans e
end
section
variable {prog : Program} {w : World} {A : Around} {E : Value → Shared → Prop} {s : Shared}
set_option maxHeartbeats 3200000 in
theorem call_setS {z : Str} {t : Tok} {Q : Value → Shared → Prop} (hh : A.handled = none) (hz : z.cps.size ≤ 1000)
    (h : ∀ (h' : Heap) (tk : Nat), InU prog w h' s.heap.objs.size z z.cps.size → (∀ b o, b < s.heap.objs.size → s.heap.get? b = some o → h'.get? b = some o) →
      Q (.ref s.heap.objs.size) { s with heap := h', toks := tk }) : wpAny (model prog w) A (call (.type "set") [.str z t]) Q E s := by
  obtain ⟨c, tl, hmro⟩ := PySem.F.called_set.mro
  have q1 := PySem.F.called_set.made
  have q2 := PySem.F.called_set.sub
  refine wpAny_call (codeAny_of_tree ?_)
  show wpAny _ _ (callAny (.type "set") _) _ _ _
  refine wpAny_pure ⟨Code.quiet_builtin _ (by decide +kernel), codeAny_builtin PySem.F.entry_type_call ?_⟩
  rw [Around.under_plain (weight_type_call_type "set" [.str z t] []) rfl]
  have q3 := PySem.F.called_set.notType
  have q4 := PySem.F.called_set.canCreate
  have q5 := PySem.F.typeCall_set_1 (.str z t)
  repeat (any_goals (first | assumption | wp_step))
  refine codeAny_mono (code_set_new_1 (.str z t) (E := E) (Q₁ := fun ob s₁ => ∃ led : Bool, ob = .ref s.heap.objs.size ∧ s₁ = { s with heap := s.heap.push { cls := .type "set", dict := none, data := .set #[] 0 (.fresh 0 0 led) } }) fun led => ⟨led, rfl, rfl⟩) fun r s₁ hr => ?_
  cases r with
  | error e => exact hr
  | ok fl =>
    cases fl with
    | ret ob =>
      obtain ⟨led, rfl, rfl⟩ := hr
      have gS : (s.heap.push { cls := .type "set", dict := none, data := .set #[] 0 (.fresh 0 0 led) }).get? s.heap.objs.size =
          some { cls := .type "set", dict := none, data := .set #[] 0 (.fresh 0 0 led) } := Heap.get?_push_size _ rfl
      have gT : Shared.TypeIs { s with heap := s.heap.push { cls := .type "set", dict := none, data := .set #[] 0 (.fresh 0 0 led) } }
          (.ref s.heap.objs.size) "set" := ⟨_, gS, rfl⟩
      have q6 := PySem.F.called_set.init.lookup
      have q7 := PySem.F.called_set.init.bind (.ref s.heap.objs.size)
      repeat (any_goals (first | assumption | wp_step))
      refine codeAny_mono (codeAny_call_builtin (R := wants (fun r s₂ => r = .none ∧ ∃ h' tk, s₂ = { s with heap := h', toks := tk } ∧ InU prog w h' s.heap.objs.size z z.cps.size ∧
          (∀ b o, b < s.heap.objs.size → s.heap.get? b = some o → h'.get? b = some o)) E) PySem.F.called_set.init.plain PySem.F.entry_set_init (check_set_init_1 gT ?_)) fun r₂ s₂ hr₂ => ?_
      · have q8 := PySem.F.sub_str_set
        have q9 := PySem.F.sub_str_frozenset
        have qa : (Value.type "str" == Value.type "dict") = false := by decide
        unfold Builtin.«set.__init__» noKeywords Builtin.Frozenset.updateFrom
        generalize hPI : pyIter = PI
        wp_walk
        subst hPI
        generalize hso : ({ cls := .type "set", dict := none, data := .set #[] 0 (.fresh 0 0 led) } : Obj) = so at gS ⊢
        refine wpAny_pyIter_str fun o St W hst => ?_
        refine wpAny_bind (wpAny_runValue ?_)
        have sz : (s.heap.push so).objs.size = s.heap.objs.size + 1 := Heap.size_push ..
        have nI : s.heap.objs.size ∉ [(s.heap.push so).objs.size] := by
          rw [sz]; simp only [List.mem_singleton]; exact Nat.ne_of_lt (Nat.lt_succ_self _)
        refine loopSigns (W A.in1.in1.in1 (by simp [hh])).toS s.heap.objs.size nI hz (z.cps.size - 0) 0 _ (by omega) (Nat.zero_le _) hst ?hU ?hR
        case hU =>
          have g2 : ((s.heap.push so).push o).get? s.heap.objs.size = some so := Heap.get?_push_of_some _ gS
          unfold InU
          subst hso
          exact SetOf_congr ((setObjOf_fresh (knd := PySem.strKind prog w) led).setOf g2 (by unfold scanBound; omega)) (fun _ => by simp [uq]) (by simp [uq])
        case hR =>
          intro s' mv u
          obtain ⟨h', g', d', tk', os'⟩ := s'
          obtain rfl : g' = s.gens := mv.gens
          obtain rfl : d' = s.drawn := mv.drawn
          obtain rfl : os' = s.os := mv.os
          show wpAny _ _ _ _ _ _
          refine wpAny_pure ?_
          show wpAny _ _ (ret Value.none) _ _ _
          refine wpAny_pure ⟨rfl, h', tk', rfl, u, fun b o hb e => mv.heap b o (fun hm => ?_) (Heap.get?_push_of_some _ (Heap.get?_push_of_some _ e))⟩
          rcases List.mem_cons.mp hm with e1 | e1
          · exact Nat.ne_of_lt hb e1
          · rw [List.mem_singleton.mp e1, sz] at hb
            omega
      · cases r₂ with
        | error e => exact hr₂
        | ok fl₂ =>
          cases fl₂ with
          | ret r =>
            obtain ⟨rfl, h', tk, rfl, u, hk⟩ := hr₂
            repeat (any_goals (first | assumption | wp_step))
            exact h _ _ u hk
          | _ => exact hr₂.elim
    | _ => exact hr.elim
end
section
variable {X : Cx}
def tLenSetS (ta : TE) : TE := fun σ H Q => ta σ H fun x H1 => ∃ z : Str, x = .str z ∧ z.cps.size ≤ 1000 ∧ Q (.int ((uq z.cps.toList).length : Nat)) H1
theorem pe_lenSetS {a : Expr} {ta : TE} {p p2 q pos : Pos} (hc : X.calm = true) (hg : Gl X "len") (hm : X.mg "len" = none) (hg2 : Gl X "set") (hm2 : X.mg "set" = none) (ha : PE X a ta)
    (na : starEach [a] X.env = (false, eval a X.env) :: starEach [] X.env := by rfl) : PE X (.Call (.Name "len" p) [.Call (.Name "set" p2) [a] [] q] [] pos) (tLenSetS ta) := by
  refine ⟨fun pins s σ H Q I h => ?_⟩
  refine Call_ (ld_blt I hg hm PySem.boot_len ?_)
  refine callWith_builtin1 (args_cons ?_ rfl) rfl rfl
  refine Call_ (ld_blt I hg2 hm2 PyProof.Rows.boot_set ?_)
  refine callWith_type1 (args_cons (thn (ha.run pins s σ H _ I h) fun v s1 k => args_nil ?_) na) na rfl
  obtain ⟨x, H1, I1, r1, z, rfl, hz, q1⟩ := k
  obtain ⟨t, rfl⟩ := r1
  refine call_setS (I1.ok.hd hc) hz fun h' tk u hk => args_nil ?_
  unfold InU at u
  have ef : z.cps.toList.take z.cps.size = z.cps.toList := List.take_of_length_le (by rw [Array.length_toList]; exact Nat.le_refl _)
  rw [ef] at u
  have hl := uq_le z.cps.toList
  rw [Array.length_toList] at hl
  obtain ⟨o, es, ep, tb, ho, hex, hd, _, _, _, hf, hn⟩ := u
  have I2 : Inv X pins σ H1 { s1 with heap := h', toks := tk } := I1.kept fun b o e => hk b o (Heap.lt_size e) e
  exact call_len_set ho hex hd hf (by rw [hn]; exact Int.lt_of_le_of_lt (Int.ofNat_le.mpr (Nat.le_trans hl hz)) (by decide)) ⟨.int ((uq z.cps.toList).length : Nat), H1, I2.tok _, ⟨_, by rw [hn]⟩, q1⟩
end
end Kt
namespace Kt
open PySem PySem.Spec PyProof.Rows L2

/-! ### the test of a sign between two bounds -/
def pbIn (k1 k2 : Str) (c : Nat) : Bool := !decide ([c] < k1.cps.toList) && !decide (k2.cps.toList < [c])
theorem elt_in {prog : Program} {w : World} {scope : Scope} {x k1 k2 : Str} {j1 j2 : Nat} {p0 p1 p2 p3 : Pos} (hk : scope.kind = .function) (hl : scope.names.lookup x = some .local) (hd : (x == ("__debug__" : Str)) = false := by decide) :
    GxR.EltP prog w scope x (.Compare (.Constant (.str k1) j1 p0) [.LtE, .LtE] [.Name x p1, .Constant (.str k2) j2 p2] p3) (pbIn k1 k2) := by
  intro cenv A' E' c t s₂ m₂ hs hn hm
  refine Compare_chain (Calls.Constant_str (chain_link (wpAny_Name (wpAny_loadName_local (by rw [hs]; exact hk) (show cenv.scope.names.lookup x = some .local by rw [hs]; exact hl) ?_ hm ?_) hd))) (by rfl)
  · exact hn
  refine PySem.P.le_str (wpAny_truthy_bool ?_)
  show (if _ then _ else _)
  unfold pbIn
  cases h : decide ([c] < k1.cps.toList) with
  | true =>
    simp only [Bool.not_true, Bool.false_and]
    rw [if_neg Bool.false_ne_true]
    exact ⟨trivial, GxR.keeps_tok _ _⟩
  | false =>
    simp only [Bool.not_false, Bool.true_and]
    rw [if_pos trivial]
    refine chain_last (Calls.Constant_str (PySem.P.le_str ?_))
    exact ⟨rfl, ⟨_, _, rfl, fun _ _ e => e⟩⟩
theorem pbIn_32_126 (c : Nat) : pbIn " " "~" c = decide (32 ≤ c ∧ c ≤ 126) := by
  have e1 : (" " : Str).cps.toList = [32] := by decide
  have e2 : ("~" : Str).cps.toList = [126] := by decide
  unfold pbIn
  rw [e1, e2]
  by_cases h1 : c < 32
  · simp [List.cons_lt_cons_iff, h1]; omega
  · by_cases h2 : 126 < c
    · simp [List.cons_lt_cons_iff, h1, h2]
      try omega
    · simp [List.cons_lt_cons_iff, h1, h2]
      omega

/-! ### what stays, but for a table -/
/-- H' has all of H, the table at P may have grown -/
structure Kp (P : Addr) (H H' : Hp) : Prop where
  tab : GxR.TabG H' P
  at' : ∀ b o, b ≠ P → H b = some o → H' b = some o
theorem Kp.refl {P : Addr} {H : Hp} (t : GxR.TabG H P) : Kp P H H := ⟨t, fun _ _ _ h => h⟩
theorem Kp.trans {P : Addr} {H H1 H2 : Hp} (a : Kp P H H1) (b : Kp P H1 H2) : Kp P H H2 := ⟨b.tab, fun c o n h => b.at' c o n (a.at' c o n h)⟩
theorem Kp.of_tabbed {P : Addr} {H H' : Hp} (t : GxR.Tabbed P H H') : Kp P H H' := ⟨t.1, fun b o n h => by rw [t.2 b n]; exact h⟩
theorem tab_same {P : Addr} {H H' : Hp} (t : GxR.TabG H P) (k : ∀ o, H P = some o → H' P = some o) : GxR.TabG H' P := by
  obtain ⟨ps, h1, h2⟩ := t
  exact ⟨ps, k _ h1, h2⟩
theorem Kp.same {P : Addr} {H H' : Hp} (t : GxR.TabG H P) (s : Same H H') : Kp P H H' := ⟨tab_same t fun o e => s P o e, fun b o _ h => s b o h⟩
theorem tab_ne {P b : Addr} {H : Hp} {o : HO} (t : GxR.TabG H P) (h : H b = some o) (n : ∀ ps, o ≠ .tbl ps) : b ≠ P := fun e => by
  obtain ⟨ps, h1, _⟩ := t
  rw [e, h1] at h
  exact n ps (Option.some.inj h).symm
theorem tab_new {P b : Addr} {H : Hp} (t : GxR.TabG H P) (h : H b = none) : b ≠ P := fun e => by
  obtain ⟨ps, h1, _⟩ := t
  rw [e, h1] at h
  cases h
/-- what is no table stays -/
theorem Kp.get {P b : Addr} {H H' : Hp} {o : HO} (k : Kp P H H') (t : GxR.TabG H P) (h : H b = some o) (n : ∀ ps, o ≠ .tbl ps) : H' b = some o := k.at' b o (tab_ne t h n) h
theorem Kp.new {P b : Addr} {H H' : Hp} (k : Kp P H H') (t : GxR.TabG H P) (h : H' b = none) : H b = none := by
  cases q : H b with
  | none => rfl
  | some o =>
    by_cases e : b = P
    · exact absurd e (tab_new k.tab h)
    · rw [k.at' b o e q] at h
      cases h
theorem Kp.upd {P p : Addr} {H : Hp} {o : HO} (t : GxR.TabG H P) (n : H p = none) : Kp P H (upd H p o) :=
  Kp.same t fun b u e => by rw [upd_ne (ne_of_none e n)]; exact e
theorem same_new {H : Hp} {p : Addr} {o : HO} (h : H p = none) : Same H (upd H p o) := fun b x e => by
  rw [upd_ne (ne_of_none e h)]; exact e
/-- a list, a tuple that is read -/
theorem Kp.seqL {P a : Addr} {K : PySem.W.Frag} {H H' : Hp} {xs : List V} (k : Kp P H H') (t : GxR.TabG H P) (h : SqL K H a xs) : SqL K H' a xs := by
  rcases h with (h | ⟨o, h⟩) | h
  · exact .inl (.inl (k.get t h fun ps e => nomatch e))
  · exact .inl (.inr ⟨o, k.get t h fun ps e => nomatch e⟩)
  · exact .inr h
theorem Kp.seqT {P a : Addr} {K : PySem.W.Frag} {H H' : Hp} {xs : List V} (k : Kp P H H') (t : GxR.TabG H P) (h : SqT K H a xs) : SqT K H' a xs := by
  rcases h with (h | ⟨o, h⟩) | h
  · exact .inl (.inl (k.get t h fun ps e => nomatch e))
  · exact .inl (.inr ⟨o, k.get t h fun ps e => nomatch e⟩)
  · exact .inr h

/-! ### the end: the tables of the text's defs are empty where the law begins -/
theorem end_tab {l : PySem.W.OpenLaw} {n k : Nat} {q : Program} {loose : List Str} {XP : (Str → Option Value) → Heap → Prop} {YP : World → Heap → Prop} {d : DefRec} {K : Params → PySem.W.Frag} {CX : World → CXT} {x : Str}
    (hn : l.most = some n) (hn2 : n ≤ sizeLine) (hdf : d.params.defaults = []) (hr : Room k callerA) (hY : ∀ (w : World) (h : Heap), YP w h → (K w.params).In h)
    (F : ∀ (w : World) (mg : Str → Option Value) (fa : Addr) (h : Heap), YP w h → (K w.params).In h → h.Ns mainGlobals mg → mg d.name = some (.ref fa) →
      (∀ (y : Str) (c P : Addr), ((recsOf q).any fun r => r.name == y) = true → PySem.W.tabIn (K w.params) y = some (c, P) → PySem.W.CodeHd h c P ∧ h.get? P = some (PySem.W.tabObj #[])) →
      LamX.LawAtS l w (K w.params) (CX w) k n x mg fa h)
    (hC : ∀ (w : World) (H : Hp) (s : Shared) (e : Value) (s' : Shared), CX w [] H s (fun _ _ _ => False) e s' → False) :
    PySem.W.WalkO q loose XP YP l.row.toRowW d [] (fun f vs => PySem.call f vs) := by
  refine Att.attach_callB hn hdf fun w s0 s1 mg mb fa ob p1 p2 p3 a vs ns G Y h1 h2 h3 hmg hl hi hlen hbit hgen => ?_
  have KX := hY w _ Y
  have tabs : ∀ (y : Str) (c P : Addr), ((recsOf q).any fun r => r.name == y) = true → PySem.W.tabIn (K w.params) y = some (c, P) → PySem.W.CodeHd s1.heap c P ∧ s1.heap.get? P = some (PySem.W.tabObj #[]) := fun y c P u1 u2 => by
    have u3 : ((recsOf q).find? fun r => r.name == y).isSome = true := by
      rw [List.find?_isSome]
      obtain ⟨r, h1, h2⟩ := List.any_eq_true.mp u1
      exact ⟨r, h1, h2⟩
    obtain ⟨e, he⟩ := Option.isSome_iff_exists.mp u3
    exact PySem.W.tab_of G.T KX he u2
  obtain ⟨fd, cs, sp, t1, t2, t3, t4, t5, t6⟩ := F w mg fa _ Y KX G.T.g hmg tabs
  refine LamX.law_callTs KX G.T.g G.T.b G.T.builtins G.T.nolimit hgen t1 t2 t3 G.T.bmain hl hi (Nat.le_trans hlen hn2) hr t6 t4 (fun H u1 u2 => t5 H a ns hlen hbit u1 u2) ?_
  exact fun H e s' => hC w H s1 e s'
theorem gx_of {base : Heap} {mg : Str → Option Value} {c P : Addr} (t : LamX.TabB base mg c P) : GxR.TabB base mg c P := ⟨t.code, t.bm, t.gP⟩
end Kt
namespace Kt
open PySem PySem.Spec PyProof.Rows L2

/-! ### a def of the text -/
structure Df (K : PySem.W.Frag) (mg : Str → Option Value) (x : Str) (st : Stmt) (ps : List Str) (y : Str := x) where
  f : Addr
  fd : FuncData
  F : Fun K x x st f fd
  b : Binds K fd ps []
  g : mg y = some (.ref f)
/-- its code object is known -/
structure Coded (K : PySem.W.Frag) (x : Str) (st : Stmt) (f : Addr) (fd : FuncData) (c : Addr) : Prop where
  ex : ∃ (oc : Value) (od : Option Addr) (kV doc pm : Value) (an : Option Addr) (ct : Value) (osl : Array (Option Value)),
    fd = PySem.W.fnOf x x (defArgs st) (defBody st) (defScope st) .none kV doc pm an (.ref c) ct ∧ K.lookup f = some ⟨oc, od, .func fd, osl⟩ ∧ PySem.W.codeIn K (.ref c) x = true
section
variable {P : Program} {w : World} {K : PySem.W.Frag} {mg : Str → Option Value} {base : Heap}
theorem Coded.ok {x : Str} {st : Stmt} {f c : Addr} {fd : FuncData} {N ps : List Str} {k : Nat} {sp : Sp} (C : Coded K x st f fd c) (S : FnScope N ps (defScope st)) (len : ∀ vs H Q E, sp vs H Q E → vs.length = ps.length)
    (hb : ∀ (A : Around) (outer : List Env) (s : Shared) (H : Hp) (vs : List V) (Q : VK) (E : XK), Room k (A.deeper (envOfC x (defScope st) s.heap.objs.size f (.ref c))) → sp vs H Q E →
      ∃ t, PSs (cxOf CX0 P w K mg base N x (defScope st) f (.ref c) A outer s H E).nox (defBody st) t ∧
        t { nx := fun _ H' => Q .non H', rt := Q } (start N vs) H) : FnOk P w K mg base CX0 (k + 1) f fd ps sp := by
  obtain ⟨oc, od, kV, doc, pm, an, ct, osl, e, lk, hcd⟩ := C.ex
  subst e
  refine fn_of lk hcd S len fun A outer s H vs Q E room h => ?_
  obtain ⟨t, h1, h2⟩ := hb A outer s H vs Q E room h
  exact ⟨t, h1.nox, h2⟩
end

/-! ### lists of ints compared -/
theorem dpInts (K : PySem.W.Frag) (H : Hp) : ∀ ns : List Int, DpAll K H (ns.map V.int) (ns.map PyData.int)
  | [] => .nil
  | n :: r => .cons (.int n) (dpInts K H r)
theorem eqv_ints (ns ms : List Int) : PyData.eqv (.list (ns.map PyData.int)) (.list (ms.map PyData.int)) = decide (ns = ms) := by
  rw [← PySem.SeqAt.same_eq_eqv _ _ (by simp only [PySem.SeqAt.noMix]; exact PySem.W.noMix_ints ns ms), PySem.Spec.same]
  exact PySem.W.same_ints ns ms
section
variable {X : Cx}
def rEqI (K : PySem.W.Frag) (g : Bool → Bool) : R2 := fun x y H Q => ∃ (a b : Addr) (ns ms : List Int), x = .ref a ∧ y = .ref b ∧ SqL K H a (ns.map V.int) ∧ SqL K H b (ms.map V.int) ∧ Q (.bl (g (decide (ns = ms)))) H
theorem op_eqI (hu : X.A.units + 64 < cLine) : OpR X (compareOp .Eq) (rEqI X.K id) := by
  intro pins s σ H x y v u Q I rx ry h
  obtain ⟨a, b, ns, ms, rfl, rfl, h1, h2, q⟩ := h
  exact op_eqD hu pins s σ H _ _ v u Q I rx ry ⟨_, _, .lst h1 (dpInts _ _ ns), .lst h2 (dpInts _ _ ms), PySem.W.shaped_ints ns, PySem.W.shaped_ints ms, by rw [eqv_ints]; exact q⟩
theorem op_neI (hu : X.A.units + 64 < cLine) : OpR X (compareOp .NotEq) (rEqI X.K not) := by
  intro pins s σ H x y v u Q I rx ry h
  obtain ⟨a, b, ns, ms, rfl, rfl, h1, h2, q⟩ := h
  exact op_neD hu pins s σ H _ _ v u Q I rx ry ⟨_, _, .lst h1 (dpInts _ _ ns), .lst h2 (dpInts _ _ ms), PySem.W.shaped_ints ns, PySem.W.shaped_ints ms, by rw [eqv_ints]; exact q⟩
end

theorem ix_ok {n j : Nat} {z : Int} (e : z = (j : Int)) (h : j < n) : ixN n z = some j := by
  subst e
  unfold ixN
  rw [if_pos (by omega), if_pos (by omega)]
  rfl

theorem at_map {α β : Type} {f : α → β} {xs : List α} {i : Nat} {y : β} (h : (xs.map f)[i]? = some y) : ∃ x, xs[i]? = some x ∧ y = f x := by
  rw [List.getElem?_map] at h
  obtain ⟨x, h1, h2⟩ := Option.map_eq_some_iff.mp h
  exact ⟨x, h1, h2.symm⟩
theorem map_at {α β : Type} {f : α → β} {xs : List α} {i : Nat} {x : α} (h : xs[i]? = some x) : (xs.map f)[i]? = some (f x) := by
  rw [List.getElem?_map, h]; rfl
theorem dec_f {p : Prop} [Decidable p] (h : ¬ p) : V.bl (decide p) = V.bl false := by rw [decide_eq_false h]
theorem dec_t {p : Prop} [Decidable p] (h : p) : V.bl (decide p) = V.bl true := by rw [decide_eq_true h]

/-- the readings of len, list, by the written part alone -/
def rLenQ (K : PySem.W.Frag) : List V → Hp → VK → Prop := fun xs H Q => ∃ p ys, xs = [.ref p] ∧ (SqL K H p ys ∨ SqT K H p ys) ∧ Q (.int ys.length) H

theorem lc_yes {σ : L2.St} {H : Hp} {A B : Hp → Prop} (h : A H) : tYes σ H (fun b H3 => if b = true then A H3 else B H3) := by
  show (if true = true then A H else B H)
  rw [if_pos rfl]
  exact h

theorem perm_erase {α : Type} {x : α} : ∀ {l : List α} {k : Nat}, l[k]? = some x → ([x] ++ l.eraseIdx k).Perm l
  | [], k, h => by simp at h
  | a :: r, 0, h => by
    simp at h; subst h; simp
  | a :: r, k + 1, h => by
    have ih := perm_erase (l := r) (k := k) (by simpa using h)
    rw [List.eraseIdx_cons_succ]
    exact (List.Perm.swap a x _).trans (ih.cons a)
theorem erase_map {α β : Type} (f : α → β) : ∀ (l : List α) (k : Nat), (l.map f).eraseIdx k = (l.eraseIdx k).map f
  | [], k => by simp
  | a :: r, 0 => by simp
  | a :: r, k + 1 => by simp [erase_map f r k]

/-! ### the law's box -/
def BoxAt (H : Hp) (b l : Addr) : Prop := ∃ (ns : List Int) (st : Int), H b = some (.lst [.ref l, .int st]) ∧ H l = some (.lst (ns.map V.int))
theorem BoxAt.ne {H : Hp} {b l : Addr} (x : BoxAt H b l) : b ≠ l := by
  obtain ⟨ns, st, h1, h2⟩ := x
  refine ne_of h1 h2 fun e => ?_
  injection e with e
  cases ns with
  | nil => cases e
  | cons n r => injection e with e _; cases e
/-- the box was drawn from; what else stood, stands -/
structure Bxd (b l : Addr) (H H' : Hp) : Prop where
  box : BoxAt H' b l
  at' : ∀ a o, a ≠ b → a ≠ l → H a = some o → H' a = some o
theorem Bxd.refl {b l : Addr} {H : Hp} (x : BoxAt H b l) : Bxd b l H H := ⟨x, fun _ _ _ _ h => h⟩
theorem Bxd.trans {b l : Addr} {H H1 H2 : Hp} (x : Bxd b l H H1) (y : Bxd b l H1 H2) : Bxd b l H H2 := ⟨y.box, fun a o h1 h2 h => y.at' a o h1 h2 (x.at' a o h1 h2 h)⟩
theorem BoxAt.kp {b l : Addr} {H H' : Hp} (x : BoxAt H b l) (k1 : ∀ o, H b = some o → H' b = some o) (k2 : ∀ o, H l = some o → H' l = some o) : BoxAt H' b l := by
  obtain ⟨ns, st, h1, h2⟩ := x
  exact ⟨ns, st, k1 _ h1, k2 _ h2⟩
theorem BoxAt.same {b l : Addr} {H H' : Hp} (x : BoxAt H b l) (s : Same H H') : BoxAt H' b l := x.kp (fun o => s b o) fun o => s l o
theorem Bxd.same {b l : Addr} {H H' : Hp} (x : BoxAt H b l) (s : Same H H') : Bxd b l H H' := ⟨x.same s, fun a o _ _ h => s a o h⟩
theorem Bxd.new {b l p : Addr} {H H' : Hp} (x : Bxd b l H H') (bx : BoxAt H b l) (h : H' p = none) : H p = none := by
  cases q : H p with
  | none => rfl
  | some o =>
    obtain ⟨ns, st, h1, h2⟩ := x.box
    by_cases e1 : p = b
    · rw [e1, h1] at h; cases h
    · by_cases e2 : p = l
      · rw [e2, h2] at h; cases h
      · rw [x.at' p o e1 e2 q] at h; cases h
/-- a tuple stays, a list of other things too -/
theorem BoxAt.tup {H : Hp} {b l t : Addr} {xs : List V} (x : BoxAt H b l) (h : H t = some (.tup xs)) : t ≠ b ∧ t ≠ l := by
  obtain ⟨ns, st, h1, h2⟩ := x
  exact ⟨ne_of h h1 (fun e => nomatch e), ne_of h h2 (fun e => nomatch e)⟩
theorem Bxd.tup {H H' : Hp} {b l t : Addr} {xs : List V} (x : Bxd b l H H') (bx : BoxAt H b l) (h : H t = some (.tup xs)) : H' t = some (.tup xs) := x.at' t _ (bx.tup h).1 (bx.tup h).2 h
theorem Bxd.tab {H H' : Hp} {b l P : Addr} (x : Bxd b l H H') (bx : BoxAt H b l) (t : GxR.TabG H P) : GxR.TabG H' P := by
  obtain ⟨ps, h1, h2⟩ := t
  obtain ⟨ns, st, q1, q2⟩ := bx
  exact ⟨ps, x.at' P _ (ne_of h1 q1 fun e => nomatch e) (ne_of h1 q2 fun e => nomatch e) h1, h2⟩
theorem BoxAt.kpP {b l P : Addr} {H H' : Hp} (x : BoxAt H b l) (t : GxR.TabG H P) (k : Kp P H H') : BoxAt H' b l := by
  obtain ⟨ns, st, h1, h2⟩ := x
  exact ⟨ns, st, k.get t h1 (fun _ e => nomatch e), k.get t h2 (fun _ e => nomatch e)⟩

/-! ### the promises of the law's own helpers -/
def spTake : Sp := fun vs H Q _ => ∃ (b l : Addr) (m : Int), vs = [.ref b, .int m] ∧ BoxAt H b l ∧ 0 < m ∧ m.natAbs < 2 ^ 250 ∧
  ∀ v H', 0 ≤ v → v < m → Bxd b l H H' → Q (.int v) H'
def spBegun (K : PySem.W.Frag) : Sp := fun vs H Q _ => ∃ (a : Addr) (ns : List Int), vs = [.ref a] ∧ SqL K H a (ns.map V.int) ∧ ns.length ≤ 63 ∧
  ∀ b l H', Same H H' → BoxAt H' b l → H b = none → H l = none → Q (.ref b) H'
def spAlike : Sp := fun vs H Q _ => ((∃ s : Str, vs = [.str s, .str s]) ∨ ∃ i : Int, vs = [.int i, .int i]) ∧ Q (.bl true) H
/-- the list of one-sign texts -/
def sgs (ps : List Nat) : List V := (ps.map sg).map V.str
def spPicked : Sp := fun vs H Q _ => ∃ (b l : Addr) (z : Str) (m : Nat), vs = [.ref b, .str z, .int m] ∧ BoxAt H b l ∧ z.cps.size ≤ 1000 ∧ m ≤ z.cps.size ∧
  ∀ (D : Addr) (ps rest : List Nat) H', (ps ++ rest).Perm z.cps.toList → ps.length = m → Bxd b l H H' → H D = none → H' D = some (.lst (sgs ps)) → Q (.ref D) H'
/-- a sheet that can be -/
structure Good (z o : Str) (hm : V) : Prop where
  len : o.cps.size = z.cps.size
  pos : 1 ≤ z.cps.size
  le : z.cps.size ≤ 26
  nz : z.cps.toList.Nodup
  no : o.cps.toList.Nodup
  pz : ∀ c ∈ z.cps.toList, 32 ≤ c ∧ c ≤ 126
  po : ∀ c ∈ o.cps.toList, 32 ≤ c ∧ c ≤ 126
  home : hm = .non ∨ ∃ h : Nat, hm = .int h ∧ h < z.cps.size
/-- the sheet stands at t -/
def Sh (H : Hp) (t : Addr) (z o : Str) (hm : V) : Prop := H t = some (.tup [.str z, .str o, hm])
def spSheet : Sp := fun vs H Q _ => ∃ (b l : Addr) (most : Nat), vs = [.ref b, .int most] ∧ BoxAt H b l ∧ 1 ≤ most ∧ most ≤ 26 ∧
  ∀ t z o hm H', Good z o hm → z.cps.size ≤ most → Bxd b l H H' → H t = none → Sh H' t z o hm → Q (.ref t) H'
/-- codes of a sheet of n -/
def Codes (n : Nat) (cs : List Int) : Prop := ∀ c ∈ cs, 0 ≤ c ∧ c < (n : Int) + 2
def spTape : Sp := fun vs H Q _ => ∃ (b l t : Addr) (z o : Str) (hm : V) (most : Nat), vs = [.ref b, .ref t, .int most] ∧ BoxAt H b l ∧ Good z o hm ∧ Sh H t z o hm ∧ most ≤ 100 ∧
  ∀ (D : Addr) (cs : List Int) H', cs.length ≤ most → Codes z.cps.size cs → Bxd b l H H' → H D = none → H' D = some (.lst (cs.map V.int)) → Q (.ref D) H'

/-! ### reading -/
def rdStep (z o : Str) (hm : V) (s : Str × Int) (c : Int) : Str × Int :=
  if (z.cps.size : Int) ≤ c then (s.1, c - z.cps.size)
  else (s.1 ++ sg ((if s.2 = 0 then z else o).cps.toList.getD c.toNat 0), if V.int c = hm then 0 else s.2)
def rd (z o : Str) (hm : V) (cs : List Int) (b : Int) : Str × Int := cs.foldl (rdStep z o hm) (Str.ofString "", b)
def Is01 (b : Int) : Prop := b = 0 ∨ b = 1
theorem rd_snoc (z o : Str) (hm : V) (cs : List Int) (b c : Int) : rd z o hm (cs ++ [c]) b = rdStep z o hm (rd z o hm cs b) c := by
  unfold rd; rw [List.foldl_append]; rfl
theorem rd_take {z o : Str} {hm : V} {cs : List Int} {b c : Int} {i : Nat} (h : cs[i]? = some c) : rd z o hm (cs.take (i + 1)) b = rdStep z o hm (rd z o hm (cs.take i) b) c := by
  rw [List.take_add_one, h]; exact rd_snoc ..
theorem sg_len (c : Nat) : (sg c).length = 1 := rfl
theorem rdStep_ok {z o : Str} {hm : V} (s : Str × Int) {c : Int} (h1 : Is01 s.2) (h2 : 0 ≤ c ∧ c < (z.cps.size : Int) + 2) :
    Is01 (rdStep z o hm s c).2 ∧ (rdStep z o hm s c).1.length ≤ s.1.length + 1 := by
  unfold rdStep
  by_cases h : (z.cps.size : Int) ≤ c
  · rw [if_pos h]
    refine ⟨?_, Nat.le_succ _⟩
    show c - z.cps.size = 0 ∨ c - z.cps.size = 1
    omega
  · rw [if_neg h]
    refine ⟨?_, ?_⟩
    · show Is01 (if V.int c = hm then 0 else s.2)
      split
      · exact .inl rfl
      · exact h1
    · show (s.1 ++ sg _).length ≤ _
      rw [Str.length_append, sg_len]; exact Nat.le_refl _
theorem rd_ok {z o : Str} {hm : V} {b : Int} (hb : Is01 b) : ∀ {cs : List Int}, Codes z.cps.size cs → ∀ i, Is01 (rd z o hm (cs.take i) b).2 ∧ (rd z o hm (cs.take i) b).1.length ≤ i := by
  intro cs hc i
  induction i with
  | zero => exact ⟨hb, by rw [List.take_zero]; exact Nat.le_refl _⟩
  | succ i ih =>
    cases h : cs[i]? with
    | none =>
      have e : cs.take (i + 1) = cs.take i := by
        rw [List.take_add_one, h]; simp
      rw [e]; exact ⟨ih.1, Nat.le_succ_of_le ih.2⟩
    | some c =>
      rw [rd_take h]
      have := rdStep_ok (hm := hm) (o := o) (rd z o hm (cs.take i) b) ih.1 (hc c (List.mem_of_getElem? h))
      exact ⟨this.1, Nat.le_trans this.2 (Nat.succ_le_succ ih.2)⟩
/-- the law's own read, and the program's before its checks -/
def spRd (K : PySem.W.Frag) : Sp := fun vs H Q _ => ∃ (t a : Addr) (z o : Str) (hm : V) (cs : List Int) (b : Int), vs = [.ref t, .ref a, .int b] ∧ Good z o hm ∧ Sh H t z o hm ∧ SqL K H a (cs.map V.int) ∧ Codes z.cps.size cs ∧ cs.length ≤ 1000 ∧ Is01 b ∧
  ∀ p H', Same H H' → H p = none → H' p = some (.tup [.str (rd z o hm cs b).1, .int (rd z o hm cs b).2]) → Q (.ref p) H'
end Kt
namespace Kt
open PySem PySem.Spec PyProof.Rows L2
theorem joinL_one : ∀ ps : List Nat, TL.joinL [] (ps.map fun c => [c]) = ps
  | [] => rfl
  | [c] => rfl
  | c :: d :: r => by
    have ih := joinL_one (d :: r)
    show [c] ++ ([] ++ TL.joinL [] ((d :: r).map fun c => [c])) = c :: d :: r
    rw [ih]; rfl
theorem join_sg (ps : List Nat) : Txt.join (Str.ofString "") (ps.map sg) = ⟨ps.toArray⟩ := by
  rw [TL.join_eq]
  have e := TL.tl_join (Str.ofString "") (ps.map sg)
  have e0 : TL.tl (Str.ofString "") = [] := by decide +kernel
  have e1 : (ps.map sg).map TL.tl = ps.map fun c => [c] := by
    rw [List.map_map]; rfl
  rw [e0, e1, joinL_one] at e
  generalize Str.join (Str.ofString "") (ps.map sg) = s at e
  obtain ⟨a⟩ := s
  have e2 : a.toList = ps := e
  rw [← e2]
/-- the signs that a sheet's set is picked from -/
def SOk (s : Str) : Bool := decide (s.cps.toList.Nodup) && s.cps.toList.all (fun c => decide (32 ≤ c) && decide (c ≤ 126)) && decide (26 ≤ s.cps.size) && decide (s.cps.size ≤ 1000)
theorem SOk.elim {s : Str} (h : SOk s = true) : s.cps.toList.Nodup ∧ (∀ c ∈ s.cps.toList, 32 ≤ c ∧ c ≤ 126) ∧ 26 ≤ s.cps.size ∧ s.cps.size ≤ 1000 := by
  unfold SOk at h
  simp only [Bool.and_eq_true, decide_eq_true_eq, List.all_eq_true] at h
  exact ⟨h.1.1.1, h.1.1.2, h.1.2, h.2⟩
theorem picked_ok {s : Str} {ps rest : List Nat} (h : SOk s = true) (p : (ps ++ rest).Perm s.cps.toList) : ps.Nodup ∧ ∀ c ∈ ps, 32 ≤ c ∧ c ≤ 126 := by
  obtain ⟨h1, h2, _⟩ := SOk.elim h
  refine ⟨(List.nodup_append.mp (p.nodup_iff.mpr h1)).1, fun c hc => h2 c (p.mem_iff.mp (List.mem_append_left _ hc))⟩
theorem sgs_len (ps : List Nat) : (sgs ps).length = ps.length := by simp [sgs]
theorem sgs_at {ps : List Nat} {i : Nat} {c : Nat} (h : ps[i]? = some c) : (sgs ps)[i]? = some (.str (sg c)) := map_at (map_at h)
theorem sgs_flat (ps : List Nat) : (sgs ps).all flatV = true := by
  unfold sgs
  rw [List.all_eq_true]
  intro v hv
  obtain ⟨s, _, rfl⟩ := List.mem_map.mp hv
  rfl
theorem sgs_in (c : Nat) (ps : List Nat) : inV (.str (sg c)) (sgs ps) = decide (c ∈ ps) := by
  unfold inV sgs
  rw [Bool.eq_iff_iff, List.any_eq_true, decide_eq_true_eq]
  constructor
  · rintro ⟨v, hv, e⟩
    obtain ⟨s, hs, rfl⟩ := List.mem_map.mp hv
    obtain ⟨d, hd, rfl⟩ := List.mem_map.mp hs
    have e1 : (sg d == sg c) = true := e
    rw [← sg_inj (eq_of_beq e1)]
    exact hd
  · intro h
    refine ⟨.str (sg c), List.mem_map.mpr ⟨_, List.mem_map.mpr ⟨c, h, rfl⟩, rfl⟩, ?_⟩
    show (sg c == sg c) = true
    exact beq_self_eq_true _
theorem sgs_set (ps : List Nat) (i c : Nat) : (sgs ps).set i (.str (sg c)) = sgs (ps.set i c) := by
  unfold sgs; rw [List.map_set, List.map_set]
theorem nodup_set : ∀ {ps : List Nat} {i c : Nat}, ps.Nodup → c ∉ ps → (ps.set i c).Nodup
  | [], _, _, h, _ => h
  | a :: r, 0, c, h, hc => by
    rw [List.set_cons_zero]
    exact List.nodup_cons.mpr ⟨fun m => hc (List.mem_cons_of_mem _ m), (List.nodup_cons.mp h).2⟩
  | a :: r, i + 1, c, h, hc => by
    rw [List.set_cons_succ]
    obtain ⟨h1, h2⟩ := List.nodup_cons.mp h
    refine List.nodup_cons.mpr ⟨fun m => ?_, nodup_set h2 fun m => hc (List.mem_cons_of_mem _ m)⟩
    rcases List.mem_or_eq_of_mem_set m with q | q
    · exact h1 q
    · exact hc (q ▸ List.mem_cons_self)
theorem mem_set_or {α : Type} {ps : List α} {i : Nat} {c d : α} (h : d ∈ ps.set i c) : d ∈ ps ∨ d = c := List.mem_or_eq_of_mem_set h
theorem ix_pick {K : PySem.W.Frag} {H : Hp} {p : Addr} {s0 s1 : Str} {x : Int} {Q : VK} (hx : x = 0 ∨ x = 1) (hs : SqL K H p [.str s0, .str s1]) (k0 : SOk s0 = true) (k1 : SOk s1 = true)
    (h : ∀ s, SOk s = true → Q (.str s) H) : rIxL K (.ref p) (.int x) H Q := by
  rcases hx with e | e <;> rw [e]
  · exact ⟨p, _, 0, _, rfl, rfl, hs, atI_nat (j := 0) rfl, h s0 k0⟩
  · exact ⟨p, _, 1, _, rfl, rfl, hs, atI_nat (j := 1) rfl, h s1 k1⟩
theorem atI_nd {l : List Nat} {c : Int} (h : 0 ≤ c ∧ c < (l.length : Int)) : atI l c = some (l.getD c.toNat 0) := by
  obtain ⟨j, rfl⟩ := Int.eq_ofNat_of_zero_le h.1
  refine atI_nat ?_
  have hj : j < l.length := by omega
  rw [Int.toNat_natCast, List.getD_eq_getElem?_getD, List.getElem?_eq_getElem hj]
  rfl
theorem iteTd {p A B : Prop} [Decidable p] (h : p) (a : A) : if decide p = true then A else B := by rw [if_pos (decide_eq_true h)]; exact a
theorem iteFd {p A B : Prop} [Decidable p] (h : ¬ p) (a : B) : if decide p = true then A else B := by rw [if_neg (by simpa using h)]; exact a
end Kt
namespace Kt
open PySem PySem.Spec PyProof.Rows L2
theorem genS_by {env : Env} {scope : Scope} {x : Str} (h1 : scope.kind = .function) (h2 : scope.isCoroutine = false) (h3 : (scope.names.all fun y => !decide (y.2 = .cell) && !decide (y.2 = .free)) = true)
    (h4 : scope.names.lookup (".0" : Str) = some NameKind.local) (h5 : scope.names.lookup x = some .local) : GxR.GenS env scope x := by
  rw [List.all_eq_true] at h3
  refine ⟨h1, h2, fun y hy e => ?_, h4, h5, fun y hy e => ?_⟩
  · have := h3 y hy; rw [e] at this; simp at this
  · have := h3 y hy; rw [e] at this; simp at this
theorem tabbed_refl {P : Addr} {H : Hp} (t : GxR.TabG H P) : GxR.Tabbed P H H := ⟨t, fun _ _ => rfl⟩
/-- whether all signs are between the blank and the tilde -/
def spSigns (P : Addr) : Sp := fun vs H Q _ => ∃ z : Str, vs = [.str z] ∧ GxR.TabG H P ∧ ∀ H', GxR.Tabbed P H H' → Q (.bl (z.cps.toList.all fun c => decide (32 ≤ c ∧ c ≤ 126))) H'
/-- a set of signs that can be -/
def spCan (P : Addr) : Sp := fun vs H Q _ => ∃ z : Str, vs = [.str z] ∧ z.cps.size ≤ 1000 ∧ z.cps.toList.Nodup ∧ (∀ c ∈ z.cps.toList, 32 ≤ c ∧ c ≤ 126) ∧ GxR.TabG H P ∧ ∀ H', GxR.Tabbed P H H' → Q (.bl true) H'
def spCheckSheet (P : Addr) : Sp := fun vs H Q _ => ∃ (t : Addr) (z o : Str) (hm : V), vs = [.ref t] ∧ Good z o hm ∧ Sh H t z o hm ∧ GxR.TabG H P ∧ ∀ H', Kp P H H' → Q .non H'
def spCheckTape (K : PySem.W.Frag) : Sp := fun vs H Q _ => ∃ (t a : Addr) (z o : Str) (hm : V) (cs : List Int), vs = [.ref t, .ref a] ∧ Good z o hm ∧ Sh H t z o hm ∧ SqL K H a (cs.map V.int) ∧ Codes z.cps.size cs ∧ cs.length ≤ 100 ∧ ∀ H', Same H H' → Q .non H'
def spCheckSet : Sp := fun vs H Q _ => ∃ b : Int, vs = [.int b] ∧ Is01 b ∧ Q .non H
def behind (z : Str) (hm : V) (c nw : Int) : Int := if (z.cps.size : Int) ≤ c then c - z.cps.size else if V.int c = hm then 0 else nw
def spBehind : Sp := fun vs H Q _ => ∃ (t : Addr) (z o : Str) (hm : V) (c nw : Int), vs = [.ref t, .int c, .int nw] ∧ Good z o hm ∧ Sh H t z o hm ∧ Q (.int (behind z hm c nw)) H
def spBegun3 (K : PySem.W.Frag) (P : Addr) : Sp := fun vs H Q _ => ∃ (t a : Addr) (z o : Str) (hm : V) (cs : List Int) (b : Int), vs = [.ref t, .ref a, .int b] ∧ Good z o hm ∧ Sh H t z o hm ∧ SqL K H a (cs.map V.int) ∧ Codes z.cps.size cs ∧ cs.length ≤ 100 ∧ Is01 b ∧ GxR.TabG H P ∧
  ∀ H', Kp P H H' → Q .non H'
def spRead (K : PySem.W.Frag) (P : Addr) (last : Bool) : Sp := fun vs H Q _ => ∃ (t a : Addr) (z o : Str) (hm : V) (cs : List Int) (b : Int), vs = [.ref t, .ref a, .int b] ∧ Good z o hm ∧ Sh H t z o hm ∧ SqL K H a (cs.map V.int) ∧ Codes z.cps.size cs ∧ cs.length ≤ 100 ∧ Is01 b ∧ GxR.TabG H P ∧
  ∀ H', Kp P H H' → Q (if last then .int (rd z o hm cs b).2 else .str (rd z o hm cs b).1) H'
theorem rdStep_snd (z o : Str) (hm : V) (s : Str × Int) (c : Int) : (rdStep z o hm s c).2 = behind z hm c s.2 := by
  unfold rdStep behind
  by_cases h : (z.cps.size : Int) ≤ c
  · rw [if_pos h, if_pos h]
  · rw [if_neg h, if_neg h]
theorem tabIn_of {K : PySem.W.Frag} {x : Str} {f c P : Addr} {oc oc' : Value} {od od' : Option Addr} {fd : FuncData} {sl sl' : Array (Option Value)} {vs : Array Value} (a : PySem.W.nsIn K mainGlobals x = some (some (.ref f)))
    (l : K.lookup f = some ⟨oc, od, .func fd, sl⟩) (hc : fd.code = .ref c) (lc : K.lookup c = some ⟨oc', od', .fields vs, sl'⟩) (hv : (vs[11]? : Option Value) = some (.ref P)) : PySem.W.tabIn K x = some (c, P) := by
  unfold PySem.W.tabIn
  rw [a]
  simp only [l, hc, lc, hv]
end Kt
namespace Kt
open PySem PySem.Spec PyProof.Rows L2
/-! ### alike, at any depth -/
/-- the same data stand at both, to a depth -/
inductive Al (H : Hp) : Nat → V → V → Prop
  | non (n : Nat) : Al H n .non .non
  | bl (n : Nat) (b : Bool) : Al H n (.bl b) (.bl b)
  | int (n : Nat) (i : Int) : Al H n (.int i) (.int i)
  | str (n : Nat) (s : Str) : Al H n (.str s) (.str s)
  | lst {n : Nat} {a b : Addr} {xs ys : List V} (ha : H a = some (.lst xs)) (hb : H b = some (.lst ys)) (hl : xs.length = ys.length) (hz : xs.length ≤ 1000) (h : ∀ (i : Nat) (x y : V), xs[i]? = some x → ys[i]? = some y → Al H n x y) : Al H (n + 1) (.ref a) (.ref b)
  | tup {n : Nat} {a b : Addr} {xs ys : List V} (ha : H a = some (.tup xs)) (hb : H b = some (.tup ys)) (hl : xs.length = ys.length) (hz : xs.length ≤ 1000) (h : ∀ (i : Nat) (x y : V), xs[i]? = some x → ys[i]? = some y → Al H n x y) : Al H (n + 1) (.ref a) (.ref b)
def spAl (n : Nat) : Sp := fun vs H Q _ => ∃ a b, vs = [a, b] ∧ Al H n a b ∧ Q (.bl true) H
theorem Al.ints {H : Hp} {n : Nat} {a b : Addr} {ns : List Int} (ha : H a = some (.lst (ns.map V.int))) (hb : H b = some (.lst (ns.map V.int))) (hz : ns.length ≤ 1000) : Al H (n + 1) (.ref a) (.ref b) :=
  .lst ha hb rfl (by rw [List.length_map]; exact hz) fun i x y h1 h2 => by
    obtain ⟨k, _, rfl⟩ := at_map h1
    rw [h1] at h2
    cases h2
    exact .int n k
/-! ### the tables of the text -/
structure TWs where
  gs : List Addr
  ls : List (Addr × Str)
structure Tb (W : TWs) (H : Hp) : Prop where
  g : ∀ P ∈ W.gs, GxR.TabG H P
  l : ∀ p ∈ W.ls, LamX.TabS H p.1 p.2
/-- all but the tables stays -/
structure Kz (W : TWs) (H H' : Hp) : Prop where
  tb : Tb W H'
  at' : ∀ b o, (∀ ps, o ≠ .tbl ps) → H b = some o → H' b = some o
  nn : ∀ b, H' b = none → H b = none
section
variable {W : TWs} {H H1 H' : Hp}
theorem Kz.refl (t : Tb W H) : Kz W H H := ⟨t, fun _ _ _ h => h, fun _ h => h⟩
theorem Kz.trans (a : Kz W H H1) (b : Kz W H1 H') : Kz W H H' := ⟨b.tb, fun c o n h => b.at' c o n (a.at' c o n h), fun c h => a.nn c (b.nn c h)⟩
theorem tabS_same {P : Addr} {q : Str} (t : LamX.TabS H P q) (s : Same H H') : LamX.TabS H' P q := t.ext s
theorem Tb.same (t : Tb W H) (s : Same H H') : Tb W H' := ⟨fun P h => tab_same (t.g P h) fun o e => s _ o e, fun p h => tabS_same (t.l p h) s⟩
theorem Kz.same (t : Tb W H) (s : Same H H') : Kz W H H' := ⟨t.same s, fun b o _ h => s b o h, fun b h => s.free h⟩
theorem Kz.lst {a : Addr} {xs : List V} (k : Kz W H H') (h : H a = some (.lst xs)) : H' a = some (.lst xs) := k.at' a _ (fun _ e => nomatch e) h
theorem Kz.tup {a : Addr} {xs : List V} (k : Kz W H H') (h : H a = some (.tup xs)) : H' a = some (.tup xs) := k.at' a _ (fun _ e => nomatch e) h
theorem Kz.sh {t : Addr} {z o : Str} {hm : V} (k : Kz W H H') (h : Sh H t z o hm) : Sh H' t z o hm := k.tup h
theorem Kz.seqL {a : Addr} {K : PySem.W.Frag} {xs : List V} (k : Kz W H H') (h : SqL K H a xs) : SqL K H' a xs := by
  rcases h with (h | ⟨o, h⟩) | h
  · exact .inl (.inl (k.at' _ _ (fun ps e => nomatch e) h))
  · exact .inl (.inr ⟨o, k.at' _ _ (fun ps e => nomatch e) h⟩)
  · exact .inr h
theorem Kz.seqT {a : Addr} {K : PySem.W.Frag} {xs : List V} (k : Kz W H H') (h : SqT K H a xs) : SqT K H' a xs := by
  rcases h with (h | ⟨o, h⟩) | h
  · exact .inl (.inl (k.at' _ _ (fun ps e => nomatch e) h))
  · exact .inl (.inr ⟨o, k.at' _ _ (fun ps e => nomatch e) h⟩)
  · exact .inr h
theorem BoxAt.kz {b l : Addr} (x : BoxAt H b l) (k : Kz W H H') : BoxAt H' b l := by
  obtain ⟨ns, st, h1, h2⟩ := x
  exact ⟨ns, st, k.lst h1, k.lst h2⟩
theorem tab_kept {P P' : Addr} (t : GxR.TabG H P) (t' : GxR.TabG H P') (k : Kp P' H H') : GxR.TabG H' P := by
  by_cases e : P = P'
  · rw [e]; exact k.tab
  · exact tab_same t fun o h => k.at' P o e h
theorem tabS_kept {P P' : Addr} {q : Str} (t : LamX.TabS H P q) (t' : GxR.TabG H P') (ne : P ≠ P') (k : Kp P' H H') : LamX.TabS H' P q := by
  obtain ⟨ps, h1, h2, h3⟩ := t
  refine ⟨ps, k.at' _ _ ne h1, h2, fun pos cv hc => ?_⟩
  obtain ⟨c, e1, e2⟩ := h3 pos cv hc
  exact ⟨c, e1, k.get t' e2 fun ps => LamX.codeO_ne ps⟩
/-- a call that may have grown one generator's table -/
theorem Kz.kp {P : Addr} (t : Tb W H) (hP : P ∈ W.gs) (ne : ∀ p ∈ W.ls, p.1 ≠ P) (k : Kp P H H') : Kz W H H' :=
  ⟨⟨fun P' h => tab_kept (t.g P' h) (t.g P hP) k, fun p h => tabS_kept (t.l p h) (t.g P hP) (ne p h) k⟩, fun b o n h => k.get (t.g P hP) h n, fun b h => k.new (t.g P hP) h⟩
theorem Bxd.tb {b l : Addr} (x : Bxd b l H H') (bx : BoxAt H b l) (t : Tb W H) : Tb W H' := by
  refine ⟨fun P h => x.tab bx (t.g P h), fun p h => ?_⟩
  obtain ⟨ps, h1, h2, h3⟩ := t.l p h
  obtain ⟨ns, st, q1, q2⟩ := bx
  have st : ∀ c (o : HO), (∀ us, o ≠ .lst us) → H c = some o → H' c = some o := fun c o n e => x.at' c o (ne_of e q1 (n _)) (ne_of e q2 (n _)) e
  refine ⟨ps, st _ _ (fun _ e => nomatch e) h1, h2, fun pos cv hc => ?_⟩
  obtain ⟨c, e1, e2⟩ := h3 pos cv hc
  exact ⟨c, e1, st _ _ (fun us e => by unfold LamX.CodeO at e; cases e) e2⟩
theorem Al.mono {n : Nat} {x y : V} (k : ∀ a o, (∀ ps, o ≠ .tbl ps) → H a = some o → H' a = some o) (h : Al H n x y) : Al H' n x y := by
  induction h with
  | non n => exact .non n
  | bl n b => exact .bl n b
  | int n i => exact .int n i
  | str n s => exact .str n s
  | lst ha hb hl hz _ ih => exact .lst (k _ _ (fun _ e => nomatch e) ha) (k _ _ (fun _ e => nomatch e) hb) hl hz ih
  | tup ha hb hl hz _ ih => exact .tup (k _ _ (fun _ e => nomatch e) ha) (k _ _ (fun _ e => nomatch e) hb) hl hz ih
end
end Kt
namespace Kt
open PySem PySem.Spec PyProof.Rows L2
/-! ### sheets as texts -/
def nl : Str := Str.ofString "\n"
def homeT : V → Str
  | .int i => Str.ofString (toString i)
  | _ => Str.ofString "-"
def sheetT (z o : Str) (hm : V) : Str := Txt.join nl [z, o, homeT hm]
def figs (x : Str) : Bool := x.cps.toList.all fun c => decide (48 ≤ c ∧ c ≤ 57)
/-- one or two figures without a needless 0 -/
def figOk (x : Str) : Bool := decide (1 ≤ x.cps.size ∧ x.cps.size ≤ 2) && !(decide (x.cps.size = 2) && decide (x.cps.toList.getD 0 0 = 48)) && figs x
def signsOk (x : Str) : Bool := x.cps.toList.all fun c => decide (32 ≤ c ∧ c ≤ 126)
def goodRow (n : Int) (x : Str) : Bool := if n < 2 then signsOk x else decide (n = 2) && (decide (x = Str.ofString "-") || figOk x)
theorem pbIn_fig (c : Nat) : pbIn "0" "9" c = decide (48 ≤ c ∧ c ≤ 57) := by
  have e1 : ("0" : Str).cps.toList = [48] := by decide
  have e2 : ("9" : Str).cps.toList = [57] := by decide
  unfold pbIn
  rw [e1, e2]
  by_cases h1 : c < 48
  · simp [List.cons_lt_cons_iff, h1]; omega
  · by_cases h2 : 57 < c
    · simp [List.cons_lt_cons_iff, h1, h2]
      try omega
    · simp [List.cons_lt_cons_iff, h1, h2]
      omega
theorem home_all : ∀ h : Fin 26, goodRow 2 (homeT (.int (h.val : Nat))) = true ∧ (homeT (.int (h.val : Nat))).cps.size ≤ 2 ∧ 10 ∉ TL.tl (homeT (.int (h.val : Nat))) ∧ homeT (.int (h.val : Nat)) ≠ Str.ofString "-" ∧ PySem.intText? (homeT (.int (h.val : Nat))) = some ((h.val : Nat) : Int) ∧
    ((h.val : Nat) : Int).natAbs.log2 < 1920 := by decide +kernel
theorem home_non : goodRow 2 (homeT .non) = true ∧ (homeT .non).cps.size ≤ 2 ∧ 10 ∉ TL.tl (homeT .non) := by decide +kernel
structure HomeOk (hm : V) : Prop where
  row : goodRow 2 (homeT hm) = true
  sz : (homeT hm).cps.size ≤ 2
  nl : 10 ∉ TL.tl (homeT hm)
theorem Good.homeOk {z o : Str} {hm : V} (g : Good z o hm) : HomeOk hm := by
  rcases g.home with e | ⟨h, e, lt⟩ <;> subst e
  · exact ⟨home_non.1, home_non.2.1, home_non.2.2⟩
  · have k := home_all ⟨h, Nat.lt_of_lt_of_le lt g.le⟩
    exact ⟨k.1, k.2.1, k.2.2.1⟩
theorem nl_tl : TL.tl nl = [10] := by decide +kernel
theorem Good.split {z o : Str} {hm : V} (g : Good z o hm) : Txt.split (sheetT z o hm) nl = [z, o, homeT hm] := by
  refine TL.split_join (s := 10) (S := []) nl_tl (by decide +kernel) (by simp) fun p hp => ?_
  rcases List.mem_cons.mp hp with e | hp
  · rw [e]; exact fun h => by have := g.pz 10 h; omega
  · rcases List.mem_cons.mp hp with e | hp
    · rw [e]; exact fun h => by have := g.po 10 h; omega
    · rw [List.mem_singleton.mp hp]; exact g.homeOk.nl
theorem sheetT_eq (z o : Str) (hm : V) : z ++ nl ++ o ++ nl ++ homeT hm = sheetT z o hm := by
  unfold sheetT
  rw [TL.join_eq]
  have e := TL.tl_join nl [z, o, homeT hm]
  have e2 : TL.tl (z ++ nl ++ o ++ nl ++ homeT hm) = TL.joinL (TL.tl nl) ([z, o, homeT hm].map TL.tl) := by
    simp only [TL.tl_append, List.map_cons, List.map_nil, TL.joinL, List.append_assoc]
  have e3 := e2.trans e.symm
  generalize z ++ nl ++ o ++ nl ++ homeT hm = a at e3
  generalize Str.join nl [z, o, homeT hm] = b at e3
  obtain ⟨a⟩ := a
  obtain ⟨b⟩ := b
  have e4 : a.toList = b.toList := e3
  rw [Array.toList_inj.mp e4]
theorem sheetT_len {z o : Str} {hm : V} (g : Good z o hm) : (sheetT z o hm).length ≤ 60 := by
  rw [← sheetT_eq]
  have a := g.le
  have b := g.len
  have c := g.homeOk.sz
  have e : nl.length = 1 := by decide +kernel
  simp only [Str.length_append, e]
  show z.cps.size + 1 + o.cps.size + 1 + (homeT hm).cps.size ≤ 60
  omega
def spWritten (P : Addr) : Sp := fun vs H Q _ => ∃ (t : Addr) (z o : Str) (hm : V), vs = [.ref t] ∧ Good z o hm ∧ Sh H t z o hm ∧ GxR.TabG H P ∧ ∀ H', Kp P H H' → Q (.str (sheetT z o hm)) H'
def spFigures (P : Addr) : Sp := fun vs H Q _ => ∃ x : Str, vs = [.str x] ∧ x.cps.size ≤ 100000 ∧ GxR.TabG H P ∧ ∀ H', GxR.Tabbed P H H' → Q (.bl (figOk x)) H'
def spIsGood (P1 P3 : Addr) : Sp := fun vs H Q _ => ∃ (n : Int) (x : Str), vs = [.int n, .str x] ∧ x.cps.size ≤ 100000 ∧ GxR.TabG H P1 ∧ GxR.TabG H P3 ∧ ∀ H', (GxR.Tabbed P1 H H' ∨ GxR.Tabbed P3 H H') → Q (.bl (goodRow n x)) H'
def spRowsOk (K : PySem.W.Frag) (W : TWs) : Sp := fun vs H Q _ => ∃ (a : Addr) (r0 r1 r2 : Str), vs = [.ref a] ∧ SqL K H a [.str r0, .str r1, .str r2] ∧ signsOk r0 = true ∧ signsOk r1 = true ∧ goodRow 2 r2 = true ∧ r0.cps.size ≤ 1000 ∧ r1.cps.size ≤ 1000 ∧ r2.cps.size ≤ 1000 ∧ Tb W H ∧ ∀ H', Kz W H H' → Q .non H'
def spReadSheet (W : TWs) : Sp := fun vs H Q _ => ∃ (z o : Str) (hm : V), vs = [.str (sheetT z o hm)] ∧ Good z o hm ∧ Tb W H ∧ ∀ t H', Kz W H H' → H t = none → Sh H' t z o hm → Q (.ref t) H'
theorem Good.signs {z o : Str} {hm : V} (g : Good z o hm) : signsOk z = true ∧ signsOk o = true :=
  ⟨List.all_eq_true.mpr fun c hc => decide_eq_true (g.pz c hc), List.all_eq_true.mpr fun c hc => decide_eq_true (g.po c hc)⟩
end Kt
namespace K12
open PySem PySem.Spec PyProof.Rows L2
def topS (i : Nat) : Stmt := PySem.Challenge.pw_shifttape_k12_written_and_read.main.body.getD i (.Pass ⟨0, 0, 0, 0⟩)
abbrev s_are_signs : Stmt := topS 6
theorem sc_are_signs : FnScope ["signs"] ["signs"] (defScope s_are_signs) := ⟨rfl, rfl, rfl, by decide +kernel, rfl, by decide +kernel, by decide +kernel⟩
abbrev s_can_be_a_set : Stmt := topS 7
theorem sc_can_be_a_set : FnScope ["signs"] ["signs"] (defScope s_can_be_a_set) := ⟨rfl, rfl, rfl, by decide +kernel, rfl, by decide +kernel, by decide +kernel⟩
abbrev s_check_sheet : Stmt := topS 8
theorem sc_check_sheet : FnScope ["sheet", "zero", "one", "home"] ["sheet"] (defScope s_check_sheet) := ⟨rfl, rfl, rfl, by decide +kernel, rfl, by decide +kernel, by decide +kernel⟩
abbrev s_written : Stmt := topS 12
theorem sc_written : FnScope ["sheet", "zero", "one", "home", "last"] ["sheet"] (defScope s_written) := ⟨rfl, rfl, rfl, by decide +kernel, rfl, by decide +kernel, by decide +kernel⟩
abbrev s_are_figures : Stmt := topS 13
theorem sc_are_figures : FnScope ["row"] ["row"] (defScope s_are_figures) := ⟨rfl, rfl, rfl, by decide +kernel, rfl, by decide +kernel, by decide +kernel⟩
abbrev s_is_good : Stmt := topS 14
theorem sc_is_good : FnScope ["number", "row"] ["number", "row"] (defScope s_is_good) := ⟨rfl, rfl, rfl, by decide +kernel, rfl, by decide +kernel, by decide +kernel⟩
abbrev s_check_rows : Stmt := topS 15
theorem sc_check_rows : FnScope ["rows", "number", "row"] ["rows"] (defScope s_check_rows) := ⟨rfl, rfl, rfl, by decide +kernel, rfl, by decide +kernel, by decide +kernel⟩
abbrev s_read_sheet : Stmt := topS 16
theorem sc_read_sheet : FnScope ["text", "rows", "zero", "one", "last", "sheet"] ["text"] (defScope s_read_sheet) := ⟨rfl, rfl, rfl, by decide +kernel, rfl, by decide +kernel, by decide +kernel⟩
abbrev s_l_begun : Stmt := topS 18
theorem sc_l_begun : FnScope ["_law_script", "_law_stirred", "_law_cell"] ["_law_script"] (defScope s_l_begun) := ⟨rfl, rfl, rfl, by decide +kernel, rfl, by decide +kernel, by decide +kernel⟩
abbrev s_l_take : Stmt := topS 19
theorem sc_l_take : FnScope ["_law_box", "_law_many", "_law_number"] ["_law_box", "_law_many"] (defScope s_l_take) := ⟨rfl, rfl, rfl, by decide +kernel, rfl, by decide +kernel, by decide +kernel⟩
abbrev s_l_alike : Stmt := topS 20
theorem sc_l_alike : FnScope ["_law_found", "_law_due", "_law_k"] ["_law_found", "_law_due"] (defScope s_l_alike) := ⟨rfl, rfl, rfl, by decide +kernel, rfl, by decide +kernel, by decide +kernel⟩
abbrev s_l_picked : Stmt := topS 21
theorem sc_l_picked : FnScope ["_law_box", "_law_signs", "_law_many", "_law_left", "_law_turn"] ["_law_box", "_law_signs", "_law_many"] (defScope s_l_picked) := ⟨rfl, rfl, rfl, by decide +kernel, rfl, by decide +kernel, by decide +kernel⟩
abbrev s_l_sheet : Stmt := topS 22
theorem sc_l_sheet : FnScope ["_law_box", "_law_most", "_law_many", "_law_every", "_law_often", "_law_zero", "_law_one", "_law_place", "_law_home"] ["_law_box", "_law_most"] (defScope s_l_sheet) := ⟨rfl, rfl, rfl, by decide +kernel, rfl, by decide +kernel, by decide +kernel⟩
abbrev s_law : Stmt := topS 25
theorem sc_law : FnScope ["_law_script", "_law_box", "_law_sheets", "_law_zero", "_law_one", "_law_home", "_law_text_here"] ["_law_script"] (defScope s_law) := ⟨rfl, rfl, rfl, by decide +kernel, rfl, by decide +kernel, by decide +kernel⟩
/-- what the top has written -/
structure Txt (K : PySem.W.Frag) (mg : Str → Option Value) where
  d_are_signs : Kt.Df K mg "are_signs" s_are_signs ["signs"]
  d_can_be_a_set : Kt.Df K mg "_can_be_a_set" s_can_be_a_set ["signs"]
  d_check_sheet : Kt.Df K mg "check_sheet" s_check_sheet ["sheet"]
  d_written : Kt.Df K mg "written" s_written ["sheet"]
  d_are_figures : Kt.Df K mg "_are_figures" s_are_figures ["row"]
  d_is_good : Kt.Df K mg "_is_good" s_is_good ["number", "row"]
  d_check_rows : Kt.Df K mg "_check_rows" s_check_rows ["rows"]
  d_read_sheet : Kt.Df K mg "read_sheet" s_read_sheet ["text"]
  d_l_begun : Kt.Df K mg "_law_begun" s_l_begun ["_law_script"]
  d_l_take : Kt.Df K mg "_law_take" s_l_take ["_law_box", "_law_many"]
  d_l_alike : Kt.Df K mg "_law_alike" s_l_alike ["_law_found", "_law_due"]
  d_l_picked : Kt.Df K mg "_law_picked" s_l_picked ["_law_box", "_law_signs", "_law_many"]
  d_l_sheet : Kt.Df K mg "_law_sheet" s_l_sheet ["_law_box", "_law_most"]
  d_law : Kt.Df K mg "law" s_law ["_law_script"]
  n_all : mg "all" = none
  n_bool : mg "bool" = none
  n_enumerate : mg "enumerate" = none
  n_int : mg "int" = none
  n_isinstance : mg "isinstance" = none
  n_len : mg "len" = none
  n_list : mg "list" = none
  n_range : mg "range" = none
  n_set : mg "set" = none
  n_str : mg "str" = none
  n_tuple : mg "tuple" = none
  c_MOST_PLACES : ∃ t, mg "MOST_PLACES" = some (.int 26 t)
  c_NO_HOME : ∃ t, mg "NO_HOME" = some (.str "-" t)
  c_ROWS : ∃ t, mg "ROWS" = some (.int 3 t)
  c_are_signs : Addr
  t_are_signs : Addr
  k_are_signs : Kt.Coded K "are_signs" s_are_signs d_are_signs.f d_are_signs.fd c_are_signs
  c_are_figures : Addr
  t_are_figures : Addr
  k_are_figures : Kt.Coded K "_are_figures" s_are_figures d_are_figures.f d_are_figures.fd c_are_figures
end K12
namespace K12
open PySem PySem.Spec PyProof.Rows L2 Kt
section
variable {P : Program} {w : World} {K : PySem.W.Frag} {mg : Str → Option Value} {base : Heap}
theorem ok_l_take (T : Txt K mg) : FnOk P w K mg base CX0 1 T.d_l_take.f T.d_l_take.fd ["_law_box", "_law_many"] spTake := by
  refine T.d_l_take.F.ok sc_l_take (fun vs H Q E h => ?_) (fun cdv A outer s H vs Q E hr h => ?_)
  · obtain ⟨b, l, m, rfl, _⟩ := h
    rfl
  · obtain ⟨b, l, m, rfl, bx, m0, m9, q⟩ := h
    have nbl := bx.ne
    obtain ⟨ns, st, h1, h2⟩ := bx
    refine ⟨_, (pss_cons (ps_if (pt_cmpR (Kt.op_eqI hr.units) (pe_ix ix_list (pv 0) pe_int (fun _ _ => rfl)) (pe_lst pa_nil) (nomark _))
  (pss_cons (ps_asg (pe_op op_mod (pe_op op_mul (pe_ix ix_list (pv 0) pe_int (fun _ _ => rfl)) pe_int) pe_int) (pg_sub (pv 0) pe_int set_list))
  (pss_one (ps_ret (pe_op op_mod (pe_op op_fdivW (pe_ix ix_list (pv 0) pe_int (fun _ _ => rfl)) pe_int) (pv 1)))))
  pss_nil)
  (pss_cons (ps_set (i := 2) sc_l_take.nd rfl (.inl rfl) (pe_ix ix_list (pe_ix ix_list (pv 0) pe_int (fun _ _ => rfl)) pe_int (fun _ _ => rfl)))
  (pss_cons (ps_asg (pe_op op_fdivW (pv 2) (pv 1)) (pg_sub (pe_ix ix_list (pv 0) pe_int (fun _ _ => rfl)) pe_int set_list))
  (pss_cons (ps_if (PW.pt (pw_or (pt_cmpR op_eq (pe_ix ix_list (pe_ix ix_list (pv 0) pe_int (fun _ _ => rfl)) pe_int (fun _ _ => rfl)) pe_int (nomark _)) (pw_or1 (pt_cmpR op_eq (pe_ix ix_list (pe_ix ix_list (pv 0) pe_int (fun _ _ => rfl)) pe_int (fun _ _ => rfl)) (pe_un un_neg pe_int) (nomark _)))))
  (pss_one (ps_expr (pe_bm PySem.F.plainAttrs_list PySem.F.slot_list_pop PySem.F.type_list_pop mt_popAt (pe_ix ix_list (pv 0) pe_int (fun _ _ => rfl)) (pa_cons pe_int pa_nil))))
  pss_nil)
  (pss_one (ps_ret (pe_op op_mod (pv 2) (pv 1)))))))), ?_⟩
    -- if box[0] == []
    refine ⟨.ref b, rfl, b, _, 0, .ref l, rfl, rfl, SqL.of h1, atI_nat (j := 0) rfl, Nat.zero_le _, fun p np => ?_⟩
    have nb : b ≠ p := ne_of_none h1 np
    have nl : l ≠ p := ne_of_none h2 np
    have g1 : upd H p (.lst []) b = some (.lst [.ref l, .int st]) := by rw [upd_ne nb]; exact h1
    have g2 : upd H p (.lst []) l = some (.lst (ns.map V.int)) := by rw [upd_ne nl]; exact h2
    have keep : ∀ a o, H a = some o → upd H p (.lst []) a = some o := fun a o e => by rw [upd_ne (ne_of_none e np)]; exact e
    refine ⟨l, p, ns, [], rfl, rfl, SqL.of g2, SqL.of upd_same, _, rfl, ?_⟩
    generalize upd H p (.lst []) = H1 at g1 g2 keep
    cases ns with
    | nil =>
      refine iteT ?_
      -- box[1] = box[1] * 48271 % 2147483647
      refine ⟨.ref b, rfl, b, _, 1, .int st, rfl, rfl, SqL.of g1, atI_nat (j := 1) rfl, st, 48271, rfl, rfl, .inr ⟨by decide, by decide⟩, _, 2147483647, rfl, rfl, (by show (0 : Int) < 2147483647; decide), ?_⟩
      refine ⟨.ref b, rfl, b, _, 1, 1, rfl, rfl, g1, rfl, ?_⟩
      -- return box[1] // 7 % many
      refine ⟨.ref b, rfl, b, _, 1, _, rfl, rfl, SqL.of upd_same, atI_nat (j := 1) rfl, _, 7, rfl, rfl, ⟨by decide, by decide⟩, .int m, rfl, _, m, rfl, rfl, m0, ?_⟩
      refine q _ _ (Int.emod_nonneg _ (by omega)) (Int.emod_lt_of_pos _ m0) ⟨⟨[], _, upd_same, by rw [upd_ne nbl.symm]; exact g2⟩, fun a o e1 e2 e => by rw [upd_ne e1]; exact keep a o e⟩
    | cons n r =>
      refine iteF ?_
      -- number = box[0][0]
      refine ⟨.ref b, rfl, b, _, 0, .ref l, rfl, rfl, SqL.of g1, atI_nat (j := 0) rfl, l, _, 0, .int n, rfl, rfl, SqL.of g2, atI_nat (j := 0) rfl, ?_⟩
      -- box[0][0] = number // many
      refine ⟨.int n, rfl, .int m, rfl, n, m, rfl, rfl, wide_div m0 m9 (by decide) (by decide), ?_⟩
      refine ⟨.ref b, rfl, b, _, 0, .ref l, rfl, rfl, SqL.of g1, atI_nat (j := 0) rfl, l, _, 0, 0, rfl, rfl, g2, ix_ok rfl (by simp), ?_⟩
      have k1 : upd H1 l (.lst ((List.map V.int (n :: r)).set 0 (V.int (n / m)))) b = some (.lst [.ref l, .int st]) := by rw [upd_ne nbl]; exact g1
      have k2 : upd H1 l (.lst ((List.map V.int (n :: r)).set 0 (V.int (n / m)))) l = some (.lst (((n / m) :: r).map V.int)) := upd_same
      have keep2 : ∀ a o, a ≠ l → H a = some o → upd H1 l (.lst ((List.map V.int (n :: r)).set 0 (V.int (n / m)))) a = some o := fun a o e1 e => by rw [upd_ne e1]; exact keep a o e
      generalize upd H1 l (.lst ((List.map V.int (n :: r)).set 0 (V.int (n / m)))) = H2 at k1 k2 keep2
      -- the end
      have fin : ∀ H3, BoxAt H3 b l → (∀ a o, a ≠ b → a ≠ l → H a = some o → H3 a = some o) → tRet (tOp (rI (fun _ j => 0 < j) fun i j => .int (i % j)) (tVar 2) (tVar 1)) { nx := fun _ H' => Q .non H', rt := Q } [some (.ref b), some (.int m), some (.int n)] H3 := fun H3 bx kk =>
        ⟨.int n, rfl, .int m, rfl, n, m, rfl, rfl, m0, q _ _ (Int.emod_nonneg _ (by omega)) (Int.emod_lt_of_pos _ m0) ⟨bx, kk⟩⟩
      have drop : ∀ H3, H3 = H2 → tDrop (tBM K "list" rPopAt (tOp (rIxL K) (tVar 0) (tC (.int 0))) (tCons (tC (.int 0)) tNil)) { nx := fun σ H' => tRet (tOp (rI (fun _ j => 0 < j) fun i j => .int (i % j)) (tVar 2) (tVar 1)) { nx := fun _ H' => Q .non H', rt := Q } σ H', rt := Q } [some (.ref b), some (.int m), some (.int n)] H3 := fun H3 e => by
        subst e
        refine ⟨.ref b, rfl, b, _, 0, .ref l, rfl, rfl, SqL.of k1, atI_nat (j := 0) rfl, .inl ⟨rfl, _, SqL.of k2⟩, l, _, 0, 0, _, rfl, rfl, k2, by decide, by decide, (ixN_seq (ix_ok rfl (by simp))).1, rfl, ?_⟩
        refine fin _ ⟨r, st, by rw [upd_ne nbl]; exact k1, upd_same⟩ fun a o e1 e2 e => by rw [upd_ne e2]; exact keep2 a o e2 e
      refine ⟨.ref b, rfl, b, _, 0, .ref l, rfl, rfl, SqL.of k1, atI_nat (j := 0) rfl, l, _, 0, _, rfl, rfl, SqL.of k2, atI_nat (j := 0) rfl, rfl, _, rfl, ?_⟩
      cases e0 : decide (V.int (n / m) = V.int 0) with
      | true => exact iteT (iteT (drop _ rfl))
      | false =>
        refine iteF ?_
        refine ⟨.ref b, rfl, b, _, 0, .ref l, rfl, rfl, SqL.of k1, atI_nat (j := 0) rfl, l, _, 0, _, rfl, rfl, SqL.of k2, atI_nat (j := 0) rfl, 1, rfl, rfl, _, rfl, ?_⟩
        cases e1 : decide (V.int (n / m) = V.int (-1)) with
        | true => exact iteT (drop _ rfl)
        | false => exact iteF (fin _ ⟨_, st, k1, k2⟩ fun a o e1 e2 e => keep2 a o e2 e)
end
end K12
namespace K12
open PySem PySem.Spec PyProof.Rows L2 Kt
section
variable {P : Program} {w : World} {K : PySem.W.Frag} {mg : Str → Option Value} {base : Heap}
theorem ok_l_begun (T : Txt K mg) : FnOk P w K mg base CX0 1 T.d_l_begun.f T.d_l_begun.fd ["_law_script"] (spBegun K) := by
  refine T.d_l_begun.F.ok sc_l_begun (fun vs H Q E h => ?_) (fun cdv A outer s H vs Q E hr h => ?_)
  · obtain ⟨a, ns, rfl, _⟩ := h
    rfl
  · obtain ⟨a, ns, rfl, hS, hlen, q⟩ := h
    refine ⟨_, (pss_cons (ps_set (i := 1) sc_l_begun.nd rfl (.inl rfl) pe_int)
  (pss_cons (ps_for PassesOwn.never rfl (pi_list (pv 0)) (pg_name (i := 2) sc_l_begun.nd rfl (.inl rfl))
  (pss_one (ps_set (i := 1) sc_l_begun.nd rfl (.inl rfl) (pe_op op_mod (pe_op op_add (pe_op op_add (pe_op op_mul (pv 1) pe_int) (pe_op op_mul (pv 2) pe_int)) pe_int) pe_int))))
  (pss_one (ps_ret (pe_lst (pa_cons (pe_callTy call_list_of (by rfl) T.n_list (by decide +kernel) (pa_cons (pv 0) pa_nil)) (pa_cons (pe_op op_mul (pv 1) (pe_callTy call_int1 (by rfl) T.n_int (by decide +kernel) (pa_cons (pe_cmpR op_gt (pe_callB call_len_seq (by rfl) T.n_len PySem.boot_len (pa_cons (pv 0) pa_nil)) pe_int (nomark _)) pa_nil))) pa_nil))))))), ?_⟩
    refine ⟨.ref a, rfl, a, rfl, ⟨_, hS⟩, for_list (K := K) (a := a) (xs := ns.map V.int) (fun i σ H' => H' = H ∧ ∃ (st : Int) (y : Option V), σ = [some (.ref a), some (.int st), y]) ⟨rfl, 0, none, rfl⟩ (fun i σ H' _ p => ?_) (fun i x σ H' hx p => ?_) (fun σ H' p => ?_)⟩
    · obtain ⟨rfl, _⟩ := p
      exact hS
    · obtain ⟨rfl, st, y, rfl⟩ := p
      obtain ⟨k, hk, rfl⟩ := at_map hx
      refine ⟨.int st, rfl, st, 48271, rfl, rfl, .inr ⟨by decide, by decide⟩, .int k, rfl, k, 69621, rfl, rfl, .inr ⟨by decide, by decide⟩, _, _, rfl, rfl, _, 11, rfl, rfl, _, 2147483647, rfl, rfl, (by show (0 : Int) < 2147483647; decide), rfl, _, _, rfl⟩
    · obtain ⟨rfl, st, y, rfl⟩ := p
      refine ⟨.ref a, rfl, a, _, rfl, .inl hS, fun l nl => ?_⟩
      refine ⟨.int st, rfl, .ref a, rfl, a, _, rfl, .inl ((same_new nl).seq hS), _, 2, rfl, rfl, .inr ⟨_, rfl, ?_⟩⟩
      refine ⟨st, _, rfl, rfl, .inr (by split <;> constructor <;> decide), ?_⟩
      refine ⟨by show 2 ≤ sizeLine; decide, fun b nb => ?_⟩
      have nlb : l ≠ b := fun e => by rw [← e, upd_same] at nb; cases nb
      refine q b l _ ((same_new nl).trans (same_new nb)) ⟨ns, _, upd_same, by rw [upd_ne nlb, upd_same]⟩ ((same_new nl).free nb) nl
theorem ok_l_picked (T : Txt K mg) : FnOk P w K mg base CX0 2 T.d_l_picked.f T.d_l_picked.fd ["_law_box", "_law_signs", "_law_many"] spPicked := by
  refine T.d_l_picked.F.ok sc_l_picked (fun vs H Q E h => ?_) (fun cdv A outer s H vs Q E hr h => ?_)
  · obtain ⟨b, l, z, m, rfl, _⟩ := h
    rfl
  · obtain ⟨b, l, z, m, rfl, bx, hz, hm, q⟩ := h
    have nbl := bx.ne
    refine ⟨_, (pss_cons (ps_set (i := 3) sc_l_picked.nd rfl (.inr rfl) (pe_callTy (Kt.call_listS rfl) (by rfl) T.n_list (by decide +kernel) (pa_cons (pv 1) pa_nil)))
  (pss_one (ps_ret (pe_lc (own := [("_law_turn", 4)]) (g := gName 4) (tt := tYes) (te := (tBM K "list" rPopAt (tVar 3) (tCons (tCall spTake [] E0 (tCons (tVar 0) (tCons (tCB (rLenQ K) (tCons (tVar 3) tNil)) tNil))) tNil))) rfl sc_l_picked.nd (pi_range1 (by rfl) T.n_range (pa_cons (pv 2) pa_nil)) (blkOk_by (own := [("_law_turn", 4)]) (N := ["_law_box", "_law_signs", "_law_many", "_law_left", "_law_turn"]) (sc := defScope s_l_picked) (by decide +kernel)) (by exact fun _ _ _ _ _ => pg_name (i := 4) sc_l_picked.nd rfl (Or.inl rfl)) (by exact fun _ _ _ _ _ => pts_nil) (by exact fun _ _ _ _ _ => (pe_bm PySem.F.plainAttrs_list PySem.F.slot_list_pop PySem.F.type_list_pop mt_popAt (pv 3) (pa_cons (pe_call (ok_l_take T) (hr.mono (by decide)) (by rfl) T.d_l_take.g T.d_l_take.F.kp T.d_l_take.b .nil pass0 (pa_cons (pv 0) (pa_cons (pe_callB call_len_seq (by rfl) T.n_len PySem.boot_len (pa_cons (pv 3) pa_nil)) pa_nil))) pa_nil))))))), ?_⟩
    refine ⟨.str z, rfl, z, rfl, hz, fun L nL => ?_⟩
    refine ⟨.int m, rfl, m, rfl, by omega, by omega, fun D nD => ?_⟩
    have nL0 : L ≠ D := fun e => by rw [← e, upd_same] at nD; cases nD
    have nD0 : H D = none := by rw [upd_ne nL0.symm] at nD; exact nD
    have nLb : b ≠ L ∧ l ≠ L := let ⟨ns, st, h1, h2⟩ := bx; ⟨ne_of_none h1 nL, ne_of_none h2 nL⟩
    have nDb : b ≠ D ∧ l ≠ D := let ⟨ns, st, h1, h2⟩ := bx; ⟨ne_of_none h1 nD0, ne_of_none h2 nD0⟩
    refine lc_range (lo := 0) (n := (m : Int).toNat) (fun i H' => ∃ ps rest : List Nat, (ps ++ rest).Perm z.cps.toList ∧ ps.length = i ∧ Bxd b l H H' ∧ H' D = some (.lst (sgs ps)) ∧ H' L = some (.lst (sgs rest))) ?_ (fun i H' hi p => ?_) (fun H' p => ?_)
    · refine ⟨[], z.cps.toList, List.Perm.refl _, rfl, Bxd.same bx ((same_new nL).trans (same_new nD)), upd_same, ?_⟩
      rw [upd_ne nL0, upd_same]; rfl
    · obtain ⟨ps, rest, hp, hl, bd, hD, hL⟩ := p
      have hlen : ps.length + rest.length = z.cps.size := by
        have := hp.length_eq
        rw [List.length_append, Array.length_toList] at this; exact this
      have hpos : 0 < rest.length := by omega
      have hsl : (sgs rest).length = rest.length := by simp [sgs]
      refine ⟨rfl, lc_yes ?_⟩
      refine ⟨.ref L, rfl, .inl ⟨rfl, _, SqL.of hL⟩, .ref b, rfl, .ref L, rfl, L, _, rfl, .inl (SqL.of hL), b, l, ((sgs rest).length : Nat), rfl, bd.box, by omega, ?_, fun v H3 v0 v1 bd3 => ?_⟩
      · rw [hsl, Int.natAbs_natCast]
        exact Nat.lt_of_le_of_lt (show rest.length ≤ 1000 by omega) (by decide)
      obtain ⟨k, rfl⟩ := Int.eq_ofNat_of_zero_le v0
      have hk : k < rest.length := by omega
      have eL : H3 L = some (.lst (sgs rest)) := bd3.at' L _ nLb.1.symm nLb.2.symm hL
      have eD : H3 D = some (.lst (sgs ps)) := bd3.at' D _ nDb.1.symm nDb.2.symm hD
      refine ⟨L, sgs rest, k, k, .str (sg rest[k]), rfl, rfl, eL, by omega, by omega, (ixN_seq (ix_ok rfl (by rw [hsl]; exact hk))).1, map_at (map_at (List.getElem?_eq_getElem hk)), ?_⟩
      refine ⟨sgs ps, by rw [upd_ne nL0.symm]; exact eD, ?_, ps ++ [rest[k]], rest.eraseIdx k, ?_, by simp [hl], ⟨?_, ?_⟩, ?_, ?_⟩
      · have : (sgs ps).length = ps.length := by simp [sgs]
        rw [this]; exact small1000 (by omega)
      · refine List.Perm.trans ?_ hp
        rw [List.append_assoc]
        exact List.Perm.append_left ps (perm_erase (List.getElem?_eq_getElem hk))
      · exact bd3.box.kp (fun o e => by rw [upd_ne nDb.1, upd_ne nLb.1]; exact e) fun o e => by rw [upd_ne nDb.2, upd_ne nLb.2]; exact e
      · intro a o e1 e2 e
        rw [upd_ne (ne_of_none e nD0), upd_ne (ne_of_none e nL)]
        exact bd3.at' a o e1 e2 (bd.at' a o e1 e2 e)
      · rw [upd_same]; simp [sgs]
      · rw [upd_ne nL0, upd_same]
        unfold sgs; rw [erase_map, erase_map]
    · obtain ⟨ps, rest, hp, hl, bd, hD, hL⟩ := p
      exact q D ps rest H' hp (by rw [hl]; exact Int.toNat_natCast m) bd nD0 hD
end
end K12
namespace K12
open PySem PySem.Spec PyProof.Rows L2 Kt
section
variable {P : Program} {w : World} {K : PySem.W.Frag} {mg : Str → Option Value} {base : Heap}
theorem ok_l_sheet (T : Txt K mg) : FnOk P w K mg base CX0 3 T.d_l_sheet.f T.d_l_sheet.fd ["_law_box", "_law_most"] spSheet := by
  refine T.d_l_sheet.F.ok sc_l_sheet (fun vs H Q E h => ?_) (fun cdv A outer s H vs Q E hr h => ?_)
  · obtain ⟨b, l, m, rfl, _⟩ := h
    rfl
  · obtain ⟨b, l, most, rfl, bx, m1, m2, q⟩ := h
    refine ⟨_, (pss_cons (ps_set (i := 2) sc_l_sheet.nd rfl (.inl rfl) (pe_op op_add pe_int (pe_call (ok_l_take T) (hr.mono (by decide)) (by rfl) T.d_l_take.g T.d_l_take.F.kp T.d_l_take.b .nil pass0 (pa_cons (pv 0) (pa_cons (pv 1) pa_nil)))))
  (pss_cons (ps_set (i := 3) sc_l_sheet.nd rfl (.inl rfl) pe_str)
  (pss_cons (ps_set (i := 3) sc_l_sheet.nd rfl (.inl rfl) (pe_op op_add_str (pv 3) pe_str))
  (pss_cons (ps_set (i := 4) sc_l_sheet.nd rfl (.inl rfl) (pe_op op_fdivW (pe_call (ok_l_take T) (hr.mono (by decide)) (by rfl) T.d_l_take.g T.d_l_take.F.kp T.d_l_take.b .nil pass0 (pa_cons (pv 0) (pa_cons pe_int pa_nil))) pe_int))
  (pss_cons (ps_set (i := 5) sc_l_sheet.nd rfl (.inl rfl) (pe_call (ok_l_picked T) (hr.mono (by decide)) (by rfl) T.d_l_picked.g T.d_l_picked.F.kp T.d_l_picked.b .nil pass0 (pa_cons (pv 0) (pa_cons (pe_ix ix_list (pe_lst (pa_cons pe_str (pa_cons (pv 3) pa_nil))) (pv 4) (fun _ _ => rfl)) (pa_cons (pv 2) pa_nil)))))
  (pss_cons (ps_set (i := 6) sc_l_sheet.nd rfl (.inl rfl) (pe_call (ok_l_picked T) (hr.mono (by decide)) (by rfl) T.d_l_picked.g T.d_l_picked.F.kp T.d_l_picked.b .nil pass0 (pa_cons (pv 0) (pa_cons (pe_ix ix_list (pe_lst (pa_cons pe_str (pa_cons (pv 3) pa_nil))) (pv 4) (fun _ _ => rfl)) (pa_cons (pv 2) pa_nil)))))
  (pss_cons (ps_for PassesOwn.never rfl (pi_range1 (by rfl) T.n_range (pa_cons (pv 2) pa_nil)) (pg_name (i := 7) sc_l_sheet.nd rfl (.inl rfl))
  (pss_one (ps_if (PW.pt (pw_and (pt_cmpR op_eq (pe_call (ok_l_take T) (hr.mono (by decide)) (by rfl) T.d_l_take.g T.d_l_take.F.kp T.d_l_take.b .nil pass0 (pa_cons (pv 0) (pa_cons pe_int pa_nil))) pe_int (nomark _)) (pw_and1 (pt_cmpR op_notIn_seq (pe_ix ix_list (pv 5) (pv 7) (fun _ _ => rfl)) (pv 6) (by rfl)))))
  (pss_one (ps_asg (pe_ix ix_list (pv 5) (pv 7) (fun _ _ => rfl)) (pg_sub (pv 6) (pv 7) set_list)))
  pss_nil)))
  (pss_cons (ps_set (i := 8) sc_l_sheet.nd rfl (.inl rfl) (pe_ix ix_list (pe_lst (pa_cons pe_non (pa_cons (pe_call (ok_l_take T) (hr.mono (by decide)) (by rfl) T.d_l_take.g T.d_l_take.F.kp T.d_l_take.b .nil pass0 (pa_cons (pv 0) (pa_cons (pv 2) pa_nil))) pa_nil))) (pe_call (ok_l_take T) (hr.mono (by decide)) (by rfl) T.d_l_take.g T.d_l_take.F.kp T.d_l_take.b .nil pass0 (pa_cons (pv 0) (pa_cons pe_int pa_nil))) (fun _ _ => rfl)))
  (pss_one (ps_ret (pe_tup (pa_cons (pe_join pe_str (pv 5)) (pa_cons (pe_join pe_str (pv 6)) (pa_cons (pv 8) pa_nil)))))))))))))), ?_⟩
    -- many
    refine ⟨.ref b, rfl, .int most, rfl, b, l, most, rfl, bx, by omega, Nat.lt_of_le_of_lt (show (most : Int).natAbs ≤ 26 by omega) (by decide), fun v H1 v0 v1 bd1 => ?_⟩
    refine ⟨1, v, rfl, rfl, ?_⟩
    obtain ⟨n, hn, n1, n2⟩ : ∃ n : Nat, 1 + v = (n : Int) ∧ 1 ≤ n ∧ n ≤ most := ⟨(1 + v).toNat, by omega, by omega, by omega⟩
    -- every
    refine ⟨_, rfl, _, _, rfl, rfl, (by decide +kernel), ?_⟩
    -- often
    refine ⟨.ref b, rfl, b, l, 4, rfl, bd1.box, by decide, by decide, fun v4 H2 v40 v41 bd2 => ?_⟩
    refine ⟨v4, 3, rfl, rfl, ⟨by decide, by decide⟩, ?_⟩
    have hof : v4 / 3 = 0 ∨ v4 / 3 = 1 := by omega
    -- zero
    refine ⟨.ref b, rfl, _, rfl, by show 2 ≤ sizeLine; decide, fun p np => ?_⟩
    have bd2' := bd1.trans bd2
    have bd3 : ∀ o, Bxd b l H (upd H2 p o) := fun o => bd2'.trans (Bxd.same bd2'.box (same_new np))
    refine ⟨.int (v4 / 3), rfl, ix_pick hof (SqL.of upd_same) (by decide +kernel) (by decide +kernel) fun sz ok1 => ?_⟩
    refine ⟨.int (1 + v), rfl, b, l, sz, n, by rw [hn]; rfl, (bd3 _).box, (SOk.elim ok1).2.2.2, Nat.le_trans (Nat.le_trans n2 m2) (SOk.elim ok1).2.2.1, fun Dz zs rz H3 pz lz bd4 nDz eDz => ?_⟩
    have bd4' := (bd3 _).trans bd4
    have fDz : H Dz = none := (bd3 _).new bx nDz
    have nDzb : Dz ≠ b ∧ Dz ≠ l := by
      obtain ⟨ns, st, h1, h2⟩ := (bd3 (.lst [])).box
      obtain ⟨ns', st', h1', h2'⟩ := bd2'.box
      have q1 : p ≠ b := (ne_of_none h1' np).symm
      have q2 : p ≠ l := (ne_of_none h2' np).symm
      have r1 : Dz ≠ p := fun e => by rw [e, upd_same] at nDz; cases nDz
      rw [upd_ne r1] at nDz
      exact ⟨(ne_of_none h1' nDz).symm, (ne_of_none h2' nDz).symm⟩
    -- one
    refine ⟨.ref b, rfl, _, rfl, by show 2 ≤ sizeLine; decide, fun p2 np2 => ?_⟩
    have bd5 : ∀ o, Bxd b l H (upd H3 p2 o) := fun o => bd4'.trans (Bxd.same bd4'.box (same_new np2))
    refine ⟨.int (v4 / 3), rfl, ix_pick hof (SqL.of upd_same) (by decide +kernel) (by decide +kernel) fun so ok2 => ?_⟩
    refine ⟨.int (1 + v), rfl, b, l, so, n, by rw [hn]; rfl, (bd5 _).box, (SOk.elim ok2).2.2.2, Nat.le_trans (Nat.le_trans n2 m2) (SOk.elim ok2).2.2.1, fun Do os ro H4 po lo bd6 nDo eDo => ?_⟩
    have bd6' := (bd5 _).trans bd6
    have fDo : H Do = none := (bd5 _).new bx nDo
    have nDo3 : Do ≠ p2 := fun e => by rw [e, upd_same] at nDo; cases nDo
    rw [upd_ne nDo3] at nDo
    have nDob : Do ≠ b ∧ Do ≠ l := by
      obtain ⟨ns', st', h1', h2'⟩ := bd4'.box
      exact ⟨(ne_of_none h1' nDo).symm, (ne_of_none h2' nDo).symm⟩
    have nDD : Dz ≠ Do := ne_of_none eDz nDo
    have eDz4 : H4 Dz = some (.lst (sgs zs)) := bd6.at' Dz _ nDzb.1 nDzb.2 (by rw [upd_ne (ne_of_none eDz np2)]; exact eDz)
    obtain ⟨nz, az⟩ := picked_ok ok1 pz
    obtain ⟨no, ao⟩ := picked_ok ok2 po
    -- the loop
    refine ⟨.int (1 + v), rfl, 1 + v, rfl, by omega, by omega, ?_⟩
    rw [show (1 + v).toNat = n by omega]
    refine for_range (lo := 0) (n := n) (fun i σ H' => ∃ (os' : List Nat) (y7 : Option V) (sE : Str), os'.Nodup ∧ (∀ c ∈ os', 32 ≤ c ∧ c ≤ 126) ∧ os'.length = n ∧ H' Do = some (.lst (sgs os')) ∧ H' Dz = some (.lst (sgs zs)) ∧ Bxd b l H H' ∧
      σ = [some (.ref b), some (.int most), some (.int (1 + v)), some (.str sE), some (.int (v4 / 3)), some (.ref Dz), some (.ref Do), y7, none]) ?_ (fun i σ H' hi p => ?_) (fun σ H' p => ?_)
    · exact ⟨os, none, _, no, ao, lo, eDo, eDz4, bd6', rfl⟩
    · obtain ⟨os', y7, sE, no', ao', lo', eo', ez', bd', rfl⟩ := p
      -- take == 1
      refine ⟨.ref b, rfl, b, l, 4, rfl, bd'.box, by decide, by decide, fun u H5 u0 u1 bdu => ?_⟩
      have bdu' := bd'.trans bdu
      have eo5 : H5 Do = some (.lst (sgs os')) := bdu.at' Do _ nDob.1 nDob.2 eo'
      have ez5 : H5 Dz = some (.lst (sgs zs)) := bdu.at' Dz _ nDzb.1 nDzb.2 ez'
      have same : ∃ (os2 : List Nat) (y7 : Option V) (sE' : Str), os2.Nodup ∧ (∀ c ∈ os2, 32 ≤ c ∧ c ≤ 126) ∧ os2.length = n ∧ H5 Do = some (.lst (sgs os2)) ∧ H5 Dz = some (.lst (sgs zs)) ∧ Bxd b l H H5 ∧
          [some (V.ref b), some (.int most), some (.int (1 + v)), some (.str sE), some (.int (v4 / 3)), some (.ref Dz), some (.ref Do), some (.int (0 + (i : Int))), none] =
          [some (.ref b), some (.int most), some (.int (1 + v)), some (.str sE'), some (.int (v4 / 3)), some (.ref Dz), some (.ref Do), y7, none] := ⟨os', _, sE, no', ao', lo', eo5, ez5, bdu', rfl⟩
      refine ⟨rfl, _, rfl, ?_⟩
      cases decide (V.int u = V.int 1) with
      | false => exact iteF (iteF same)
      | true =>
        refine iteT ?_
        obtain ⟨c, hc⟩ : ∃ c, zs[i]? = some c := ⟨zs[i]'(by omega), List.getElem?_eq_getElem _⟩
        refine ⟨.ref Dz, rfl, .int (0 + (i : Int)), rfl, Dz, _, 0 + (i : Int), _, rfl, rfl, SqL.of ez5, at_of (by omega) (sgs_at hc), .ref Do, rfl, Do, _, rfl, .inl (SqL.of eo5), rfl, sgs_flat os', _, rfl, ?_⟩
        rw [if_pos rfl, sgs_in]
        by_cases hm : c ∈ os'
        · rw [decide_eq_true hm]
          exact iteF same
        · rw [decide_eq_false hm]
          refine iteT ?_
          refine ⟨.ref Dz, rfl, .int (0 + (i : Int)), rfl, Dz, _, 0 + (i : Int), _, rfl, rfl, SqL.of ez5, at_of (by omega) (sgs_at hc), .ref Do, rfl, .int (0 + (i : Int)), rfl, Do, _, 0 + (i : Int), i, rfl, rfl, eo5, ix_ok (by omega) (by rw [sgs_len]; omega), ?_⟩
          refine ⟨os'.set i c, _, sE, nodup_set no' hm, fun d hd => ?_, by rw [List.length_set]; exact lo', by rw [upd_same, sgs_set], by rw [upd_ne nDD]; exact ez5, ⟨?_, fun a o e1 e2 e => ?_⟩, rfl⟩
          · rcases mem_set_or hd with z | z
            · exact ao' d z
            · rw [z]; exact az c (List.mem_of_getElem? hc)
          · exact bdu'.box.kp (fun o e => by rw [upd_ne nDob.1.symm]; exact e) fun o e => by rw [upd_ne nDob.2.symm]; exact e
          · rw [upd_ne (ne_of_none e fDo)]
            exact bdu'.at' a o e1 e2 e
    · obtain ⟨os', y7, sE, no', ao', lo', eo', ez', bd', rfl⟩ := p
      -- home
      refine ⟨.ref b, rfl, .int (1 + v), rfl, b, l, 1 + v, rfl, bd'.box, by omega, Nat.lt_of_le_of_lt (show (1 + v).natAbs ≤ 26 by omega) (by decide), fun u H5 u0 u1 bdu => ?_⟩
      refine ⟨by show 2 ≤ sizeLine; decide, fun p3 np3 => ?_⟩
      have bd7 := bd'.trans bdu
      have bd8 : Bxd b l H (upd H5 p3 (HO.lst [V.non, V.int u])) := bd7.trans (Bxd.same bd7.box (same_new np3))
      refine ⟨.ref b, rfl, b, l, 2, rfl, bd8.box, by decide, by decide, fun t H6 t0 t1 bdt => ?_⟩
      have bd9 := bd8.trans bdt
      have e3 : upd H5 p3 (HO.lst [V.non, V.int u]) p3 = some (.lst [V.non, V.int u]) := upd_same
      have np3b : p3 ≠ b ∧ p3 ≠ l := by
        obtain ⟨ns, st, h1, h2⟩ := bd7.box
        exact ⟨(ne_of_none h1 np3).symm, (ne_of_none h2 np3).symm⟩
      have e36 : H6 p3 = some (.lst [V.non, V.int u]) := bdt.at' p3 _ np3b.1 np3b.2 e3
      have stay : ∀ a o, a ≠ b → a ≠ l → H' a = some o → H6 a = some o := fun a o e1 e2 e => bdt.at' a o e1 e2 (by
        have e5 := bdu.at' a o e1 e2 e
        rw [upd_ne (ne_of_none e5 np3)]; exact e5)
      have ez6 := stay Dz _ nDzb.1 nDzb.2 ez'
      have eo6 := stay Do _ nDob.1 nDob.2 eo'
      obtain ⟨hm, at3, hh⟩ : ∃ hm : V, atI [V.non, V.int u] t = some hm ∧ (hm = .non ∨ ∃ h : Nat, hm = .int h ∧ h < n) := by
        rcases (show t = 0 ∨ t = 1 by omega) with e | e <;> rw [e]
        · exact ⟨_, atI_nat (j := 0) rfl, .inl rfl⟩
        · exact ⟨_, atI_nat (j := 1) rfl, .inr ⟨u.toNat, by rw [show ((u.toNat : Nat) : Int) = u by omega], by omega⟩⟩
      refine ⟨p3, _, t, hm, rfl, rfl, SqL.of e36, at3, ?_⟩
      -- the tuple
      have lens : ∀ ps : List Nat, ps.length ≤ 26 → ((ps.map sg).map (·.length)).sum + (ps.map sg).length * (Str.ofString "").length ≤ 16777216 := fun ps hp => by
        have e0 : (Str.ofString "").length = 0 := by decide +kernel
        have e1 : (ps.map sg).map (·.length) = List.replicate ps.length 1 := by
          rw [List.map_map]
          exact List.map_eq_replicate_iff.mpr fun _ _ => rfl
        rw [e0, e1]
        simp
        omega
      refine ⟨⟨_, rfl⟩, .ref Dz, rfl, _, Dz, zs.map sg, rfl, rfl, .inl (SqL.of ez6), lens zs (by omega), ?_⟩
      refine ⟨⟨_, rfl⟩, .ref Do, rfl, _, Do, os'.map sg, rfl, rfl, .inl (SqL.of eo6), lens os' (by omega), ?_⟩
      refine ⟨hm, rfl, by show 3 ≤ sizeLine; decide, fun t' nt' => ?_⟩
      rw [join_sg, join_sg]
      refine q t' ⟨zs.toArray⟩ ⟨os'.toArray⟩ hm _ ⟨?_, ?_, ?_, nz, no', az, ao', ?_⟩ ?_ (bd9.trans (Bxd.same bd9.box (same_new nt'))) (bd9.new bx nt') upd_same
      · show os'.toArray.size = zs.toArray.size
        simp; omega
      · show 1 ≤ zs.toArray.size
        simp; omega
      · show zs.toArray.size ≤ 26
        simp; omega
      · rcases hh with e | ⟨h, e1, e2⟩
        · exact .inl e
        · refine .inr ⟨h, e1, ?_⟩
          show h < zs.toArray.size
          simp; omega
      · show zs.toArray.size ≤ most
        simp; omega
end
end K12
namespace K12
open PySem PySem.Spec PyProof.Rows L2 Kt
section
variable {P : Program} {w : World} {K : PySem.W.Frag} {mg : Str → Option Value} {base : Heap}
set_option maxHeartbeats 1000000 in
theorem ok_l_alike (T : Txt K mg) : ∀ n : Nat, FnOk P w K mg base CX0 (n + 1) T.d_l_alike.f T.d_l_alike.fd ["_law_found", "_law_due"] (spAl n)
  | 0 => by
    refine T.d_l_alike.F.ok sc_l_alike (fun vs H Q E h => ?_) (fun cdv A outer s H vs Q E hr h => ?_)
    · obtain ⟨a, b, rfl, _⟩ := h
      rfl
    · obtain ⟨a, b, rfl, al, q⟩ := h
      refine ⟨_, (pss_cons (ps_if (pt_cmp (pc_isN (pv 1)))
  (pss_one (ps_ret (pe_cmp (pc_isN (pv 0)) rfl)))
  pss_nil)
  (pss_cons (ps_if (pt_val (pe_callB call_isi (by rfl) T.n_isinstance (by decide +kernel) (pa_cons (pv 1) (pa_cons (pe_bltn (v := .ty "bool") (by rfl) T.n_bool (by decide +kernel) rfl) pa_nil))))
  (pss_one (ps_ret (pe_and (pe_callB call_isi (by rfl) T.n_isinstance (by decide +kernel) (pa_cons (pv 0) (pa_cons (pe_bltn (v := .ty "bool") (by rfl) T.n_bool (by decide +kernel) rfl) pa_nil))) (pe_one (pe_cmpR op_eq (pv 0) (pv 1) (nomark _))))))
  pss_nil)
  (pss_cons (ps_if (pt_val (pe_callB call_isi (by rfl) T.n_isinstance (by decide +kernel) (pa_cons (pv 1) (pa_cons (pe_bltn (v := .ty "int") (by rfl) T.n_int (by decide +kernel) rfl) pa_nil))))
  (pss_one (ps_ret (pe_and (pe_callB call_isi (by rfl) T.n_isinstance (by decide +kernel) (pa_cons (pv 0) (pa_cons (pe_bltn (v := .ty "int") (by rfl) T.n_int (by decide +kernel) rfl) pa_nil))) (pe_and (pe_not (pe_callB call_isi (by rfl) T.n_isinstance (by decide +kernel) (pa_cons (pv 0) (pa_cons (pe_bltn (v := .ty "bool") (by rfl) T.n_bool (by decide +kernel) rfl) pa_nil)))) (pe_one (pe_cmpR op_eq (pv 0) (pv 1) (nomark _)))))))
  pss_nil)
  (pss_cons (ps_if (pt_val (pe_callB call_isi (by rfl) T.n_isinstance (by decide +kernel) (pa_cons (pv 1) (pa_cons (pe_bltn (v := .ty "str") (by rfl) T.n_str (by decide +kernel) rfl) pa_nil))))
  (pss_one (ps_ret (pe_and (pe_callB call_isi (by rfl) T.n_isinstance (by decide +kernel) (pa_cons (pv 0) (pa_cons (pe_bltn (v := .ty "str") (by rfl) T.n_str (by decide +kernel) rfl) pa_nil))) (pe_one (pe_cmpR op_eq (pv 0) (pv 1) (nomark _))))))
  pss_nil)
  pss_never)))), ?_⟩
      cases al with
      | non =>
        refine ⟨.non, rfl, true, rfl, iteT ⟨.non, rfl, ?_⟩⟩
        exact q
      | bl _ i =>
        refine ⟨.bl i, rfl, false, dec_f (fun e => nomatch e), iteF ?_⟩
        refine ⟨.bl i, rfl, .bl i, .ty "bool", .type "bool", .type "bool", true, rfl, .ty _, .base (.bl i), kit_ty (by decide +kernel), true, rfl, iteT ?_⟩
        refine ⟨.bl i, rfl, .bl i, .ty "bool", .type "bool", .type "bool", true, rfl, .ty _, .base (.bl i), kit_ty (by decide +kernel), true, rfl, iteT ?_⟩
        refine ⟨.bl i, rfl, .bl i, rfl, rfl, ?_⟩
        rw [decide_eq_true rfl]
        exact q
      | int _ i =>
        refine ⟨.int i, rfl, false, dec_f (fun e => nomatch e), iteF ?_⟩
        refine ⟨.int i, rfl, .int i, .ty "bool", .type "int", .type "bool", false, rfl, .ty _, .base (.int i), kit_ty (by decide +kernel), false, rfl, iteF ?_⟩
        refine ⟨.int i, rfl, .int i, .ty "int", .type "int", .type "int", true, rfl, .ty _, .base (.int i), kit_ty (by decide +kernel), true, rfl, iteT ?_⟩
        refine ⟨.int i, rfl, .int i, .ty "int", .type "int", .type "int", true, rfl, .ty _, .base (.int i), kit_ty (by decide +kernel), true, rfl, iteT ?_⟩
        refine ⟨.int i, rfl, .int i, .ty "bool", .type "int", .type "bool", false, rfl, .ty _, .base (.int i), kit_ty (by decide +kernel), false, rfl, true, rfl, iteT ?_⟩
        refine ⟨.int i, rfl, .int i, rfl, rfl, ?_⟩
        rw [decide_eq_true rfl]
        exact q
      | str _ s =>
        refine ⟨.str s, rfl, false, dec_f (fun e => nomatch e), iteF ?_⟩
        refine ⟨.str s, rfl, .str s, .ty "bool", .type "str", .type "bool", false, rfl, .ty _, .base (.str s), kit_ty (by decide +kernel), false, rfl, iteF ?_⟩
        refine ⟨.str s, rfl, .str s, .ty "int", .type "str", .type "int", false, rfl, .ty _, .base (.str s), kit_ty (by decide +kernel), false, rfl, iteF ?_⟩
        refine ⟨.str s, rfl, .str s, .ty "str", .type "str", .type "str", true, rfl, .ty _, .base (.str s), kit_ty (by decide +kernel), true, rfl, iteT ?_⟩
        refine ⟨.str s, rfl, .str s, .ty "str", .type "str", .type "str", true, rfl, .ty _, .base (.str s), kit_ty (by decide +kernel), true, rfl, iteT ?_⟩
        refine ⟨.str s, rfl, .str s, rfl, rfl, ?_⟩
        rw [decide_eq_true rfl]
        exact q
  | n + 1 => by
    have ih := ok_l_alike T n
    refine T.d_l_alike.F.ok sc_l_alike (fun vs H Q E h => ?_) (fun cdv A outer s H vs Q E hr h => ?_)
    · obtain ⟨a, b, rfl, _⟩ := h
      rfl
    · obtain ⟨a, b, rfl, al, q⟩ := h
      refine ⟨_, (pss_cons (ps_if (pt_cmp (pc_isN (pv 1)))
  (pss_one (ps_ret (pe_cmp (pc_isN (pv 0)) rfl)))
  pss_nil)
  (pss_cons (ps_if (pt_val (pe_callB call_isi (by rfl) T.n_isinstance (by decide +kernel) (pa_cons (pv 1) (pa_cons (pe_bltn (v := .ty "bool") (by rfl) T.n_bool (by decide +kernel) rfl) pa_nil))))
  (pss_one (ps_ret (pe_and (pe_callB call_isi (by rfl) T.n_isinstance (by decide +kernel) (pa_cons (pv 0) (pa_cons (pe_bltn (v := .ty "bool") (by rfl) T.n_bool (by decide +kernel) rfl) pa_nil))) (pe_one (pe_cmpR op_eq (pv 0) (pv 1) (nomark _))))))
  pss_nil)
  (pss_cons (ps_if (pt_val (pe_callB call_isi (by rfl) T.n_isinstance (by decide +kernel) (pa_cons (pv 1) (pa_cons (pe_bltn (v := .ty "int") (by rfl) T.n_int (by decide +kernel) rfl) pa_nil))))
  (pss_one (ps_ret (pe_and (pe_callB call_isi (by rfl) T.n_isinstance (by decide +kernel) (pa_cons (pv 0) (pa_cons (pe_bltn (v := .ty "int") (by rfl) T.n_int (by decide +kernel) rfl) pa_nil))) (pe_and (pe_not (pe_callB call_isi (by rfl) T.n_isinstance (by decide +kernel) (pa_cons (pv 0) (pa_cons (pe_bltn (v := .ty "bool") (by rfl) T.n_bool (by decide +kernel) rfl) pa_nil)))) (pe_one (pe_cmpR op_eq (pv 0) (pv 1) (nomark _)))))))
  pss_nil)
  (pss_cons (ps_if (pt_val (pe_callB call_isi (by rfl) T.n_isinstance (by decide +kernel) (pa_cons (pv 1) (pa_cons (pe_bltn (v := .ty "str") (by rfl) T.n_str (by decide +kernel) rfl) pa_nil))))
  (pss_one (ps_ret (pe_and (pe_callB call_isi (by rfl) T.n_isinstance (by decide +kernel) (pa_cons (pv 0) (pa_cons (pe_bltn (v := .ty "str") (by rfl) T.n_str (by decide +kernel) rfl) pa_nil))) (pe_one (pe_cmpR op_eq (pv 0) (pv 1) (nomark _))))))
  pss_nil)
  (pss_cons (ps_if (PW.pt (pw_or (pt_cmpR op_ne (pe_callB call_isi (by rfl) T.n_isinstance (by decide +kernel) (pa_cons (pv 1) (pa_cons (pe_bltn (v := .ty "tuple") (by rfl) T.n_tuple (by decide +kernel) rfl) pa_nil))) (pe_callB call_isi (by rfl) T.n_isinstance (by decide +kernel) (pa_cons (pv 0) (pa_cons (pe_bltn (v := .ty "tuple") (by rfl) T.n_tuple (by decide +kernel) rfl) pa_nil))) (nomark _)) (pw_or1 (pt_cmpR op_ne (pe_callB call_isi (by rfl) T.n_isinstance (by decide +kernel) (pa_cons (pv 1) (pa_cons (pe_bltn (v := .ty "list") (by rfl) T.n_list (by decide +kernel) rfl) pa_nil))) (pe_callB call_isi (by rfl) T.n_isinstance (by decide +kernel) (pa_cons (pv 0) (pa_cons (pe_bltn (v := .ty "list") (by rfl) T.n_list (by decide +kernel) rfl) pa_nil))) (nomark _)))))
  (pss_one (ps_ret pe_bl))
  pss_nil)
  (pss_cons (ps_if (pt_cmpR op_ne (pe_callB call_len_seq (by rfl) T.n_len PySem.boot_len (pa_cons (pv 0) pa_nil)) (pe_callB call_len_seq (by rfl) T.n_len PySem.boot_len (pa_cons (pv 1) pa_nil)) (nomark _))
  (pss_one (ps_ret pe_bl))
  pss_nil)
  (pss_cons (ps_for PassesOwn.never rfl (pi_range1 (by rfl) T.n_range (pa_cons (pe_callB call_len_seq (by rfl) T.n_len PySem.boot_len (pa_cons (pv 1) pa_nil)) pa_nil)) (pg_name (i := 2) sc_l_alike.nd rfl (.inl rfl))
  (pss_one (ps_if (pt_not (pt_val (pe_call ih hr (by rfl) T.d_l_alike.g T.d_l_alike.F.kp T.d_l_alike.b .nil pass0 (pa_cons (pe_ix ix_seq (pv 0) (pv 2) (fun _ _ => rfl)) (pa_cons (pe_ix ix_seq (pv 1) (pv 2) (fun _ _ => rfl)) pa_nil)))))
  (pss_one (ps_ret pe_bl))
  pss_nil)))
  (pss_one (ps_ret pe_bl))))))))), ?_⟩
      cases al with
      | non =>
        refine ⟨.non, rfl, true, rfl, iteT ⟨.non, rfl, ?_⟩⟩
        exact q
      | bl _ i =>
        refine ⟨.bl i, rfl, false, dec_f (fun e => nomatch e), iteF ?_⟩
        refine ⟨.bl i, rfl, .bl i, .ty "bool", .type "bool", .type "bool", true, rfl, .ty _, .base (.bl i), kit_ty (by decide +kernel), true, rfl, iteT ?_⟩
        refine ⟨.bl i, rfl, .bl i, .ty "bool", .type "bool", .type "bool", true, rfl, .ty _, .base (.bl i), kit_ty (by decide +kernel), true, rfl, iteT ?_⟩
        refine ⟨.bl i, rfl, .bl i, rfl, rfl, ?_⟩
        rw [decide_eq_true rfl]
        exact q
      | int _ i =>
        refine ⟨.int i, rfl, false, dec_f (fun e => nomatch e), iteF ?_⟩
        refine ⟨.int i, rfl, .int i, .ty "bool", .type "int", .type "bool", false, rfl, .ty _, .base (.int i), kit_ty (by decide +kernel), false, rfl, iteF ?_⟩
        refine ⟨.int i, rfl, .int i, .ty "int", .type "int", .type "int", true, rfl, .ty _, .base (.int i), kit_ty (by decide +kernel), true, rfl, iteT ?_⟩
        refine ⟨.int i, rfl, .int i, .ty "int", .type "int", .type "int", true, rfl, .ty _, .base (.int i), kit_ty (by decide +kernel), true, rfl, iteT ?_⟩
        refine ⟨.int i, rfl, .int i, .ty "bool", .type "int", .type "bool", false, rfl, .ty _, .base (.int i), kit_ty (by decide +kernel), false, rfl, true, rfl, iteT ?_⟩
        refine ⟨.int i, rfl, .int i, rfl, rfl, ?_⟩
        rw [decide_eq_true rfl]
        exact q
      | str _ s =>
        refine ⟨.str s, rfl, false, dec_f (fun e => nomatch e), iteF ?_⟩
        refine ⟨.str s, rfl, .str s, .ty "bool", .type "str", .type "bool", false, rfl, .ty _, .base (.str s), kit_ty (by decide +kernel), false, rfl, iteF ?_⟩
        refine ⟨.str s, rfl, .str s, .ty "int", .type "str", .type "int", false, rfl, .ty _, .base (.str s), kit_ty (by decide +kernel), false, rfl, iteF ?_⟩
        refine ⟨.str s, rfl, .str s, .ty "str", .type "str", .type "str", true, rfl, .ty _, .base (.str s), kit_ty (by decide +kernel), true, rfl, iteT ?_⟩
        refine ⟨.str s, rfl, .str s, .ty "str", .type "str", .type "str", true, rfl, .ty _, .base (.str s), kit_ty (by decide +kernel), true, rfl, iteT ?_⟩
        refine ⟨.str s, rfl, .str s, rfl, rfl, ?_⟩
        rw [decide_eq_true rfl]
        exact q
      | lst ha hb hl hz hh =>
        rename_i a b xs ys
        refine ⟨.ref b, rfl, false, dec_f (fun e => nomatch e), iteF ?_⟩
        refine ⟨.ref b, rfl, .ref b, .ty "bool", .type "list", .type "bool", false, rfl, .ty _, .base (.lst hb), kit_ty (by decide +kernel), false, rfl, iteF ?_⟩
        refine ⟨.ref b, rfl, .ref b, .ty "int", .type "list", .type "int", false, rfl, .ty _, .base (.lst hb), kit_ty (by decide +kernel), false, rfl, iteF ?_⟩
        refine ⟨.ref b, rfl, .ref b, .ty "str", .type "list", .type "str", false, rfl, .ty _, .base (.lst hb), kit_ty (by decide +kernel), false, rfl, iteF ?_⟩
        refine ⟨.ref b, rfl, .ref b, .ty "tuple", .type "list", .type "tuple", false, rfl, .ty _, .base (.lst hb), kit_ty (by decide +kernel), .ref a, rfl, .ref a, .ty "tuple", .type "list", .type "tuple", false, rfl, .ty _, .base (.lst ha), kit_ty (by decide +kernel), rfl, false, rfl, iteF ?_⟩
        refine ⟨.ref b, rfl, .ref b, .ty "list", .type "list", .type "list", true, rfl, .ty _, .base (.lst hb), kit_ty (by decide +kernel), .ref a, rfl, .ref a, .ty "list", .type "list", .type "list", true, rfl, .ty _, .base (.lst ha), kit_ty (by decide +kernel), rfl, false, rfl, iteF ?_⟩
        refine ⟨.ref a, rfl, a, _, rfl, .inl (SqL.of ha), .ref b, rfl, b, _, rfl, .inl (SqL.of hb), rfl, _, rfl, iteNS (by rw [hl]) ?_⟩
        refine ⟨.ref b, rfl, b, _, rfl, .inl (SqL.of hb), _, rfl, by omega, by omega, for_range (lo := 0) (n := ((ys.length : Nat) : Int).toNat) (fun i σ H' => H' = H ∧ ∃ y : Option V, σ = [some (.ref a), some (.ref b), y]) ⟨rfl, _, rfl⟩ (fun i σ H' hi p => ?_) (fun σ H' p => ?_)⟩
        · obtain ⟨rfl, y, rfl⟩ := p
          have h1 : i < ys.length := by omega
          have h2 : i < xs.length := by omega
          refine ⟨.ref a, rfl, .int (0 + (i : Int)), rfl, .inl ⟨a, _, _, _, rfl, rfl, SqL.of ha, at_of (by omega) (List.getElem?_eq_getElem h2), .ref b, rfl, .int (0 + (i : Int)), rfl, .inl ⟨b, _, _, _, rfl, rfl, SqL.of hb, at_of (by omega) (List.getElem?_eq_getElem h1), ?_⟩⟩⟩
          refine ⟨_, _, rfl, hh i _ _ (List.getElem?_eq_getElem h2) (List.getElem?_eq_getElem h1), true, rfl, iteF ⟨rfl, _, rfl⟩⟩
        · obtain ⟨rfl, y, rfl⟩ := p
          exact q
      | tup ha hb hl hz hh =>
        rename_i a b xs ys
        refine ⟨.ref b, rfl, false, dec_f (fun e => nomatch e), iteF ?_⟩
        refine ⟨.ref b, rfl, .ref b, .ty "bool", .type "tuple", .type "bool", false, rfl, .ty _, .base (.tup hb), kit_ty (by decide +kernel), false, rfl, iteF ?_⟩
        refine ⟨.ref b, rfl, .ref b, .ty "int", .type "tuple", .type "int", false, rfl, .ty _, .base (.tup hb), kit_ty (by decide +kernel), false, rfl, iteF ?_⟩
        refine ⟨.ref b, rfl, .ref b, .ty "str", .type "tuple", .type "str", false, rfl, .ty _, .base (.tup hb), kit_ty (by decide +kernel), false, rfl, iteF ?_⟩
        refine ⟨.ref b, rfl, .ref b, .ty "tuple", .type "tuple", .type "tuple", true, rfl, .ty _, .base (.tup hb), kit_ty (by decide +kernel), .ref a, rfl, .ref a, .ty "tuple", .type "tuple", .type "tuple", true, rfl, .ty _, .base (.tup ha), kit_ty (by decide +kernel), rfl, false, rfl, iteF ?_⟩
        refine ⟨.ref b, rfl, .ref b, .ty "list", .type "tuple", .type "list", false, rfl, .ty _, .base (.tup hb), kit_ty (by decide +kernel), .ref a, rfl, .ref a, .ty "list", .type "tuple", .type "list", false, rfl, .ty _, .base (.tup ha), kit_ty (by decide +kernel), rfl, false, rfl, iteF ?_⟩
        refine ⟨.ref a, rfl, a, _, rfl, .inr (SqT.of ha), .ref b, rfl, b, _, rfl, .inr (SqT.of hb), rfl, _, rfl, iteNS (by rw [hl]) ?_⟩
        refine ⟨.ref b, rfl, b, _, rfl, .inr (SqT.of hb), _, rfl, by omega, by omega, for_range (lo := 0) (n := ((ys.length : Nat) : Int).toNat) (fun i σ H' => H' = H ∧ ∃ y : Option V, σ = [some (.ref a), some (.ref b), y]) ⟨rfl, _, rfl⟩ (fun i σ H' hi p => ?_) (fun σ H' p => ?_)⟩
        · obtain ⟨rfl, y, rfl⟩ := p
          have h1 : i < ys.length := by omega
          have h2 : i < xs.length := by omega
          refine ⟨.ref a, rfl, .int (0 + (i : Int)), rfl, (.inr (.inl ⟨a, _, _, _, rfl, rfl, SqT.of ha, at_of (by omega) (List.getElem?_eq_getElem h2), .ref b, rfl, .int (0 + (i : Int)), rfl, (.inr (.inl ⟨b, _, _, _, rfl, rfl, SqT.of hb, at_of (by omega) (List.getElem?_eq_getElem h1), ?_⟩))⟩))⟩
          refine ⟨_, _, rfl, hh i _ _ (List.getElem?_eq_getElem h2) (List.getElem?_eq_getElem h1), true, rfl, iteF ⟨rfl, _, rfl⟩⟩
        · obtain ⟨rfl, y, rfl⟩ := p
          exact q
end
end K12
namespace K12
open PySem PySem.Spec PyProof.Rows L2 Kt
section
variable {P : Program} {w : World} {K : PySem.W.Frag} {mg : Str → Option Value} {base : Heap}
theorem ok_are_signs (T : Txt K mg) (TB : GxR.TabB base mg T.c_are_signs T.t_are_signs) : FnOk P w K mg base CX0 1 T.d_are_signs.f T.d_are_signs.fd ["signs"] (spSigns T.t_are_signs) := by
  refine T.k_are_signs.ok sc_are_signs (fun vs H Q E h => ?_) (fun A outer s H vs Q E hr h => ?_)
  · obtain ⟨z, rfl, _⟩ := h
    rfl
  · obtain ⟨z, rfl, tb, q⟩ := h
    refine ⟨_, (pss_one (ps_ret (GxR.pe_allS hr (by rfl) T.n_all (by decide +kernel) TB rfl (Kt.genS_by rfl rfl (by decide +kernel) rfl rfl) (pv 0) (Kt.elt_in rfl rfl) (fun _ => rfl)))), ?_⟩
    refine ⟨.str z, rfl, z, rfl, tb, fun H2 t2 => ?_⟩
    rw [show pbIn " " "~" = fun c => decide (32 ≤ c ∧ c ≤ 126) from funext pbIn_32_126]
    exact q H2 t2
theorem ok_can_be_a_set (T : Txt K mg) (TB : GxR.TabB base mg T.c_are_signs T.t_are_signs) : FnOk P w K mg base CX0 2 T.d_can_be_a_set.f T.d_can_be_a_set.fd ["signs"] (spCan T.t_are_signs) := by
  refine T.d_can_be_a_set.F.ok sc_can_be_a_set (fun vs H Q E h => ?_) (fun cdv A outer s H vs Q E hr h => ?_)
  · obtain ⟨z, rfl, _⟩ := h
    rfl
  · obtain ⟨z, rfl, hz, hn, hp, tb, q⟩ := h
    refine ⟨_, (pss_one (ps_ret (pe_and (pe_call (ok_are_signs T TB) (hr.mono (by decide)) (by rfl) T.d_are_signs.g T.d_are_signs.F.kp T.d_are_signs.b .nil pass0 (pa_cons (pv 0) pa_nil)) (pe_one (pe_cmpR op_eq (Kt.pe_lenSetS rfl (by rfl) T.n_len (by rfl) T.n_set (pv 0)) (pe_callB call_len_str (by rfl) T.n_len PySem.boot_len (pa_cons (pv 0) pa_nil)) (nomark _)))))), ?_⟩
    refine ⟨.str z, rfl, z, rfl, tb, fun H2 t2 => ?_⟩
    have e : (z.cps.toList.all fun c => decide (32 ≤ c ∧ c ≤ 126)) = true := List.all_eq_true.mpr fun c hc => decide_eq_true (hp c hc)
    rw [e]
    refine ⟨true, rfl, iteT ?_⟩
    refine ⟨.str z, rfl, z, rfl, hz, .str z, rfl, z, rfl, Nat.le_trans hz (by decide), rfl, ?_⟩
    rw [uq_nodup hn, Array.length_toList]
    rw [show decide (V.int ((z.cps.size : Nat) : Int) = V.int ((z.length : Nat) : Int)) = true from decide_eq_true rfl]
    exact q H2 t2
theorem ok_check_sheet (T : Txt K mg) (TB : GxR.TabB base mg T.c_are_signs T.t_are_signs) : FnOk P w K mg base CX0 3 T.d_check_sheet.f T.d_check_sheet.fd ["sheet"] (spCheckSheet T.t_are_signs) := by
  refine T.d_check_sheet.F.ok sc_check_sheet (fun vs H Q E h => ?_) (fun cdv A outer s H vs Q E hr h => ?_)
  · obtain ⟨t, z, o, hm, rfl, _⟩ := h
    rfl
  · obtain ⟨t, z, o, hm, rfl, gd, sh, tb, q⟩ := h
    refine ⟨_, (pss_cons (ps_asg (pv 0) (pg_tup rfl (pgs_cons (pg_name (i := 1) sc_check_sheet.nd rfl (.inl rfl)) (pgs_cons (pg_name (i := 2) sc_check_sheet.nd rfl (.inl rfl)) (pgs_cons (pg_name (i := 3) sc_check_sheet.nd rfl (.inl rfl)) pgs_nil)))))
  (pss_cons (ps_if (pt_cmpR op_ne (pe_callB call_len_str (by rfl) T.n_len PySem.boot_len (pa_cons (pv 1) pa_nil)) (pe_callB call_len_str (by rfl) T.n_len PySem.boot_len (pa_cons (pv 2) pa_nil)) (nomark _))
  (pss_one ps_never)
  pss_nil)
  (pss_cons (ps_if (pt_not (pt_chain op_le op_le pe_int (pe_callB call_len_str (by rfl) T.n_len PySem.boot_len (pa_cons (pv 1) pa_nil)) (pe_glob (v := .int 26) (by rfl) T.c_MOST_PLACES.choose_spec ⟨_, rfl⟩)))
  (pss_one ps_never)
  pss_nil)
  (pss_cons (ps_if (PW.pt (pw_or (pt_not (pt_val (pe_call (ok_can_be_a_set T TB) (hr.mono (by decide)) (by rfl) T.d_can_be_a_set.g T.d_can_be_a_set.F.kp T.d_can_be_a_set.b .nil pass0 (pa_cons (pv 1) pa_nil)))) (pw_or1 (pt_not (pt_val (pe_call (ok_can_be_a_set T TB) (hr.mono (by decide)) (by rfl) T.d_can_be_a_set.g T.d_can_be_a_set.F.kp T.d_can_be_a_set.b .nil pass0 (pa_cons (pv 2) pa_nil)))))))
  (pss_one ps_never)
  pss_nil)
  (pss_one (ps_if (PW.pt (pw_and (pt_cmp (pc_notN (pv 3))) (pw_and1 (pt_not (pt_chain op_le op_lt pe_int (pv 3) (pe_callB call_len_str (by rfl) T.n_len PySem.boot_len (pa_cons (pv 1) pa_nil)))))))
  (pss_one ps_never)
  pss_nil)))))), ?_⟩
    have z1 := gd.pos
    have z2 := gd.le
    have big : z.length ≤ sizeLine := Nat.le_trans z2 (by decide)
    have bigo : o.length ≤ sizeLine := Nat.le_trans (Nat.le_of_eq gd.len) big
    have elen : z.length = o.length := gd.len.symm
    refine ⟨.ref t, rfl, t, _, rfl, SqT.of sh, rfl, _, _, rfl, _, _, rfl, _, _, rfl, rfl, ?_⟩
    refine ⟨.str z, rfl, z, rfl, big, .str o, rfl, o, rfl, bigo, rfl, _, rfl, iteNS (by rw [elen]) ?_⟩
    have hz : (z.length : Int) = (z.cps.size : Int) := rfl
    refine ⟨.str z, rfl, z, rfl, big, 1, _, rfl, rfl, _, rfl, iteTd (by omega) ?_⟩
    refine ⟨_, 26, rfl, rfl, _, rfl, iteNS (by omega) ?_⟩
    refine ⟨.str z, rfl, z, rfl, Nat.le_trans z2 (by decide), gd.nz, gd.pz, tb, fun H1 t1 => ⟨true, rfl, iteF ?_⟩⟩
    refine ⟨.str o, rfl, o, rfl, Nat.le_trans (Nat.le_of_eq gd.len) (Nat.le_trans z2 (by decide)), gd.no, gd.po, t1.1, fun H2 t2 => ⟨true, rfl, iteF ?_⟩⟩
    have kp : Kp T.t_are_signs H H2 := (Kp.of_tabbed t1).trans (Kp.of_tabbed t2)
    refine ⟨hm, rfl, _, rfl, ?_⟩
    rcases gd.home with e | ⟨h, e, hh⟩
    · rw [e]
      exact iteF (iteF (q H2 kp))
    · rw [e]
      refine iteT ?_
      refine ⟨.int h, rfl, 0, _, rfl, rfl, _, rfl, iteTd (by omega) ?_⟩
      refine ⟨.str z, rfl, z, rfl, big, _, _, rfl, rfl, _, rfl, iteNS (by omega) ?_⟩
      exact q H2 kp
end
end K12
namespace K12
open PySem PySem.Spec PyProof.Rows L2 Kt
section
variable {P : Program} {w : World} {K : PySem.W.Frag} {mg : Str → Option Value} {base : Heap}
theorem ok_are_figures (T : Txt K mg) (TB3 : GxR.TabB base mg T.c_are_figures T.t_are_figures) : FnOk P w K mg base CX0 1 T.d_are_figures.f T.d_are_figures.fd ["row"] (spFigures T.t_are_figures) := by
  refine T.k_are_figures.ok sc_are_figures (fun vs H Q E h => ?_) (fun A outer s H vs Q E hr h => ?_)
  · obtain ⟨x, rfl, _⟩ := h
    rfl
  · obtain ⟨x, rfl, hx, tb, q⟩ := h
    refine ⟨_, (pss_cons (ps_if (pt_not (pt_chain op_le op_le pe_int (pe_callB call_len_str (by rfl) T.n_len PySem.boot_len (pa_cons (pv 0) pa_nil)) pe_int))
  (pss_one (ps_ret pe_bl))
  pss_nil)
  (pss_cons (ps_if (PW.pt (pw_and (pt_cmpR op_eq (pe_callB call_len_str (by rfl) T.n_len PySem.boot_len (pa_cons (pv 0) pa_nil)) pe_int (nomark _)) (pw_and1 (pt_cmpR op_eq (pe_ix ix_str (pv 0) pe_int (fun _ _ => rfl)) pe_str (nomark _)))))
  (pss_one (ps_ret pe_bl))
  pss_nil)
  (pss_one (ps_ret (GxR.pe_allS hr (by rfl) T.n_all (by decide +kernel) TB3 rfl (Kt.genS_by rfl rfl (by decide +kernel) rfl rfl) (pv 0) (Kt.elt_in rfl rfl) (fun _ => rfl)))))), ?_⟩
    have big : x.length ≤ sizeLine := Nat.le_trans hx (by decide)
    have hz : (x.length : Int) = (x.cps.size : Int) := rfl
    unfold figOk at q
    refine ⟨.str x, rfl, x, rfl, big, 1, _, rfl, rfl, _, rfl, ?_⟩
    by_cases h1 : 1 ≤ x.cps.size
    · refine iteTd (by omega) ?_
      by_cases h2 : x.cps.size ≤ 2
      · refine ⟨_, 2, rfl, rfl, true, dec_t (by omega), iteF ?_⟩
        rw [show decide (1 ≤ x.cps.size ∧ x.cps.size ≤ 2) = true from decide_eq_true ⟨h1, h2⟩, Bool.true_and] at q
        refine ⟨.str x, rfl, x, rfl, big, rfl, _, rfl, ?_⟩
        have fin : (!(decide (x.cps.size = 2) && decide (x.cps.toList.getD 0 0 = 48))) = true → ∀ σ : L2.St, σ = [some (.str x)] → tRet (GxR.tAllS T.t_are_figures (pbIn "0" "9") (tVar 0)) { nx := fun _ H' => Q .non H', rt := Q } σ H := fun e σ es => by
          subst es
          refine ⟨.str x, rfl, x, rfl, tb, fun H2 t2 => ?_⟩
          rw [show pbIn "0" "9" = fun c => decide (48 ≤ c ∧ c ≤ 57) from funext pbIn_fig]
          rw [e, Bool.true_and] at q
          exact q H2 t2
        by_cases h3 : x.cps.size = 2
        · rw [decide_eq_true (show V.int ((x.length : Nat) : Int) = V.int 2 by rw [hz, h3]; rfl)]
          refine iteT ?_
          have h0 : 0 < x.cps.toList.length := by rw [Array.length_toList]; omega
          refine ⟨.str x, rfl, x, 0, x.cps.toList.getD 0 0, rfl, rfl, big, atI_nd ⟨by decide, by omega⟩, rfl, _, rfl, ?_⟩
          by_cases h4 : x.cps.toList.getD 0 0 = 48
          · rw [decide_eq_true (show V.str ⟨#[x.cps.toList.getD 0 0]⟩ = V.str "0" by rw [h4]; rfl)]
            refine iteT ?_
            rw [decide_eq_true h3, decide_eq_true h4] at q
            exact q H (tabbed_refl tb)
          · rw [decide_eq_false (show V.str ⟨#[x.cps.toList.getD 0 0]⟩ ≠ V.str "0" from fun e => h4 (sg_inj (V.str.inj e)))]
            refine iteF ?_
            exact fin (by rw [decide_eq_false h4, Bool.and_false]; rfl) _ rfl
        · rw [decide_eq_false (show V.int ((x.length : Nat) : Int) ≠ V.int 2 from fun e => h3 (by have := V.int.inj e; omega))]
          refine iteF ?_
          exact fin (by rw [decide_eq_false h3, Bool.false_and]; rfl) _ rfl
      · refine ⟨_, 2, rfl, rfl, false, dec_f (by omega), iteT ?_⟩
        rw [show decide (1 ≤ x.cps.size ∧ x.cps.size ≤ 2) = false from decide_eq_false fun k => h2 k.2, Bool.false_and, Bool.false_and] at q
        exact q H (tabbed_refl tb)
    · refine iteFd (by omega) ?_
      rw [show decide (1 ≤ x.cps.size ∧ x.cps.size ≤ 2) = false from decide_eq_false fun k => h1 k.1, Bool.false_and, Bool.false_and] at q
      exact ⟨false, rfl, iteT (q H (tabbed_refl tb))⟩
theorem ok_is_good (T : Txt K mg) (TB : GxR.TabB base mg T.c_are_signs T.t_are_signs) (TB3 : GxR.TabB base mg T.c_are_figures T.t_are_figures) : FnOk P w K mg base CX0 2 T.d_is_good.f T.d_is_good.fd ["number", "row"] (spIsGood T.t_are_signs T.t_are_figures) := by
  refine T.d_is_good.F.ok sc_is_good (fun vs H Q E h => ?_) (fun cdv A outer s H vs Q E hr h => ?_)
  · obtain ⟨n, x, rfl, _⟩ := h
    rfl
  · obtain ⟨n, x, rfl, hx, tb, tb3, q⟩ := h
    refine ⟨_, (pss_cons (ps_if (pt_cmpR op_lt (pv 0) (pe_op op_sub (pe_glob (v := .int 3) (by rfl) T.c_ROWS.choose_spec ⟨_, rfl⟩) pe_int) (nomark _))
  (pss_one (ps_ret (pe_call (ok_are_signs T TB) (hr.mono (by decide)) (by rfl) T.d_are_signs.g T.d_are_signs.F.kp T.d_are_signs.b .nil pass0 (pa_cons (pv 1) pa_nil))))
  pss_nil)
  (pss_one (ps_ret (pe_and (pe_cmpR op_eq (pv 0) (pe_op op_sub (pe_glob (v := .int 3) (by rfl) T.c_ROWS.choose_spec ⟨_, rfl⟩) pe_int) (nomark _)) (pe_one (pe_or (pe_cmpR op_eq (pv 1) (pe_glob (v := .str "-") (by rfl) T.c_NO_HOME.choose_spec ⟨_, rfl⟩) (nomark _)) (pe_one (pe_call (ok_are_figures T TB3) (hr.mono (by decide)) (by rfl) T.d_are_figures.g T.d_are_figures.F.kp T.d_are_figures.b .nil pass0 (pa_cons (pv 1) pa_nil))))))))), ?_⟩
    refine ⟨.int n, rfl, _, 1, rfl, rfl, n, _, rfl, rfl, _, rfl, ?_⟩
    unfold goodRow at q
    by_cases h1 : n < 2
    · refine iteTd (by omega) ?_
      refine ⟨.str x, rfl, x, rfl, tb, fun H1 t1 => ?_⟩
      have q := q H1 (.inl t1)
      rw [if_pos h1] at q
      exact q
    · refine iteFd (by omega) ?_
      refine ⟨.int n, rfl, _, 1, rfl, rfl, rfl, ?_⟩
      rw [if_neg h1] at q
      by_cases h2 : n = 2
      · subst h2
        rw [decide_eq_true rfl, Bool.true_and] at q
        refine ⟨true, dec_t rfl, iteT ?_⟩
        refine ⟨.str x, rfl, rfl, ?_⟩
        by_cases h3 : x = Str.ofString "-"
        · refine ⟨true, dec_t (congrArg V.str h3), iteT ?_⟩
          have q := q H (.inl (tabbed_refl tb))
          rw [decide_eq_true h3, Bool.true_or] at q
          exact q
        · refine ⟨false, dec_f (fun e => h3 (V.str.inj e)), iteF ?_⟩
          refine ⟨.str x, rfl, x, rfl, hx, tb3, fun H1 t1 => ?_⟩
          have q := q H1 (.inr t1)
          rw [decide_eq_false h3, Bool.false_or] at q
          exact q
      · rw [decide_eq_false h2, Bool.false_and] at q
        refine ⟨false, dec_f (fun e => h2 (by have := V.int.inj e; omega)), iteF ?_⟩
        exact q H (.inl (tabbed_refl tb))
/-- the tables of the texts' defs -/
abbrev tws (T : Txt K mg) : TWs := ⟨[T.t_are_signs, T.t_are_figures], []⟩
theorem kz1 {T : Txt K mg} {H H' : Hp} (t : Tb (tws T) H) (k : Kp T.t_are_signs H H') : Kz (tws T) H H' := Kz.kp t (by simp [tws]) (fun p h => nomatch h) k
theorem kz3 {T : Txt K mg} {H H' : Hp} (t : Tb (tws T) H) (k : Kp T.t_are_figures H H') : Kz (tws T) H H' := Kz.kp t (by simp [tws]) (fun p h => nomatch h) k
theorem tb1 {T : Txt K mg} {H : Hp} (t : Tb (tws T) H) : GxR.TabG H T.t_are_signs := t.g _ (by simp [tws])
theorem tb3 {T : Txt K mg} {H : Hp} (t : Tb (tws T) H) : GxR.TabG H T.t_are_figures := t.g _ (by simp [tws])
theorem ok_check_rows (T : Txt K mg) (TB : GxR.TabB base mg T.c_are_signs T.t_are_signs) (TB3 : GxR.TabB base mg T.c_are_figures T.t_are_figures) : FnOk P w K mg base CX0 3 T.d_check_rows.f T.d_check_rows.fd ["rows"] (spRowsOk K (tws T)) := by
  refine T.d_check_rows.F.ok sc_check_rows (fun vs H Q E h => ?_) (fun cdv A outer s H vs Q E hr h => ?_)
  · obtain ⟨a, r0, r1, r2, rfl, _⟩ := h
    rfl
  · obtain ⟨a, r0, r1, r2, rfl, hS, g0, g1, g2, z0, z1, z2, tw, q⟩ := h
    refine ⟨_, (pss_cons (ps_for PassesOwn.never rfl (pi_enum (by rfl) T.n_enumerate (pa_cons (pv 0) pa_nil)) (pg_tup rfl (pgs_cons (pg_name (i := 1) sc_check_rows.nd rfl (.inl rfl)) (pgs_cons (pg_name (i := 2) sc_check_rows.nd rfl (.inl rfl)) pgs_nil)))
  (pss_one (ps_if (pt_not (pt_val (pe_call (ok_is_good T TB TB3) (hr.mono (by decide)) (by rfl) T.d_is_good.g T.d_is_good.F.kp T.d_is_good.b .nil pass0 (pa_cons (pv 1) (pa_cons (pv 2) pa_nil)))))
  (pss_one ps_never)
  pss_nil)))
  (pss_one (ps_if (pt_cmpR op_lt (pe_callB call_len_seq (by rfl) T.n_len PySem.boot_len (pa_cons (pv 0) pa_nil)) (pe_glob (v := .int 3) (by rfl) T.c_ROWS.choose_spec ⟨_, rfl⟩) (nomark _))
  (pss_one ps_never)
  pss_nil))), ?_⟩
    refine ⟨.ref a, rfl, a, _, rfl, hS, ?_⟩
    have stay : ∀ H', Kz (tws T) H H' → SqL K H' a [.str r0, .str r1, .str r2] := fun H' k => k.seqL hS
    refine ⟨fun i m σ H' => m = 3 - i ∧ i ≤ 3 ∧ Kz (tws T) H H' ∧ ∃ y1 y2 : Option V, σ = [some (.ref a), y1, y2], ⟨3, rfl, Nat.zero_le _, Kz.refl tw, none, none, rfl⟩, fun i m σ H' hW => ?_⟩
    obtain ⟨em, hi, k, y1, y2, rfl⟩ := hW
    by_cases hlt : i < 3
    · obtain ⟨r, hr', gr, zr⟩ : ∃ r, [V.str r0, V.str r1, V.str r2][i]? = some (.str r) ∧ goodRow i r = true ∧ r.cps.size ≤ 1000 := by
        match i, hlt with
        | 0, _ => exact ⟨r0, rfl, g0, z0⟩
        | 1, _ => exact ⟨r1, rfl, g1, z1⟩
        | 2, _ => exact ⟨r2, rfl, g2, z2⟩
      refine .inr ⟨⟨_, _, stay H' k, hr'⟩, fun σ' H2 => Kz (tws T) H H2 ∧ ∃ y1 y2 : Option V, σ' = [some (.ref a), y1, y2], fun σ' H2 p => ⟨m - 1, by omega, by omega, hlt, p.1, p.2⟩, fun x H2 hy => ?_⟩
      obtain ⟨D, x2, rfl, nD, rfl, f⟩ := hy
      obtain rfl : x2 = .str r := Option.some.inj ((f _ (stay H' k)).symm.trans hr')
      have k2 := k.trans (Kz.same k.tb (same_new (o := HO.tup [V.int (i : Nat), V.str r]) nD))
      refine ⟨D, _, rfl, SqT.of upd_same, rfl, _, _, rfl, _, _, rfl, rfl, ?_⟩
      refine ⟨.int (i : Nat), rfl, .str r, rfl, (i : Nat), r, rfl, Nat.le_trans zr (by decide), tb1 k2.tb, tb3 k2.tb, fun H3 t3 => ?_⟩
      rw [gr]
      have k3 : Kz (tws T) H H3 := by
        rcases t3 with t | t
        · exact k2.trans (kz1 k2.tb (Kp.of_tabbed t))
        · exact k2.trans (kz3 k2.tb (Kp.of_tabbed t))
      exact ⟨true, rfl, iteF ⟨k3, _, _, rfl⟩⟩
    · refine .inl ⟨⟨_, stay H' k, by simp; omega⟩, ?_⟩
      refine ⟨.ref a, rfl, a, _, rfl, .inl (stay H' k), _, 3, rfl, rfl, _, rfl, iteFd (by simp) ?_⟩
      exact q H' k
theorem ok_written (T : Txt K mg) (TB : GxR.TabB base mg T.c_are_signs T.t_are_signs) : FnOk P w K mg base CX0 4 T.d_written.f T.d_written.fd ["sheet"] (spWritten T.t_are_signs) := by
  refine T.d_written.F.ok sc_written (fun vs H Q E h => ?_) (fun cdv A outer s H vs Q E hr h => ?_)
  · obtain ⟨t, z, o, hm, rfl, _⟩ := h
    rfl
  · obtain ⟨t, z, o, hm, rfl, gd, sh, tb, q⟩ := h
    refine ⟨_, (pss_cons (ps_expr (pe_call (ok_check_sheet T TB) (hr.mono (by decide)) (by rfl) T.d_check_sheet.g T.d_check_sheet.F.kp T.d_check_sheet.b .nil pass0 (pa_cons (pv 0) pa_nil)))
  (pss_cons (ps_asg (pv 0) (pg_tup rfl (pgs_cons (pg_name (i := 1) sc_written.nd rfl (.inl rfl)) (pgs_cons (pg_name (i := 2) sc_written.nd rfl (.inl rfl)) (pgs_cons (pg_name (i := 3) sc_written.nd rfl (.inl rfl)) pgs_nil)))))
  (pss_cons (ps_set (i := 4) sc_written.nd rfl (.inl rfl) (pe_ifExp (pt_cmp (pc_isN (pv 3))) (pe_glob (v := .str "-") (by rfl) T.c_NO_HOME.choose_spec ⟨_, rfl⟩) (pe_callTy call_str_int (by rfl) T.n_str (by decide +kernel) (pa_cons (pv 3) pa_nil))))
  (pss_one (ps_ret (pe_join pe_str (pe_lst (pa_cons (pv 1) (pa_cons (pv 2) (pa_cons (pv 4) pa_nil)))))))))), ?_⟩
    refine ⟨.ref t, rfl, t, z, o, hm, rfl, gd, sh, tb, fun H1 k1 => ?_⟩
    have sh1 : Sh H1 t z o hm := k1.get tb sh fun _ e => (nomatch e)
    refine ⟨.ref t, rfl, t, _, rfl, SqT.of sh1, rfl, _, _, rfl, _, _, rfl, _, _, rfl, rfl, ?_⟩
    have fin : tRet (tM1 (fun x xs H Q => ∃ a p ys, x = .str a ∧ xs = [.ref p] ∧ (SqL K H p (ys.map V.str) ∨ SqT K H p (ys.map V.str)) ∧ (ys.map (·.length)).sum + ys.length * a.length ≤ 16777216 ∧ Q (.str (Txt.join a ys)) H) (tC (.str "\n")) (tLst (tCons (tVar 1) (tCons (tVar 2) (tCons (tVar 4) tNil))))) { nx := fun _ H' => Q .non H', rt := Q } [some (.ref t), some (.str z), some (.str o), some hm, some (.str (homeT hm))] H1 := by
      refine ⟨⟨_, rfl⟩, .str z, rfl, .str o, rfl, .str (homeT hm), rfl, by show 3 ≤ sizeLine; decide, fun D nD => ?_⟩
      refine ⟨_, D, [z, o, homeT hm], rfl, rfl, .inl (SqL.of upd_same), ?_, ?_⟩
      · have a := gd.le
        have b := gd.len
        have c := gd.homeOk.sz
        have e : (Str.ofString "\n").length = 1 := by decide +kernel
        simp only [List.map_cons, List.map_nil, List.sum_cons, List.sum_nil, List.length_cons, List.length_nil, e]
        show z.cps.size + (o.cps.size + ((homeT hm).cps.size + 0)) + _ ≤ _
        omega
      · exact q _ (k1.trans (Kp.same k1.tab (same_new nD)))
    refine ⟨hm, rfl, ?_⟩
    rcases gd.home with e | ⟨h, e, lt⟩ <;> subst e
    · exact ⟨true, dec_t rfl, iteT fin⟩
    · refine ⟨false, dec_f (fun e => nomatch e), iteF ⟨.int h, rfl, h, rfl, ?_, fin⟩⟩
      exact (home_all ⟨h, Nat.lt_of_lt_of_le lt gd.le⟩).2.2.2.2.2
theorem ok_read_sheet (T : Txt K mg) (TB : GxR.TabB base mg T.c_are_signs T.t_are_signs) (TB3 : GxR.TabB base mg T.c_are_figures T.t_are_figures) : FnOk P w K mg base CX0 4 T.d_read_sheet.f T.d_read_sheet.fd ["text"] (spReadSheet (tws T)) := by
  refine T.d_read_sheet.F.ok sc_read_sheet (fun vs H Q E h => ?_) (fun cdv A outer s H vs Q E hr h => ?_)
  · obtain ⟨z, o, hm, rfl, _⟩ := h
    rfl
  · obtain ⟨z, o, hm, rfl, gd, tw, q⟩ := h
    refine ⟨_, (pss_cons (ps_set (i := 1) sc_read_sheet.nd rfl (.inl rfl) (pe_split (pv 0) pe_str))
  (pss_cons (ps_expr (pe_call (ok_check_rows T TB TB3) (hr.mono (by decide)) (by rfl) T.d_check_rows.g T.d_check_rows.F.kp T.d_check_rows.b .nil pass0 (pa_cons (pv 1) pa_nil)))
  (pss_cons (ps_asg (pv 1) (pg_unl rfl (pgs_cons (pg_name (i := 2) sc_read_sheet.nd rfl (.inl rfl)) (pgs_cons (pg_name (i := 3) sc_read_sheet.nd rfl (.inl rfl)) (pgs_cons (pg_name (i := 4) sc_read_sheet.nd rfl (.inl rfl)) pgs_nil)))))
  (pss_cons (ps_set (i := 5) sc_read_sheet.nd rfl (.inl rfl) (pe_tup (pa_cons (pv 2) (pa_cons (pv 3) (pa_cons (pe_ifExp (pt_cmpR op_eq (pv 4) (pe_glob (v := .str "-") (by rfl) T.c_NO_HOME.choose_spec ⟨_, rfl⟩) (nomark _)) pe_non (pe_callTy call_int_str (by rfl) T.n_int (by decide +kernel) (pa_cons (pv 4) pa_nil))) pa_nil)))))
  (pss_cons (ps_expr (pe_call (ok_check_sheet T TB) (hr.mono (by decide)) (by rfl) T.d_check_sheet.g T.d_check_sheet.F.kp T.d_check_sheet.b .nil pass0 (pa_cons (pv 5) pa_nil)))
  (pss_one (ps_ret (pv 5)))))))), ?_⟩
    have lz := gd.le
    have lo : o.cps.size ≤ 26 := Nat.le_trans (Nat.le_of_eq gd.len) lz
    refine ⟨.str (sheetT z o hm), rfl, ⟨_, rfl⟩, _, nl, rfl, rfl, rfl, Nat.le_trans (Nat.add_le_add_right (sheetT_len gd) 2) (by decide), fun p np => ?_⟩
    rw [gd.split]
    have k1 := Kz.same tw (same_new (o := HO.lst ([z, o, homeT hm].map V.str)) np)
    have e1 : upd H p (HO.lst ([z, o, homeT hm].map V.str)) p = some (HO.lst ([z, o, homeT hm].map V.str)) := upd_same
    have free : ∀ b, upd H p (HO.lst ([z, o, homeT hm].map V.str)) b = none → H b = none := fun b h => (same_new np).free h
    generalize upd H p (HO.lst ([z, o, homeT hm].map V.str)) = H1 at k1 e1 free
    refine ⟨.ref p, rfl, p, z, o, homeT hm, rfl, SqL.of e1, gd.signs.1, gd.signs.2, gd.homeOk.row, by omega, by omega, Nat.le_trans gd.homeOk.sz (by decide), k1.tb, fun H2 k2 => ?_⟩
    have k3 := k1.trans k2
    refine ⟨.ref p, rfl, p, _, rfl, SqL.of (k2.lst e1), rfl, _, _, rfl, _, _, rfl, _, _, rfl, rfl, ?_⟩
    refine ⟨.str z, rfl, .str o, rfl, ?_⟩
    refine ⟨.str (homeT hm), rfl, rfl, _, rfl, ?_⟩
    rcases gd.home with e | ⟨h, e, lt⟩ <;> subst e
    · refine iteTd rfl ?_
      refine ⟨by show 3 ≤ sizeLine; decide, fun t nt => ?_⟩
      have k4 := k3.trans (Kz.same k3.tb (same_new (o := HO.tup [V.str z, V.str o, V.non]) nt))
      refine ⟨.ref t, rfl, t, z, o, .non, rfl, gd, upd_same, tb1 k4.tb, fun H5 k5 => ?_⟩
      exact ⟨.ref t, rfl, q t H5 (k4.trans (kz1 k4.tb k5)) (k3.nn t nt) ((kz1 k4.tb k5).tup upd_same)⟩
    · have ha := home_all ⟨h, Nat.lt_of_lt_of_le lt gd.le⟩
      refine iteFd (fun e => ha.2.2.2.1 (V.str.inj e)) ?_
      refine ⟨.str (homeT (.int h)), rfl, homeT (.int h), (h : Nat), rfl, ha.2.2.2.2.1, Nat.le_trans gd.homeOk.sz (by decide), ?_⟩
      refine ⟨by show 3 ≤ sizeLine; decide, fun t nt => ?_⟩
      have k4 := k3.trans (Kz.same k3.tb (same_new (o := HO.tup [V.str z, V.str o, V.int h]) nt))
      refine ⟨.ref t, rfl, t, z, o, .int h, rfl, gd, upd_same, tb1 k4.tb, fun H5 k5 => ?_⟩
      exact ⟨.ref t, rfl, q t H5 (k4.trans (kz1 k4.tb k5)) (k3.nn t nt) ((kz1 k4.tb k5).tup upd_same)⟩
end
end K12
namespace K12
open PySem PySem.Spec PyProof.Rows L2 Kt
section
variable {P : Program} {w : World} {K : PySem.W.Frag} {mg : Str → Option Value} {base : Heap}
def spLaw (K : PySem.W.Frag) (W : TWs) : Sp := fun vs H Q _ => ∃ (a : Addr) (ns : List Int), vs = [.ref a] ∧ SqL K H a (ns.map V.int) ∧ ns.length ≤ 63 ∧ Tb W H ∧ ∀ H', Q (.bl true) H'
theorem ok_law (T : Txt K mg) (TB : GxR.TabB base mg T.c_are_signs T.t_are_signs) (TB3 : GxR.TabB base mg T.c_are_figures T.t_are_figures) : FnOk P w K mg base CX0 5 T.d_law.f T.d_law.fd ["_law_script"] (spLaw K (tws T)) := by
  refine T.d_law.F.ok sc_law (fun vs H Q E h => ?_) (fun cdv A outer s H vs Q E hr h => ?_)
  · obtain ⟨a, ns, rfl, _⟩ := h
    rfl
  · obtain ⟨a, ns, rfl, hS, hlen, tw, q⟩ := h
    refine ⟨_, (pss_cons (ps_set (i := 1) sc_law.nd rfl (.inl rfl) (pe_call (ok_l_begun T) (hr.mono (by decide)) (by rfl) T.d_l_begun.g T.d_l_begun.F.kp T.d_l_begun.b .nil pass0 (pa_cons (pv 0) pa_nil)))
  (pss_cons (ps_set (i := 2) sc_law.nd rfl (.inl rfl) (pe_lst (pa_cons (pe_call (ok_l_sheet T) (hr.mono (by decide)) (by rfl) T.d_l_sheet.g T.d_l_sheet.F.kp T.d_l_sheet.b .nil pass0 (pa_cons (pv 1) (pa_cons pe_int pa_nil))) (pa_cons (pe_call (ok_l_sheet T) (hr.mono (by decide)) (by rfl) T.d_l_sheet.g T.d_l_sheet.F.kp T.d_l_sheet.b .nil pass0 (pa_cons (pv 1) (pa_cons pe_int pa_nil))) pa_nil))))
  (pss_cons (ps_for PassesOwn.never rfl (pi_list (pe_op op_cat (pv 2) (pe_slice sl_list (pv 2) po_none (po_some pe_int)))) (pg_tup rfl (pgs_cons (pg_name (i := 3) sc_law.nd rfl (.inl rfl)) (pgs_cons (pg_name (i := 4) sc_law.nd rfl (.inl rfl)) (pgs_cons (pg_name (i := 5) sc_law.nd rfl (.inl rfl)) pgs_nil))))
  (pss_cons (ps_set (i := 6) sc_law.nd rfl (.inl rfl) (pe_op op_add_str (pe_op op_add_str (pe_op op_add_str (pe_op op_add_str (pv 3) pe_str) (pv 4)) pe_str) (pe_ifExp (pt_cmp (pc_isN (pv 5))) pe_str (pe_callTy call_str_int (by rfl) T.n_str (by decide +kernel) (pa_cons (pv 5) pa_nil)))))
  (pss_one (ps_if (PW.pt (pw_or (pt_not (pt_val (pe_call (ok_l_alike T 2) (hr.mono (by decide)) (by rfl) T.d_l_alike.g T.d_l_alike.F.kp T.d_l_alike.b .nil pass0 (pa_cons (pe_call (ok_written T TB) (hr.mono (by decide)) (by rfl) T.d_written.g T.d_written.F.kp T.d_written.b .nil pass0 (pa_cons (pe_tup (pa_cons (pv 3) (pa_cons (pv 4) (pa_cons (pv 5) pa_nil)))) pa_nil)) (pa_cons (pv 6) pa_nil))))) (pw_or1 (pt_not (pt_val (pe_call (ok_l_alike T 2) (hr.mono (by decide)) (by rfl) T.d_l_alike.g T.d_l_alike.F.kp T.d_l_alike.b .nil pass0 (pa_cons (pe_call (ok_read_sheet T TB TB3) (hr.mono (by decide)) (by rfl) T.d_read_sheet.g T.d_read_sheet.F.kp T.d_read_sheet.b .nil pass0 (pa_cons (pv 6) pa_nil)) (pa_cons (pe_tup (pa_cons (pv 3) (pa_cons (pv 4) (pa_cons (pv 5) pa_nil)))) pa_nil))))))))
  (pss_one (ps_ret pe_bl))
  pss_nil))))
  (pss_one (ps_ret pe_bl))))), ?_⟩
    refine ⟨.ref a, rfl, a, ns, rfl, hS, hlen, fun b l H1 s1 bx1 nb nl => ?_⟩
    have tw1 := tw.same s1
    refine ⟨.ref b, rfl, b, l, 26, rfl, bx1, by decide, by decide, fun t z o hm H2 gd hz bd2 nt sh2 => ?_⟩
    have tw2 := bd2.tb bx1 tw1
    refine ⟨.ref b, rfl, b, l, 26, rfl, bd2.box, by decide, by decide, fun t' z' o' hm' H3 gd' hz' bd3 nt' sh3' => ?_⟩
    have tw3 := bd3.tb bd2.box tw2
    have sh3 : Sh H3 t z o hm := bd3.tup bd2.box sh2
    refine ⟨by show 2 ≤ sizeLine; decide, fun L nL => ?_⟩
    refine ⟨.ref L, rfl, .ref L, rfl, 1, rfl, L, _, rfl, SqL.of upd_same, fun p np => ?_⟩
    have ec : cutV [V.ref t, V.ref t'] none (some 1) = [V.ref t] := rfl
    rw [ec]
    refine ⟨L, p, _, _, rfl, rfl, same_new np _ _ upd_same, upd_same, by show 3 ≤ sizeLine; decide, fun p2 np2 => ?_⟩
    have s4 := (same_new (o := HO.lst [V.ref t, V.ref t']) nL).trans ((same_new (o := HO.lst [V.ref t]) np).trans (same_new (o := HO.lst ([V.ref t, V.ref t'] ++ [V.ref t])) np2))
    have e2 : upd (upd (upd H3 L (HO.lst [V.ref t, V.ref t'])) p (HO.lst [V.ref t])) p2 (HO.lst ([V.ref t, V.ref t'] ++ [V.ref t])) p2 = some (HO.lst [V.ref t, V.ref t', V.ref t]) := upd_same
    generalize upd (upd (upd H3 L (HO.lst [V.ref t, V.ref t'])) p (HO.lst [V.ref t])) p2 (HO.lst ([V.ref t, V.ref t'] ++ [V.ref t])) = H5 at s4 e2
    have k5 := Kz.same tw3 s4
    have sh5 : Sh H5 t z o hm := s4 _ _ sh3
    have sh5' : Sh H5 t' z' o' hm' := s4 _ _ sh3'
    refine ⟨p2, rfl, ⟨_, SqL.of e2⟩, for_list (K := K) (a := p2) (xs := [V.ref t, V.ref t', V.ref t]) (fun i σ H' => Kz (tws T) H5 H' ∧ ∃ y3 y4 y5 y6 : Option V, σ = [some (.ref a), some (.ref b), some (.ref L), y3, y4, y5, y6])
      ⟨Kz.refl k5.tb, _, _, _, _, rfl⟩ (fun i σ H' _ p => SqL.of (p.1.lst e2)) (fun i x σ H' hx p => ?_) (fun σ H' p => ?_)⟩
    · obtain ⟨k, y3, y4, y5, y6, rfl⟩ := p
      obtain ⟨u, z, o, hm, rfl, gd, sh⟩ : ∃ u z o hm, x = .ref u ∧ Good z o hm ∧ Sh H5 u z o hm := by
        match i, hx with
        | 0, hx => exact ⟨t, z, o, hm, (Option.some.inj hx).symm, gd, sh5⟩
        | 1, hx => exact ⟨t', z', o', hm', (Option.some.inj hx).symm, gd', sh5'⟩
        | 2, hx => exact ⟨t, z, o, hm, (Option.some.inj hx).symm, gd, sh5⟩
        | i + 3, hx => simp at hx
      have lz := gd.le
      have lo : o.cps.size ≤ 26 := Nat.le_trans (Nat.le_of_eq gd.len) lz
      refine ⟨u, _, rfl, SqT.of (k.sh sh), rfl, _, _, rfl, _, _, rfl, _, _, rfl, rfl, ?_⟩
      have lh := gd.homeOk.sz
      have e1 : (Str.ofString "\n").length = 1 := by decide +kernel
      have lz' : z.length ≤ 26 := lz
      have lo' : o.length ≤ 26 := lo
      have lh' : (homeT hm).length ≤ 2 := lh
      have sz : ∀ n, n ≤ 60 → n ≤ sizeLine := fun n h => Nat.le_trans h (by decide)
      refine ⟨.str z, rfl, _, _, rfl, rfl, sz _ (by omega), ?_⟩
      refine ⟨.str o, rfl, _, _, rfl, rfl, sz _ (by simp only [Str.length_append, e1]; omega), ?_⟩
      refine ⟨_, _, rfl, rfl, sz _ (by simp only [Str.length_append, e1]; omega), ?_⟩
      refine ⟨hm, rfl, ?_⟩
      rcases gd.home with e | ⟨h, e, lt⟩
      case' inl =>
        have eh : homeT hm = Str.ofString "-" := by rw [e]; rfl
        refine ⟨true, dec_t e, iteT ?_⟩
        rw [← eh]
        refine ⟨_, _, rfl, rfl, sz _ (by simp only [Str.length_append, e1]; omega), ?_⟩
      case' inr =>
        have ha := home_all ⟨h, Nat.lt_of_lt_of_le lt gd.le⟩
        have eh : homeT hm = Str.ofString (toString ((h : Nat) : Int)) := by rw [e]; rfl
        refine ⟨false, dec_f (fun k => by rw [e] at k; cases k), iteF ?_⟩
        refine ⟨hm, rfl, h, by rw [e], ha.2.2.2.2.2, ?_⟩
        rw [← eh]
        refine ⟨_, _, rfl, rfl, sz _ (by simp only [Str.length_append, e1]; omega), ?_⟩
      all_goals
        rw [show z ++ Str.ofString "\n" ++ o ++ Str.ofString "\n" ++ homeT hm = sheetT z o hm from sheetT_eq z o hm]
        refine ⟨.str z, rfl, .str o, rfl, hm, rfl, by show 3 ≤ sizeLine; decide, fun t6 n6 => ?_⟩
        have k6 := k.trans (Kz.same k.tb (same_new (o := HO.tup [V.str z, V.str o, hm]) n6))
        refine ⟨t6, z, o, hm, rfl, gd, upd_same, tb1 k6.tb, fun H7 k7 => ?_⟩
        have k7 := k6.trans (kz1 k6.tb k7)
        refine ⟨.str (sheetT z o hm), rfl, _, _, rfl, .str _ _, true, rfl, iteF ?_⟩
        refine ⟨.str (sheetT z o hm), rfl, z, o, hm, rfl, gd, k7.tb, fun t8 H8 k8 n8 sh8 => ?_⟩
        have k8 := k7.trans k8
        refine ⟨.str z, rfl, .str o, rfl, hm, rfl, by show 3 ≤ sizeLine; decide, fun t9 n9 => ?_⟩
        have s9 := same_new (o := HO.tup [V.str z, V.str o, hm]) n9
        have k9 := k8.trans (Kz.same k8.tb s9)
        refine ⟨_, _, rfl, .tup (s9 _ _ sh8) upd_same rfl (by show 3 ≤ 1000; decide) (fun (j : Nat) v v' e1 e2 => ?_), true, rfl, iteF ⟨k9, _, _, _, _, rfl⟩⟩
        rw [e1] at e2
        cases e2
        match j, e1 with
        | 0, e1 => cases e1; exact .str _ _
        | 1, e1 => cases e1; exact .str _ _
        | 2, e1 =>
          cases e1
          rcases gd.home with e | ⟨h, e, _⟩
          · rw [e]; exact .non _
          · rw [e]; exact .int _ _
        | j + 3, e1 => simp at e1
    · exact q H'
theorem all_ok {h : Heap} {fa : Addr} (hmg : mg "law" = some (.ref fa)) (T : Txt K mg) (hT : PySem.W.CodeHd h T.c_are_signs T.t_are_signs ∧ h.get? T.t_are_signs = some (PySem.W.tabObj #[])) (nT : K.lookup T.t_are_signs = none)
    (hT2 : PySem.W.CodeHd h T.c_are_figures T.t_are_figures ∧ h.get? T.t_are_figures = some (PySem.W.tabObj #[])) (nT2 : K.lookup T.t_are_figures = none) (ne : T.t_are_signs ≠ T.t_are_figures)
    (hb : ∀ (s : Shared) (u : Value), BindsTo s T.d_law.fd ⟨[u], []⟩ [("_law_script", u)]) :
    LamX.LawAtS PySem.Challenge.rw_shifttape_k12_written_and_read w K CX0 5 63 "_law_script" mg fa h := by
  have e := hmg.symm.trans T.d_law.g
  cases e
  have two : ∀ {R : Addr × Addr → Prop}, R (T.c_are_signs, T.t_are_signs) → R (T.c_are_figures, T.t_are_figures) → ∀ p ∈ [(T.c_are_signs, T.t_are_signs), (T.c_are_figures, T.t_are_figures)], R p := fun r r' p hp => by
    rcases List.mem_cons.mp hp with e | e
    · rw [e]; exact r
    · rw [List.mem_singleton.mp e]; exact r'
  refine ⟨T.d_law.fd, [(T.c_are_signs, T.t_are_signs), (T.c_are_figures, T.t_are_figures)], spLaw K (tws T), two hT.2 hT2.2, two nT nT2, two hT.1 hT2.1, hb, fun H a ns hl _ hH hS => ?_,
    fun base k1 k2 tb => ok_law T (gx_of (tb _ List.mem_cons_self)) (gx_of (tb _ (List.mem_cons_of_mem _ List.mem_cons_self)))⟩
  refine ⟨a, ns, rfl, hS, hl, ⟨fun P hP => ?_, fun p hp => nomatch hp⟩, fun _ => rfl⟩
  rcases List.mem_cons.mp hP with e | e
  · rw [e]; exact ⟨#[], hH _ List.mem_cons_self, trivial⟩
  · rw [List.mem_singleton.mp e]; exact ⟨#[], hH _ (List.mem_cons_of_mem _ List.mem_cons_self), trivial⟩
end
def txt_mk {K : PySem.W.Frag} {h : Heap} {mg : Str → Option Value} {f0 tb0 f1 f2 f3 f4 tb4 f5 f6 f7 f8 f9 f10 f11 f12 f13 : Addr} (X : K.In h) (G : h.Ns mainGlobals mg)
    {oc0 : Value} {od0 an0 : Option Addr} {sl0 : Array (Option Value)} {kV0 dc0 pm0 ct0 : Value} {cd0 : Addr}
    (a0 : PySem.W.nsIn K mainGlobals "are_signs" = some (some (.ref f0))) (l0 : K.lookup f0 = some ⟨oc0, od0, .func (PySem.W.fnOf "are_signs" "are_signs" (defArgs s_are_signs) (defBody s_are_signs) (defScope s_are_signs) .none kV0 dc0 pm0 an0 (.ref cd0) ct0), sl0⟩) (c0 : PySem.W.codeIn K (.ref cd0) "are_signs" = true) (k0 : PySem.W.keepIn K (.ref f0) = true)
    {oc1 : Value} {od1 an1 : Option Addr} {sl1 : Array (Option Value)} {kV1 dc1 pm1 ct1 : Value} {cd1 : Value}
    (a1 : PySem.W.nsIn K mainGlobals "_can_be_a_set" = some (some (.ref f1))) (l1 : K.lookup f1 = some ⟨oc1, od1, .func (PySem.W.fnOf "_can_be_a_set" "_can_be_a_set" (defArgs s_can_be_a_set) (defBody s_can_be_a_set) (defScope s_can_be_a_set) .none kV1 dc1 pm1 an1 cd1 ct1), sl1⟩) (c1 : PySem.W.codeIn K cd1 "_can_be_a_set" = true) (k1 : PySem.W.keepIn K (.ref f1) = true)
    {oc2 : Value} {od2 an2 : Option Addr} {sl2 : Array (Option Value)} {kV2 dc2 pm2 ct2 : Value} {cd2 : Value}
    (a2 : PySem.W.nsIn K mainGlobals "check_sheet" = some (some (.ref f2))) (l2 : K.lookup f2 = some ⟨oc2, od2, .func (PySem.W.fnOf "check_sheet" "check_sheet" (defArgs s_check_sheet) (defBody s_check_sheet) (defScope s_check_sheet) .none kV2 dc2 pm2 an2 cd2 ct2), sl2⟩) (c2 : PySem.W.codeIn K cd2 "check_sheet" = true) (k2 : PySem.W.keepIn K (.ref f2) = true)
    {oc3 : Value} {od3 an3 : Option Addr} {sl3 : Array (Option Value)} {kV3 dc3 pm3 ct3 : Value} {cd3 : Value}
    (a3 : PySem.W.nsIn K mainGlobals "written" = some (some (.ref f3))) (l3 : K.lookup f3 = some ⟨oc3, od3, .func (PySem.W.fnOf "written" "written" (defArgs s_written) (defBody s_written) (defScope s_written) .none kV3 dc3 pm3 an3 cd3 ct3), sl3⟩) (c3 : PySem.W.codeIn K cd3 "written" = true) (k3 : PySem.W.keepIn K (.ref f3) = true)
    {oc4 : Value} {od4 an4 : Option Addr} {sl4 : Array (Option Value)} {kV4 dc4 pm4 ct4 : Value} {cd4 : Addr}
    (a4 : PySem.W.nsIn K mainGlobals "_are_figures" = some (some (.ref f4))) (l4 : K.lookup f4 = some ⟨oc4, od4, .func (PySem.W.fnOf "_are_figures" "_are_figures" (defArgs s_are_figures) (defBody s_are_figures) (defScope s_are_figures) .none kV4 dc4 pm4 an4 (.ref cd4) ct4), sl4⟩) (c4 : PySem.W.codeIn K (.ref cd4) "_are_figures" = true) (k4 : PySem.W.keepIn K (.ref f4) = true)
    {oc5 : Value} {od5 an5 : Option Addr} {sl5 : Array (Option Value)} {kV5 dc5 pm5 ct5 : Value} {cd5 : Value}
    (a5 : PySem.W.nsIn K mainGlobals "_is_good" = some (some (.ref f5))) (l5 : K.lookup f5 = some ⟨oc5, od5, .func (PySem.W.fnOf "_is_good" "_is_good" (defArgs s_is_good) (defBody s_is_good) (defScope s_is_good) .none kV5 dc5 pm5 an5 cd5 ct5), sl5⟩) (c5 : PySem.W.codeIn K cd5 "_is_good" = true) (k5 : PySem.W.keepIn K (.ref f5) = true)
    {oc6 : Value} {od6 an6 : Option Addr} {sl6 : Array (Option Value)} {kV6 dc6 pm6 ct6 : Value} {cd6 : Value}
    (a6 : PySem.W.nsIn K mainGlobals "_check_rows" = some (some (.ref f6))) (l6 : K.lookup f6 = some ⟨oc6, od6, .func (PySem.W.fnOf "_check_rows" "_check_rows" (defArgs s_check_rows) (defBody s_check_rows) (defScope s_check_rows) .none kV6 dc6 pm6 an6 cd6 ct6), sl6⟩) (c6 : PySem.W.codeIn K cd6 "_check_rows" = true) (k6 : PySem.W.keepIn K (.ref f6) = true)
    {oc7 : Value} {od7 an7 : Option Addr} {sl7 : Array (Option Value)} {kV7 dc7 pm7 ct7 : Value} {cd7 : Value}
    (a7 : PySem.W.nsIn K mainGlobals "read_sheet" = some (some (.ref f7))) (l7 : K.lookup f7 = some ⟨oc7, od7, .func (PySem.W.fnOf "read_sheet" "read_sheet" (defArgs s_read_sheet) (defBody s_read_sheet) (defScope s_read_sheet) .none kV7 dc7 pm7 an7 cd7 ct7), sl7⟩) (c7 : PySem.W.codeIn K cd7 "read_sheet" = true) (k7 : PySem.W.keepIn K (.ref f7) = true)
    {oc8 : Value} {od8 an8 : Option Addr} {sl8 : Array (Option Value)} {kV8 dc8 pm8 ct8 : Value} {cd8 : Value}
    (a8 : PySem.W.nsIn K mainGlobals "_law_begun" = some (some (.ref f8))) (l8 : K.lookup f8 = some ⟨oc8, od8, .func (PySem.W.fnOf "_law_begun" "_law_begun" (defArgs s_l_begun) (defBody s_l_begun) (defScope s_l_begun) .none kV8 dc8 pm8 an8 cd8 ct8), sl8⟩) (c8 : PySem.W.codeIn K cd8 "_law_begun" = true) (k8 : PySem.W.keepIn K (.ref f8) = true)
    {oc9 : Value} {od9 an9 : Option Addr} {sl9 : Array (Option Value)} {kV9 dc9 pm9 ct9 : Value} {cd9 : Value}
    (a9 : PySem.W.nsIn K mainGlobals "_law_take" = some (some (.ref f9))) (l9 : K.lookup f9 = some ⟨oc9, od9, .func (PySem.W.fnOf "_law_take" "_law_take" (defArgs s_l_take) (defBody s_l_take) (defScope s_l_take) .none kV9 dc9 pm9 an9 cd9 ct9), sl9⟩) (c9 : PySem.W.codeIn K cd9 "_law_take" = true) (k9 : PySem.W.keepIn K (.ref f9) = true)
    {oc10 : Value} {od10 an10 : Option Addr} {sl10 : Array (Option Value)} {kV10 dc10 pm10 ct10 : Value} {cd10 : Value}
    (a10 : PySem.W.nsIn K mainGlobals "_law_alike" = some (some (.ref f10))) (l10 : K.lookup f10 = some ⟨oc10, od10, .func (PySem.W.fnOf "_law_alike" "_law_alike" (defArgs s_l_alike) (defBody s_l_alike) (defScope s_l_alike) .none kV10 dc10 pm10 an10 cd10 ct10), sl10⟩) (c10 : PySem.W.codeIn K cd10 "_law_alike" = true) (k10 : PySem.W.keepIn K (.ref f10) = true)
    {oc11 : Value} {od11 an11 : Option Addr} {sl11 : Array (Option Value)} {kV11 dc11 pm11 ct11 : Value} {cd11 : Value}
    (a11 : PySem.W.nsIn K mainGlobals "_law_picked" = some (some (.ref f11))) (l11 : K.lookup f11 = some ⟨oc11, od11, .func (PySem.W.fnOf "_law_picked" "_law_picked" (defArgs s_l_picked) (defBody s_l_picked) (defScope s_l_picked) .none kV11 dc11 pm11 an11 cd11 ct11), sl11⟩) (c11 : PySem.W.codeIn K cd11 "_law_picked" = true) (k11 : PySem.W.keepIn K (.ref f11) = true)
    {oc12 : Value} {od12 an12 : Option Addr} {sl12 : Array (Option Value)} {kV12 dc12 pm12 ct12 : Value} {cd12 : Value}
    (a12 : PySem.W.nsIn K mainGlobals "_law_sheet" = some (some (.ref f12))) (l12 : K.lookup f12 = some ⟨oc12, od12, .func (PySem.W.fnOf "_law_sheet" "_law_sheet" (defArgs s_l_sheet) (defBody s_l_sheet) (defScope s_l_sheet) .none kV12 dc12 pm12 an12 cd12 ct12), sl12⟩) (c12 : PySem.W.codeIn K cd12 "_law_sheet" = true) (k12 : PySem.W.keepIn K (.ref f12) = true)
    {oc13 : Value} {od13 an13 : Option Addr} {sl13 : Array (Option Value)} {kV13 dc13 pm13 ct13 : Value} {cd13 : Value}
    (a13 : PySem.W.nsIn K mainGlobals "law" = some (some (.ref f13))) (l13 : K.lookup f13 = some ⟨oc13, od13, .func (PySem.W.fnOf "law" "law" (defArgs s_law) (defBody s_law) (defScope s_law) .none kV13 dc13 pm13 an13 cd13 ct13), sl13⟩) (c13 : PySem.W.codeIn K cd13 "law" = true) (k13 : PySem.W.keepIn K (.ref f13) = true)
    (z_all : PySem.W.nsIn K mainGlobals "all" = some none)
    (z_bool : PySem.W.nsIn K mainGlobals "bool" = some none)
    (z_enumerate : PySem.W.nsIn K mainGlobals "enumerate" = some none)
    (z_int : PySem.W.nsIn K mainGlobals "int" = some none)
    (z_isinstance : PySem.W.nsIn K mainGlobals "isinstance" = some none)
    (z_len : PySem.W.nsIn K mainGlobals "len" = some none)
    (z_list : PySem.W.nsIn K mainGlobals "list" = some none)
    (z_range : PySem.W.nsIn K mainGlobals "range" = some none)
    (z_set : PySem.W.nsIn K mainGlobals "set" = some none)
    (z_str : PySem.W.nsIn K mainGlobals "str" = some none)
    (z_tuple : PySem.W.nsIn K mainGlobals "tuple" = some none)
    {t_MOST_PLACES : Tok} (y_MOST_PLACES : PySem.W.nsIn K mainGlobals "MOST_PLACES" = some (some (.int 26 t_MOST_PLACES)))
    {t_NO_HOME : Tok} (y_NO_HOME : PySem.W.nsIn K mainGlobals "NO_HOME" = some (some (.str "-" t_NO_HOME)))
    {t_ROWS : Tok} (y_ROWS : PySem.W.nsIn K mainGlobals "ROWS" = some (some (.int 3 t_ROWS))) : Txt K mg where
  d_are_signs := ⟨f0, _, fun_mk (st := s_are_signs) l0 c0 k0, (fun_mk (st := s_are_signs) l0 c0 k0).binds fun _ _ _ _ _ _ us hl => match us, hl with | [_], _ => rfl, PySem.W.mg_of X G a0⟩
  c_are_signs := cd0
  t_are_signs := tb0
  k_are_signs := ⟨⟨oc0, od0, kV0, dc0, pm0, an0, ct0, sl0, rfl, l0, c0⟩⟩
  d_can_be_a_set := ⟨f1, _, fun_mk (st := s_can_be_a_set) l1 c1 k1, (fun_mk (st := s_can_be_a_set) l1 c1 k1).binds fun _ _ _ _ _ _ us hl => match us, hl with | [_], _ => rfl, PySem.W.mg_of X G a1⟩
  d_check_sheet := ⟨f2, _, fun_mk (st := s_check_sheet) l2 c2 k2, (fun_mk (st := s_check_sheet) l2 c2 k2).binds fun _ _ _ _ _ _ us hl => match us, hl with | [_], _ => rfl, PySem.W.mg_of X G a2⟩
  d_written := ⟨f3, _, fun_mk (st := s_written) l3 c3 k3, (fun_mk (st := s_written) l3 c3 k3).binds fun _ _ _ _ _ _ us hl => match us, hl with | [_], _ => rfl, PySem.W.mg_of X G a3⟩
  d_are_figures := ⟨f4, _, fun_mk (st := s_are_figures) l4 c4 k4, (fun_mk (st := s_are_figures) l4 c4 k4).binds fun _ _ _ _ _ _ us hl => match us, hl with | [_], _ => rfl, PySem.W.mg_of X G a4⟩
  c_are_figures := cd4
  t_are_figures := tb4
  k_are_figures := ⟨⟨oc4, od4, kV4, dc4, pm4, an4, ct4, sl4, rfl, l4, c4⟩⟩
  d_is_good := ⟨f5, _, fun_mk (st := s_is_good) l5 c5 k5, (fun_mk (st := s_is_good) l5 c5 k5).binds fun _ _ _ _ _ _ us hl => match us, hl with | [_, _], _ => rfl, PySem.W.mg_of X G a5⟩
  d_check_rows := ⟨f6, _, fun_mk (st := s_check_rows) l6 c6 k6, (fun_mk (st := s_check_rows) l6 c6 k6).binds fun _ _ _ _ _ _ us hl => match us, hl with | [_], _ => rfl, PySem.W.mg_of X G a6⟩
  d_read_sheet := ⟨f7, _, fun_mk (st := s_read_sheet) l7 c7 k7, (fun_mk (st := s_read_sheet) l7 c7 k7).binds fun _ _ _ _ _ _ us hl => match us, hl with | [_], _ => rfl, PySem.W.mg_of X G a7⟩
  d_l_begun := ⟨f8, _, fun_mk (st := s_l_begun) l8 c8 k8, (fun_mk (st := s_l_begun) l8 c8 k8).binds fun _ _ _ _ _ _ us hl => match us, hl with | [_], _ => rfl, PySem.W.mg_of X G a8⟩
  d_l_take := ⟨f9, _, fun_mk (st := s_l_take) l9 c9 k9, (fun_mk (st := s_l_take) l9 c9 k9).binds fun _ _ _ _ _ _ us hl => match us, hl with | [_, _], _ => rfl, PySem.W.mg_of X G a9⟩
  d_l_alike := ⟨f10, _, fun_mk (st := s_l_alike) l10 c10 k10, (fun_mk (st := s_l_alike) l10 c10 k10).binds fun _ _ _ _ _ _ us hl => match us, hl with | [_, _], _ => rfl, PySem.W.mg_of X G a10⟩
  d_l_picked := ⟨f11, _, fun_mk (st := s_l_picked) l11 c11 k11, (fun_mk (st := s_l_picked) l11 c11 k11).binds fun _ _ _ _ _ _ us hl => match us, hl with | [_, _, _], _ => rfl, PySem.W.mg_of X G a11⟩
  d_l_sheet := ⟨f12, _, fun_mk (st := s_l_sheet) l12 c12 k12, (fun_mk (st := s_l_sheet) l12 c12 k12).binds fun _ _ _ _ _ _ us hl => match us, hl with | [_, _], _ => rfl, PySem.W.mg_of X G a12⟩
  d_law := ⟨f13, _, fun_mk (st := s_law) l13 c13 k13, (fun_mk (st := s_law) l13 c13 k13).binds fun _ _ _ _ _ _ us hl => match us, hl with | [_], _ => rfl, PySem.W.mg_of X G a13⟩
  n_all := PySem.W.mg_none_of X G z_all
  n_bool := PySem.W.mg_none_of X G z_bool
  n_enumerate := PySem.W.mg_none_of X G z_enumerate
  n_int := PySem.W.mg_none_of X G z_int
  n_isinstance := PySem.W.mg_none_of X G z_isinstance
  n_len := PySem.W.mg_none_of X G z_len
  n_list := PySem.W.mg_none_of X G z_list
  n_range := PySem.W.mg_none_of X G z_range
  n_set := PySem.W.mg_none_of X G z_set
  n_str := PySem.W.mg_none_of X G z_str
  n_tuple := PySem.W.mg_none_of X G z_tuple
  c_MOST_PLACES := ⟨_, PySem.W.mg_of X G y_MOST_PLACES⟩
  c_NO_HOME := ⟨_, PySem.W.mg_of X G y_NO_HOME⟩
  c_ROWS := ⟨_, PySem.W.mg_of X G y_ROWS⟩
theorem law_at {w : World} {K : PySem.W.Frag} {h : Heap} {mg : Str → Option Value} {q : Program} {fa f0 tb0 f1 f2 f3 f4 tb4 f5 f6 f7 f8 f9 f10 f11 f12 f13 : Addr} (X : K.In h) (G : h.Ns mainGlobals mg) (hmg : mg "law" = some (.ref fa))
    (tabs : ∀ (y : Str) (c P : Addr), ((recsOf q).any fun r => r.name == y) = true → PySem.W.tabIn K y = some (c, P) → PySem.W.CodeHd h c P ∧ h.get? P = some (PySem.W.tabObj #[]))
    {oc0 : Value} {od0 an0 : Option Addr} {sl0 : Array (Option Value)} {kV0 dc0 pm0 ct0 : Value} {cd0 : Addr}
    (a0 : PySem.W.nsIn K mainGlobals "are_signs" = some (some (.ref f0))) (l0 : K.lookup f0 = some ⟨oc0, od0, .func (PySem.W.fnOf "are_signs" "are_signs" (defArgs s_are_signs) (defBody s_are_signs) (defScope s_are_signs) .none kV0 dc0 pm0 an0 (.ref cd0) ct0), sl0⟩) (c0 : PySem.W.codeIn K (.ref cd0) "are_signs" = true) (k0 : PySem.W.keepIn K (.ref f0) = true)
    {oc1 : Value} {od1 an1 : Option Addr} {sl1 : Array (Option Value)} {kV1 dc1 pm1 ct1 : Value} {cd1 : Value}
    (a1 : PySem.W.nsIn K mainGlobals "_can_be_a_set" = some (some (.ref f1))) (l1 : K.lookup f1 = some ⟨oc1, od1, .func (PySem.W.fnOf "_can_be_a_set" "_can_be_a_set" (defArgs s_can_be_a_set) (defBody s_can_be_a_set) (defScope s_can_be_a_set) .none kV1 dc1 pm1 an1 cd1 ct1), sl1⟩) (c1 : PySem.W.codeIn K cd1 "_can_be_a_set" = true) (k1 : PySem.W.keepIn K (.ref f1) = true)
    {oc2 : Value} {od2 an2 : Option Addr} {sl2 : Array (Option Value)} {kV2 dc2 pm2 ct2 : Value} {cd2 : Value}
    (a2 : PySem.W.nsIn K mainGlobals "check_sheet" = some (some (.ref f2))) (l2 : K.lookup f2 = some ⟨oc2, od2, .func (PySem.W.fnOf "check_sheet" "check_sheet" (defArgs s_check_sheet) (defBody s_check_sheet) (defScope s_check_sheet) .none kV2 dc2 pm2 an2 cd2 ct2), sl2⟩) (c2 : PySem.W.codeIn K cd2 "check_sheet" = true) (k2 : PySem.W.keepIn K (.ref f2) = true)
    {oc3 : Value} {od3 an3 : Option Addr} {sl3 : Array (Option Value)} {kV3 dc3 pm3 ct3 : Value} {cd3 : Value}
    (a3 : PySem.W.nsIn K mainGlobals "written" = some (some (.ref f3))) (l3 : K.lookup f3 = some ⟨oc3, od3, .func (PySem.W.fnOf "written" "written" (defArgs s_written) (defBody s_written) (defScope s_written) .none kV3 dc3 pm3 an3 cd3 ct3), sl3⟩) (c3 : PySem.W.codeIn K cd3 "written" = true) (k3 : PySem.W.keepIn K (.ref f3) = true)
    {oc4 : Value} {od4 an4 : Option Addr} {sl4 : Array (Option Value)} {kV4 dc4 pm4 ct4 : Value} {cd4 : Addr}
    (a4 : PySem.W.nsIn K mainGlobals "_are_figures" = some (some (.ref f4))) (l4 : K.lookup f4 = some ⟨oc4, od4, .func (PySem.W.fnOf "_are_figures" "_are_figures" (defArgs s_are_figures) (defBody s_are_figures) (defScope s_are_figures) .none kV4 dc4 pm4 an4 (.ref cd4) ct4), sl4⟩) (c4 : PySem.W.codeIn K (.ref cd4) "_are_figures" = true) (k4 : PySem.W.keepIn K (.ref f4) = true)
    {oc5 : Value} {od5 an5 : Option Addr} {sl5 : Array (Option Value)} {kV5 dc5 pm5 ct5 : Value} {cd5 : Value}
    (a5 : PySem.W.nsIn K mainGlobals "_is_good" = some (some (.ref f5))) (l5 : K.lookup f5 = some ⟨oc5, od5, .func (PySem.W.fnOf "_is_good" "_is_good" (defArgs s_is_good) (defBody s_is_good) (defScope s_is_good) .none kV5 dc5 pm5 an5 cd5 ct5), sl5⟩) (c5 : PySem.W.codeIn K cd5 "_is_good" = true) (k5 : PySem.W.keepIn K (.ref f5) = true)
    {oc6 : Value} {od6 an6 : Option Addr} {sl6 : Array (Option Value)} {kV6 dc6 pm6 ct6 : Value} {cd6 : Value}
    (a6 : PySem.W.nsIn K mainGlobals "_check_rows" = some (some (.ref f6))) (l6 : K.lookup f6 = some ⟨oc6, od6, .func (PySem.W.fnOf "_check_rows" "_check_rows" (defArgs s_check_rows) (defBody s_check_rows) (defScope s_check_rows) .none kV6 dc6 pm6 an6 cd6 ct6), sl6⟩) (c6 : PySem.W.codeIn K cd6 "_check_rows" = true) (k6 : PySem.W.keepIn K (.ref f6) = true)
    {oc7 : Value} {od7 an7 : Option Addr} {sl7 : Array (Option Value)} {kV7 dc7 pm7 ct7 : Value} {cd7 : Value}
    (a7 : PySem.W.nsIn K mainGlobals "read_sheet" = some (some (.ref f7))) (l7 : K.lookup f7 = some ⟨oc7, od7, .func (PySem.W.fnOf "read_sheet" "read_sheet" (defArgs s_read_sheet) (defBody s_read_sheet) (defScope s_read_sheet) .none kV7 dc7 pm7 an7 cd7 ct7), sl7⟩) (c7 : PySem.W.codeIn K cd7 "read_sheet" = true) (k7 : PySem.W.keepIn K (.ref f7) = true)
    {oc8 : Value} {od8 an8 : Option Addr} {sl8 : Array (Option Value)} {kV8 dc8 pm8 ct8 : Value} {cd8 : Value}
    (a8 : PySem.W.nsIn K mainGlobals "_law_begun" = some (some (.ref f8))) (l8 : K.lookup f8 = some ⟨oc8, od8, .func (PySem.W.fnOf "_law_begun" "_law_begun" (defArgs s_l_begun) (defBody s_l_begun) (defScope s_l_begun) .none kV8 dc8 pm8 an8 cd8 ct8), sl8⟩) (c8 : PySem.W.codeIn K cd8 "_law_begun" = true) (k8 : PySem.W.keepIn K (.ref f8) = true)
    {oc9 : Value} {od9 an9 : Option Addr} {sl9 : Array (Option Value)} {kV9 dc9 pm9 ct9 : Value} {cd9 : Value}
    (a9 : PySem.W.nsIn K mainGlobals "_law_take" = some (some (.ref f9))) (l9 : K.lookup f9 = some ⟨oc9, od9, .func (PySem.W.fnOf "_law_take" "_law_take" (defArgs s_l_take) (defBody s_l_take) (defScope s_l_take) .none kV9 dc9 pm9 an9 cd9 ct9), sl9⟩) (c9 : PySem.W.codeIn K cd9 "_law_take" = true) (k9 : PySem.W.keepIn K (.ref f9) = true)
    {oc10 : Value} {od10 an10 : Option Addr} {sl10 : Array (Option Value)} {kV10 dc10 pm10 ct10 : Value} {cd10 : Value}
    (a10 : PySem.W.nsIn K mainGlobals "_law_alike" = some (some (.ref f10))) (l10 : K.lookup f10 = some ⟨oc10, od10, .func (PySem.W.fnOf "_law_alike" "_law_alike" (defArgs s_l_alike) (defBody s_l_alike) (defScope s_l_alike) .none kV10 dc10 pm10 an10 cd10 ct10), sl10⟩) (c10 : PySem.W.codeIn K cd10 "_law_alike" = true) (k10 : PySem.W.keepIn K (.ref f10) = true)
    {oc11 : Value} {od11 an11 : Option Addr} {sl11 : Array (Option Value)} {kV11 dc11 pm11 ct11 : Value} {cd11 : Value}
    (a11 : PySem.W.nsIn K mainGlobals "_law_picked" = some (some (.ref f11))) (l11 : K.lookup f11 = some ⟨oc11, od11, .func (PySem.W.fnOf "_law_picked" "_law_picked" (defArgs s_l_picked) (defBody s_l_picked) (defScope s_l_picked) .none kV11 dc11 pm11 an11 cd11 ct11), sl11⟩) (c11 : PySem.W.codeIn K cd11 "_law_picked" = true) (k11 : PySem.W.keepIn K (.ref f11) = true)
    {oc12 : Value} {od12 an12 : Option Addr} {sl12 : Array (Option Value)} {kV12 dc12 pm12 ct12 : Value} {cd12 : Value}
    (a12 : PySem.W.nsIn K mainGlobals "_law_sheet" = some (some (.ref f12))) (l12 : K.lookup f12 = some ⟨oc12, od12, .func (PySem.W.fnOf "_law_sheet" "_law_sheet" (defArgs s_l_sheet) (defBody s_l_sheet) (defScope s_l_sheet) .none kV12 dc12 pm12 an12 cd12 ct12), sl12⟩) (c12 : PySem.W.codeIn K cd12 "_law_sheet" = true) (k12 : PySem.W.keepIn K (.ref f12) = true)
    {oc13 : Value} {od13 an13 : Option Addr} {sl13 : Array (Option Value)} {kV13 dc13 pm13 ct13 : Value} {cd13 : Value}
    (a13 : PySem.W.nsIn K mainGlobals "law" = some (some (.ref f13))) (l13 : K.lookup f13 = some ⟨oc13, od13, .func (PySem.W.fnOf "law" "law" (defArgs s_law) (defBody s_law) (defScope s_law) .none kV13 dc13 pm13 an13 cd13 ct13), sl13⟩) (c13 : PySem.W.codeIn K cd13 "law" = true) (k13 : PySem.W.keepIn K (.ref f13) = true)
    (z_all : PySem.W.nsIn K mainGlobals "all" = some none)
    (z_bool : PySem.W.nsIn K mainGlobals "bool" = some none)
    (z_enumerate : PySem.W.nsIn K mainGlobals "enumerate" = some none)
    (z_int : PySem.W.nsIn K mainGlobals "int" = some none)
    (z_isinstance : PySem.W.nsIn K mainGlobals "isinstance" = some none)
    (z_len : PySem.W.nsIn K mainGlobals "len" = some none)
    (z_list : PySem.W.nsIn K mainGlobals "list" = some none)
    (z_range : PySem.W.nsIn K mainGlobals "range" = some none)
    (z_set : PySem.W.nsIn K mainGlobals "set" = some none)
    (z_str : PySem.W.nsIn K mainGlobals "str" = some none)
    (z_tuple : PySem.W.nsIn K mainGlobals "tuple" = some none)
    {t_MOST_PLACES : Tok} (y_MOST_PLACES : PySem.W.nsIn K mainGlobals "MOST_PLACES" = some (some (.int 26 t_MOST_PLACES)))
    {t_NO_HOME : Tok} (y_NO_HOME : PySem.W.nsIn K mainGlobals "NO_HOME" = some (some (.str "-" t_NO_HOME)))
    {t_ROWS : Tok} (y_ROWS : PySem.W.nsIn K mainGlobals "ROWS" = some (some (.int 3 t_ROWS)))
    {xc0 : Value} {xd0 : Option Addr} {vs0 : Array Value} {xs0 : Array (Option Value)} (lc0 : K.lookup cd0 = some ⟨xc0, xd0, .fields vs0, xs0⟩) (hv0 : (vs0[11]? : Option Value) = some (.ref tb0)) (nt0 : K.lookup tb0 = none)
    (rc0 : ((recsOf q).any fun r => r.name == "are_signs") = true)
    {xc4 : Value} {xd4 : Option Addr} {vs4 : Array Value} {xs4 : Array (Option Value)} (lc4 : K.lookup cd4 = some ⟨xc4, xd4, .fields vs4, xs4⟩) (hv4 : (vs4[11]? : Option Value) = some (.ref tb4)) (nt4 : K.lookup tb4 = none)
    (rc4 : ((recsOf q).any fun r => r.name == "_are_figures") = true)
    (ne01 : tb0 ≠ tb4) : LamX.LawAtS PySem.Challenge.rw_shifttape_k12_written_and_read w K CX0 5 63 "_law_script" mg fa h :=
  all_ok hmg (txt_mk X G (tb0 := tb0) (tb4 := tb4) a0 l0 c0 k0 a1 l1 c1 k1 a2 l2 c2 k2 a3 l3 c3 k3 a4 l4 c4 k4 a5 l5 c5 k5 a6 l6 c6 k6 a7 l7 c7 k7 a8 l8 c8 k8 a9 l9 c9 k9 a10 l10 c10 k10 a11 l11 c11 k11 a12 l12 c12 k12 a13 l13 c13 k13 z_all z_bool z_enumerate z_int z_isinstance z_len z_list z_range z_set z_str z_tuple y_MOST_PLACES y_NO_HOME y_ROWS) (tabs "are_signs" _ _ rc0 (Kt.tabIn_of a0 l0 rfl lc0 hv0)) nt0 (tabs "_are_figures" _ _ rc4 (Kt.tabIn_of a4 l4 rfl lc4 hv4)) nt4 ne01 fun s u => .of_eq rfl
end K12
open PySem PySem.W PyProof.Rows
set_option pp.maxSteps 400 in
set_option maxHeartbeats 0 in
theorem PySem.Challenge.cw_shifttape_k12_written_and_read_holds : PySem.Challenge.rw_shifttape_k12_written_and_read.Holds := by
  w_on; o_law; k_head; (case hw => w_witness2)
  k_fill
  refine Kt.end_tab (l := PySem.Challenge.rw_shifttape_k12_written_and_read) (n := 63) (k := 5) (x := "_law_script") (CX := fun _ => L2.CX0) rfl (by decide) rfl ⟨rfl, by decide, by decide⟩ (by first | exact fun w h Y => PySem.W.kIn_of Y | exact fun w h Y => PySem.W.km_in_of Y) ?F (fun _ _ _ _ _ h => h)
  case F =>
    intro w mg fa h Y KX G hmg0 tabs
    have hmg : mg ("law" : PySem.Str) = some (.ref fa) := hmg0
    clear hmg0
    refine' K12.law_at KX G hmg tabs ?a0 ?l0 ?c0 ?k0 ?a1 ?l1 ?c1 ?k1 ?a2 ?l2 ?c2 ?k2 ?a3 ?l3 ?c3 ?k3 ?a4 ?l4 ?c4 ?k4 ?a5 ?l5 ?c5 ?k5 ?a6 ?l6 ?c6 ?k6 ?a7 ?l7 ?c7 ?k7 ?a8 ?l8 ?c8 ?k8 ?a9 ?l9 ?c9 ?k9 ?a10 ?l10 ?c10 ?k10 ?a11 ?l11 ?c11 ?k11 ?a12 ?l12 ?c12 ?k12 ?a13 ?l13 ?c13 ?k13 ?z_all ?z_bool ?z_enumerate ?z_int ?z_isinstance ?z_len ?z_list ?z_range ?z_set ?z_str ?z_tuple ?y_MOST_PLACES ?y_NO_HOME ?y_ROWS ?lc0 ?hv0 ?nt0 ?rc0 ?lc4 ?hv4 ?nt4 ?rc4 ?ne01
    (case a0 => k_is); (case l0 => k_is); (case c0 => k_is); (case k0 => k_is); (case a1 => k_is); (case l1 => k_is); (case c1 => k_is); (case k1 => k_is); (case a2 => k_is); (case l2 => k_is); (case c2 => k_is); (case k2 => k_is); (case a3 => k_is); (case l3 => k_is); (case c3 => k_is); (case k3 => k_is); (case a4 => k_is); (case l4 => k_is); (case c4 => k_is); (case k4 => k_is); (case a5 => k_is); (case l5 => k_is); (case c5 => k_is); (case k5 => k_is); (case a6 => k_is); (case l6 => k_is); (case c6 => k_is); (case k6 => k_is); (case a7 => k_is); (case l7 => k_is); (case c7 => k_is); (case k7 => k_is); (case a8 => k_is); (case l8 => k_is); (case c8 => k_is); (case k8 => k_is); (case a9 => k_is); (case l9 => k_is); (case c9 => k_is); (case k9 => k_is); (case a10 => k_is); (case l10 => k_is); (case c10 => k_is); (case k10 => k_is); (case a11 => k_is); (case l11 => k_is); (case c11 => k_is); (case k11 => k_is); (case a12 => k_is); (case l12 => k_is); (case c12 => k_is); (case k12 => k_is); (case a13 => k_is); (case l13 => k_is); (case c13 => k_is); (case k13 => k_is); (case z_all => k_is); (case z_bool => k_is); (case z_enumerate => k_is); (case z_int => k_is); (case z_isinstance => k_is); (case z_len => k_is); (case z_list => k_is); (case z_range => k_is); (case z_set => k_is); (case z_str => k_is); (case z_tuple => k_is); (case y_MOST_PLACES => k_is); (case y_NO_HOME => k_is); (case y_ROWS => k_is)
    (case lc0 => k_is); (case hv0 => rfl); (case nt0 => kernel_rfl); (case rc0 => decide +kernel); (case lc4 => k_is); (case hv4 => rfl); (case nt4 => kernel_rfl); (case rc4 => decide +kernel); (case ne01 => decide)
