import PyProof.Rows.All
import Wide.All
import OpenK.AllK
import Wide.FinOn
import HandS.ForMost
import HandS.Set
import HandS.SetFor
import HandS.Rev
import KE.GoesZip
import KE.GoesMore
import KE.GoesEnum
import KE.KStateDown
import Lean
import Open.SpecLaws
import KE.OsGo
import HandS.ForSpec
import HandS.Defaults
import HandS.Head0
import HandS.Head1
import HandS.Head2
import HandS.Head3
import HandS.Head4
import HandS.HeadHook1
import HandS.HeadHook2
import HandS.HeadHook3
import HandS.HeadHook4
import HandS.Steps
import HandS.Evl
import HandS.Flow
import PySem.Challenge.RW_valueslots_s01_answers
import HandS.Strs
import HandS.Conv
import HandS.More
import HandS.Zip
import PyProof.AutoSeq1
import Cm06Spec
import PyCm06
set_option Elab.async false
set_option linter.all false
set_option maxRecDepth 100000
set_option maxHeartbeats 0
/-! A set made of a list of ints: what is in it, with its order's word (SetR), so that it can be sorted. -/
namespace VS
open PySem PySem.Spec PyProof.Rows L2
abbrev bareSet (w : World) : Obj := { cls := .type "set", dict := none, data := .set #[] 0 (.fresh 0 0 (!w.params.followText "set-order")) }
section
variable {P : Program} {w : World} {A : Around} {E : Value → Shared → Prop} {s : Shared} {lst : Addr} {cells : Array Value} {zs : List Int}
/-- what is told of a set that was made of zs at the place S -/
def Filled (w : World) (s : Shared) (zs : List Int) (h' : Heap) (c : Nat) : Prop :=
  SetR w h' s.heap.objs.size (fun j => decide (j ∈ zs)) c ∧ c ≤ zs.length ∧ ∀ b o, s.heap.get? b = some o → h'.get? b = some o
theorem set_of_list {Q : Value → Shared → Prop} (free : A.handled = none) (isl : s.heap.IsList lst cells) (hz : IntsAre cells.toList zs) (room : zs.length + 1 < scanBound)
    (go : ∀ h' tk c, Filled w s zs h' c → Q (.ref s.heap.objs.size) { s with heap := h', toks := tk }) :
    wpAny (model P w) A (call (.type "set") [.ref lst]) Q E s := by
  have many : cells.size = zs.length := by rw [← Array.length_toList]; exact IntsAre.length hz
  have atS : (s.heap.push (bareSet w)).get? s.heap.objs.size = some (bareSet w) := Heap.get?_push_size _ rfl
  have below : lst < s.heap.objs.size := by obtain ⟨o, ho, _⟩ := isl; exact Heap.lt_size ho
  have isl2 : (s.heap.push (bareSet w)).IsList lst cells := isl.push _
  have isS : Shared.TypeIs { s with heap := s.heap.push (bareSet w) } (.ref s.heap.objs.size) "set" := ⟨_, atS, rfl⟩
  obtain ⟨m0, m1, m2⟩ := F.called_set.mro
  have m3 := F.called_set.made
  have m4 := F.called_set.sub
  have m5 := F.called_set.notType
  have m6 := F.called_set.canCreate
  have m7 := F.typeCall_set_1 (.ref lst)
  have m8 := F.called_set.init.lookup
  have m9 := F.called_set.init.bind (.ref s.heap.objs.size)
  refine wpAny_call (codeAny_of_tree ?_)
  show wpAny _ _ (callAny (.type "set") _) _ _ _
  refine wpAny_pure ⟨Code.quiet_builtin _ (by decide +kernel), codeAny_builtin F.entry_type_call ?_⟩
  rw [Around.under_plain (weight_type_call_type "set" [.ref lst] []) rfl]
  repeat any_goals first | wp_step | assumption
  refine codeAny_mono (code_set_led1 (.ref lst) (E := E) (Q₁ := fun made s1 => made = .ref s.heap.objs.size ∧ s1 = { s with heap := s.heap.push (bareSet w) }) ⟨rfl, rfl⟩) fun res s1 told => ?_
  cases res with
  | error x => exact told
  | ok fl =>
    cases fl with
    | ret made =>
      obtain ⟨e1, e2⟩ := told
      subst e1
      subst e2
      repeat any_goals first | wp_step | assumption
      let Told : Value → Shared → Prop := fun r s2 => r = .none ∧ ∃ h' tk c, s2 = { s with heap := h', toks := tk } ∧ Filled w s zs h' c
      refine codeAny_mono (codeAny_call_builtin (R := wants Told E) F.called_set.init.plain F.entry_set_init (check_set_init_1 isS ?_)) fun res2 s2 told2 => ?_
      · obtain ⟨o, ho, hcls, n, hdat⟩ := id isl2
        obtain ⟨ocls, odict, odata, oslots⟩ := o
        simp only at hcls hdat
        subst hcls
        subst hdat
        have k1 := F.sub_list_set
        have k2 := F.sub_list_frozenset
        have k3 : (Value.type "list" == Value.type "dict") = false := by decide
        unfold Builtin.«set.__init__» noKeywords Builtin.Frozenset.updateFrom
        generalize walk : pyIter = it
        wp_walk
        subst walk
        refine wpAny_pyIter_list isl2 (wpAny_bind (wpAny_runValue ?_))
        have free3 : A.in1.in1.in1.handled = none := by simp [free]
        have up : (s.heap.push (bareSet w)).objs.size = s.heap.objs.size + 1 := Heap.size_push ..
        have apart : lst ≠ (s.heap.push (bareSet w)).objs.size := up ▸ Nat.ne_of_lt (Nat.lt_succ_of_lt below)
        have out : s.heap.objs.size ∉ [(s.heap.push (bareSet w)).objs.size, lst] := by
          rw [up]
          simp only [List.mem_cons, List.not_mem_nil, or_false, not_or]
          exact ⟨(Nat.succ_ne_self _).symm, (Nat.ne_of_lt below).symm⟩
        have each : ∀ (i : Nat) (v : Value), cells[i]? = some v → ∃ k t, zs[i]? = some k ∧ v = .int k t := fun i v hv => by
          have lt : i < zs.length := many ▸ (Array.getElem?_eq_some_iff.mp hv).1
          obtain ⟨t, e⟩ := PyProof.Rows.IntsAre.int_at hz i v (by rw [Array.getElem?_toList]; exact hv)
          refine ⟨zs[i], t, List.getElem?_eq_getElem lt, ?_⟩
          rw [e, List.getD_eq_getElem?_getD, List.getElem?_eq_getElem lt] <;> rfl
        refine set_update_ints (Walks.list free3 _ lst apart cells).toS s.heap.objs.size out zs many room each cells.size 0 _ rfl (Nat.zero_le _) ⟨⟨_, Heap.get?_push_size _ rfl, rfl, rfl⟩, isl2.push _⟩ ⟨0, Nat.le_refl 0, setR_new_at (Heap.get?_push_of_some _ atS)⟩ ?_
        intro s3 c mv hc full
        obtain ⟨h3, g3, d3, t3, o3⟩ := s3
        cases (show g3 = s.gens from mv.gens)
        cases (show d3 = s.drawn from mv.drawn)
        cases (show o3 = s.os from mv.os)
        refine wpAny_pure ?_
        show wpAny _ _ (ret Value.none) _ _ _
        refine wpAny_pure ⟨rfl, h3, t3, c, rfl, full, many ▸ hc, fun b o e => ?_⟩
        have lt := Heap.lt_size e
        refine mv.heap b o ?_ (Heap.get?_push_of_some _ (Heap.get?_push_of_some _ e))
        simp only [List.mem_cons, List.not_mem_nil, or_false, not_or]
        exact ⟨Nat.ne_of_lt lt, up ▸ Nat.ne_of_lt (Nat.lt_succ_of_lt lt)⟩
      · cases res2 with
        | error x => exact told2
        | ok fl2 =>
          cases fl2 with
          | ret r =>
            obtain ⟨e1, h', tk, c, e2, full⟩ := told2
            subst e1
            subst e2
            repeat any_goals first | wp_step | assumption
            exact go _ _ _ full
          | _ => exact told2.elim
    | _ => exact told.elim
end
end VS
/-! list(reversed(x)) of a list. -/
namespace VS
open PySem PySem.Spec PyProof.Rows L2 RT
abbrev noItems : Obj := { cls := .type "list", data := .seq #[] }
section
variable {P : Program} {w : World} {A : Around} {E : Value → Shared → Prop} {s : Shared} {it l S : Addr} {cells : Array Value}
/-- the items that reversed(cells) gives, in order -/
abbrev Back (cells : Array Value) : Nat → Value → Prop := fun i v => cells[cells.size - 1 - i]? = some v
theorem ext_rev {R : Result → Shared → Prop} {c0 : Nat} (free : A.handled = none) (hit : s.heap.IsRevIter it l ((cells.size : Int) - 1)) (isl : s.heap.IsList l cells) (apart : l ≠ it) (small : cells.size ≤ sizeLine)
    (hS : s.heap.get? S = some { cls := .type "list", data := .seq #[] c0 }) (ni : S ≠ it) (nl : S ≠ l)
    (hR : ∀ h' tk acc c, (∀ b o, b ≠ S → b ≠ it → s.heap.get? b = some o → h'.get? b = some o) → h'.get? S = some { cls := .type "list", data := .seq acc c } → ItemsOf (Back cells) acc cells.size → R (.ok (.ret .none)) { s with heap := h', toks := tk }) :
    wpAny (model P w) A.in1 (Builtin.List.listExtendWith (.ref S) (.ref it) .none)
      (fun fin s' => match fin with
        | .done f => R (.ok f) s'
        | .again c' => c'.quiet = true ∧ codeAny (model P w) A c' R s') (fun e s' => R (.error e) s') s := by
  have W := (Walks.listRev (prog := P) (w := w) (A := A.in1) free it l apart cells).toS
  have out : S ∉ [it, l] := by
    simp only [List.mem_cons, List.not_mem_nil, or_false, not_or]
    exact ⟨ni, nl⟩
  have isT : s.TypeIs (.ref it) "list_reverseiterator" := Heap.IsRevIter.typeIs hit
  have e0 : ((cells.size : Nat) : Int) - 1 - ((0 : Nat) : Int) = (cells.size : Int) - 1 := by omega
  have ns : Builtin.List.listSameRef (.ref S) (.ref it) = false := by simp [Builtin.List.listSameRef, ni]
  unfold Builtin.List.listExtendWith
  refine wpAny_bind (wpAny_typeOf isT ?_)
  rw [if_neg (by rw [ns]; decide)]
  refine wpAny_bind (wpAny_pyIter_revIter hit (wpAny_bind (wpAny_holding ?_)))
  unfold Builtin.List.listLengthHint
  refine wpAny_bind (wpAny_specialOf isT nolen_lri ?_)
  show wpAny _ A.in1 (specialOf (Value.ref it) (Str.ofString "__length_hint__") >>= _) _ _ _
  refine wpAny_bind (wpAny_specialOf isT hint_lri ?_)
  generalize nm : ("list_reverseiterator.__length_hint__" : String) = hid
  wp_delta
  rw [show splitId hid = some ("list_reverseiterator", "__length_hint__") from by subst nm; decide +kernel]
  subst nm
  refine wpAny_bind (wpAny_isInstance (b := true) isT (by rw [isSubtype_type]; kernel_rfl) (wpAny_pure ?_))
  rw [if_neg (by decide)]
  refine wpAny_pure ⟨plainId_quiet F.plain_extend_loop _, codeAny_extend_loopS W small S out _ cells.size 0 _ _ _ rfl (Nat.zero_le _) ⟨Nat.zero_le _, by rw [e0]; exact hit, isl⟩ hS (ItemsOf.nil _) fun s' acc c mv hS' all => ?_⟩
  rw [Moved.eq_with mv]
  refine hR s'.heap s'.toks acc c (fun b o nb nb2 e => mv.heap b o (fun m => ?_) e) hS' all
  rcases List.mem_cons.mp m with q | q
  · exact nb q
  · exact nb2 (List.mem_singleton.mp q)
theorem init_rev {R : Result → Shared → Prop} (free : A.handled = none) (hit : s.heap.IsRevIter it l ((cells.size : Int) - 1)) (isl : s.heap.IsList l cells) (apart : l ≠ it) (small : cells.size ≤ sizeLine)
    (hS : s.heap.get? S = some noItems) (ni : S ≠ it) (nl : S ≠ l)
    (hR : ∀ h' tk acc c, (∀ b o, b ≠ S → b ≠ it → s.heap.get? b = some o → h'.get? b = some o) → h'.get? S = some { cls := .type "list", data := .seq acc c } → ItemsOf (Back cells) acc cells.size → R (.ok (.ret .none)) { s with heap := h', toks := tk }) :
    wpAny (model P w) A.in1 (Builtin.«list.__init__» ⟨[.ref S, .ref it], []⟩)
      (fun fin s' => match fin with
        | .done f => R (.ok f) s'
        | .again c' => c'.quiet = true ∧ codeAny (model P w) A c' R s') (fun e s' => R (.error e) s') s := by
  have emp := Heap.get?_update_self (Obj.mapSeq (fun _ => (#[] : Array Value))) hS rfl
  have rest : ∀ b o, b ≠ S → s.heap.get? b = some o → (s.heap.update S (Obj.mapSeq (fun _ => (#[] : Array Value)))).get? b = some o := fun b o nb e => (Heap.get?_update_other _ _ (Ne.symm nb)).trans e
  show wpAny _ _ (Builtin.List.listItems (.ref S) >>= fun old => _) _ _ s
  refine wpAny_bind ?_
  unfold Builtin.List.listItems
  refine wpAny_bind (wpAny_seqItems hS rfl (wpAny_pure ?_))
  show wpAny _ _ (updateSeq S (fun _ => #[]) >>= fun _ => _) _ _ s
  refine wpAny_bind (wpAny_updateSeq hS rfl (wpAny_bind (wpAny_letGo ?_)))
  obtain ⟨oi, hoi, qi⟩ := id hit
  obtain ⟨ol, hol, ql⟩ := id isl
  exact ext_rev free ⟨oi, rest it oi (Ne.symm ni) hoi, qi⟩ ⟨ol, rest l ol (Ne.symm nl) hol, ql⟩ apart small emp ni nl fun h' tk acc c hk hS' all => hR h' tk acc c (fun b o nb nb2 e => hk b o nb nb2 (rest b o nb e)) hS' all
theorem list_of_rev {Q : Value → Shared → Prop} (free : A.handled = none) (hit : s.heap.IsRevIter it l ((cells.size : Int) - 1)) (isl : s.heap.IsList l cells) (apart : l ≠ it) (small : cells.size ≤ sizeLine)
    (hQ : ∀ h' tk acc c, (∀ b o, b ≠ it → s.heap.get? b = some o → h'.get? b = some o) → h'.get? s.heap.objs.size = some { cls := .type "list", data := .seq acc c } → ItemsOf (Back cells) acc cells.size → Q (.ref s.heap.objs.size) { s with heap := h', toks := tk }) :
    wpAny (model P w) A (call (.type "list") [.ref it]) Q E s := by
  refine callType_codes (Q₁ := fun made s1 => made = .ref s.heap.objs.size ∧ s1 = { s with heap := s.heap.push noItems }) F.called_list (F.typeCall_list_1 _) F.entry_list_init (code_list_new _ ⟨rfl, rfl⟩) fun made s1 told => ?_
  obtain ⟨e1, e2⟩ := told
  subst e1
  subst e2
  have hS : (s.heap.push noItems).get? s.heap.objs.size = some noItems := Heap.get?_push_size _ rfl
  obtain ⟨oi, hoi, qi⟩ := id hit
  obtain ⟨ol, hol, ql⟩ := id isl
  refine ⟨⟨_, hS, rfl⟩, F.args_list_init_2 _ _, init_rev (A := A.in1) free ⟨oi, Heap.get?_push_of_some _ hoi, qi⟩ ⟨ol, Heap.get?_push_of_some _ hol, ql⟩ apart small hS (Nat.ne_of_gt (Heap.lt_size hoi)) (Nat.ne_of_gt (Heap.lt_size hol)) fun h' tk acc c hk hS' all => ?_⟩
  exact ⟨rfl, hQ h' tk acc c (fun b o nb e => hk b o (Nat.ne_of_lt (Heap.lt_size e)) nb (Heap.get?_push_of_some _ e)) hS' all⟩
end
end VS
/-! A walk over zip(a tuple, a list). -/
namespace VS
open PySem PySem.Spec PyProof.Rows L2
/-- the tuple at a and the list at b, turn by turn, in new pairs -/
def ItTL (K : PySem.W.Frag) (a b : Addr) : It where
  go := fun i H => ∃ (xs ys : List V) (x y : V), SqT K H a xs ∧ SqL K H b ys ∧ xs[i]? = some x ∧ ys[i]? = some y
  yld := fun i H v H' => ∃ T x y, v = .ref T ∧ H T = none ∧ H' = upd H T (.tup [x, y]) ∧ (∀ xs, SqT K H a xs → xs[i]? = some x) ∧ ∀ ys, SqL K H b ys → ys[i]? = some y
  stop := fun i H => ∃ xs ys : List V, SqT K H a xs ∧ SqL K H b ys ∧ i ≤ xs.length ∧ i ≤ ys.length ∧ (i = xs.length ∨ i = ys.length)
/-- the five new cells: z, the iterators, their tuple, the tuple given -/
abbrev five (N : Nat) : List Addr := [N + 4, N + 2, N + 3, N, N + 1]
def ZipSt (N a b i : Nat) (h : Heap) : Prop := IsZip h (N + 4) (N + 2) (N + 3) .none ∧ IsTupOf2 h (N + 2) (.ref N) (.ref (N + 1)) ∧ (∃ x y, IsTupOf2 h (N + 3) x y) ∧ h.IsTupleIter N a i ∧ h.IsListIter (N + 1) b i
theorem of_five {N : Nat} {c : Addr} (h : c ∈ five N) : c = N + 4 ∨ c = N + 2 ∨ c = N + 3 ∨ c = N ∨ c = N + 1 := by simpa using h
theorem turn_zipTL {P : Program} {w : World} {K : PySem.W.Frag} {elts : List Expr} {kk : Nat} {tpos : Pos} {a b : Addr} {N : Nat} (la : a < N) (lb : b < N) :
    Turn P w K (.Tuple elts kk tpos) (ItTL K a b) (five N) (N + 4) (ZipSt N a b) where
  mem := by simp
  obj := fun i h st c hc => by
    obtain ⟨hz, hTI, ⟨x, y, hTO⟩, ⟨o1, e1, _, d1⟩, ⟨o2, e2, _, d2⟩⟩ := st
    rcases of_five hc with q | q | q | q | q <;> subst q
    · exact ⟨_, hz, fun v q => nomatch q⟩
    · exact ⟨_, hTI, fun v q => nomatch q⟩
    · exact ⟨_, hTO, fun v q => nomatch q⟩
    · exact ⟨o1, e1, fun v q => by rw [d1] at q; cases q⟩
    · exact ⟨o2, e2, fun v q => by rw [d2] at q; cases q⟩
  keep := fun i h h' ⟨hz, hTI, ⟨x, y, hTO⟩, h1, h2⟩ k =>
    ⟨k _ (by simp) _ hz, k _ (by simp) _ hTI, ⟨x, y, k _ (by simp) _ hTO⟩, h1.at fun o q => k _ (by simp) o q, h2.at fun o q => k _ (by simp) o q⟩
  item := by
    intro X hP hw hK hc i pins s σ H E I hf st hg
    subst hP hw hK
    obtain ⟨hz, hTI, ⟨x0, y0, hTO⟩, h1, h2⟩ := st
    obtain ⟨xs, ys, x, y, hqx, hqy, hx, hy⟩ := hg
    obtain ⟨us, rv, p, _⟩ := I.tuple hqx
    obtain ⟨vs, rv2, p2, _⟩ := I.list hqy
    obtain ⟨u, hu, ru⟩ := rv.get hx
    obtain ⟨u2, hu2, ru2⟩ := rv2.get hy
    have sep : ZipSep2 (N + 4) (N + 2) (N + 3) N (N + 1) [N, a] [N + 1, b] := zip_sep2 (fun c q => by rw [List.mem_singleton.mp q]; exact la) (fun c q => by rw [List.mem_singleton.mp q]; exact lb)
    have ha1 : X.A.in1.handled = none := by simp [I.ok.hd hc]
    have zl : N + 4 < s.heap.objs.size := Heap.lt_size hz
    refine wpAny_pyNext_zipD2_item sep (Draws.tuple ha1 N a (Nat.ne_of_lt la) us.toArray) (Draws.list ha1 (N + 1) b (Nat.ne_of_lt (Nat.lt_succ_of_lt lb)) vs.toArray) hz hTI hTO ⟨h1, p⟩ ⟨h2, p2.isList⟩
      (by simpa using (List.getElem?_eq_some_iff.mp hu).1) (by simpa using (List.getElem?_eq_some_iff.mp hu2).1) fun v1 v2 h' tk e1 e2 z' TO' s1 s2 hT hsz hk => ?_
    have q1 : v1 = u := by
      have e1 : us[i]? = some v1 := by simpa using e1
      rw [hu] at e1
      exact (Option.some.inj e1).symm
    have q2 : v2 = u2 := by
      have e2 : vs[i]? = some v2 := by simpa using e2
      rw [hu2] at e2
      exact (Option.some.inj e2).symm
    subst q1
    subst q2
    refine ⟨_, rfl, wpAny_letOwnedTupleGo_zip (s := { s with heap := h', toks := tk }) z' fun h'' z'' sb => ?_⟩
    have hT2 : h''.get? s.heap.objs.size = some { cls := .type "tuple", data := .seq #[v1, v2] } := (sb.2 _ (Nat.ne_of_gt zl)).trans hT
    have new : ObjOk X.prog X.w (upd H s.heap.objs.size (.tup [x, y])) h'' s.heap.objs.size (.tup [x, y]) := ⟨show 2 ≤ sizeLine by decide, [v1, v2], .cons ru (.cons ru2 .nil), ⟨_, hT2, rfl, _, rfl⟩⟩
    have I1 : Inv X pins σ (upd H s.heap.objs.size (.tup [x, y])) { s with heap := h'', toks := tk } := by
      refine I.turnedNew (t' := tk) (ch := five N) (fun c o nb q => ?_) hf (Nat.le_refl _) new
      have ne : ∀ j, j ∈ five N → c ≠ j := fun j hj e => nb (e ▸ hj)
      exact (sb.2 c (ne _ (by simp))).trans (hk c o (ne _ (by simp)) (ne _ (by simp)) (ne _ (by simp)) (ne _ (by simp)) q)
    refine ⟨.ref s.heap.objs.size, _, I1, rfl, ⟨_, x, y, rfl, I.hok.fresh (Nat.le_refl _), rfl, fun l hl => by rw [I.tuple_inj hl hqx]; exact hx, fun l hl => by rw [I.list_inj hl hqy]; exact hy⟩, ⟨z'', ?_, ⟨v1, v2, ?_⟩, ?_, ?_⟩, fun c hcm => ?_⟩
    · exact (sb.2 _ sep.TIz).trans (hk _ _ sep.TIz sep.TITO sep.TIi1 sep.TIi2 hTI)
    · exact (sb.2 _ sep.TOz).trans TO'
    · exact s1.1.at fun o q => (sb.2 _ (Ne.symm sep.zi1)).trans q
    · exact s2.1.at fun o q => (sb.2 _ (Ne.symm sep.zi2)).trans q
    · have lt : c < s.heap.objs.size := by
        rcases of_five hcm with q | q | q | q | q <;> subst q
        · exact zl
        · exact Heap.lt_size hTI
        · exact Heap.lt_size hTO
        · obtain ⟨_, e1, _⟩ := h1
          exact Heap.lt_size e1
        · obtain ⟨_, e2, _⟩ := h2
          exact Heap.lt_size e2
      rw [upd_ne (Nat.ne_of_lt lt)]
      exact (hf c hcm).1
  done := by
    intro X hP hw hK hc i pins s σ H E I hf st hg
    subst hP hw hK
    obtain ⟨hz, hTI, ⟨x0, y0, hTO⟩, h1, h2⟩ := st
    obtain ⟨xs, ys, hqx, hqy, le1, le2, fin⟩ := hg
    obtain ⟨us, rv, p, _⟩ := I.tuple hqx
    obtain ⟨vs, rv2, p2, _⟩ := I.list hqy
    have n1 := rv.length
    have n2 := rv2.length
    have sep : ZipSep2 (N + 4) (N + 2) (N + 3) N (N + 1) [N, a] [N + 1, b] := zip_sep2 (fun c q => by rw [List.mem_singleton.mp q]; exact la) (fun c q => by rw [List.mem_singleton.mp q]; exact lb)
    have ha1 : X.A.in1.handled = none := by simp [I.ok.hd hc]
    refine wpAny_pyNext_zipD2_end sep (Draws.tuple ha1 N a (Nat.ne_of_lt la) us.toArray) (Draws.list ha1 (N + 1) b (Nat.ne_of_lt (Nat.lt_succ_of_lt lb)) vs.toArray) hz hTI hTO ⟨h1, p⟩ ⟨h2, p2.isList⟩ (by simp; omega) (by simp; omega) (by simp; omega) fun h' tk hk => ?_
    refine ⟨rfl, I.turnedL (t' := tk) (ch := five N) (fun c o nb q => ?_) hf⟩
    have ne : ∀ j, j ∈ five N → c ≠ j := fun j hj e => nb (e ▸ hj)
    exact hk c o (ne _ (by simp)) (ne _ (by simp)) (ne _ (by simp)) (ne _ (by simp)) q
  self := fun A i s Q E st h => wpAny_pyIter_zip st.1 h
def iZipTL (K : PySem.W.Frag) (ta : TA) : TI := fun σ H R => ta σ H fun vs H1 => ∃ a b xs ys, vs = [.ref a, .ref b] ∧ SqT K H1 a xs ∧ SqL K H1 b ys ∧ R (ItTL K a b) H1
theorem pi_zipTL {X : Cx} {e e2 : Expr} {ta : TA} {p pos tpos : Pos} {elts : List Expr} {kk : Nat} (hg : Gl X "zip") (hm : X.mg "zip" = none) (ha : PA X [e, e2] ta)
    (hs : starEach [e, e2] X.env = (false, eval e X.env) :: starEach [e2] X.env := by rfl) (hpl : (backTo pos (starEach [e2] X.env)).any (·.1) = false := by rfl) :
    PI X (.Tuple elts kk tpos) (.Call (.Name "zip" p) [e, e2] [] pos) (iZipTL X.K ta) := by
  refine ⟨fun pins s σ H R I h => Call_ (ld_blt I hg hm PyProof.Rows.boot_zip (PyProof.Rows.callWith_type1 (thn (ha.run pos pins s σ H _ I h) fun us s1 ⟨vs, H1, I1, r1, q1⟩ => ?_) hs hpl))⟩
  obtain ⟨a, b, xs, ys, ex, hqx, hqy, q⟩ := q1
  subst ex
  cases r1 with
  | cons r rr =>
    cases rr with
    | cons r' rr =>
      cases rr
      cases r
      cases r'
      obtain ⟨us, rv, p1, _⟩ := I1.tuple hqx
      obtain ⟨vs, rv2, p2, _⟩ := I1.list hqy
      have la : a < s1.heap.objs.size := by obtain ⟨o, ho, _⟩ := id p1; exact Heap.lt_size ho
      refine zip_begins2 (begins_tuple a us.toArray) (begins_list b vs.toArray) p1 p2.isList fun h' hz hTI hTO g1 g2 hsz hk => wpAny_pyIter_zip hz ?_
      have I2 : Inv X pins σ H1 { s1 with heap := h' } := I1.kept (t' := s1.toks) hk
      refine ⟨s1.heap.objs.size + 4, five s1.heap.objs.size, _, _, H1, rfl, I2, turn_zipTL la p2.lt, ⟨hz, hTI, ⟨_, _, hTO⟩, ⟨_, g1, rfl, rfl⟩, ⟨_, g2, rfl, rfl⟩⟩, fun c hcm => ?_, q⟩
      have le : s1.heap.objs.size ≤ c := by
        rcases of_five hcm with e | e | e | e | e <;> subst e <;> first | exact Nat.le_add_right _ _ | exact Nat.le_refl _
      exact I1.fpOk le (I1.hok.fresh le)
/-- a loop over zip(a tuple, a list) of one length -/
theorem for_zipTL {K : PySem.W.Frag} {a b : Addr} {xs ys : List V} {g : TG} {tb : TS} {D : Ends} {σ : L2.St} {H : Hp} (hl : xs.length = ys.length) (Pv : Nat → L2.St → Hp → Prop) (h0 : Pv 0 σ H) (hq : ∀ i σ H, Pv i σ H → SqT K H a xs ∧ SqL K H b ys)
    (step : ∀ i x y σ H T, xs[i]? = some x → ys[i]? = some y → H T = none → Pv i σ H → g (.ref T) σ (upd H T (.tup [x, y])) fun σ2 H2 => tb { D with nx := Pv (i + 1), ct := Pv (i + 1), bk := D.nx } σ2 H2) (hd : ∀ σ H, Pv xs.length σ H → D.nx σ H) :
    ∃ W : Nat → Nat → L2.St → Hp → Prop, (∃ m, W 0 m σ H) ∧ ∀ i m σ H, W i m σ H →
      ((ItTL K a b).stop i H ∧ D.nx σ H) ∨ ((ItTL K a b).go i H ∧ ∃ N : L2.St → Hp → Prop, (∀ σ' H', N σ' H' → ∃ m', m' < m ∧ W (i + 1) m' σ' H') ∧ ∀ v H', (ItTL K a b).yld i H v H' → g v σ H' fun σ2 H2 => tb { D with nx := N, ct := N, bk := D.nx } σ2 H2) := by
  refine ⟨fun i m σ H => m = xs.length - i ∧ i ≤ xs.length ∧ Pv i σ H, ⟨xs.length, rfl, Nat.zero_le _, h0⟩, ?_⟩
  rintro i m σ H ⟨rfl, hi, p⟩
  obtain ⟨hx, hy⟩ := hq i σ H p
  by_cases lt : i < xs.length
  · have ex := List.getElem?_eq_getElem lt
    have ey := List.getElem?_eq_getElem (hl ▸ lt)
    refine .inr ⟨⟨xs, ys, _, _, hx, hy, ex, ey⟩, Pv (i + 1), fun σ' H' q => ⟨xs.length - (i + 1), by omega, rfl, lt, q⟩, fun v H' ⟨T, x, y, e1, e2, e3, e4, e5⟩ => ?_⟩
    subst e1
    subst e3
    exact step i x y σ H T (e4 xs hx) (e5 ys hy) e2 p
  · have e : i = xs.length := by omega
    subst e
    exact .inl ⟨⟨xs, ys, hx, hy, Nat.le_refl _, Nat.le_of_eq hl, .inl rfl⟩, hd σ H p⟩
end VS
/-! The top of the program: its statements by places, what they have written, by names. Printed by gen.py. -/
namespace VS
open PySem PySem.Spec PyProof.Rows L2
def top (i : Nat) : Stmt := PySem.Challenge.pw_valueslots_s01_answers.main.body.getD i (.Pass ⟨0, 0, 0, 0⟩)
abbrev s_all_values : Stmt := top 21
abbrev s_all_targets : Stmt := top 22
abbrev s_Block_init : Stmt := inClass (top 23) 0
abbrev s_Code_init : Stmt := inClass (top 24) 0
abbrev s_Code_open_block : Stmt := inClass (top 24) 1
abbrev s_Code_begin : Stmt := inClass (top 24) 2
abbrev s_Code_block : Stmt := inClass (top 24) 3
abbrev s_Code_num : Stmt := inClass (top 24) 4
abbrev s_Code_two : Stmt := inClass (top 24) 5
abbrev s_Code_say : Stmt := inClass (top 24) 6
abbrev s_Code_put_row : Stmt := inClass (top 24) 7
abbrev s_Code_jump : Stmt := inClass (top 24) 8
abbrev s_Code_fork : Stmt := inClass (top 24) 9
abbrev s_Code_give : Stmt := inClass (top 24) 10
abbrev s_Code_put_end : Stmt := inClass (top 24) 11
abbrev s_given_by_row : Stmt := top 26
abbrev s_used_by_row : Stmt := top 27
abbrev s_used_by_end : Stmt := top 28
abbrev s_ways : Stmt := top 29
abbrev s_given_in_block : Stmt := top 30
abbrev s_given_in_code : Stmt := top 31
abbrev s_is_whole : Stmt := top 33
abbrev s_ways_fit : Stmt := top 34
abbrev s_reached : Stmt := top 35
abbrev s_is_fair : Stmt := top 36
abbrev s_given_at_begin : Stmt := top 37
abbrev s_uses_are_given : Stmt := top 38
abbrev s_all_among : Stmt := top 39
abbrev s_coming_in : Stmt := top 41
abbrev s_come_in_to : Stmt := top 42
abbrev s_live_in_block : Stmt := top 43
abbrev s_live_at_end : Stmt := top 44
abbrev s_live_in_code : Stmt := top 45
abbrev s_there_in_code : Stmt := top 46
abbrev s_there_in_block : Stmt := top 47
abbrev s_most_there : Stmt := top 48
abbrev s_are_together : Stmt := top 49
abbrev s_value_slots : Stmt := top 51
abbrev s_place_one_by_one : Stmt := top 52
abbrev s_place_rows : Stmt := top 53
abbrev s_least_free : Stmt := top 54
abbrev s_code_in_slots : Stmt := top 55
abbrev s_block_in_slots : Stmt := top 56
abbrev s_all_in_slots : Stmt := top 57
abbrev s_row_in_slots : Stmt := top 58
abbrev s_end_in_slots : Stmt := top 59
abbrev s_run : Stmt := top 76
abbrev s_run_blocks : Stmt := top 77
abbrev s_run_rows : Stmt := top 78
abbrev s_run_end : Stmt := top 79
abbrev s_hand_over : Stmt := top 80
abbrev s_combined : Stmt := top 81
abbrev s_counted : Stmt := top 83
abbrev s_code_in_numbers : Stmt := top 84
abbrev s_block_in_numbers : Stmt := top 85
abbrev s_end_in_numbers : Stmt := top 86
abbrev s_refusal_of_all : Stmt := top 92
abbrev s_ask_run : Stmt := top 93
abbrev s_ask_run_in_registers : Stmt := top 94
abbrev s_ask_lives : Stmt := top 95
abbrev s_ask_there : Stmt := top 96
abbrev s_is_place : Stmt := top 97
abbrev s_ask_together : Stmt := top 98
abbrev s_ask_most : Stmt := top 99
abbrev s_ask_registers : Stmt := top 100
abbrev s_ask_in_registers : Stmt := top 101
abbrev s_in_registers : Stmt := top 102
abbrev s_answers : Stmt := top 120
abbrev s_split_calls : Stmt := top 121
abbrev s_answer_to : Stmt := top 122
abbrev s_build : Stmt := top 123
abbrev s_ask : Stmt := top 124
def d_all_values : He.DefD := ⟨("all_values", none), "all_values", "all_values", defArgs s_all_values, defBody s_all_values, defScope s_all_values, [], []⟩
def d_all_targets : He.DefD := ⟨("all_targets", none), "all_targets", "all_targets", defArgs s_all_targets, defBody s_all_targets, defScope s_all_targets, [], []⟩
def d_Block_init : He.DefD := ⟨("Block", some "__init__"), "__init__", "Block.__init__", defArgs s_Block_init, defBody s_Block_init, defScope s_Block_init, [], []⟩
def d_Code_init : He.DefD := ⟨("Code", some "__init__"), "__init__", "Code.__init__", defArgs s_Code_init, defBody s_Code_init, defScope s_Code_init, [], []⟩
def d_Code_open_block : He.DefD := ⟨("Code", some "open_block"), "open_block", "Code.open_block", defArgs s_Code_open_block, defBody s_Code_open_block, defScope s_Code_open_block, [], []⟩
def d_Code_begin : He.DefD := ⟨("Code", some "begin"), "begin", "Code.begin", defArgs s_Code_begin, defBody s_Code_begin, defScope s_Code_begin, [], []⟩
def d_Code_block : He.DefD := ⟨("Code", some "block"), "block", "Code.block", defArgs s_Code_block, defBody s_Code_block, defScope s_Code_block, [], []⟩
def d_Code_num : He.DefD := ⟨("Code", some "num"), "num", "Code.num", defArgs s_Code_num, defBody s_Code_num, defScope s_Code_num, [], []⟩
def d_Code_two : He.DefD := ⟨("Code", some "two"), "two", "Code.two", defArgs s_Code_two, defBody s_Code_two, defScope s_Code_two, [], []⟩
def d_Code_say : He.DefD := ⟨("Code", some "say"), "say", "Code.say", defArgs s_Code_say, defBody s_Code_say, defScope s_Code_say, [], []⟩
def d_Code_put_row : He.DefD := ⟨("Code", some "put_row"), "put_row", "Code.put_row", defArgs s_Code_put_row, defBody s_Code_put_row, defScope s_Code_put_row, [], []⟩
def d_Code_jump : He.DefD := ⟨("Code", some "jump"), "jump", "Code.jump", defArgs s_Code_jump, defBody s_Code_jump, defScope s_Code_jump, [], []⟩
def d_Code_fork : He.DefD := ⟨("Code", some "fork"), "fork", "Code.fork", defArgs s_Code_fork, defBody s_Code_fork, defScope s_Code_fork, [], []⟩
def d_Code_give : He.DefD := ⟨("Code", some "give"), "give", "Code.give", defArgs s_Code_give, defBody s_Code_give, defScope s_Code_give, [], []⟩
def d_Code_put_end : He.DefD := ⟨("Code", some "put_end"), "put_end", "Code.put_end", defArgs s_Code_put_end, defBody s_Code_put_end, defScope s_Code_put_end, [], []⟩
def d_given_by_row : He.DefD := ⟨("given_by_row", none), "given_by_row", "given_by_row", defArgs s_given_by_row, defBody s_given_by_row, defScope s_given_by_row, [], []⟩
def d_used_by_row : He.DefD := ⟨("used_by_row", none), "used_by_row", "used_by_row", defArgs s_used_by_row, defBody s_used_by_row, defScope s_used_by_row, [], []⟩
def d_used_by_end : He.DefD := ⟨("used_by_end", none), "used_by_end", "used_by_end", defArgs s_used_by_end, defBody s_used_by_end, defScope s_used_by_end, [], []⟩
def d_ways : He.DefD := ⟨("ways", none), "ways", "ways", defArgs s_ways, defBody s_ways, defScope s_ways, [], []⟩
def d_given_in_block : He.DefD := ⟨("given_in_block", none), "given_in_block", "given_in_block", defArgs s_given_in_block, defBody s_given_in_block, defScope s_given_in_block, [], []⟩
def d_given_in_code : He.DefD := ⟨("given_in_code", none), "given_in_code", "given_in_code", defArgs s_given_in_code, defBody s_given_in_code, defScope s_given_in_code, [], []⟩
def d_is_whole : He.DefD := ⟨("is_whole", none), "is_whole", "is_whole", defArgs s_is_whole, defBody s_is_whole, defScope s_is_whole, [], []⟩
def d_ways_fit : He.DefD := ⟨("ways_fit", none), "ways_fit", "ways_fit", defArgs s_ways_fit, defBody s_ways_fit, defScope s_ways_fit, [], []⟩
def d_reached : He.DefD := ⟨("reached", none), "reached", "reached", defArgs s_reached, defBody s_reached, defScope s_reached, [], []⟩
def d_is_fair : He.DefD := ⟨("is_fair", none), "is_fair", "is_fair", defArgs s_is_fair, defBody s_is_fair, defScope s_is_fair, [], []⟩
def d_given_at_begin : He.DefD := ⟨("given_at_begin", none), "given_at_begin", "given_at_begin", defArgs s_given_at_begin, defBody s_given_at_begin, defScope s_given_at_begin, [], []⟩
def d_uses_are_given : He.DefD := ⟨("uses_are_given", none), "uses_are_given", "uses_are_given", defArgs s_uses_are_given, defBody s_uses_are_given, defScope s_uses_are_given, [], []⟩
def d_all_among : He.DefD := ⟨("all_among", none), "all_among", "all_among", defArgs s_all_among, defBody s_all_among, defScope s_all_among, [], []⟩
def d_coming_in : He.DefD := ⟨("coming_in", none), "coming_in", "coming_in", defArgs s_coming_in, defBody s_coming_in, defScope s_coming_in, [], []⟩
def d_come_in_to : He.DefD := ⟨("come_in_to", none), "come_in_to", "come_in_to", defArgs s_come_in_to, defBody s_come_in_to, defScope s_come_in_to, [], []⟩
def d_live_in_block : He.DefD := ⟨("live_in_block", none), "live_in_block", "live_in_block", defArgs s_live_in_block, defBody s_live_in_block, defScope s_live_in_block, [], []⟩
def d_live_at_end : He.DefD := ⟨("live_at_end", none), "live_at_end", "live_at_end", defArgs s_live_at_end, defBody s_live_at_end, defScope s_live_at_end, [], []⟩
def d_live_in_code : He.DefD := ⟨("live_in_code", none), "live_in_code", "live_in_code", defArgs s_live_in_code, defBody s_live_in_code, defScope s_live_in_code, [], []⟩
def d_there_in_code : He.DefD := ⟨("there_in_code", none), "there_in_code", "there_in_code", defArgs s_there_in_code, defBody s_there_in_code, defScope s_there_in_code, [], []⟩
def d_there_in_block : He.DefD := ⟨("there_in_block", none), "there_in_block", "there_in_block", defArgs s_there_in_block, defBody s_there_in_block, defScope s_there_in_block, [], []⟩
def d_most_there : He.DefD := ⟨("most_there", none), "most_there", "most_there", defArgs s_most_there, defBody s_most_there, defScope s_most_there, [], []⟩
def d_are_together : He.DefD := ⟨("are_together", none), "are_together", "are_together", defArgs s_are_together, defBody s_are_together, defScope s_are_together, [], []⟩
def d_value_slots : He.DefD := ⟨("value_slots", none), "value_slots", "value_slots", defArgs s_value_slots, defBody s_value_slots, defScope s_value_slots, [], []⟩
def d_place_one_by_one : He.DefD := ⟨("place_one_by_one", none), "place_one_by_one", "place_one_by_one", defArgs s_place_one_by_one, defBody s_place_one_by_one, defScope s_place_one_by_one, [], []⟩
def d_place_rows : He.DefD := ⟨("place_rows", none), "place_rows", "place_rows", defArgs s_place_rows, defBody s_place_rows, defScope s_place_rows, [], []⟩
def d_least_free : He.DefD := ⟨("least_free", none), "least_free", "least_free", defArgs s_least_free, defBody s_least_free, defScope s_least_free, [], []⟩
def d_code_in_slots : He.DefD := ⟨("code_in_slots", none), "code_in_slots", "code_in_slots", defArgs s_code_in_slots, defBody s_code_in_slots, defScope s_code_in_slots, [], []⟩
def d_block_in_slots : He.DefD := ⟨("block_in_slots", none), "block_in_slots", "block_in_slots", defArgs s_block_in_slots, defBody s_block_in_slots, defScope s_block_in_slots, [], []⟩
def d_all_in_slots : He.DefD := ⟨("all_in_slots", none), "all_in_slots", "all_in_slots", defArgs s_all_in_slots, defBody s_all_in_slots, defScope s_all_in_slots, [], []⟩
def d_row_in_slots : He.DefD := ⟨("row_in_slots", none), "row_in_slots", "row_in_slots", defArgs s_row_in_slots, defBody s_row_in_slots, defScope s_row_in_slots, [], []⟩
def d_end_in_slots : He.DefD := ⟨("end_in_slots", none), "end_in_slots", "end_in_slots", defArgs s_end_in_slots, defBody s_end_in_slots, defScope s_end_in_slots, [], []⟩
def d_run : He.DefD := ⟨("run", none), "run", "run", defArgs s_run, defBody s_run, defScope s_run, [], []⟩
def d_run_blocks : He.DefD := ⟨("run_blocks", none), "run_blocks", "run_blocks", defArgs s_run_blocks, defBody s_run_blocks, defScope s_run_blocks, [], []⟩
def d_run_rows : He.DefD := ⟨("run_rows", none), "run_rows", "run_rows", defArgs s_run_rows, defBody s_run_rows, defScope s_run_rows, [], []⟩
def d_run_end : He.DefD := ⟨("run_end", none), "run_end", "run_end", defArgs s_run_end, defBody s_run_end, defScope s_run_end, [], []⟩
def d_hand_over : He.DefD := ⟨("hand_over", none), "hand_over", "hand_over", defArgs s_hand_over, defBody s_hand_over, defScope s_hand_over, [], []⟩
def d_combined : He.DefD := ⟨("combined", none), "combined", "combined", defArgs s_combined, defBody s_combined, defScope s_combined, [], []⟩
def d_counted : He.DefD := ⟨("counted", none), "counted", "counted", defArgs s_counted, defBody s_counted, defScope s_counted, [], []⟩
def d_code_in_numbers : He.DefD := ⟨("code_in_numbers", none), "code_in_numbers", "code_in_numbers", defArgs s_code_in_numbers, defBody s_code_in_numbers, defScope s_code_in_numbers, [], []⟩
def d_block_in_numbers : He.DefD := ⟨("block_in_numbers", none), "block_in_numbers", "block_in_numbers", defArgs s_block_in_numbers, defBody s_block_in_numbers, defScope s_block_in_numbers, [], []⟩
def d_end_in_numbers : He.DefD := ⟨("end_in_numbers", none), "end_in_numbers", "end_in_numbers", defArgs s_end_in_numbers, defBody s_end_in_numbers, defScope s_end_in_numbers, [], []⟩
def d_refusal_of_all : He.DefD := ⟨("refusal_of_all", none), "refusal_of_all", "refusal_of_all", defArgs s_refusal_of_all, defBody s_refusal_of_all, defScope s_refusal_of_all, [], []⟩
def d_ask_run : He.DefD := ⟨("ask_run", none), "ask_run", "ask_run", defArgs s_ask_run, defBody s_ask_run, defScope s_ask_run, [], []⟩
def d_ask_run_in_registers : He.DefD := ⟨("ask_run_in_registers", none), "ask_run_in_registers", "ask_run_in_registers", defArgs s_ask_run_in_registers, defBody s_ask_run_in_registers, defScope s_ask_run_in_registers, [], []⟩
def d_ask_lives : He.DefD := ⟨("ask_lives", none), "ask_lives", "ask_lives", defArgs s_ask_lives, defBody s_ask_lives, defScope s_ask_lives, [], []⟩
def d_ask_there : He.DefD := ⟨("ask_there", none), "ask_there", "ask_there", defArgs s_ask_there, defBody s_ask_there, defScope s_ask_there, [], []⟩
def d_is_place : He.DefD := ⟨("is_place", none), "is_place", "is_place", defArgs s_is_place, defBody s_is_place, defScope s_is_place, [], []⟩
def d_ask_together : He.DefD := ⟨("ask_together", none), "ask_together", "ask_together", defArgs s_ask_together, defBody s_ask_together, defScope s_ask_together, [], []⟩
def d_ask_most : He.DefD := ⟨("ask_most", none), "ask_most", "ask_most", defArgs s_ask_most, defBody s_ask_most, defScope s_ask_most, [], []⟩
def d_ask_registers : He.DefD := ⟨("ask_registers", none), "ask_registers", "ask_registers", defArgs s_ask_registers, defBody s_ask_registers, defScope s_ask_registers, [], []⟩
def d_ask_in_registers : He.DefD := ⟨("ask_in_registers", none), "ask_in_registers", "ask_in_registers", defArgs s_ask_in_registers, defBody s_ask_in_registers, defScope s_ask_in_registers, [], []⟩
def d_in_registers : He.DefD := ⟨("in_registers", none), "in_registers", "in_registers", defArgs s_in_registers, defBody s_in_registers, defScope s_in_registers, [], []⟩
def d_answers : He.DefD := ⟨("answers", none), "answers", "answers", defArgs s_answers, defBody s_answers, defScope s_answers, [], []⟩
def d_split_calls : He.DefD := ⟨("split_calls", none), "split_calls", "split_calls", defArgs s_split_calls, defBody s_split_calls, defScope s_split_calls, [], []⟩
def d_answer_to : He.DefD := ⟨("answer_to", none), "answer_to", "answer_to", defArgs s_answer_to, defBody s_answer_to, defScope s_answer_to, [], []⟩
def d_build : He.DefD := ⟨("build", none), "build", "build", defArgs s_build, defBody s_build, defScope s_build, [], []⟩
def d_ask : He.DefD := ⟨("ask", none), "ask", "ask", defArgs s_ask, defBody s_ask, defScope s_ask, [], []⟩
def fa0 : List He.Fa := [.glo "all_values", .glo "all_targets", .glo "given_by_row", .glo "used_by_row", .glo "used_by_end", .glo "ways", .glo "given_in_block", .glo "given_in_code", .glo "is_whole", .glo "ways_fit", .glo "reached", .glo "is_fair", .glo "given_at_begin", .glo "uses_are_given", .glo "all_among", .glo "coming_in", .glo "come_in_to", .glo "live_in_block", .glo "live_at_end", .glo "live_in_code", .glo "there_in_code", .glo "there_in_block", .glo "most_there", .glo "are_together", .glo "value_slots", .glo "place_one_by_one", .glo "place_rows", .glo "least_free", .glo "code_in_slots", .glo "block_in_slots"]
def fa1 : List He.Fa := [.glo "all_in_slots", .glo "row_in_slots", .glo "end_in_slots", .glo "run", .glo "run_blocks", .glo "run_rows", .glo "run_end", .glo "hand_over", .glo "combined", .glo "counted", .glo "code_in_numbers", .glo "block_in_numbers", .glo "end_in_numbers", .glo "refusal_of_all", .glo "ask_run", .glo "ask_run_in_registers", .glo "ask_lives", .glo "ask_there", .glo "is_place", .glo "ask_together", .glo "ask_most", .glo "ask_registers", .glo "ask_in_registers", .glo "in_registers", .glo "answers", .glo "split_calls", .glo "answer_to", .glo "build", .glo "ask", .glo "Block"]
def fa2 : List He.Fa := [.glo "Code", .glo "FORMS", .free "all", .free "any", .free "enumerate", .free "len", .free "list", .free "range", .free "reversed", .free "set", .free "sorted", .free "tuple", .free "zip", .int "MOST_WORDS" (6), .int "MOST_BLOCKS" (10), .int "MOST_TAKEN" (8), .int "MOST_ROWS" (12), .int "MOST_HANDED_BY_JUMP" (8), .int "MOST_HANDED_BY_FORK" (16), .int "LAST_VALUE" (39), .int "LAST_OPERATION" (10), .int "FIRST_TARGET" (1), .int "LAST_TARGET" (9), .int "BAD_COUNT" (-1), .int "OUT_OF_RANGE" (-2), .int "WRONG_TIME" (-3), .int "NO_OPERATION" (-4), .int "NUMBER_ROW" (0), .int "TWO_ROW" (2), .int "SAY_ROW" (3)]
def fa3 : List He.Fa := [.int "JUMP_END" (0), .int "FORK_END" (1), .int "GIVE_END" (2), .int "ALL_WORDS" (4294967296), .int "WORD_BITS" (32), .int "SUM" (0), .int "LESS" (1), .int "PRODUCT" (2), .int "AND" (3), .int "OR" (4), .int "EXCLUSIVE_OR" (5), .int "TIMES_POWER" (6), .int "DIVIDED_BY_POWER" (7), .int "IS_LESS" (8), .int "IS_SAME" (9), .int "IS_OVER" (0), .int "FAILED" (1), .int "GOES_ON" (2), .int "MOST_RUN_BLOCKS" (500), .int "WRONG_WORDS" (-5), .int "NOT_WHOLE" (-6), .int "NOT_FAIR" (-7), .int "CODE" (0), .int "BLOCK" (1), .int "NUM" (2), .int "TWO" (3), .int "SAY" (4), .int "JUMP" (5), .int "FORK" (6), .int "GIVE" (7)]
def fa4 : List He.Fa := [.int "RUN" (8), .int "LIVES" (9), .int "THERE" (10), .int "MOST" (11), .int "TOGETHER" (12), .int "REGISTERS" (13), .int "INREGISTERS" (14), .cls "Block", .mkr "Block", .noat "Block" "taken", .noat "Block" "rows", .noat "Block" "end", .cls "Code", .mkr "Code", .noat "Code" "words", .noat "Code" "blocks", .meth "Code" "open_block", .meth "Code" "begin", .meth "Code" "block", .meth "Code" "num", .meth "Code" "two", .meth "Code" "say", .meth "Code" "put_row", .meth "Code" "jump", .meth "Code" "fork", .meth "Code" "give", .meth "Code" "put_end"]
def fa : List He.Fa := fa0 ++ fa1 ++ fa2 ++ fa3 ++ fa4
def fn0 : List He.DefD := [d_all_values, d_all_targets, d_Block_init, d_Code_init, d_Code_open_block, d_Code_begin, d_Code_block, d_Code_num, d_Code_two, d_Code_say, d_Code_put_row, d_Code_jump, d_Code_fork, d_Code_give, d_Code_put_end, d_given_by_row, d_used_by_row, d_used_by_end, d_ways, d_given_in_block, d_given_in_code, d_is_whole, d_ways_fit, d_reached, d_is_fair, d_given_at_begin, d_uses_are_given, d_all_among, d_coming_in, d_come_in_to]
def fn1 : List He.DefD := [d_live_in_block, d_live_at_end, d_live_in_code, d_there_in_code, d_there_in_block, d_most_there, d_are_together, d_value_slots, d_place_one_by_one, d_place_rows, d_least_free, d_code_in_slots, d_block_in_slots, d_all_in_slots, d_row_in_slots, d_end_in_slots, d_run, d_run_blocks, d_run_rows, d_run_end, d_hand_over, d_combined, d_counted, d_code_in_numbers, d_block_in_numbers, d_end_in_numbers, d_refusal_of_all, d_ask_run, d_ask_run_in_registers, d_ask_lives]
def fn2 : List He.DefD := [d_ask_there, d_is_place, d_ask_together, d_ask_most, d_ask_registers, d_ask_in_registers, d_in_registers, d_answers, d_split_calls, d_answer_to, d_build, d_ask]
def fn : List He.DefD := fn0 ++ fn1 ++ fn2
/-- a written value of the top, tuples all the way -/
inductive Wv where
  | int (i : Int)
  | bl (b : Bool)
  | str (x : Str)
  | non
  | tup (l : List Wv)
def tupItems (K : PySem.W.Frag) (a : Addr) : Option (List Value) := match K.lookup a with
  | some ⟨.type "tuple", _, .seq its _, _⟩ => if its.size ≤ 1000 then some its.toList else none
  | _ => none
mutual
def wvB (K : PySem.W.Frag) : Nat → Wv → Value → Bool
  | _, .int i, .int j _ => decide (i = j)
  | _, .bl b, .bool d => b == d
  | _, .str x, .str y _ => decide (x = y)
  | _, .non, .none => true
  | n + 1, .tup l, .ref a => (match tupItems K a with
    | some its => wvBs K n l its
    | none => false)
  | _, _, _ => false
def wvBs (K : PySem.W.Frag) : Nat → List Wv → List Value → Bool
  | _, [], [] => true
  | n, x :: l, v :: r => wvB K n x v && wvBs K n l r
  | _, _, _ => false
end
def c_FORMS : Wv := .tup [.tup [.int (1), .bl false], .tup [.int (0), .bl true], .tup [.int (2), .bl false], .tup [.int (4), .bl false], .tup [.int (1), .bl false], .tup [.int (1), .bl true], .tup [.int (4), .bl true], .tup [.int (1), .bl false], .tup [.int (1), .bl true], .tup [.int (2), .bl false], .tup [.int (2), .bl false], .tup [.int (0), .bl false], .tup [.int (2), .bl false], .tup [.int (0), .bl false], .tup [.int (0), .bl false], .tup [.int (1), .bl true]]
def ex (K : PySem.W.Frag) : Bool := wvB K 4 c_FORMS (.ref (He.ga K "FORMS"))
def ansAt : Nat := 120
structure Tx (K : PySem.W.Frag) (mg : Str → Option Value) : Prop where
  x : ∃ h : Heap, K.In h ∧ h.Ns mainGlobals mg
  c : He.SaysD fa fn K
  e : ex K = true
section
variable {K : PySem.W.Frag} {mg : Str → Option Value}
theorem Tx.glo_all_values (T : Tx K mg) : mg "all_values" = some (.ref (He.ga K "all_values")) := by
  obtain ⟨h, X, G⟩ := T.x
  exact He.glo_ok X G (T.c.fact 0 (f := .glo "all_values") rfl)
theorem Tx.glo_all_targets (T : Tx K mg) : mg "all_targets" = some (.ref (He.ga K "all_targets")) := by
  obtain ⟨h, X, G⟩ := T.x
  exact He.glo_ok X G (T.c.fact 1 (f := .glo "all_targets") rfl)
theorem Tx.glo_given_by_row (T : Tx K mg) : mg "given_by_row" = some (.ref (He.ga K "given_by_row")) := by
  obtain ⟨h, X, G⟩ := T.x
  exact He.glo_ok X G (T.c.fact 2 (f := .glo "given_by_row") rfl)
theorem Tx.glo_used_by_row (T : Tx K mg) : mg "used_by_row" = some (.ref (He.ga K "used_by_row")) := by
  obtain ⟨h, X, G⟩ := T.x
  exact He.glo_ok X G (T.c.fact 3 (f := .glo "used_by_row") rfl)
theorem Tx.glo_used_by_end (T : Tx K mg) : mg "used_by_end" = some (.ref (He.ga K "used_by_end")) := by
  obtain ⟨h, X, G⟩ := T.x
  exact He.glo_ok X G (T.c.fact 4 (f := .glo "used_by_end") rfl)
theorem Tx.glo_ways (T : Tx K mg) : mg "ways" = some (.ref (He.ga K "ways")) := by
  obtain ⟨h, X, G⟩ := T.x
  exact He.glo_ok X G (T.c.fact 5 (f := .glo "ways") rfl)
theorem Tx.glo_given_in_block (T : Tx K mg) : mg "given_in_block" = some (.ref (He.ga K "given_in_block")) := by
  obtain ⟨h, X, G⟩ := T.x
  exact He.glo_ok X G (T.c.fact 6 (f := .glo "given_in_block") rfl)
theorem Tx.glo_given_in_code (T : Tx K mg) : mg "given_in_code" = some (.ref (He.ga K "given_in_code")) := by
  obtain ⟨h, X, G⟩ := T.x
  exact He.glo_ok X G (T.c.fact 7 (f := .glo "given_in_code") rfl)
theorem Tx.glo_is_whole (T : Tx K mg) : mg "is_whole" = some (.ref (He.ga K "is_whole")) := by
  obtain ⟨h, X, G⟩ := T.x
  exact He.glo_ok X G (T.c.fact 8 (f := .glo "is_whole") rfl)
theorem Tx.glo_ways_fit (T : Tx K mg) : mg "ways_fit" = some (.ref (He.ga K "ways_fit")) := by
  obtain ⟨h, X, G⟩ := T.x
  exact He.glo_ok X G (T.c.fact 9 (f := .glo "ways_fit") rfl)
theorem Tx.glo_reached (T : Tx K mg) : mg "reached" = some (.ref (He.ga K "reached")) := by
  obtain ⟨h, X, G⟩ := T.x
  exact He.glo_ok X G (T.c.fact 10 (f := .glo "reached") rfl)
theorem Tx.glo_is_fair (T : Tx K mg) : mg "is_fair" = some (.ref (He.ga K "is_fair")) := by
  obtain ⟨h, X, G⟩ := T.x
  exact He.glo_ok X G (T.c.fact 11 (f := .glo "is_fair") rfl)
theorem Tx.glo_given_at_begin (T : Tx K mg) : mg "given_at_begin" = some (.ref (He.ga K "given_at_begin")) := by
  obtain ⟨h, X, G⟩ := T.x
  exact He.glo_ok X G (T.c.fact 12 (f := .glo "given_at_begin") rfl)
theorem Tx.glo_uses_are_given (T : Tx K mg) : mg "uses_are_given" = some (.ref (He.ga K "uses_are_given")) := by
  obtain ⟨h, X, G⟩ := T.x
  exact He.glo_ok X G (T.c.fact 13 (f := .glo "uses_are_given") rfl)
theorem Tx.glo_all_among (T : Tx K mg) : mg "all_among" = some (.ref (He.ga K "all_among")) := by
  obtain ⟨h, X, G⟩ := T.x
  exact He.glo_ok X G (T.c.fact 14 (f := .glo "all_among") rfl)
theorem Tx.glo_coming_in (T : Tx K mg) : mg "coming_in" = some (.ref (He.ga K "coming_in")) := by
  obtain ⟨h, X, G⟩ := T.x
  exact He.glo_ok X G (T.c.fact 15 (f := .glo "coming_in") rfl)
theorem Tx.glo_come_in_to (T : Tx K mg) : mg "come_in_to" = some (.ref (He.ga K "come_in_to")) := by
  obtain ⟨h, X, G⟩ := T.x
  exact He.glo_ok X G (T.c.fact 16 (f := .glo "come_in_to") rfl)
theorem Tx.glo_live_in_block (T : Tx K mg) : mg "live_in_block" = some (.ref (He.ga K "live_in_block")) := by
  obtain ⟨h, X, G⟩ := T.x
  exact He.glo_ok X G (T.c.fact 17 (f := .glo "live_in_block") rfl)
theorem Tx.glo_live_at_end (T : Tx K mg) : mg "live_at_end" = some (.ref (He.ga K "live_at_end")) := by
  obtain ⟨h, X, G⟩ := T.x
  exact He.glo_ok X G (T.c.fact 18 (f := .glo "live_at_end") rfl)
theorem Tx.glo_live_in_code (T : Tx K mg) : mg "live_in_code" = some (.ref (He.ga K "live_in_code")) := by
  obtain ⟨h, X, G⟩ := T.x
  exact He.glo_ok X G (T.c.fact 19 (f := .glo "live_in_code") rfl)
theorem Tx.glo_there_in_code (T : Tx K mg) : mg "there_in_code" = some (.ref (He.ga K "there_in_code")) := by
  obtain ⟨h, X, G⟩ := T.x
  exact He.glo_ok X G (T.c.fact 20 (f := .glo "there_in_code") rfl)
theorem Tx.glo_there_in_block (T : Tx K mg) : mg "there_in_block" = some (.ref (He.ga K "there_in_block")) := by
  obtain ⟨h, X, G⟩ := T.x
  exact He.glo_ok X G (T.c.fact 21 (f := .glo "there_in_block") rfl)
theorem Tx.glo_most_there (T : Tx K mg) : mg "most_there" = some (.ref (He.ga K "most_there")) := by
  obtain ⟨h, X, G⟩ := T.x
  exact He.glo_ok X G (T.c.fact 22 (f := .glo "most_there") rfl)
theorem Tx.glo_are_together (T : Tx K mg) : mg "are_together" = some (.ref (He.ga K "are_together")) := by
  obtain ⟨h, X, G⟩ := T.x
  exact He.glo_ok X G (T.c.fact 23 (f := .glo "are_together") rfl)
theorem Tx.glo_value_slots (T : Tx K mg) : mg "value_slots" = some (.ref (He.ga K "value_slots")) := by
  obtain ⟨h, X, G⟩ := T.x
  exact He.glo_ok X G (T.c.fact 24 (f := .glo "value_slots") rfl)
theorem Tx.glo_place_one_by_one (T : Tx K mg) : mg "place_one_by_one" = some (.ref (He.ga K "place_one_by_one")) := by
  obtain ⟨h, X, G⟩ := T.x
  exact He.glo_ok X G (T.c.fact 25 (f := .glo "place_one_by_one") rfl)
theorem Tx.glo_place_rows (T : Tx K mg) : mg "place_rows" = some (.ref (He.ga K "place_rows")) := by
  obtain ⟨h, X, G⟩ := T.x
  exact He.glo_ok X G (T.c.fact 26 (f := .glo "place_rows") rfl)
theorem Tx.glo_least_free (T : Tx K mg) : mg "least_free" = some (.ref (He.ga K "least_free")) := by
  obtain ⟨h, X, G⟩ := T.x
  exact He.glo_ok X G (T.c.fact 27 (f := .glo "least_free") rfl)
theorem Tx.glo_code_in_slots (T : Tx K mg) : mg "code_in_slots" = some (.ref (He.ga K "code_in_slots")) := by
  obtain ⟨h, X, G⟩ := T.x
  exact He.glo_ok X G (T.c.fact 28 (f := .glo "code_in_slots") rfl)
theorem Tx.glo_block_in_slots (T : Tx K mg) : mg "block_in_slots" = some (.ref (He.ga K "block_in_slots")) := by
  obtain ⟨h, X, G⟩ := T.x
  exact He.glo_ok X G (T.c.fact 29 (f := .glo "block_in_slots") rfl)
theorem Tx.glo_all_in_slots (T : Tx K mg) : mg "all_in_slots" = some (.ref (He.ga K "all_in_slots")) := by
  obtain ⟨h, X, G⟩ := T.x
  exact He.glo_ok X G (T.c.fact 30 (f := .glo "all_in_slots") rfl)
theorem Tx.glo_row_in_slots (T : Tx K mg) : mg "row_in_slots" = some (.ref (He.ga K "row_in_slots")) := by
  obtain ⟨h, X, G⟩ := T.x
  exact He.glo_ok X G (T.c.fact 31 (f := .glo "row_in_slots") rfl)
theorem Tx.glo_end_in_slots (T : Tx K mg) : mg "end_in_slots" = some (.ref (He.ga K "end_in_slots")) := by
  obtain ⟨h, X, G⟩ := T.x
  exact He.glo_ok X G (T.c.fact 32 (f := .glo "end_in_slots") rfl)
theorem Tx.glo_run (T : Tx K mg) : mg "run" = some (.ref (He.ga K "run")) := by
  obtain ⟨h, X, G⟩ := T.x
  exact He.glo_ok X G (T.c.fact 33 (f := .glo "run") rfl)
theorem Tx.glo_run_blocks (T : Tx K mg) : mg "run_blocks" = some (.ref (He.ga K "run_blocks")) := by
  obtain ⟨h, X, G⟩ := T.x
  exact He.glo_ok X G (T.c.fact 34 (f := .glo "run_blocks") rfl)
theorem Tx.glo_run_rows (T : Tx K mg) : mg "run_rows" = some (.ref (He.ga K "run_rows")) := by
  obtain ⟨h, X, G⟩ := T.x
  exact He.glo_ok X G (T.c.fact 35 (f := .glo "run_rows") rfl)
theorem Tx.glo_run_end (T : Tx K mg) : mg "run_end" = some (.ref (He.ga K "run_end")) := by
  obtain ⟨h, X, G⟩ := T.x
  exact He.glo_ok X G (T.c.fact 36 (f := .glo "run_end") rfl)
theorem Tx.glo_hand_over (T : Tx K mg) : mg "hand_over" = some (.ref (He.ga K "hand_over")) := by
  obtain ⟨h, X, G⟩ := T.x
  exact He.glo_ok X G (T.c.fact 37 (f := .glo "hand_over") rfl)
theorem Tx.glo_combined (T : Tx K mg) : mg "combined" = some (.ref (He.ga K "combined")) := by
  obtain ⟨h, X, G⟩ := T.x
  exact He.glo_ok X G (T.c.fact 38 (f := .glo "combined") rfl)
theorem Tx.glo_counted (T : Tx K mg) : mg "counted" = some (.ref (He.ga K "counted")) := by
  obtain ⟨h, X, G⟩ := T.x
  exact He.glo_ok X G (T.c.fact 39 (f := .glo "counted") rfl)
theorem Tx.glo_code_in_numbers (T : Tx K mg) : mg "code_in_numbers" = some (.ref (He.ga K "code_in_numbers")) := by
  obtain ⟨h, X, G⟩ := T.x
  exact He.glo_ok X G (T.c.fact 40 (f := .glo "code_in_numbers") rfl)
theorem Tx.glo_block_in_numbers (T : Tx K mg) : mg "block_in_numbers" = some (.ref (He.ga K "block_in_numbers")) := by
  obtain ⟨h, X, G⟩ := T.x
  exact He.glo_ok X G (T.c.fact 41 (f := .glo "block_in_numbers") rfl)
theorem Tx.glo_end_in_numbers (T : Tx K mg) : mg "end_in_numbers" = some (.ref (He.ga K "end_in_numbers")) := by
  obtain ⟨h, X, G⟩ := T.x
  exact He.glo_ok X G (T.c.fact 42 (f := .glo "end_in_numbers") rfl)
theorem Tx.glo_refusal_of_all (T : Tx K mg) : mg "refusal_of_all" = some (.ref (He.ga K "refusal_of_all")) := by
  obtain ⟨h, X, G⟩ := T.x
  exact He.glo_ok X G (T.c.fact 43 (f := .glo "refusal_of_all") rfl)
theorem Tx.glo_ask_run (T : Tx K mg) : mg "ask_run" = some (.ref (He.ga K "ask_run")) := by
  obtain ⟨h, X, G⟩ := T.x
  exact He.glo_ok X G (T.c.fact 44 (f := .glo "ask_run") rfl)
theorem Tx.glo_ask_run_in_registers (T : Tx K mg) : mg "ask_run_in_registers" = some (.ref (He.ga K "ask_run_in_registers")) := by
  obtain ⟨h, X, G⟩ := T.x
  exact He.glo_ok X G (T.c.fact 45 (f := .glo "ask_run_in_registers") rfl)
theorem Tx.glo_ask_lives (T : Tx K mg) : mg "ask_lives" = some (.ref (He.ga K "ask_lives")) := by
  obtain ⟨h, X, G⟩ := T.x
  exact He.glo_ok X G (T.c.fact 46 (f := .glo "ask_lives") rfl)
theorem Tx.glo_ask_there (T : Tx K mg) : mg "ask_there" = some (.ref (He.ga K "ask_there")) := by
  obtain ⟨h, X, G⟩ := T.x
  exact He.glo_ok X G (T.c.fact 47 (f := .glo "ask_there") rfl)
theorem Tx.glo_is_place (T : Tx K mg) : mg "is_place" = some (.ref (He.ga K "is_place")) := by
  obtain ⟨h, X, G⟩ := T.x
  exact He.glo_ok X G (T.c.fact 48 (f := .glo "is_place") rfl)
theorem Tx.glo_ask_together (T : Tx K mg) : mg "ask_together" = some (.ref (He.ga K "ask_together")) := by
  obtain ⟨h, X, G⟩ := T.x
  exact He.glo_ok X G (T.c.fact 49 (f := .glo "ask_together") rfl)
theorem Tx.glo_ask_most (T : Tx K mg) : mg "ask_most" = some (.ref (He.ga K "ask_most")) := by
  obtain ⟨h, X, G⟩ := T.x
  exact He.glo_ok X G (T.c.fact 50 (f := .glo "ask_most") rfl)
theorem Tx.glo_ask_registers (T : Tx K mg) : mg "ask_registers" = some (.ref (He.ga K "ask_registers")) := by
  obtain ⟨h, X, G⟩ := T.x
  exact He.glo_ok X G (T.c.fact 51 (f := .glo "ask_registers") rfl)
theorem Tx.glo_ask_in_registers (T : Tx K mg) : mg "ask_in_registers" = some (.ref (He.ga K "ask_in_registers")) := by
  obtain ⟨h, X, G⟩ := T.x
  exact He.glo_ok X G (T.c.fact 52 (f := .glo "ask_in_registers") rfl)
theorem Tx.glo_in_registers (T : Tx K mg) : mg "in_registers" = some (.ref (He.ga K "in_registers")) := by
  obtain ⟨h, X, G⟩ := T.x
  exact He.glo_ok X G (T.c.fact 53 (f := .glo "in_registers") rfl)
theorem Tx.glo_answers (T : Tx K mg) : mg "answers" = some (.ref (He.ga K "answers")) := by
  obtain ⟨h, X, G⟩ := T.x
  exact He.glo_ok X G (T.c.fact 54 (f := .glo "answers") rfl)
theorem Tx.glo_split_calls (T : Tx K mg) : mg "split_calls" = some (.ref (He.ga K "split_calls")) := by
  obtain ⟨h, X, G⟩ := T.x
  exact He.glo_ok X G (T.c.fact 55 (f := .glo "split_calls") rfl)
theorem Tx.glo_answer_to (T : Tx K mg) : mg "answer_to" = some (.ref (He.ga K "answer_to")) := by
  obtain ⟨h, X, G⟩ := T.x
  exact He.glo_ok X G (T.c.fact 56 (f := .glo "answer_to") rfl)
theorem Tx.glo_build (T : Tx K mg) : mg "build" = some (.ref (He.ga K "build")) := by
  obtain ⟨h, X, G⟩ := T.x
  exact He.glo_ok X G (T.c.fact 57 (f := .glo "build") rfl)
theorem Tx.glo_ask (T : Tx K mg) : mg "ask" = some (.ref (He.ga K "ask")) := by
  obtain ⟨h, X, G⟩ := T.x
  exact He.glo_ok X G (T.c.fact 58 (f := .glo "ask") rfl)
theorem Tx.glo_Block (T : Tx K mg) : mg "Block" = some (.ref (He.ga K "Block")) := by
  obtain ⟨h, X, G⟩ := T.x
  exact He.glo_ok X G (T.c.fact 59 (f := .glo "Block") rfl)
theorem Tx.glo_Code (T : Tx K mg) : mg "Code" = some (.ref (He.ga K "Code")) := by
  obtain ⟨h, X, G⟩ := T.x
  exact He.glo_ok X G (T.c.fact 60 (f := .glo "Code") rfl)
theorem Tx.glo_FORMS (T : Tx K mg) : mg "FORMS" = some (.ref (He.ga K "FORMS")) := by
  obtain ⟨h, X, G⟩ := T.x
  exact He.glo_ok X G (T.c.fact 61 (f := .glo "FORMS") rfl)
theorem Tx.free_all (T : Tx K mg) : mg "all" = none := by
  obtain ⟨h, X, G⟩ := T.x
  exact He.free_ok X G (T.c.fact 62 (f := .free "all") rfl)
theorem Tx.free_any (T : Tx K mg) : mg "any" = none := by
  obtain ⟨h, X, G⟩ := T.x
  exact He.free_ok X G (T.c.fact 63 (f := .free "any") rfl)
theorem Tx.free_enumerate (T : Tx K mg) : mg "enumerate" = none := by
  obtain ⟨h, X, G⟩ := T.x
  exact He.free_ok X G (T.c.fact 64 (f := .free "enumerate") rfl)
theorem Tx.free_len (T : Tx K mg) : mg "len" = none := by
  obtain ⟨h, X, G⟩ := T.x
  exact He.free_ok X G (T.c.fact 65 (f := .free "len") rfl)
theorem Tx.free_list (T : Tx K mg) : mg "list" = none := by
  obtain ⟨h, X, G⟩ := T.x
  exact He.free_ok X G (T.c.fact 66 (f := .free "list") rfl)
theorem Tx.free_range (T : Tx K mg) : mg "range" = none := by
  obtain ⟨h, X, G⟩ := T.x
  exact He.free_ok X G (T.c.fact 67 (f := .free "range") rfl)
theorem Tx.free_reversed (T : Tx K mg) : mg "reversed" = none := by
  obtain ⟨h, X, G⟩ := T.x
  exact He.free_ok X G (T.c.fact 68 (f := .free "reversed") rfl)
theorem Tx.free_set (T : Tx K mg) : mg "set" = none := by
  obtain ⟨h, X, G⟩ := T.x
  exact He.free_ok X G (T.c.fact 69 (f := .free "set") rfl)
theorem Tx.free_sorted (T : Tx K mg) : mg "sorted" = none := by
  obtain ⟨h, X, G⟩ := T.x
  exact He.free_ok X G (T.c.fact 70 (f := .free "sorted") rfl)
theorem Tx.free_tuple (T : Tx K mg) : mg "tuple" = none := by
  obtain ⟨h, X, G⟩ := T.x
  exact He.free_ok X G (T.c.fact 71 (f := .free "tuple") rfl)
theorem Tx.free_zip (T : Tx K mg) : mg "zip" = none := by
  obtain ⟨h, X, G⟩ := T.x
  exact He.free_ok X G (T.c.fact 72 (f := .free "zip") rfl)
theorem Tx.int_MOST_WORDS (T : Tx K mg) : ∃ t, mg "MOST_WORDS" = some (.int (6) t) := by
  obtain ⟨h, X, G⟩ := T.x
  exact He.int_ok X G (T.c.fact 73 (f := .int "MOST_WORDS" (6)) rfl)
theorem Tx.int_MOST_BLOCKS (T : Tx K mg) : ∃ t, mg "MOST_BLOCKS" = some (.int (10) t) := by
  obtain ⟨h, X, G⟩ := T.x
  exact He.int_ok X G (T.c.fact 74 (f := .int "MOST_BLOCKS" (10)) rfl)
theorem Tx.int_MOST_TAKEN (T : Tx K mg) : ∃ t, mg "MOST_TAKEN" = some (.int (8) t) := by
  obtain ⟨h, X, G⟩ := T.x
  exact He.int_ok X G (T.c.fact 75 (f := .int "MOST_TAKEN" (8)) rfl)
theorem Tx.int_MOST_ROWS (T : Tx K mg) : ∃ t, mg "MOST_ROWS" = some (.int (12) t) := by
  obtain ⟨h, X, G⟩ := T.x
  exact He.int_ok X G (T.c.fact 76 (f := .int "MOST_ROWS" (12)) rfl)
theorem Tx.int_MOST_HANDED_BY_JUMP (T : Tx K mg) : ∃ t, mg "MOST_HANDED_BY_JUMP" = some (.int (8) t) := by
  obtain ⟨h, X, G⟩ := T.x
  exact He.int_ok X G (T.c.fact 77 (f := .int "MOST_HANDED_BY_JUMP" (8)) rfl)
theorem Tx.int_MOST_HANDED_BY_FORK (T : Tx K mg) : ∃ t, mg "MOST_HANDED_BY_FORK" = some (.int (16) t) := by
  obtain ⟨h, X, G⟩ := T.x
  exact He.int_ok X G (T.c.fact 78 (f := .int "MOST_HANDED_BY_FORK" (16)) rfl)
theorem Tx.int_LAST_VALUE (T : Tx K mg) : ∃ t, mg "LAST_VALUE" = some (.int (39) t) := by
  obtain ⟨h, X, G⟩ := T.x
  exact He.int_ok X G (T.c.fact 79 (f := .int "LAST_VALUE" (39)) rfl)
theorem Tx.int_LAST_OPERATION (T : Tx K mg) : ∃ t, mg "LAST_OPERATION" = some (.int (10) t) := by
  obtain ⟨h, X, G⟩ := T.x
  exact He.int_ok X G (T.c.fact 80 (f := .int "LAST_OPERATION" (10)) rfl)
theorem Tx.int_FIRST_TARGET (T : Tx K mg) : ∃ t, mg "FIRST_TARGET" = some (.int (1) t) := by
  obtain ⟨h, X, G⟩ := T.x
  exact He.int_ok X G (T.c.fact 81 (f := .int "FIRST_TARGET" (1)) rfl)
theorem Tx.int_LAST_TARGET (T : Tx K mg) : ∃ t, mg "LAST_TARGET" = some (.int (9) t) := by
  obtain ⟨h, X, G⟩ := T.x
  exact He.int_ok X G (T.c.fact 82 (f := .int "LAST_TARGET" (9)) rfl)
theorem Tx.int_BAD_COUNT (T : Tx K mg) : ∃ t, mg "BAD_COUNT" = some (.int (-1) t) := by
  obtain ⟨h, X, G⟩ := T.x
  exact He.int_ok X G (T.c.fact 83 (f := .int "BAD_COUNT" (-1)) rfl)
theorem Tx.int_OUT_OF_RANGE (T : Tx K mg) : ∃ t, mg "OUT_OF_RANGE" = some (.int (-2) t) := by
  obtain ⟨h, X, G⟩ := T.x
  exact He.int_ok X G (T.c.fact 84 (f := .int "OUT_OF_RANGE" (-2)) rfl)
theorem Tx.int_WRONG_TIME (T : Tx K mg) : ∃ t, mg "WRONG_TIME" = some (.int (-3) t) := by
  obtain ⟨h, X, G⟩ := T.x
  exact He.int_ok X G (T.c.fact 85 (f := .int "WRONG_TIME" (-3)) rfl)
theorem Tx.int_NO_OPERATION (T : Tx K mg) : ∃ t, mg "NO_OPERATION" = some (.int (-4) t) := by
  obtain ⟨h, X, G⟩ := T.x
  exact He.int_ok X G (T.c.fact 86 (f := .int "NO_OPERATION" (-4)) rfl)
theorem Tx.int_NUMBER_ROW (T : Tx K mg) : ∃ t, mg "NUMBER_ROW" = some (.int (0) t) := by
  obtain ⟨h, X, G⟩ := T.x
  exact He.int_ok X G (T.c.fact 87 (f := .int "NUMBER_ROW" (0)) rfl)
theorem Tx.int_TWO_ROW (T : Tx K mg) : ∃ t, mg "TWO_ROW" = some (.int (2) t) := by
  obtain ⟨h, X, G⟩ := T.x
  exact He.int_ok X G (T.c.fact 88 (f := .int "TWO_ROW" (2)) rfl)
theorem Tx.int_SAY_ROW (T : Tx K mg) : ∃ t, mg "SAY_ROW" = some (.int (3) t) := by
  obtain ⟨h, X, G⟩ := T.x
  exact He.int_ok X G (T.c.fact 89 (f := .int "SAY_ROW" (3)) rfl)
theorem Tx.int_JUMP_END (T : Tx K mg) : ∃ t, mg "JUMP_END" = some (.int (0) t) := by
  obtain ⟨h, X, G⟩ := T.x
  exact He.int_ok X G (T.c.fact 90 (f := .int "JUMP_END" (0)) rfl)
theorem Tx.int_FORK_END (T : Tx K mg) : ∃ t, mg "FORK_END" = some (.int (1) t) := by
  obtain ⟨h, X, G⟩ := T.x
  exact He.int_ok X G (T.c.fact 91 (f := .int "FORK_END" (1)) rfl)
theorem Tx.int_GIVE_END (T : Tx K mg) : ∃ t, mg "GIVE_END" = some (.int (2) t) := by
  obtain ⟨h, X, G⟩ := T.x
  exact He.int_ok X G (T.c.fact 92 (f := .int "GIVE_END" (2)) rfl)
theorem Tx.int_ALL_WORDS (T : Tx K mg) : ∃ t, mg "ALL_WORDS" = some (.int (4294967296) t) := by
  obtain ⟨h, X, G⟩ := T.x
  exact He.int_ok X G (T.c.fact 93 (f := .int "ALL_WORDS" (4294967296)) rfl)
theorem Tx.int_WORD_BITS (T : Tx K mg) : ∃ t, mg "WORD_BITS" = some (.int (32) t) := by
  obtain ⟨h, X, G⟩ := T.x
  exact He.int_ok X G (T.c.fact 94 (f := .int "WORD_BITS" (32)) rfl)
theorem Tx.int_SUM (T : Tx K mg) : ∃ t, mg "SUM" = some (.int (0) t) := by
  obtain ⟨h, X, G⟩ := T.x
  exact He.int_ok X G (T.c.fact 95 (f := .int "SUM" (0)) rfl)
theorem Tx.int_LESS (T : Tx K mg) : ∃ t, mg "LESS" = some (.int (1) t) := by
  obtain ⟨h, X, G⟩ := T.x
  exact He.int_ok X G (T.c.fact 96 (f := .int "LESS" (1)) rfl)
theorem Tx.int_PRODUCT (T : Tx K mg) : ∃ t, mg "PRODUCT" = some (.int (2) t) := by
  obtain ⟨h, X, G⟩ := T.x
  exact He.int_ok X G (T.c.fact 97 (f := .int "PRODUCT" (2)) rfl)
theorem Tx.int_AND (T : Tx K mg) : ∃ t, mg "AND" = some (.int (3) t) := by
  obtain ⟨h, X, G⟩ := T.x
  exact He.int_ok X G (T.c.fact 98 (f := .int "AND" (3)) rfl)
theorem Tx.int_OR (T : Tx K mg) : ∃ t, mg "OR" = some (.int (4) t) := by
  obtain ⟨h, X, G⟩ := T.x
  exact He.int_ok X G (T.c.fact 99 (f := .int "OR" (4)) rfl)
theorem Tx.int_EXCLUSIVE_OR (T : Tx K mg) : ∃ t, mg "EXCLUSIVE_OR" = some (.int (5) t) := by
  obtain ⟨h, X, G⟩ := T.x
  exact He.int_ok X G (T.c.fact 100 (f := .int "EXCLUSIVE_OR" (5)) rfl)
theorem Tx.int_TIMES_POWER (T : Tx K mg) : ∃ t, mg "TIMES_POWER" = some (.int (6) t) := by
  obtain ⟨h, X, G⟩ := T.x
  exact He.int_ok X G (T.c.fact 101 (f := .int "TIMES_POWER" (6)) rfl)
theorem Tx.int_DIVIDED_BY_POWER (T : Tx K mg) : ∃ t, mg "DIVIDED_BY_POWER" = some (.int (7) t) := by
  obtain ⟨h, X, G⟩ := T.x
  exact He.int_ok X G (T.c.fact 102 (f := .int "DIVIDED_BY_POWER" (7)) rfl)
theorem Tx.int_IS_LESS (T : Tx K mg) : ∃ t, mg "IS_LESS" = some (.int (8) t) := by
  obtain ⟨h, X, G⟩ := T.x
  exact He.int_ok X G (T.c.fact 103 (f := .int "IS_LESS" (8)) rfl)
theorem Tx.int_IS_SAME (T : Tx K mg) : ∃ t, mg "IS_SAME" = some (.int (9) t) := by
  obtain ⟨h, X, G⟩ := T.x
  exact He.int_ok X G (T.c.fact 104 (f := .int "IS_SAME" (9)) rfl)
theorem Tx.int_IS_OVER (T : Tx K mg) : ∃ t, mg "IS_OVER" = some (.int (0) t) := by
  obtain ⟨h, X, G⟩ := T.x
  exact He.int_ok X G (T.c.fact 105 (f := .int "IS_OVER" (0)) rfl)
theorem Tx.int_FAILED (T : Tx K mg) : ∃ t, mg "FAILED" = some (.int (1) t) := by
  obtain ⟨h, X, G⟩ := T.x
  exact He.int_ok X G (T.c.fact 106 (f := .int "FAILED" (1)) rfl)
theorem Tx.int_GOES_ON (T : Tx K mg) : ∃ t, mg "GOES_ON" = some (.int (2) t) := by
  obtain ⟨h, X, G⟩ := T.x
  exact He.int_ok X G (T.c.fact 107 (f := .int "GOES_ON" (2)) rfl)
theorem Tx.int_MOST_RUN_BLOCKS (T : Tx K mg) : ∃ t, mg "MOST_RUN_BLOCKS" = some (.int (500) t) := by
  obtain ⟨h, X, G⟩ := T.x
  exact He.int_ok X G (T.c.fact 108 (f := .int "MOST_RUN_BLOCKS" (500)) rfl)
theorem Tx.int_WRONG_WORDS (T : Tx K mg) : ∃ t, mg "WRONG_WORDS" = some (.int (-5) t) := by
  obtain ⟨h, X, G⟩ := T.x
  exact He.int_ok X G (T.c.fact 109 (f := .int "WRONG_WORDS" (-5)) rfl)
theorem Tx.int_NOT_WHOLE (T : Tx K mg) : ∃ t, mg "NOT_WHOLE" = some (.int (-6) t) := by
  obtain ⟨h, X, G⟩ := T.x
  exact He.int_ok X G (T.c.fact 110 (f := .int "NOT_WHOLE" (-6)) rfl)
theorem Tx.int_NOT_FAIR (T : Tx K mg) : ∃ t, mg "NOT_FAIR" = some (.int (-7) t) := by
  obtain ⟨h, X, G⟩ := T.x
  exact He.int_ok X G (T.c.fact 111 (f := .int "NOT_FAIR" (-7)) rfl)
theorem Tx.int_CODE (T : Tx K mg) : ∃ t, mg "CODE" = some (.int (0) t) := by
  obtain ⟨h, X, G⟩ := T.x
  exact He.int_ok X G (T.c.fact 112 (f := .int "CODE" (0)) rfl)
theorem Tx.int_BLOCK (T : Tx K mg) : ∃ t, mg "BLOCK" = some (.int (1) t) := by
  obtain ⟨h, X, G⟩ := T.x
  exact He.int_ok X G (T.c.fact 113 (f := .int "BLOCK" (1)) rfl)
theorem Tx.int_NUM (T : Tx K mg) : ∃ t, mg "NUM" = some (.int (2) t) := by
  obtain ⟨h, X, G⟩ := T.x
  exact He.int_ok X G (T.c.fact 114 (f := .int "NUM" (2)) rfl)
theorem Tx.int_TWO (T : Tx K mg) : ∃ t, mg "TWO" = some (.int (3) t) := by
  obtain ⟨h, X, G⟩ := T.x
  exact He.int_ok X G (T.c.fact 115 (f := .int "TWO" (3)) rfl)
theorem Tx.int_SAY (T : Tx K mg) : ∃ t, mg "SAY" = some (.int (4) t) := by
  obtain ⟨h, X, G⟩ := T.x
  exact He.int_ok X G (T.c.fact 116 (f := .int "SAY" (4)) rfl)
theorem Tx.int_JUMP (T : Tx K mg) : ∃ t, mg "JUMP" = some (.int (5) t) := by
  obtain ⟨h, X, G⟩ := T.x
  exact He.int_ok X G (T.c.fact 117 (f := .int "JUMP" (5)) rfl)
theorem Tx.int_FORK (T : Tx K mg) : ∃ t, mg "FORK" = some (.int (6) t) := by
  obtain ⟨h, X, G⟩ := T.x
  exact He.int_ok X G (T.c.fact 118 (f := .int "FORK" (6)) rfl)
theorem Tx.int_GIVE (T : Tx K mg) : ∃ t, mg "GIVE" = some (.int (7) t) := by
  obtain ⟨h, X, G⟩ := T.x
  exact He.int_ok X G (T.c.fact 119 (f := .int "GIVE" (7)) rfl)
theorem Tx.int_RUN (T : Tx K mg) : ∃ t, mg "RUN" = some (.int (8) t) := by
  obtain ⟨h, X, G⟩ := T.x
  exact He.int_ok X G (T.c.fact 120 (f := .int "RUN" (8)) rfl)
theorem Tx.int_LIVES (T : Tx K mg) : ∃ t, mg "LIVES" = some (.int (9) t) := by
  obtain ⟨h, X, G⟩ := T.x
  exact He.int_ok X G (T.c.fact 121 (f := .int "LIVES" (9)) rfl)
theorem Tx.int_THERE (T : Tx K mg) : ∃ t, mg "THERE" = some (.int (10) t) := by
  obtain ⟨h, X, G⟩ := T.x
  exact He.int_ok X G (T.c.fact 122 (f := .int "THERE" (10)) rfl)
theorem Tx.int_MOST (T : Tx K mg) : ∃ t, mg "MOST" = some (.int (11) t) := by
  obtain ⟨h, X, G⟩ := T.x
  exact He.int_ok X G (T.c.fact 123 (f := .int "MOST" (11)) rfl)
theorem Tx.int_TOGETHER (T : Tx K mg) : ∃ t, mg "TOGETHER" = some (.int (12) t) := by
  obtain ⟨h, X, G⟩ := T.x
  exact He.int_ok X G (T.c.fact 124 (f := .int "TOGETHER" (12)) rfl)
theorem Tx.int_REGISTERS (T : Tx K mg) : ∃ t, mg "REGISTERS" = some (.int (13) t) := by
  obtain ⟨h, X, G⟩ := T.x
  exact He.int_ok X G (T.c.fact 125 (f := .int "REGISTERS" (13)) rfl)
theorem Tx.int_INREGISTERS (T : Tx K mg) : ∃ t, mg "INREGISTERS" = some (.int (14) t) := by
  obtain ⟨h, X, G⟩ := T.x
  exact He.int_ok X G (T.c.fact 126 (f := .int "INREGISTERS" (14)) rfl)
theorem Tx.cls_Block (T : Tx K mg) : Cls K (He.ga K "Block") := He.cls_ok (T.c.fact 127 (f := .cls "Block") rfl)
theorem Tx.mkr_Block (T : Tx K mg) : Mk K (He.ga K "Block") (He.ma K (He.ga K "Block") "__init__") := He.mkr_ok (T.c.fact 128 (f := .mkr "Block") rfl)
theorem Tx.noat_Block_taken (T : Tx K mg) : NoAttr K (He.ga K "Block") "taken" := He.noat_ok (T.c.fact 129 (f := .noat "Block" "taken") rfl)
theorem Tx.noat_Block_rows (T : Tx K mg) : NoAttr K (He.ga K "Block") "rows" := He.noat_ok (T.c.fact 130 (f := .noat "Block" "rows") rfl)
theorem Tx.noat_Block_end (T : Tx K mg) : NoAttr K (He.ga K "Block") "end" := He.noat_ok (T.c.fact 131 (f := .noat "Block" "end") rfl)
theorem Tx.cls_Code (T : Tx K mg) : Cls K (He.ga K "Code") := He.cls_ok (T.c.fact 132 (f := .cls "Code") rfl)
theorem Tx.mkr_Code (T : Tx K mg) : Mk K (He.ga K "Code") (He.ma K (He.ga K "Code") "__init__") := He.mkr_ok (T.c.fact 133 (f := .mkr "Code") rfl)
theorem Tx.noat_Code_words (T : Tx K mg) : NoAttr K (He.ga K "Code") "words" := He.noat_ok (T.c.fact 134 (f := .noat "Code" "words") rfl)
theorem Tx.noat_Code_blocks (T : Tx K mg) : NoAttr K (He.ga K "Code") "blocks" := He.noat_ok (T.c.fact 135 (f := .noat "Code" "blocks") rfl)
theorem Tx.meth_Code_open_block (T : Tx K mg) : Meth K (He.ga K "Code") "open_block" (He.ma K (He.ga K "Code") "open_block") := He.meth_ok (T.c.fact 136 (f := .meth "Code" "open_block") rfl)
theorem Tx.meth_Code_begin (T : Tx K mg) : Meth K (He.ga K "Code") "begin" (He.ma K (He.ga K "Code") "begin") := He.meth_ok (T.c.fact 137 (f := .meth "Code" "begin") rfl)
theorem Tx.meth_Code_block (T : Tx K mg) : Meth K (He.ga K "Code") "block" (He.ma K (He.ga K "Code") "block") := He.meth_ok (T.c.fact 138 (f := .meth "Code" "block") rfl)
theorem Tx.meth_Code_num (T : Tx K mg) : Meth K (He.ga K "Code") "num" (He.ma K (He.ga K "Code") "num") := He.meth_ok (T.c.fact 139 (f := .meth "Code" "num") rfl)
theorem Tx.meth_Code_two (T : Tx K mg) : Meth K (He.ga K "Code") "two" (He.ma K (He.ga K "Code") "two") := He.meth_ok (T.c.fact 140 (f := .meth "Code" "two") rfl)
theorem Tx.meth_Code_say (T : Tx K mg) : Meth K (He.ga K "Code") "say" (He.ma K (He.ga K "Code") "say") := He.meth_ok (T.c.fact 141 (f := .meth "Code" "say") rfl)
theorem Tx.meth_Code_put_row (T : Tx K mg) : Meth K (He.ga K "Code") "put_row" (He.ma K (He.ga K "Code") "put_row") := He.meth_ok (T.c.fact 142 (f := .meth "Code" "put_row") rfl)
theorem Tx.meth_Code_jump (T : Tx K mg) : Meth K (He.ga K "Code") "jump" (He.ma K (He.ga K "Code") "jump") := He.meth_ok (T.c.fact 143 (f := .meth "Code" "jump") rfl)
theorem Tx.meth_Code_fork (T : Tx K mg) : Meth K (He.ga K "Code") "fork" (He.ma K (He.ga K "Code") "fork") := He.meth_ok (T.c.fact 144 (f := .meth "Code" "fork") rfl)
theorem Tx.meth_Code_give (T : Tx K mg) : Meth K (He.ga K "Code") "give" (He.ma K (He.ga K "Code") "give") := He.meth_ok (T.c.fact 145 (f := .meth "Code" "give") rfl)
theorem Tx.meth_Code_put_end (T : Tx K mg) : Meth K (He.ga K "Code") "put_end" (He.ma K (He.ga K "Code") "put_end") := He.meth_ok (T.c.fact 146 (f := .meth "Code" "put_end") rfl)
theorem Tx.def_all_values (T : Tx K mg) : ∃ fd, FunD K "all_values" "all_values" (defArgs s_all_values) (defBody s_all_values) (defScope s_all_values) [] [] (He.ga K "all_values") fd := T.c.def_ 0 (d := d_all_values) rfl
theorem Tx.def_all_targets (T : Tx K mg) : ∃ fd, FunD K "all_targets" "all_targets" (defArgs s_all_targets) (defBody s_all_targets) (defScope s_all_targets) [] [] (He.ga K "all_targets") fd := T.c.def_ 1 (d := d_all_targets) rfl
theorem Tx.def_Block_init (T : Tx K mg) : ∃ fd, FunD K "__init__" "Block.__init__" (defArgs s_Block_init) (defBody s_Block_init) (defScope s_Block_init) [] [] (He.ma K (He.ga K "Block") "__init__") fd := T.c.def_ 2 (d := d_Block_init) rfl
theorem Tx.def_Code_init (T : Tx K mg) : ∃ fd, FunD K "__init__" "Code.__init__" (defArgs s_Code_init) (defBody s_Code_init) (defScope s_Code_init) [] [] (He.ma K (He.ga K "Code") "__init__") fd := T.c.def_ 3 (d := d_Code_init) rfl
theorem Tx.def_Code_open_block (T : Tx K mg) : ∃ fd, FunD K "open_block" "Code.open_block" (defArgs s_Code_open_block) (defBody s_Code_open_block) (defScope s_Code_open_block) [] [] (He.ma K (He.ga K "Code") "open_block") fd := T.c.def_ 4 (d := d_Code_open_block) rfl
theorem Tx.def_Code_begin (T : Tx K mg) : ∃ fd, FunD K "begin" "Code.begin" (defArgs s_Code_begin) (defBody s_Code_begin) (defScope s_Code_begin) [] [] (He.ma K (He.ga K "Code") "begin") fd := T.c.def_ 5 (d := d_Code_begin) rfl
theorem Tx.def_Code_block (T : Tx K mg) : ∃ fd, FunD K "block" "Code.block" (defArgs s_Code_block) (defBody s_Code_block) (defScope s_Code_block) [] [] (He.ma K (He.ga K "Code") "block") fd := T.c.def_ 6 (d := d_Code_block) rfl
theorem Tx.def_Code_num (T : Tx K mg) : ∃ fd, FunD K "num" "Code.num" (defArgs s_Code_num) (defBody s_Code_num) (defScope s_Code_num) [] [] (He.ma K (He.ga K "Code") "num") fd := T.c.def_ 7 (d := d_Code_num) rfl
theorem Tx.def_Code_two (T : Tx K mg) : ∃ fd, FunD K "two" "Code.two" (defArgs s_Code_two) (defBody s_Code_two) (defScope s_Code_two) [] [] (He.ma K (He.ga K "Code") "two") fd := T.c.def_ 8 (d := d_Code_two) rfl
theorem Tx.def_Code_say (T : Tx K mg) : ∃ fd, FunD K "say" "Code.say" (defArgs s_Code_say) (defBody s_Code_say) (defScope s_Code_say) [] [] (He.ma K (He.ga K "Code") "say") fd := T.c.def_ 9 (d := d_Code_say) rfl
theorem Tx.def_Code_put_row (T : Tx K mg) : ∃ fd, FunD K "put_row" "Code.put_row" (defArgs s_Code_put_row) (defBody s_Code_put_row) (defScope s_Code_put_row) [] [] (He.ma K (He.ga K "Code") "put_row") fd := T.c.def_ 10 (d := d_Code_put_row) rfl
theorem Tx.def_Code_jump (T : Tx K mg) : ∃ fd, FunD K "jump" "Code.jump" (defArgs s_Code_jump) (defBody s_Code_jump) (defScope s_Code_jump) [] [] (He.ma K (He.ga K "Code") "jump") fd := T.c.def_ 11 (d := d_Code_jump) rfl
theorem Tx.def_Code_fork (T : Tx K mg) : ∃ fd, FunD K "fork" "Code.fork" (defArgs s_Code_fork) (defBody s_Code_fork) (defScope s_Code_fork) [] [] (He.ma K (He.ga K "Code") "fork") fd := T.c.def_ 12 (d := d_Code_fork) rfl
theorem Tx.def_Code_give (T : Tx K mg) : ∃ fd, FunD K "give" "Code.give" (defArgs s_Code_give) (defBody s_Code_give) (defScope s_Code_give) [] [] (He.ma K (He.ga K "Code") "give") fd := T.c.def_ 13 (d := d_Code_give) rfl
theorem Tx.def_Code_put_end (T : Tx K mg) : ∃ fd, FunD K "put_end" "Code.put_end" (defArgs s_Code_put_end) (defBody s_Code_put_end) (defScope s_Code_put_end) [] [] (He.ma K (He.ga K "Code") "put_end") fd := T.c.def_ 14 (d := d_Code_put_end) rfl
theorem Tx.def_given_by_row (T : Tx K mg) : ∃ fd, FunD K "given_by_row" "given_by_row" (defArgs s_given_by_row) (defBody s_given_by_row) (defScope s_given_by_row) [] [] (He.ga K "given_by_row") fd := T.c.def_ 15 (d := d_given_by_row) rfl
theorem Tx.def_used_by_row (T : Tx K mg) : ∃ fd, FunD K "used_by_row" "used_by_row" (defArgs s_used_by_row) (defBody s_used_by_row) (defScope s_used_by_row) [] [] (He.ga K "used_by_row") fd := T.c.def_ 16 (d := d_used_by_row) rfl
theorem Tx.def_used_by_end (T : Tx K mg) : ∃ fd, FunD K "used_by_end" "used_by_end" (defArgs s_used_by_end) (defBody s_used_by_end) (defScope s_used_by_end) [] [] (He.ga K "used_by_end") fd := T.c.def_ 17 (d := d_used_by_end) rfl
theorem Tx.def_ways (T : Tx K mg) : ∃ fd, FunD K "ways" "ways" (defArgs s_ways) (defBody s_ways) (defScope s_ways) [] [] (He.ga K "ways") fd := T.c.def_ 18 (d := d_ways) rfl
theorem Tx.def_given_in_block (T : Tx K mg) : ∃ fd, FunD K "given_in_block" "given_in_block" (defArgs s_given_in_block) (defBody s_given_in_block) (defScope s_given_in_block) [] [] (He.ga K "given_in_block") fd := T.c.def_ 19 (d := d_given_in_block) rfl
theorem Tx.def_given_in_code (T : Tx K mg) : ∃ fd, FunD K "given_in_code" "given_in_code" (defArgs s_given_in_code) (defBody s_given_in_code) (defScope s_given_in_code) [] [] (He.ga K "given_in_code") fd := T.c.def_ 20 (d := d_given_in_code) rfl
theorem Tx.def_is_whole (T : Tx K mg) : ∃ fd, FunD K "is_whole" "is_whole" (defArgs s_is_whole) (defBody s_is_whole) (defScope s_is_whole) [] [] (He.ga K "is_whole") fd := T.c.def_ 21 (d := d_is_whole) rfl
theorem Tx.def_ways_fit (T : Tx K mg) : ∃ fd, FunD K "ways_fit" "ways_fit" (defArgs s_ways_fit) (defBody s_ways_fit) (defScope s_ways_fit) [] [] (He.ga K "ways_fit") fd := T.c.def_ 22 (d := d_ways_fit) rfl
theorem Tx.def_reached (T : Tx K mg) : ∃ fd, FunD K "reached" "reached" (defArgs s_reached) (defBody s_reached) (defScope s_reached) [] [] (He.ga K "reached") fd := T.c.def_ 23 (d := d_reached) rfl
theorem Tx.def_is_fair (T : Tx K mg) : ∃ fd, FunD K "is_fair" "is_fair" (defArgs s_is_fair) (defBody s_is_fair) (defScope s_is_fair) [] [] (He.ga K "is_fair") fd := T.c.def_ 24 (d := d_is_fair) rfl
theorem Tx.def_given_at_begin (T : Tx K mg) : ∃ fd, FunD K "given_at_begin" "given_at_begin" (defArgs s_given_at_begin) (defBody s_given_at_begin) (defScope s_given_at_begin) [] [] (He.ga K "given_at_begin") fd := T.c.def_ 25 (d := d_given_at_begin) rfl
theorem Tx.def_uses_are_given (T : Tx K mg) : ∃ fd, FunD K "uses_are_given" "uses_are_given" (defArgs s_uses_are_given) (defBody s_uses_are_given) (defScope s_uses_are_given) [] [] (He.ga K "uses_are_given") fd := T.c.def_ 26 (d := d_uses_are_given) rfl
theorem Tx.def_all_among (T : Tx K mg) : ∃ fd, FunD K "all_among" "all_among" (defArgs s_all_among) (defBody s_all_among) (defScope s_all_among) [] [] (He.ga K "all_among") fd := T.c.def_ 27 (d := d_all_among) rfl
theorem Tx.def_coming_in (T : Tx K mg) : ∃ fd, FunD K "coming_in" "coming_in" (defArgs s_coming_in) (defBody s_coming_in) (defScope s_coming_in) [] [] (He.ga K "coming_in") fd := T.c.def_ 28 (d := d_coming_in) rfl
theorem Tx.def_come_in_to (T : Tx K mg) : ∃ fd, FunD K "come_in_to" "come_in_to" (defArgs s_come_in_to) (defBody s_come_in_to) (defScope s_come_in_to) [] [] (He.ga K "come_in_to") fd := T.c.def_ 29 (d := d_come_in_to) rfl
theorem Tx.def_live_in_block (T : Tx K mg) : ∃ fd, FunD K "live_in_block" "live_in_block" (defArgs s_live_in_block) (defBody s_live_in_block) (defScope s_live_in_block) [] [] (He.ga K "live_in_block") fd := T.c.def_ 30 (d := d_live_in_block) rfl
theorem Tx.def_live_at_end (T : Tx K mg) : ∃ fd, FunD K "live_at_end" "live_at_end" (defArgs s_live_at_end) (defBody s_live_at_end) (defScope s_live_at_end) [] [] (He.ga K "live_at_end") fd := T.c.def_ 31 (d := d_live_at_end) rfl
theorem Tx.def_live_in_code (T : Tx K mg) : ∃ fd, FunD K "live_in_code" "live_in_code" (defArgs s_live_in_code) (defBody s_live_in_code) (defScope s_live_in_code) [] [] (He.ga K "live_in_code") fd := T.c.def_ 32 (d := d_live_in_code) rfl
theorem Tx.def_there_in_code (T : Tx K mg) : ∃ fd, FunD K "there_in_code" "there_in_code" (defArgs s_there_in_code) (defBody s_there_in_code) (defScope s_there_in_code) [] [] (He.ga K "there_in_code") fd := T.c.def_ 33 (d := d_there_in_code) rfl
theorem Tx.def_there_in_block (T : Tx K mg) : ∃ fd, FunD K "there_in_block" "there_in_block" (defArgs s_there_in_block) (defBody s_there_in_block) (defScope s_there_in_block) [] [] (He.ga K "there_in_block") fd := T.c.def_ 34 (d := d_there_in_block) rfl
theorem Tx.def_most_there (T : Tx K mg) : ∃ fd, FunD K "most_there" "most_there" (defArgs s_most_there) (defBody s_most_there) (defScope s_most_there) [] [] (He.ga K "most_there") fd := T.c.def_ 35 (d := d_most_there) rfl
theorem Tx.def_are_together (T : Tx K mg) : ∃ fd, FunD K "are_together" "are_together" (defArgs s_are_together) (defBody s_are_together) (defScope s_are_together) [] [] (He.ga K "are_together") fd := T.c.def_ 36 (d := d_are_together) rfl
theorem Tx.def_value_slots (T : Tx K mg) : ∃ fd, FunD K "value_slots" "value_slots" (defArgs s_value_slots) (defBody s_value_slots) (defScope s_value_slots) [] [] (He.ga K "value_slots") fd := T.c.def_ 37 (d := d_value_slots) rfl
theorem Tx.def_place_one_by_one (T : Tx K mg) : ∃ fd, FunD K "place_one_by_one" "place_one_by_one" (defArgs s_place_one_by_one) (defBody s_place_one_by_one) (defScope s_place_one_by_one) [] [] (He.ga K "place_one_by_one") fd := T.c.def_ 38 (d := d_place_one_by_one) rfl
theorem Tx.def_place_rows (T : Tx K mg) : ∃ fd, FunD K "place_rows" "place_rows" (defArgs s_place_rows) (defBody s_place_rows) (defScope s_place_rows) [] [] (He.ga K "place_rows") fd := T.c.def_ 39 (d := d_place_rows) rfl
theorem Tx.def_least_free (T : Tx K mg) : ∃ fd, FunD K "least_free" "least_free" (defArgs s_least_free) (defBody s_least_free) (defScope s_least_free) [] [] (He.ga K "least_free") fd := T.c.def_ 40 (d := d_least_free) rfl
theorem Tx.def_code_in_slots (T : Tx K mg) : ∃ fd, FunD K "code_in_slots" "code_in_slots" (defArgs s_code_in_slots) (defBody s_code_in_slots) (defScope s_code_in_slots) [] [] (He.ga K "code_in_slots") fd := T.c.def_ 41 (d := d_code_in_slots) rfl
theorem Tx.def_block_in_slots (T : Tx K mg) : ∃ fd, FunD K "block_in_slots" "block_in_slots" (defArgs s_block_in_slots) (defBody s_block_in_slots) (defScope s_block_in_slots) [] [] (He.ga K "block_in_slots") fd := T.c.def_ 42 (d := d_block_in_slots) rfl
theorem Tx.def_all_in_slots (T : Tx K mg) : ∃ fd, FunD K "all_in_slots" "all_in_slots" (defArgs s_all_in_slots) (defBody s_all_in_slots) (defScope s_all_in_slots) [] [] (He.ga K "all_in_slots") fd := T.c.def_ 43 (d := d_all_in_slots) rfl
theorem Tx.def_row_in_slots (T : Tx K mg) : ∃ fd, FunD K "row_in_slots" "row_in_slots" (defArgs s_row_in_slots) (defBody s_row_in_slots) (defScope s_row_in_slots) [] [] (He.ga K "row_in_slots") fd := T.c.def_ 44 (d := d_row_in_slots) rfl
theorem Tx.def_end_in_slots (T : Tx K mg) : ∃ fd, FunD K "end_in_slots" "end_in_slots" (defArgs s_end_in_slots) (defBody s_end_in_slots) (defScope s_end_in_slots) [] [] (He.ga K "end_in_slots") fd := T.c.def_ 45 (d := d_end_in_slots) rfl
theorem Tx.def_run (T : Tx K mg) : ∃ fd, FunD K "run" "run" (defArgs s_run) (defBody s_run) (defScope s_run) [] [] (He.ga K "run") fd := T.c.def_ 46 (d := d_run) rfl
theorem Tx.def_run_blocks (T : Tx K mg) : ∃ fd, FunD K "run_blocks" "run_blocks" (defArgs s_run_blocks) (defBody s_run_blocks) (defScope s_run_blocks) [] [] (He.ga K "run_blocks") fd := T.c.def_ 47 (d := d_run_blocks) rfl
theorem Tx.def_run_rows (T : Tx K mg) : ∃ fd, FunD K "run_rows" "run_rows" (defArgs s_run_rows) (defBody s_run_rows) (defScope s_run_rows) [] [] (He.ga K "run_rows") fd := T.c.def_ 48 (d := d_run_rows) rfl
theorem Tx.def_run_end (T : Tx K mg) : ∃ fd, FunD K "run_end" "run_end" (defArgs s_run_end) (defBody s_run_end) (defScope s_run_end) [] [] (He.ga K "run_end") fd := T.c.def_ 49 (d := d_run_end) rfl
theorem Tx.def_hand_over (T : Tx K mg) : ∃ fd, FunD K "hand_over" "hand_over" (defArgs s_hand_over) (defBody s_hand_over) (defScope s_hand_over) [] [] (He.ga K "hand_over") fd := T.c.def_ 50 (d := d_hand_over) rfl
theorem Tx.def_combined (T : Tx K mg) : ∃ fd, FunD K "combined" "combined" (defArgs s_combined) (defBody s_combined) (defScope s_combined) [] [] (He.ga K "combined") fd := T.c.def_ 51 (d := d_combined) rfl
theorem Tx.def_counted (T : Tx K mg) : ∃ fd, FunD K "counted" "counted" (defArgs s_counted) (defBody s_counted) (defScope s_counted) [] [] (He.ga K "counted") fd := T.c.def_ 52 (d := d_counted) rfl
theorem Tx.def_code_in_numbers (T : Tx K mg) : ∃ fd, FunD K "code_in_numbers" "code_in_numbers" (defArgs s_code_in_numbers) (defBody s_code_in_numbers) (defScope s_code_in_numbers) [] [] (He.ga K "code_in_numbers") fd := T.c.def_ 53 (d := d_code_in_numbers) rfl
theorem Tx.def_block_in_numbers (T : Tx K mg) : ∃ fd, FunD K "block_in_numbers" "block_in_numbers" (defArgs s_block_in_numbers) (defBody s_block_in_numbers) (defScope s_block_in_numbers) [] [] (He.ga K "block_in_numbers") fd := T.c.def_ 54 (d := d_block_in_numbers) rfl
theorem Tx.def_end_in_numbers (T : Tx K mg) : ∃ fd, FunD K "end_in_numbers" "end_in_numbers" (defArgs s_end_in_numbers) (defBody s_end_in_numbers) (defScope s_end_in_numbers) [] [] (He.ga K "end_in_numbers") fd := T.c.def_ 55 (d := d_end_in_numbers) rfl
theorem Tx.def_refusal_of_all (T : Tx K mg) : ∃ fd, FunD K "refusal_of_all" "refusal_of_all" (defArgs s_refusal_of_all) (defBody s_refusal_of_all) (defScope s_refusal_of_all) [] [] (He.ga K "refusal_of_all") fd := T.c.def_ 56 (d := d_refusal_of_all) rfl
theorem Tx.def_ask_run (T : Tx K mg) : ∃ fd, FunD K "ask_run" "ask_run" (defArgs s_ask_run) (defBody s_ask_run) (defScope s_ask_run) [] [] (He.ga K "ask_run") fd := T.c.def_ 57 (d := d_ask_run) rfl
theorem Tx.def_ask_run_in_registers (T : Tx K mg) : ∃ fd, FunD K "ask_run_in_registers" "ask_run_in_registers" (defArgs s_ask_run_in_registers) (defBody s_ask_run_in_registers) (defScope s_ask_run_in_registers) [] [] (He.ga K "ask_run_in_registers") fd := T.c.def_ 58 (d := d_ask_run_in_registers) rfl
theorem Tx.def_ask_lives (T : Tx K mg) : ∃ fd, FunD K "ask_lives" "ask_lives" (defArgs s_ask_lives) (defBody s_ask_lives) (defScope s_ask_lives) [] [] (He.ga K "ask_lives") fd := T.c.def_ 59 (d := d_ask_lives) rfl
theorem Tx.def_ask_there (T : Tx K mg) : ∃ fd, FunD K "ask_there" "ask_there" (defArgs s_ask_there) (defBody s_ask_there) (defScope s_ask_there) [] [] (He.ga K "ask_there") fd := T.c.def_ 60 (d := d_ask_there) rfl
theorem Tx.def_is_place (T : Tx K mg) : ∃ fd, FunD K "is_place" "is_place" (defArgs s_is_place) (defBody s_is_place) (defScope s_is_place) [] [] (He.ga K "is_place") fd := T.c.def_ 61 (d := d_is_place) rfl
theorem Tx.def_ask_together (T : Tx K mg) : ∃ fd, FunD K "ask_together" "ask_together" (defArgs s_ask_together) (defBody s_ask_together) (defScope s_ask_together) [] [] (He.ga K "ask_together") fd := T.c.def_ 62 (d := d_ask_together) rfl
theorem Tx.def_ask_most (T : Tx K mg) : ∃ fd, FunD K "ask_most" "ask_most" (defArgs s_ask_most) (defBody s_ask_most) (defScope s_ask_most) [] [] (He.ga K "ask_most") fd := T.c.def_ 63 (d := d_ask_most) rfl
theorem Tx.def_ask_registers (T : Tx K mg) : ∃ fd, FunD K "ask_registers" "ask_registers" (defArgs s_ask_registers) (defBody s_ask_registers) (defScope s_ask_registers) [] [] (He.ga K "ask_registers") fd := T.c.def_ 64 (d := d_ask_registers) rfl
theorem Tx.def_ask_in_registers (T : Tx K mg) : ∃ fd, FunD K "ask_in_registers" "ask_in_registers" (defArgs s_ask_in_registers) (defBody s_ask_in_registers) (defScope s_ask_in_registers) [] [] (He.ga K "ask_in_registers") fd := T.c.def_ 65 (d := d_ask_in_registers) rfl
theorem Tx.def_in_registers (T : Tx K mg) : ∃ fd, FunD K "in_registers" "in_registers" (defArgs s_in_registers) (defBody s_in_registers) (defScope s_in_registers) [] [] (He.ga K "in_registers") fd := T.c.def_ 66 (d := d_in_registers) rfl
theorem Tx.def_answers (T : Tx K mg) : ∃ fd, FunD K "answers" "answers" (defArgs s_answers) (defBody s_answers) (defScope s_answers) [] [] (He.ga K "answers") fd := T.c.def_ 67 (d := d_answers) rfl
theorem Tx.def_split_calls (T : Tx K mg) : ∃ fd, FunD K "split_calls" "split_calls" (defArgs s_split_calls) (defBody s_split_calls) (defScope s_split_calls) [] [] (He.ga K "split_calls") fd := T.c.def_ 68 (d := d_split_calls) rfl
theorem Tx.def_answer_to (T : Tx K mg) : ∃ fd, FunD K "answer_to" "answer_to" (defArgs s_answer_to) (defBody s_answer_to) (defScope s_answer_to) [] [] (He.ga K "answer_to") fd := T.c.def_ 69 (d := d_answer_to) rfl
theorem Tx.def_build (T : Tx K mg) : ∃ fd, FunD K "build" "build" (defArgs s_build) (defBody s_build) (defScope s_build) [] [] (He.ga K "build") fd := T.c.def_ 70 (d := d_build) rfl
theorem Tx.def_ask (T : Tx K mg) : ∃ fd, FunD K "ask" "ask" (defArgs s_ask) (defBody s_ask) (defScope s_ask) [] [] (He.ga K "ask") fd := T.c.def_ 71 (d := d_ask) rfl
end
def loose0 : List Str := ["MOST_WORDS", "MOST_BLOCKS", "MOST_TAKEN", "MOST_ROWS", "MOST_HANDED_BY_JUMP", "MOST_HANDED_BY_FORK", "LAST_VALUE", "LAST_OPERATION", "FIRST_TARGET", "LAST_TARGET", "BAD_COUNT", "OUT_OF_RANGE", "WRONG_TIME", "NO_OPERATION", "NUMBER_ROW", "TWO_ROW", "SAY_ROW", "JUMP_END", "FORK_END", "GIVE_END", "all_values", "all_targets", "Block", "Code", "given_by_row", "used_by_row", "used_by_end", "ways", "given_in_block", "given_in_code"]
def loose1 : List Str := ["is_whole", "ways_fit", "reached", "is_fair", "given_at_begin", "uses_are_given", "all_among", "coming_in", "come_in_to", "live_in_block", "live_at_end", "live_in_code", "there_in_code", "there_in_block", "most_there", "are_together", "value_slots", "place_one_by_one", "place_rows", "least_free", "code_in_slots", "block_in_slots", "all_in_slots", "row_in_slots", "end_in_slots", "ALL_WORDS", "WORD_BITS", "SUM", "LESS", "PRODUCT"]
def loose2 : List Str := ["AND", "OR", "EXCLUSIVE_OR", "TIMES_POWER", "DIVIDED_BY_POWER", "IS_LESS", "IS_SAME", "IS_OVER", "FAILED", "GOES_ON", "run", "run_blocks", "run_rows", "run_end", "hand_over", "combined", "counted", "code_in_numbers", "block_in_numbers", "end_in_numbers", "MOST_RUN_BLOCKS", "WRONG_WORDS", "NOT_WHOLE", "NOT_FAIR", "refusal_of_all", "ask_run", "ask_run_in_registers", "ask_lives", "ask_there", "is_place"]
def loose3 : List Str := ["ask_together", "ask_most", "ask_registers", "ask_in_registers", "in_registers", "CODE", "BLOCK", "NUM", "TWO", "SAY", "JUMP", "FORK", "GIVE", "RUN", "LIVES", "THERE", "MOST", "TOGETHER", "REGISTERS", "INREGISTERS", "FORMS", "split_calls", "answer_to", "build", "ask"]
def loose : List Str := loose0 ++ loose1 ++ loose2 ++ loose3
end VS
/-! Own words over the hand layer: defs by their promises, short names of operators' readings. -/
namespace VS
open PySem PySem.Spec PyProof.Rows L2
/-- a def keeps its promise, its arguments bind, nobody has changed it -/
structure Df (P : Program) (w : World) (K : PySem.W.Frag) (mg : Str → Option Value) (base : Heap) (k : Nat) (f : Addr) (ps : List Str) (sp : Sp) : Prop where
  ex : ∃ fd, FnOk P w K mg base CX0 k f fd ps sp ∧ Binds K fd ps []
  kp : PySem.W.keepIn K (.ref f) = true
section
variable {X : Cx} {x : Str} {pos : Pos}
theorem pe_cint {i : Int} (h : ∃ t, X.mg x = some (.int i t)) (hg : Gl X x := by rfl) (hd : (x == ("__debug__" : Str)) = false := by decide) : PE X (.Name x pos) (tC (.int i)) := by
  obtain ⟨t, h⟩ := h
  exact pe_glob hg h ⟨t, rfl⟩ hd
end
section
variable {P : Program} {w : World} {K : PySem.W.Frag} {mg : Str → Option Value} {base : Heap}
theorem df_of {x qual : Str} {st : Stmt} {f : Addr} {fd : FuncData} {N ps : List Str} {k : Nat} {sp : Sp} {t : TS}
    (F : FunD K x qual (defArgs st) (defBody st) (defScope st) [] [] f fd) (S : FnScope N ps (defScope st))
    (bnd : ∀ (kV doc pm : Value) (an : Option Addr) (cdv ct : Value) (us : List Value), us.length = ps.length →
      bindArgs (PySem.W.fnOf x qual (defArgs st) (defBody st) (defScope st) .none kV doc pm an cdv ct) ⟨us, []⟩ = pure (ps.zip us))
    (len : ∀ vs H Q E, sp vs H Q E → vs.length = ps.length)
    (der : ∀ {cdv : Value} {A : Around} {outer : List Env} {s : Shared} {H : Hp} {E : XK}, Room k (A.deeper (envOfC qual (defScope st) s.heap.objs.size f cdv)) →
      PSs (cxOf CX0 P w K mg base N qual (defScope st) f cdv A outer s H E).nox (defBody st) t)
    (pure : ∀ vs H Q E, sp vs H Q E → t { nx := fun _ H' => Q .non H', rt := Q } (start N vs) H) : Df P w K mg base (k + 1) f ps sp := by
  refine ⟨⟨fd, F.ok S len (fun cdv A outer s H vs Q E hr h => ⟨t, (der hr).nox, pure vs H Q E h⟩), F.bindsN bnd⟩, F.kp⟩
end
/-! ### short names -/
abbrev rAdd : R2 := rI0 fun i j => .int (i + j)
abbrev rSub : R2 := rI0 fun i j => .int (i - j)
abbrev rMul : R2 := rI CMul fun i j => .int (i * j)
abbrev rLt : R2 := rI0 fun i j => .bl (decide (i < j))
abbrev rLe : R2 := rI0 fun i j => .bl (decide (i ≤ j))
abbrev rNeg : V → Hp → VK → Prop := rU fun i => .int (-i)
abbrev rTupS (K : PySem.W.Frag) : List V → Hp → VK → Prop := fun xs H Q => ∃ p ys, xs = [.ref p] ∧ ((SqL K H p ys ∧ ∀ l, H l = none → Q (.ref l) (upd H l (.tup ys))) ∨ (SqT K H p ys ∧ Q (.ref p) H))
end VS
namespace VS
open PySem L2 Evl
/-! ### evaluations -/
section
variable {K : PySem.W.Frag} {σ : L2.St} {H H' : Hp} {ta tb te tl : TE} {t u : TT} {x y z v : V} {r : R2} {C a dx : Addr} {fs : List (Str × V)} {f m : Str} {D : Ends} {tz : TS}
theorem ev_fld (h : Ev ta σ H (.ref a)) (ho : H a = some (.ins C dx fs)) (hc : Cls K C) (hn : NoAttr K C f) (hl : fs.lookup f = some v) : Ev (tFld K ta f) σ H v := fun H1 e Q q =>
  h H1 e _ fun H2 e2 => ⟨a, C, dx, fs, v, rfl, e2 _ _ (e _ _ ho), hc, hn, hl, q H2 e2⟩
/-- a call of a built-in whose one argument is a new list -/
theorem ev_cbL {rc : List V → Hp → VK → Prop} {xs : List V} (h : EvL ta σ H xs) (hr : ∀ p H1, Ex H H1 → H1 p = some (.lst xs) → RC rc [.ref p] H1 z) : Ev (tCB rc (tCons ta tNil)) σ H z := fun H1 e Q q =>
  h H1 e _ fun p H2 _ e2 hp => hr p H2 (e.trans e2) hp H2 (Ex.refl H2) Q fun H3 e3 => q H3 (e2.trans e3)
theorem rc_all {p : Addr} {bs : List Bool} {H : Hp} (h : H p = some (.lst (bs.map V.bl))) : RC (rAll K) [.ref p] H (.bl (bs.all id)) := fun H1 e Q q => ⟨p, bs, rfl, sq_of (e _ _ h), q H1 (Ex.refl H1)⟩
theorem rc_any {p : Addr} {bs : List Bool} {H : Hp} (h : H p = some (.lst (bs.map V.bl))) : RC (rAny K) [.ref p] H (.bl (bs.any id)) := fun H1 e Q q => ⟨p, bs, rfl, sq_of (e _ _ h), q H1 (Ex.refl H1)⟩
theorem given_eq {p : V → Bool} {g : V → V} : ∀ (xs : List V), given xs.length (fun i => p (xs.getD i .non)) (fun i => g (xs.getD i .non)) = (xs.filter p).map g := by
  intro xs
  unfold given
  have key : ∀ (l : List V), (List.range l.length).map (fun i => l.getD i V.non) = l := by
    intro l
    refine List.ext_getElem? fun i => ?_
    rw [List.getElem?_map]
    by_cases hi : i < l.length
    · rw [List.getElem?_range hi, Option.map_some, List.getD_eq_getElem?_getD, List.getElem?_eq_getElem hi]
      rfl
    · rw [List.getElem?_eq_none (by rw [List.length_range]; omega), List.getElem?_eq_none (by omega)]
      rfl
  have e : (List.range xs.length).filter (fun i => p (xs.getD i .non)) = (List.range xs.length).filter (p ∘ fun i => xs.getD i .non) := rfl
  have e2 : (fun i => g (xs.getD i .non)) = g ∘ fun i => xs.getD i .non := rfl
  rw [e, e2, ← List.map_map, ← List.filter_map, key]
theorem at_getD {xs : List V} {i : Nat} {x : V} (h : xs[i]? = some x) : xs.getD i .non = x := by
  rw [List.getD_eq_getElem?_getD, h]
  rfl
/-- a comprehension over a list, by its items -/
theorem el_comp {xs : List V} {j : Nat} {vs : List Nat} (p : V → Bool) (g : V → V) (h : Ev tl σ H (.ref a)) (hx : SqL K H a xs) (hz : xs.length ≤ 40000) (hw : ∀ x, wipe ((wipe σ vs).set j (some x)) vs = wipe σ vs)
    (ht : ∀ x ∈ xs, ∀ H1, Ex H H1 → EvT t ((wipe σ vs).set j (some x)) H1 (p x)) (he : ∀ x ∈ xs, ∀ H1, Ex H H1 → p x = true → Ev te ((wipe σ vs).set j (some x)) H1 (g x)) :
    EvL (tLc (iList K tl) (gName j) t te vs) σ H ((xs.filter p).map g) := by
  rw [← given_eq]
  refine el_lcL _ _ h hx hz hw (fun i x H1 e hi => ?_) (fun i x H1 e hi hf => ?_)
  · rw [at_getD hi]
    exact ht x (List.mem_of_getElem? hi) H1 e
  · rw [at_getD hi] at hf ⊢
    exact he x (List.mem_of_getElem? hi) H1 e hf
theorem et_yes : EvT tYes σ H true := fun H1 _ _ q => q H1 (Ex.refl H1)
theorem ev_chain {r' : R2} {tc : TE} {a b : Bool} {w : V} (ha : Ev ta σ H x) (hb : Ev tb σ H y) (hc : Ev tc σ H w) (h1 : RV r x y H (.bl a)) (h2 : a = true → RV r' y w H (.bl b)) : Ev (tChain r r' ta tb tc) σ H (.bl (a && b)) := fun H1 e Q q =>
  ha H1 e _ fun H2 e2 => hb H2 (e.trans e2) _ fun H3 e3 => h1 H3 ((e.trans e2).trans e3) _ fun H4 e4 => ⟨a, rfl, by
    cases a with
    | true =>
      rw [if_pos rfl]
      exact hc H4 (((e.trans e2).trans e3).trans e4) _ fun H5 e5 => h2 rfl H5 ((((e.trans e2).trans e3).trans e4).trans e5) _ fun H6 e6 => q H6 ((((e2.trans e3).trans e4).trans e5).trans e6)
    | false =>
      rw [if_neg Bool.false_ne_true]
      exact q H4 ((e2.trans e3).trans e4)⟩
theorem rv_isN : RV rIsN x .non H (.bl (decide (x = .non))) := fun H1 _ _ q => ⟨rfl, q H1 (Ex.refl H1)⟩
theorem rv_notN : RV rNotN x .non H (.bl (!decide (x = .non))) := fun H1 _ _ q => ⟨rfl, q H1 (Ex.refl H1)⟩
/-- an own method that only makes new things -/
theorem ev_meth {sp : Sp} {vs : List V} {E : XK} {tA : TA} (h : Ev ta σ H (.ref a)) (ho : H a = some (.ins C dx fs)) (hl : fs.lookup m = none) (hv : EvA tA σ H vs) (hs : SpV sp (.ref a :: vs) H z) : Ev (tMeth C m sp [] E ta tA) σ H z := fun H1 e Q q =>
  h H1 e _ fun H2 e2 => ⟨a, dx, fs, rfl, e2 _ _ (e _ _ ho), hl, hv H2 (e.trans e2) _ fun H3 e3 => by
    rw [List.append_nil]
    exact hs H3 ((e.trans e2).trans e3) Q (fun H4 e4 => q H4 ((e2.trans e3).trans e4)) E⟩
end
end VS
/-! Rules of our own: sorted(set(x)), len(set(x)), list(reversed(x)); what they evaluate to. -/
namespace VS
open PySem PySem.Spec PyProof.Rows L2 RT
/-- n is how many different numbers ns has -/
def Different (ns : List Int) (n : Nat) : Prop := ∃ ks : List Int, ks.Nodup ∧ (∀ k, k ∈ ks ↔ k ∈ ns) ∧ ks.length = n
theorem SetR.different {w : World} {h : Heap} {a : Addr} {ns : List Int} {n : Nat} (R : SetR w h a (fun j => decide (j ∈ ns)) n) : Different ns n := by
  obtain ⟨o, es, ep, t, _, _, _, _, nd, hm, _, _, hn, _⟩ := R
  refine ⟨_, nd, fun k => ((hm k).symm.trans decide_eq_true_iff), ?_⟩
  rw [List.length_map, Array.length_toList]
  exact hn
theorem nodup_within {M : Nat} : ∀ {ks : List Int}, ks.Nodup → (∀ k ∈ ks, 0 ≤ k ∧ k < M) → ks.length ≤ M := by
  induction M with
  | zero =>
    intro ks _ h
    cases ks with
    | nil => exact Nat.le_refl _
    | cons a l =>
      have := h a (by simp)
      omega
  | succ M ih =>
    intro ks nd h
    have h1 : (ks.erase (M : Int)).length ≤ M := ih (nd.erase _) fun k hk => by
      have q := (List.Nodup.mem_erase_iff nd).mp hk
      have := h k q.2
      have := q.1
      omega
    have h2 : ks.length ≤ (ks.erase (M : Int)).length + 1 := by
      rw [List.length_erase]
      split <;> omega
    omega
section
variable {X : Cx} {a : Expr} {ta : TE} {p p2 q pos : Pos}
def tSortSetZ (K : PySem.W.Frag) (ta : TE) : TE := fun σ H Q => ta σ H fun x H1 => ∃ (l : Addr) (ns : List Int), x = .ref l ∧ SqL K H1 l (ns.map V.int) ∧ ns.length ≤ 4000 ∧ (∀ k ∈ ns, 0 ≤ k ∧ k < 60) ∧
  ∀ (out : List Int) (r : Addr), out.Pairwise (· < ·) → (∀ k, k ∈ out ↔ k ∈ ns) → H1 r = none → Q (.ref r) (upd H1 r (.lst (out.map V.int)))
def tLenSetZ (K : PySem.W.Frag) (ta : TE) : TE := fun σ H Q => ta σ H fun x H1 => ∃ (l : Addr) (ns : List Int), x = .ref l ∧ SqL K H1 l (ns.map V.int) ∧ ns.length ≤ 4000 ∧ ∀ n, Different ns n → Q (.int (n : Nat)) H1
theorem pe_sortSetZ (hc : X.calm = true) (hg : Gl X "sorted") (hm : X.mg "sorted" = none) (hg2 : Gl X "set") (hm2 : X.mg "set" = none) (ha : PE X a ta)
    (na : starEach [a] X.env = (false, eval a X.env) :: starEach [] X.env := by rfl) : PE X (.Call (.Name "sorted" p) [.Call (.Name "set" p2) [a] [] q] [] pos) (tSortSetZ X.K ta) := by
  refine ⟨fun pins s σ H Q I h => Call_ (ld_blt I hg hm boot_sorted ?_)⟩
  refine PyProof.Rows.callWith_builtin1 (PyProof.Rows.args_cons ?_ rfl) rfl rfl
  refine Call_ (ld_blt I hg2 hm2 boot_set ?_)
  refine PyProof.Rows.callWith_type1 (PyProof.Rows.args_cons (thn (ha.run pins s σ H _ I h) fun v s1 ⟨x, H1, I1, r1, q1⟩ => PyProof.Rows.args_nil ?_) na) na rfl
  obtain ⟨l, ns, rfl, hq, few, bnd, q1⟩ := q1
  cases r1
  obtain ⟨its, r, pl, hz⟩ := I1.list hq
  refine set_of_list (I1.ok.hd hc) pl.isList (by simpa using RZ.intsAre_vals r) (by unfold scanBound; omega) fun h' tk c full => PyProof.Rows.args_nil ?_
  obtain ⟨R, _, hk⟩ := full
  have I2 : Inv X pins σ H1 { s1 with heap := h', toks := tk } := I1.kept hk
  have c64 : c < 64 := by
    obtain ⟨ks, nd, hm, e⟩ := SetR.different R
    have := nodup_within (M := 60) nd fun k hk => bnd k ((hm k).mp hk)
    omega
  refine sorted_set (s := { s1 with heap := h', toks := tk }) R (I1.ok.hd hc) c64 fun s' pp out cc zs k g o hp hgt hi hs hmm hl => ?_
  have hlen : (zs.map V.int).length ≤ sizeLine := by rw [List.length_map, hl, sizeLine_eq]; omega
  have hn : H1 pp = none := I2.hok.fresh hp
  have J : Inv X pins σ (upd H1 pp (.lst (zs.map V.int))) { ({ s1 with heap := h', toks := tk } : Shared) with heap := s'.heap, gens := s'.gens, drawn := s'.drawn, toks := s'.toks } :=
    I2.call (ch := []) (Un.laid k hp hn) (I2.hok.laid k hp ⟨hlen, out.toList, cc, vals_of_ints hi, hgt⟩) (by rw [g]; exact I2.bare) (fun _ z => nomatch z)
  have e : s' = { s1 with heap := s'.heap, gens := s'.gens, drawn := s'.drawn, toks := s'.toks } := by
    cases s'
    cases s1
    cases o
    rfl
  rw [e]
  exact ⟨.ref pp, _, J, rfl, q1 zs pp hs (fun k => (hmm k).trans decide_eq_true_iff) hn⟩
theorem pe_lenSetZ (hc : X.calm = true) (hg : Gl X "len") (hm : X.mg "len" = none) (hg2 : Gl X "set") (hm2 : X.mg "set" = none) (ha : PE X a ta)
    (na : starEach [a] X.env = (false, eval a X.env) :: starEach [] X.env := by rfl) : PE X (.Call (.Name "len" p) [.Call (.Name "set" p2) [a] [] q] [] pos) (tLenSetZ X.K ta) := by
  refine ⟨fun pins s σ H Q I h => Call_ (ld_blt I hg hm boot_len ?_)⟩
  refine PyProof.Rows.callWith_builtin1 (PyProof.Rows.args_cons ?_ rfl) rfl rfl
  refine Call_ (ld_blt I hg2 hm2 boot_set ?_)
  refine PyProof.Rows.callWith_type1 (PyProof.Rows.args_cons (thn (ha.run pins s σ H _ I h) fun v s1 ⟨x, H1, I1, r1, q1⟩ => PyProof.Rows.args_nil ?_) na) na rfl
  obtain ⟨l, ns, rfl, hq, few, q1⟩ := q1
  cases r1
  obtain ⟨its, r, pl, hz⟩ := I1.list hq
  refine set_of_list (I1.ok.hd hc) pl.isList (by simpa using RZ.intsAre_vals r) (by unfold scanBound; omega) fun h' tk c full => PyProof.Rows.args_nil ?_
  obtain ⟨R, le, hk⟩ := full
  have I2 : Inv X pins σ H1 { s1 with heap := h', toks := tk } := I1.kept hk
  have df := SetR.different R
  obtain ⟨o, es, ep, t, ho, hex, hd, _, _, _, _, hf, hn, _⟩ := R
  exact call_len_set ho hex hd hf (by rw [hn]; omega) ⟨.int c, H1, I2.tok _, ⟨_, by rw [hn]⟩, q1 c df⟩
def tListRevZ (K : PySem.W.Frag) (ta : TE) : TE := fun σ H Q => ta σ H fun x H1 => ∃ (l : Addr) (xs : List V), x = .ref l ∧ SqL K H1 l xs ∧ ∀ r, H1 r = none → Q (.ref r) (upd H1 r (.lst xs.reverse))
theorem pe_listRevZ (hc : X.calm = true) (hg : Gl X "list") (hm : X.mg "list" = none) (hg2 : Gl X "reversed") (hm2 : X.mg "reversed" = none) (ha : PE X a ta)
    (na : starEach [a] X.env = (false, eval a X.env) :: starEach [] X.env := by rfl)
    (na2 : starEach [.Call (.Name "reversed" p2) [a] [] q] X.env = (false, eval (.Call (.Name "reversed" p2) [a] [] q) X.env) :: starEach [] X.env := by rfl) :
    PE X (.Call (.Name "list" p) [.Call (.Name "reversed" p2) [a] [] q] [] pos) (tListRevZ X.K ta) := by
  refine ⟨fun pins s σ H Q I h => Call_ (ld_blt I hg hm boot_list (PyProof.Rows.callWith_type1 (args_cons ?_ na2) na2 rfl))⟩
  refine Call_ (ld_blt I hg2 hm2 PyProof.Rows.boot_reversed (PyProof.Rows.callWith_type1 (args_cons (thn (ha.run pins s σ H _ I h) fun u s1 ⟨v, H1, I1, r1, q1⟩ => args_nil ?_) na) na rfl))
  obtain ⟨l, xs, ev, hq, q1⟩ := q1
  subst ev
  obtain rfl : u = Value.ref l := r1
  obtain ⟨its, rv, pl, hz⟩ := I1.list hq
  refine call_reversed_list pl.isList (args_nil ?_)
  have up : ∀ b o, s1.heap.get? b = some o → (s1.heap.push (revObj l ((its.toArray.size : Int) - 1))).get? b = some o := fun b o e => Heap.get?_push_of_some _ e
  have I2 : Inv X pins σ H1 { s1 with heap := s1.heap.push (revObj l ((its.toArray.size : Int) - 1)) } := I1.kept (t' := s1.toks) up
  obtain ⟨f0, f1, f2, f3, f4, f5⟩ := I1.fpOk (H' := H1) (b := s1.heap.objs.size) (Nat.le_refl _) (I1.hok.fresh (Nat.le_refl _))
  have isl := pl.isList
  have apart : l ≠ s1.heap.objs.size := by obtain ⟨o, ho, _⟩ := isl; exact Nat.ne_of_lt (Heap.lt_size ho)
  have small : its.toArray.size ≤ sizeLine := by rw [List.size_toArray, ← rv.length]; exact hz
  refine list_of_rev (s := { s1 with heap := s1.heap.push (revObj l ((its.toArray.size : Int) - 1)) }) (I1.ok.hd hc) ⟨_, Heap.get?_push_size _ rfl, rfl, rfl⟩ (isl.push _) apart small fun h' tk acc c hk hS all => ?_
  have keep1 : ∀ b o, b ≠ s1.heap.objs.size → (s1.heap.push (revObj l ((its.toArray.size : Int) - 1))).get? b = some o → h'.get? b = some o := hk
  have new : ∀ b o, s1.heap.get? b = some o → h'.get? b = some o := fun b o e => hk b o (Nat.ne_of_lt (Heap.lt_size e)) (up b o e)
  have sz : (s1.heap.push (revObj l ((its.toArray.size : Int) - 1))).objs.size = s1.heap.objs.size + 1 := Heap.size_push ..
  have le : s1.heap.objs.size ≤ (s1.heap.push (revObj l ((its.toArray.size : Int) - 1))).objs.size := by rw [sz]; exact Nat.le_succ _
  refine ⟨.ref _, upd H1 _ (.lst xs.reverse), I1.laid (t' := tk) new le ⟨by rw [List.length_reverse]; exact hz, acc.toList, c, vals_rev rv all, ?_⟩, rfl, q1 _ (I1.hok.fresh le)⟩
  rw [Array.toArray_toList]
  exact hS
end
abbrev rModN : R2 := rI (fun _ j => j ≠ 0) fun i j => .int (i.fmod j)
def CDivZ (_ j : Int) : Prop := j ≠ 0 ∧ j.natAbs < 2 ^ 64
abbrev rDivZ : R2 := rI CDivZ fun i j => .int (i.fdiv j)
theorem plain_div {i j : Int} (h : CDivZ i j) : Builtin.divisionGoesByPylong i j = false := by
  unfold Builtin.divisionGoesByPylong
  have z : ¬ (j == 0) = true := fun e => h.1 (eq_of_beq e)
  have lt : j.natAbs.log2 < 64 := (Nat.log2_lt (by have := h.1; omega)).mpr h.2
  have big : ¬ j.natAbs.log2 / 30 + 1 > 300 := by omega
  simp only [if_neg z, decide_eq_false big, Bool.false_and]
theorem op_fdivZ {X : Cx} : OpR X (binaryOp .FloorDiv) rDivZ := opI fun _ _ _ _ _ _ _ hc q => floordiv_int hc.1 q (.inl (plain_div hc))
abbrev rAnd : R2 := rI0 fun i j => .int (Builtin.bitAnd i j)
abbrev rOr : R2 := rI0 fun i j => .int (Builtin.bitOr i j)
abbrev rXor : R2 := rI0 fun i j => .int (Builtin.bitXor i j)
abbrev rShl : R2 := rI CPow fun i j => .int (i * 2 ^ j.toNat)
abbrev rShr : R2 := rI (fun _ j => 0 ≤ j) fun i j => .int (i / 2 ^ j.toNat)
abbrev rSortedDI : List V → Hp → VK → Prop := fun xs H Q => ∃ (a : Addr) (kvs : List (Key × V)) (ks : List Int), xs = [.ref a] ∧ Rd H a (.dK kvs) ∧ kvs.map (·.1) = ks.map Sum.inl ∧ ks.length < 64 ∧ ∀ (ys : List Int) (p : Addr), ys.Perm ks → ys.Pairwise (· ≤ ·) → H p = none → Q (.ref p) (upd H p (.lst (ys.map V.int)))
abbrev rLenD : List V → Hp → VK → Prop := fun xs H Q => ∃ a kvs, xs = [V.ref a] ∧ H a = some (.dK kvs) ∧ Q (.int kvs.length) H
end VS
/-! A list extended by a tuple; evaluations that are lacking. -/
namespace VS
open PySem PySem.Spec PyProof.Rows L2
theorem meets_extT (l : Addr) (had : Array Value) (n : Nat) (b : Addr) (more : Array Value) (m : Nat) (od : Option Addr) (sl : Array (Option Value)) (few : ¬(!had.isEmpty && Builtin.List.listTooLong (had.size + more.size)) = true) (z1 : had.size ≤ sizeLine) (z2 : had.size + more.size ≤ sizeLine + 1) :
    Meets (Builtin.«list.extend» ⟨[.ref l, .ref b], []⟩) (fun _ R s => s.heap.get? l = some { cls := .type "list", data := .seq had n } ∧ s.heap.get? b = some { cls := .type "tuple", dict := od, data := .seq more m, slots := sl } ∧
      R (.ok (.ret Value.none)) { s with heap := s.heap.update l (Obj.mapSeq fun x => x ++ more) }) :=
  .of_wp fun P w A R s h => by
    obtain ⟨hp, gn, dr, tk, os⟩ := s
    obtain ⟨hl, hb, h⟩ := h
    have k1 := sub_tuple_tuple
    have k2 := sub_list_list
    have k3 := sub_tuple_list
    have k4 := sub_list_tuple
    have z3 : (had ++ more).size ≤ sizeLine + 1 := by rw [Array.size_append]; exact z2
    wp_walk using (wpAny_updateSeq hl rfl (hz := z1) (_hz' := z3)), wpAny_loadPart' hl, wpAny_loadPart' hb
    exact ⟨_, rfl, h⟩
section
variable {X : Cx}
def rExtendT (K : PySem.W.Frag) : V → List V → Hp → VK → Prop := fun x vs H Q => ∃ l b xs zs, x = .ref l ∧ vs = [.ref b] ∧ H l = some (.lst xs) ∧ SqT K H b zs ∧ xs.length + zs.length ≤ sizeLine ∧ Q .non (upd H l (.lst (xs ++ zs)))
theorem mt_extendT : MtM X "list.extend" (rExtendT X.K) := by
  intro pins s σ H x vs v us Q I rx rv h
  obtain ⟨l, b, xs, zs, e1, e2, hH, hB, hz, q⟩ := h
  subst e1
  subst e2
  cases rx
  obtain ⟨u, e3, ru⟩ := rv.one
  subst e3
  cases ru
  obtain ⟨z, its, n, r, hl, e⟩ := I.lstM hH
  obtain ⟨its2, r2, ⟨ob, hob, hcl, m, hdt⟩, _⟩ := I.tuple hB
  obtain ⟨oc, od, dt, sl⟩ := ob
  simp only at hcl hdt
  subst hcl
  subst hdt
  have hl2 := r2.length
  have hsz : its.toArray.size + its2.toArray.size ≤ sizeLine := by rw [List.size_toArray, List.size_toArray]; omega
  have few : ¬ (!its.toArray.isEmpty && Builtin.List.listTooLong (its.toArray.size + its2.toArray.size)) = true := by
    rw [notLongL hsz, Bool.and_false]
    exact Bool.false_ne_true
  refine call_meets F.slot_list_extend ⟨_, e, rfl⟩ F.entry_list_extend (F.args_list_extend_2 _ _) (meets_extT l its.toArray n b its2.toArray m od sl few (by rw [List.size_toArray]; omega) (by omega)) ⟨e, hob, ?_⟩
  exact ⟨.non, _, I.lset (its' := its ++ its2) hH e (by simp) (r.append r2) (by rw [List.length_append]; omega), rfl, q⟩
end
end VS
/-! Ways in a graph, against the specification's rounds. Plain Lean, no model. -/
namespace VS
open Cm01

/-- a way of edges from a, no node of it (behind the first) bad -/
inductive Way (bad : Nat → Bool) (es : List (Nat × Nat)) (a : Nat) : Nat → Prop
  | here : Way bad es a a
  | on {u v : Nat} : Way bad es a u → (u, v) ∈ es → bad v = false → Way bad es a v

theorem Way.mono {bad bad' : Nat → Bool} {es : List (Nat × Nat)} {a v : Nat} (h : ∀ u, bad u = false → bad' u = false) (w : Way bad es a v) : Way bad' es a v := by
  induction w with
  | here => exact .here
  | on _ e b ih => exact .on ih e (h _ b)

def Closed (bad : Nat → Bool) (es : List (Nat × Nat)) (s : List Nat) : Prop := ∀ e ∈ es, e.1 ∈ s → bad e.2 = false → e.2 ∈ s

def stepE (bad : Nat → Bool) (s : List Nat) (e : Nat × Nat) : List Nat := if s.contains e.1 && (!s.contains e.2 && !bad e.2) then s ++ [e.2] else s
theorem round_eq (bad : Nat → Bool) (es : List (Nat × Nat)) (s : List Nat) : Cm01.round bad es s = es.foldl (stepE bad) s := rfl

theorem stepE_pre (bad : Nat → Bool) (s : List Nat) (e : Nat × Nat) : ∃ t, stepE bad s e = s ++ t := by
  unfold stepE
  split
  · exact ⟨_, rfl⟩
  · exact ⟨[], (List.append_nil s).symm⟩
theorem fold_pre (bad : Nat → Bool) : ∀ (es : List (Nat × Nat)) (s : List Nat), ∃ t, es.foldl (stepE bad) s = s ++ t
  | [], s => ⟨[], (List.append_nil s).symm⟩
  | e :: es, s => by
    obtain ⟨t, ht⟩ := stepE_pre bad s e
    obtain ⟨u, hu⟩ := fold_pre bad es (stepE bad s e)
    exact ⟨t ++ u, by rw [List.foldl_cons, hu, ht, List.append_assoc]⟩
theorem fold_keeps {bad : Nat → Bool} {es : List (Nat × Nat)} {s : List Nat} {v : Nat} (h : v ∈ s) : v ∈ es.foldl (stepE bad) s := by
  obtain ⟨t, ht⟩ := fold_pre bad es s
  rw [ht]
  exact List.mem_append_left _ h
theorem stepE_adds {bad : Nat → Bool} {s : List Nat} {e : Nat × Nat} (h : e.1 ∈ s) (b : bad e.2 = false) : e.2 ∈ stepE bad s e := by
  unfold stepE
  by_cases c : e.2 ∈ s
  · have : (s.contains e.2) = true := List.contains_iff_mem.mpr c
    rw [this]
    simp [c]
  · have c1 : (s.contains e.1) = true := List.contains_iff_mem.mpr h
    have c2 : (s.contains e.2) = false := by simp [c]
    rw [c1, c2, b]
    simp
theorem fold_adds {bad : Nat → Bool} : ∀ {es : List (Nat × Nat)} {s : List Nat} {e : Nat × Nat}, e ∈ es → e.1 ∈ s → bad e.2 = false → e.2 ∈ es.foldl (stepE bad) s
  | [], _, _, h, _, _ => by cases h
  | f :: es, s, e, h, h1, b => by
    rw [List.foldl_cons]
    rcases List.mem_cons.mp h with h | h
    · subst h
      exact fold_keeps (stepE_adds h1 b)
    · refine fold_adds h ?_ b
      obtain ⟨t, ht⟩ := stepE_pre bad s f
      rw [ht]
      exact List.mem_append_left _ h1
theorem fold_sound {bad : Nat → Bool} {all : List (Nat × Nat)} {a : Nat} : ∀ (es : List (Nat × Nat)) (s : List Nat), (∀ e ∈ es, e ∈ all) → (∀ v ∈ s, Way bad all a v) → ∀ v ∈ es.foldl (stepE bad) s, Way bad all a v
  | [], _, _, h, v, hv => h v hv
  | e :: es, s, hs, h, v, hv => by
    rw [List.foldl_cons] at hv
    refine fold_sound es (stepE bad s e) (fun f hf => hs f (List.mem_cons_of_mem _ hf)) (fun u hu => ?_) v hv
    unfold stepE at hu
    split at hu
    · rename_i c
      simp at c
      rcases List.mem_append.mp hu with hu | hu
      · exact h u hu
      · have : u = e.2 := by simpa using hu
        subst this
        exact .on (h e.1 c.1) (hs _ (List.mem_cons_self ..)) c.2.2
    · exact h u hu
theorem stepE_nodup {bad : Nat → Bool} {s : List Nat} {e : Nat × Nat} (h : s.Nodup) : (stepE bad s e).Nodup := by
  unfold stepE
  split
  · rename_i c
    simp at c
    rw [List.nodup_append]
    refine ⟨h, by simp, ?_⟩
    intro x hx y hy
    have : y = e.2 := by simpa using hy
    subst this
    intro z
    subst z
    exact c.2.1 hx
  · exact h
theorem fold_nodup {bad : Nat → Bool} : ∀ (es : List (Nat × Nat)) (s : List Nat), s.Nodup → (es.foldl (stepE bad) s).Nodup
  | [], _, h => h
  | e :: es, s, h => fold_nodup es _ (stepE_nodup h)
theorem closed_step {bad : Nat → Bool} {es : List (Nat × Nat)} {s : List Nat} {e : Nat × Nat} (h : Closed bad es s) (he : e ∈ es) : stepE bad s e = s := by
  unfold stepE
  split
  · rename_i c
    simp at c
    exact absurd (h e he c.1 c.2.2) c.2.1
  · rfl
theorem closed_fold {bad : Nat → Bool} {all : List (Nat × Nat)} {s : List Nat} (h : Closed bad all s) : ∀ (es : List (Nat × Nat)), (∀ e ∈ es, e ∈ all) → es.foldl (stepE bad) s = s
  | [], _ => rfl
  | e :: es, hs => by
    rw [List.foldl_cons, closed_step h (hs e (List.mem_cons_self ..))]
    exact closed_fold h es fun f hf => hs f (List.mem_cons_of_mem _ hf)
theorem closed_round {bad : Nat → Bool} {es : List (Nat × Nat)} {s : List Nat} (h : Closed bad es s) : Cm01.round bad es s = s := closed_fold h es fun _ h => h
theorem closed_rounds {bad : Nat → Bool} {es : List (Nat × Nat)} {s : List Nat} (h : Closed bad es s) : ∀ k, rounds bad es k s = s
  | 0 => rfl
  | k + 1 => by
    show rounds bad es k (Cm01.round bad es s) = s
    rw [closed_round h]
    exact closed_rounds h k
theorem round_grows (bad : Nat → Bool) (es : List (Nat × Nat)) (s : List Nat) : Closed bad es s ∨ s.length + 1 ≤ (Cm01.round bad es s).length := by
  obtain ⟨t, ht⟩ := fold_pre bad es s
  cases t with
  | nil =>
    refine .inl fun e he h1 b => ?_
    have := fold_adds he h1 b
    rw [ht, List.append_nil] at this
    exact this
  | cons x t =>
    refine .inr ?_
    rw [round_eq, ht, List.length_append, List.length_cons]
    omega
theorem rounds_grow (bad : Nat → Bool) (es : List (Nat × Nat)) : ∀ (k : Nat) (s : List Nat), Closed bad es (rounds bad es k s) ∨ s.length + k ≤ (rounds bad es k s).length
  | 0, s => .inr (Nat.le_refl _)
  | k + 1, s => by
    show Closed bad es (rounds bad es k (Cm01.round bad es s)) ∨ s.length + (k + 1) ≤ (rounds bad es k (Cm01.round bad es s)).length
    rcases round_grows bad es s with c | g
    · left
      rw [closed_round c, closed_rounds c]
      exact c
    · rcases rounds_grow bad es k (Cm01.round bad es s) with c | l
      · exact .inl c
      · right
        omega
theorem rounds_nodup {bad : Nat → Bool} {es : List (Nat × Nat)} : ∀ (k : Nat) (s : List Nat), s.Nodup → (rounds bad es k s).Nodup
  | 0, _, h => h
  | k + 1, s, h => rounds_nodup k _ (fold_nodup es s h)
theorem rounds_sound {bad : Nat → Bool} {es : List (Nat × Nat)} {a : Nat} : ∀ (k : Nat) (s : List Nat), (∀ v ∈ s, Way bad es a v) → ∀ v ∈ rounds bad es k s, Way bad es a v
  | 0, _, h => h
  | k + 1, s, h => rounds_sound k _ (fold_sound es s (fun _ h => h) h)
theorem rounds_keep {bad : Nat → Bool} {es : List (Nat × Nat)} : ∀ (k : Nat) {s : List Nat} {v : Nat}, v ∈ s → v ∈ rounds bad es k s
  | 0, _, _, h => h
  | k + 1, _, _, h => rounds_keep k (fold_keeps h)
theorem way_in {bad : Nat → Bool} {es : List (Nat × Nat)} {a v : Nat} {s : List Nat} (c : Closed bad es s) (ha : a ∈ s) (w : Way bad es a v) : v ∈ s := by
  induction w with
  | here => exact ha
  | on _ e b ih => exact c _ e ih b

/-- edges stay among the nodes -/
def Inside (n : Nat) (es : List (Nat × Nat)) : Prop := ∀ e ∈ es, e.1 < n ∧ e.2 < n
theorem way_lt {bad : Nat → Bool} {es : List (Nat × Nat)} {n a v : Nat} (hi : Inside n es) (ha : a < n) (w : Way bad es a v) : v < n := by
  cases w with
  | here => exact ha
  | on _ e _ => exact (hi _ e).2

theorem rounds_closed {bad : Nat → Bool} {es : List (Nat × Nat)} {n a : Nat} (hi : Inside n es) (ha : a < n) : Closed bad es (rounds bad es n [a]) := by
  rcases rounds_grow bad es n [a] with c | l
  · exact c
  · exfalso
    have nd : (rounds bad es n [a]).Nodup := rounds_nodup n [a] (by simp)
    have sub : rounds bad es n [a] ⊆ List.range n := fun v hv => List.mem_range.mpr (way_lt hi ha (rounds_sound n [a] (fun u hu => by
      have : u = a := by simpa using hu
      subst this
      exact .here) v hv))
    have := List.Nodup.length_le_of_subset nd sub
    rw [List.length_range] at this
    rw [List.length_singleton] at l
    omega
/-- **the specification's reach is: a way leads there** -/
theorem mem_reachBut {g : Graph} {bad : Nat → Bool} {a v : Nat} (hi : Inside g.n g.es) (ha : a < g.n) : v ∈ reachBut g bad a ↔ bad a = false ∧ Way bad g.es a v := by
  unfold reachBut
  split
  · rename_i c
    simp [c]
  · rename_i c
    have c' : bad a = false := by simpa using c
    simp only [List.mem_filter, List.contains_iff_mem, nodes, List.mem_range]
    constructor
    · rintro ⟨_, h⟩
      exact ⟨c', rounds_sound g.n [a] (fun u hu => by
        have : u = a := by simpa using hu
        subst this
        exact .here) v h⟩
    · rintro ⟨_, w⟩
      exact ⟨way_lt hi ha w, way_in (rounds_closed hi ha) (rounds_keep _ (List.mem_singleton.mpr rfl)) w⟩
theorem mem_reach {g : Graph} {a v : Nat} (hi : Inside g.n g.es) (ha : a < g.n) : v ∈ reach g a ↔ Way (fun _ => false) g.es a v := by
  unfold reach
  rw [mem_reachBut hi ha]
  simp

/-- every way from the entry to b stands on d -/
def Dom (es : List (Nat × Nat)) (d b : Nat) : Prop := d ≠ 0 → ¬ Way (fun v => v == d) es 0 b
theorem passed_iff {g : Graph} {d b : Nat} (hi : Inside g.n g.es) (h0 : 0 < g.n) (hd : d < g.n) : passed (without g 0) d b = true ↔ Dom g.es d b := by
  unfold passed without
  have e : ((nodes g).map fun d => reachBut g (fun v => v == d) 0).getD d [] = reachBut g (fun v => v == d) 0 := by
    rw [List.getD_eq_getElem?_getD, List.getElem?_map]
    unfold nodes
    rw [List.getElem?_range hd]
    rfl
  rw [e]
  have : ((!(reachBut g (fun v => v == d) 0).contains b) = true) ↔ ¬ b ∈ reachBut g (fun v => v == d) 0 := by simp
  rw [this, mem_reachBut hi h0]
  unfold Dom
  constructor
  · intro h hd w
    exact h ⟨by simp; exact fun z => hd z.symm, w⟩
  · rintro h ⟨h1, w⟩
    exact h (fun z => by subst z; simp at h1) w
theorem Dom.zero {es : List (Nat × Nat)} {b : Nat} : Dom es 0 b := fun h => absurd rfl h
theorem Dom.self {es : List (Nat × Nat)} {b : Nat} : Dom es b b := fun h w => by
  cases w with
  | here => exact h rfl
  | on _ _ b => simp at b
/-- what every way to t stands on, t itself apart, every way to where an edge to t begins stands on -/
theorem Dom.back {es : List (Nat × Nat)} {d i t : Nat} (h : Dom es d t) (n : d ≠ t) (e : (i, t) ∈ es) : Dom es d i := fun h0 w =>
  h h0 (.on w e (by simp; exact fun z => n z.symm))
/-- a way that avoids d, or reaches d first -/
theorem Dom.trans {es : List (Nat × Nat)} {a b c : Nat} (h1 : Dom es a b) (h2 : Dom es b c) : Dom es a c := by
  intro ha w
  by_cases hb : b = 0
  · subst hb
    exact h1 ha .here
  · -- either the way avoids b, or b is on it
    have key : ∀ v, Way (fun v => v == a) es 0 v → Way (fun v => v == b) es 0 v ∨ Way (fun v => v == a) es 0 b := by
      intro v w
      induction w with
      | here => exact .inl .here
      | @on u v w' e bv ih =>
        rcases ih with ih | ih
        · by_cases z : v = b
          · subst z
            exact .inr (.on w' e bv)
          · exact .inl (.on ih e (by simpa using z))
        · exact .inr ih
    rcases key c w with k | k
    · exact h2 hb k
    · exact h1 ha k
/-- of two on every way to a reached c, one is on every way to the other -/
theorem Dom.asymm {es : List (Nat × Nat)} {a b : Nat} (r : Way (fun _ => false) es 0 a) (h1 : Dom es a b) (h2 : Dom es b a) : a = b := by
  -- walk along a way to a: it stands on b before, unless a = b
  have key : ∀ v, Way (fun _ => false) es 0 v → (Way (fun v => v == a) es 0 v ∧ Way (fun v => v == b) es 0 v) ∨ (a = 0 ∨ Way (fun v => v == b) es 0 a) ∨ (b = 0 ∨ Way (fun v => v == a) es 0 b) ∨ a = b := by
    intro v w
    induction w with
    | here =>
      exact .inl ⟨.here, .here⟩
    | @on u v w' e bv ih =>
      rcases ih with ⟨k1, k2⟩ | k
      · by_cases za : v = a
        · by_cases zb : v = b
          · exact .inr (.inr (.inr (za.symm.trans zb)))
          · refine .inr (.inl (.inr ?_))
            rw [← za]
            exact .on k2 e (by simpa using zb)
        · by_cases zb : v = b
          · refine .inr (.inr (.inl (.inr ?_)))
            rw [← zb]
            exact .on k1 e (by simpa using za)
          · exact .inl ⟨.on k1 e (by simpa using za), .on k2 e (by simpa using zb)⟩
      · exact .inr k
  by_cases a0 : a = 0
  · by_cases b0 : b = 0
    · rw [a0, b0]
    · subst a0
      exact absurd Way.here (h2 b0)
  · by_cases b0 : b = 0
    · subst b0
      exact absurd Way.here (h1 a0)
    · rcases key a r with ⟨k, _⟩ | (k | k) | (k | k) | k
      · exact absurd k (Dom.self a0)
      · exact absurd k a0
      · exact absurd k (h2 b0)
      · exact absurd k b0
      · exact absurd k (h1 a0)
      · exact k
end VS
/-! What's live, against the specification's rounds. Plain Lean, no model. -/
namespace VS
open CmBase

/-! ### rounds that only grow come to rest -/
theorem rest_of {n : Nat} {S : Nat → Nat → Bool} (h0 : ∀ i, i < n → S 0 i = false) (mono : ∀ k i, i < n → S k i = true → S (k + 1) i = true)
    (still : ∀ k, (∀ i, i < n → S k i = S (k + 1) i) → ∀ i, i < n → S (k + 1) i = S (k + 2) i) : ∀ i, i < n → S n i = S (n + 1) i := by
  have key : ∀ k, (∀ i, i < n → S k i = S (k + 1) i) ∨ k ≤ ((List.range n).filter (S k)).length := by
    intro k
    induction k with
    | zero => exact .inr (Nat.zero_le _)
    | succ k ih =>
      rcases ih with st | le
      · exact .inl (still k st)
      · by_cases st : ∀ i, i < n → S k i = S (k + 1) i
        · exact .inl (still k st)
        · right
          have ⟨i, hi⟩ := Classical.not_forall.mp st
          have ⟨hn, hne⟩ := Classical.not_imp.mp hi
          have hk : S k i = false := by
            cases e : S k i with
            | false => rfl
            | true => exact absurd (e.trans (mono k i hn e).symm) hne
          have hk1 : S (k + 1) i = true := by
            cases e : S (k + 1) i with
            | true => rfl
            | false => exact absurd (hk.trans e.symm) hne
          have nd : (i :: (List.range n).filter (S k)).Nodup := by
            rw [List.nodup_cons]
            refine ⟨fun m => ?_, List.Nodup.sublist List.filter_sublist List.nodup_range⟩
            have := (List.mem_filter.mp m).2
            rw [hk] at this
            cases this
          have sub : (i :: (List.range n).filter (S k)) ⊆ (List.range n).filter (S (k + 1)) := by
            intro x hx
            rcases List.mem_cons.mp hx with hx | hx
            · subst hx
              exact List.mem_filter.mpr ⟨List.mem_range.mpr hn, hk1⟩
            · have := List.mem_filter.mp hx
              exact List.mem_filter.mpr ⟨this.1, mono k x (List.mem_range.mp this.1) this.2⟩
          have := List.Nodup.length_le_of_subset nd sub
          rw [List.length_cons] at this
          omega
  rcases key n with st | le
  · exact st
  · intro i hi
    have full : ((List.range n).filter (S n)).length = n := by
      have := List.length_filter_le (S n) (List.range n)
      rw [List.length_range] at this
      omega
    have all : ∀ i, i < n → S n i = true := by
      have e : (List.range n).filter (S n) = List.range n := by
        refine List.Sublist.eq_of_length List.filter_sublist ?_
        rw [full, List.length_range]
      intro i hi
      exact List.filter_eq_self.mp e i (List.mem_range.mpr hi)
    rw [all i hi, mono n i hi (all i hi)]

/-! ### a value through rows -/
/-- live ahead of rows, where p says whether it's live behind them -/
def Up (x : Nat) : List Row → Prop → Prop
  | [], p => p
  | r :: l, p => x ∈ r.uses ∨ (r.gives ≠ some x ∧ Up x l p)
theorem Up.mono {x : Nat} {p q : Prop} (h : p → q) : ∀ {l : List Row}, Up x l p → Up x l q
  | [], u => h u
  | _ :: _, .inl u => .inl u
  | _ :: _, .inr ⟨a, b⟩ => .inr ⟨a, Up.mono h b⟩
theorem up_congr {x : Nat} {p q : Prop} (h : p ↔ q) {l : List Row} : Up x l p ↔ Up x l q := ⟨Up.mono h.mp, Up.mono h.mpr⟩
theorem mem_ahead {x : Nat} {r : Row} {s : List Nat} : x ∈ Cm06.ahead r s ↔ x < 40 ∧ (x ∈ r.uses ∨ (x ∈ s ∧ r.gives ≠ some x)) := by
  unfold Cm06.ahead Cm06.names Cm03.names
  simp [List.mem_filter]
theorem mem_aheadAll {x : Nat} {s : List Nat} (hs : x ∈ s → x < 40) : ∀ {l : List Row}, x ∈ Cm06.aheadAll l s ↔ x < 40 ∧ Up x l (x ∈ s)
  | [] => ⟨fun h => ⟨hs h, h⟩, fun h => h.2⟩
  | r :: l => by
    show x ∈ Cm06.ahead r (Cm06.aheadAll l s) ↔ x < 40 ∧ (x ∈ r.uses ∨ (r.gives ≠ some x ∧ Up x l (x ∈ s)))
    rw [mem_ahead, mem_aheadAll hs]
    constructor
    · rintro ⟨a, b | ⟨⟨_, b⟩, c⟩⟩
      · exact ⟨a, .inl b⟩
      · exact ⟨a, .inr ⟨c, b⟩⟩
    · rintro ⟨a, b | ⟨c, b⟩⟩
      · exact ⟨a, .inl b⟩
      · exact ⟨a, .inr ⟨⟨a, b⟩, c⟩⟩
theorem mem_atEnd {x : Nat} {ls : List (List Nat)} {e : End} : x ∈ Cm06.atEnd ls e ↔ x < 40 ∧ (x ∈ e.uses ∨ ∃ t ∈ e.targets, x ∈ ls.getD t []) := by
  unfold Cm06.atEnd Cm06.names Cm03.names
  simp [List.mem_filter]
theorem atEnd_lt {x : Nat} {ls : List (List Nat)} {e : End} (h : x ∈ Cm06.atEnd ls e) : x < 40 := (mem_atEnd.mp h).1

/-! ### rounds -/
/-- x comes in live to block i by k rounds -/
def In (c : Code) (k x i : Nat) : Prop := x ∈ (Cm06.liveRounds c k).getD i []
instance (c : Code) (k x i : Nat) : Decidable (In c k x i) := inferInstanceAs (Decidable (x ∈ (Cm06.liveRounds c k).getD i []))
theorem liveRounds_len (c : Code) : ∀ k, (Cm06.liveRounds c k).length = c.blocks.length
  | 0 => by simp [Cm06.liveRounds]
  | k + 1 => by simp [Cm06.liveRounds, Cm06.liveRound]
theorem in_zero {c : Code} {x i : Nat} : ¬ In c 0 x i := by
  unfold In
  intro h
  rw [List.getD_eq_getElem?_getD] at h
  simp only [Cm06.liveRounds, List.getElem?_map] at h
  cases e : c.blocks[i]? with
  | none =>
    rw [e] at h
    simp at h
  | some b =>
    rw [e] at h
    simp at h
theorem in_succ {c : Code} {k x i : Nat} : In c (k + 1) x i ↔ ∃ b, c.blocks[i]? = some b ∧ x < 40 ∧ x ∉ b.takes ∧ Up x b.rows (x ∈ b.last.uses ∨ ∃ t ∈ b.last.targets, In c k x t) := by
  unfold In
  rw [List.getD_eq_getElem?_getD]
  simp only [Cm06.liveRounds, Cm06.liveRound, List.getElem?_map]
  cases e : c.blocks[i]? with
  | none => simp
  | some b =>
    simp only [Option.map_some, Option.getD_some, List.mem_filter]
    rw [mem_aheadAll atEnd_lt]
    have q : (Up x b.rows (x ∈ Cm06.atEnd (Cm06.liveRounds c k) b.last)) ∧ x < 40 ↔ Up x b.rows (x ∈ b.last.uses ∨ ∃ t ∈ b.last.targets, x ∈ (Cm06.liveRounds c k).getD t []) ∧ x < 40 := by
      refine and_congr_left fun hx => up_congr ?_
      rw [mem_atEnd]
      exact ⟨fun h => h.2, fun h => ⟨hx, h⟩⟩
    constructor
    · rintro ⟨⟨a, u⟩, n⟩
      exact ⟨b, rfl, a, by simpa using n, (q.mp ⟨u, a⟩).1⟩
    · rintro ⟨b', eb, a, n, u⟩
      cases eb
      exact ⟨⟨a, (q.mpr ⟨u, a⟩).1⟩, by simpa using n⟩
theorem in_lt {c : Code} {k x i : Nat} (h : In c k x i) : i < c.blocks.length := by
  cases k with
  | zero => exact absurd h in_zero
  | succ k =>
    obtain ⟨b, e, _⟩ := in_succ.mp h
    exact (List.getElem?_eq_some_iff.mp e).1
theorem in_mono {c : Code} {x : Nat} : ∀ {k i : Nat}, In c k x i → In c (k + 1) x i
  | 0, _, h => absurd h in_zero
  | k + 1, _, h => by
    obtain ⟨b, e, a, n, u⟩ := in_succ.mp h
    exact in_succ.mpr ⟨b, e, a, n, u.mono (Or.imp_right fun ⟨t, ht, hi⟩ => ⟨t, ht, in_mono hi⟩)⟩
/-- as many rounds as there are blocks: one more changes nothing -/
theorem in_rest {c : Code} {x i : Nat} : In c (c.blocks.length + 1) x i ↔ In c c.blocks.length x i := by
  by_cases hi : i < c.blocks.length
  · have r := rest_of (n := c.blocks.length) (S := fun k i => decide (In c k x i)) (fun i _ => decide_eq_false in_zero) (fun k i _ h => decide_eq_true (in_mono (of_decide_eq_true h)))
      (fun k st i hi => by
        have st' : ∀ t, In c k x t ↔ In c (k + 1) x t := fun t => ⟨in_mono, fun h => by
          have := st t (in_lt h)
          exact of_decide_eq_true (this.trans (decide_eq_true h))⟩
        refine decide_eq_decide.mpr ?_
        rw [in_succ, in_succ]
        constructor
        · rintro ⟨b, e, a, n, u⟩
          exact ⟨b, e, a, n, u.mono (Or.imp_right fun ⟨t, ht, h⟩ => ⟨t, ht, (st' t).mp h⟩)⟩
        · rintro ⟨b, e, a, n, u⟩
          exact ⟨b, e, a, n, u.mono (Or.imp_right fun ⟨t, ht, h⟩ => ⟨t, ht, (st' t).mpr h⟩)⟩) i hi
    exact (decide_eq_decide.mp r).symm
  · exact ⟨fun h => absurd (in_lt h) hi, fun h => absurd (in_lt h) hi⟩
/-- x comes in live to block i -/
def LiveIn (c : Code) (x i : Nat) : Prop := x ∈ (Cm06.lives c).getD i []
theorem liveIn_in {c : Code} {x i : Nat} : LiveIn c x i ↔ In c c.blocks.length x i := Iff.rfl
/-- **the equation of what comes in live** -/
theorem liveIn_iff {c : Code} {x i : Nat} : LiveIn c x i ↔ ∃ b, c.blocks[i]? = some b ∧ x < 40 ∧ x ∉ b.takes ∧ Up x b.rows (x ∈ b.last.uses ∨ ∃ t ∈ b.last.targets, LiveIn c x t) := by
  rw [liveIn_in, ← in_rest, in_succ]
  exact Iff.rfl
theorem in_more {c : Code} {x i : Nat} : ∀ {j k : Nat}, In c k x i → In c (k + j) x i
  | 0, _, h => h
  | j + 1, k, h => in_mono (in_more (j := j) h)
theorem in_all {c : Code} {x : Nat} : ∀ {k i : Nat}, In c k x i → LiveIn c x i
  | 0, _, h => absurd h in_zero
  | k + 1, i, h => by
    obtain ⟨b, e, a, n, u⟩ := in_succ.mp h
    exact liveIn_iff.mpr ⟨b, e, a, n, u.mono (Or.imp_right fun ⟨t, ht, h⟩ => ⟨t, ht, in_all h⟩)⟩
/-- **the least**: what keeps the equation from right to left has all that comes in live -/
theorem liveIn_least {c : Code} {x : Nat} {P : Nat → Prop} (hP : ∀ i b, c.blocks[i]? = some b → x < 40 → x ∉ b.takes → Up x b.rows (x ∈ b.last.uses ∨ ∃ t ∈ b.last.targets, LiveIn c x t ∧ P t) → P i) {i : Nat} (h : LiveIn c x i) : P i := by
  have key : ∀ k i, In c k x i → P i := by
    intro k
    induction k with
    | zero => exact fun i h => absurd h in_zero
    | succ k ih =>
      intro i h
      obtain ⟨b, e, a, n, u⟩ := in_succ.mp h
      exact hP i b e a n (u.mono (Or.imp_right fun ⟨t, ht, h⟩ => ⟨t, ht, in_all h, ih t h⟩))
  exact key _ i (liveIn_in.mp h)
theorem liveIn_lt {c : Code} {x i : Nat} (h : LiveIn c x i) : i < c.blocks.length := in_lt (liveIn_in.mp h)
theorem liveIn_40 {c : Code} {x i : Nat} (h : LiveIn c x i) : x < 40 := by
  obtain ⟨_, _, a, _⟩ := liveIn_iff.mp h
  exact a
theorem mem_atEndL {c : Code} {x : Nat} {e : End} : x ∈ Cm06.atEnd (Cm06.lives c) e ↔ x < 40 ∧ (x ∈ e.uses ∨ ∃ t ∈ e.targets, LiveIn c x t) := mem_atEnd
/-- x is live ahead of row r of block i -/
theorem mem_liveAt {c : Code} {i r x : Nat} : x ∈ Cm06.liveAt c (Cm06.lives c) i r ↔ x < 40 ∧ Up x ((Cm03.blockAt c i).rows.drop r) (x ∈ (Cm03.blockAt c i).last.uses ∨ ∃ t ∈ (Cm03.blockAt c i).last.targets, LiveIn c x t) := by
  show x ∈ Cm06.aheadAll _ _ ↔ _
  rw [mem_aheadAll atEnd_lt]
  refine and_congr_right fun hx => up_congr ?_
  rw [mem_atEndL]
  exact ⟨fun h => h.2, fun h => ⟨hx, h⟩⟩
/-! ### the lists themselves: the values of range 40, the least first -/
theorem filter_self {p : Nat → Bool} {n : Nat} : (List.range n).filter p = (List.range n).filter fun x => decide (x ∈ (List.range n).filter p) :=
  List.filter_congr fun x hx => by
    rw [Bool.eq_iff_iff, decide_eq_true_iff, List.mem_filter]
    exact ⟨fun h => ⟨hx, h⟩, fun h => h.2⟩
theorem ahead_sorted {r : Row} {s : List Nat} : Cm06.ahead r s = (List.range 40).filter fun x => decide (x ∈ Cm06.ahead r s) := filter_self
theorem liveAt_sorted {c : Code} {ls : List (List Nat)} {i r : Nat} : Cm06.liveAt c ls i r = (List.range 40).filter fun x => decide (x ∈ Cm06.liveAt c ls i r) := by
  have key : ∀ (l : List Row) (e : End), Cm06.aheadAll l (Cm06.atEnd ls e) = (List.range 40).filter fun x => decide (x ∈ Cm06.aheadAll l (Cm06.atEnd ls e)) := by
    intro l e
    cases l with
    | nil => exact filter_self
    | cons r l => exact filter_self
  exact key _ _
theorem both_mem {l m : List Nat} {x : Nat} : x ∈ Cm06.both l m ↔ x < 40 ∧ (x ∈ l ∨ x ∈ m) := by
  unfold Cm06.both Cm06.names Cm03.names
  simp [List.mem_filter]
theorem both_sorted {l m : List Nat} : Cm06.both l m = (List.range 40).filter fun x => decide (x ∈ Cm06.both l m) := filter_self
theorem thereAt_sorted {c : Code} {ls : List (List Nat)} {i p : Nat} : Cm06.thereAt c ls i p = (List.range 40).filter fun x => decide (x ∈ Cm06.thereAt c ls i p) := by
  cases p with
  | zero => exact both_sorted
  | succ r => exact both_sorted
/-- two filters of one range with the same members are one list -/
theorem range_filter_ext {l m : List Nat} (hl : l = (List.range 40).filter fun x => decide (x ∈ l)) (hm : m = (List.range 40).filter fun x => decide (x ∈ m)) (h : ∀ x, x ∈ l ↔ x ∈ m) : l = m := by
  rw [hl, hm]
  exact List.filter_congr fun x _ => decide_eq_decide.mpr (h x)
end VS
/-! Fair code: where values are given, and that what's live is given on every way there. Plain Lean, no model. -/
namespace VS
open CmBase

/-! ### the graph of the code -/
theorem mem_all {c : Code} {i : Nat} : i ∈ Cm03.all c ↔ i < c.blocks.length := List.mem_range
theorem mem_es {c : Code} {i t : Nat} : (i, t) ∈ (Cm03.graphOf c).es ↔ i < c.blocks.length ∧ t < c.blocks.length ∧ t ∈ (Cm03.blockAt c i).last.targets := by
  unfold Cm03.graphOf
  simp only [List.mem_flatMap, List.mem_map, List.mem_filter, mem_all, Prod.mk.injEq, List.contains_iff_mem]
  constructor
  · rintro ⟨j, hj, u, ⟨hu, hm⟩, rfl, rfl⟩
    exact ⟨hj, hu, hm⟩
  · rintro ⟨h1, h2, h3⟩
    exact ⟨i, h1, t, ⟨h2, h3⟩, rfl, rfl⟩
theorem inside {c : Code} : Inside (Cm03.graphOf c).n (Cm03.graphOf c).es := fun e he => by
  obtain ⟨i, t⟩ := e
  have := mem_es.mp he
  exact ⟨this.1, this.2.1⟩
theorem graph_n {c : Code} : (Cm03.graphOf c).n = c.blocks.length := rfl
theorem blockAt_of {c : Code} {i : Nat} {b : Block} (h : c.blocks[i]? = some b) : Cm03.blockAt c i = b := by
  unfold Cm03.blockAt
  rw [h]
  rfl
theorem at_blockAt {c : Code} {i : Nat} (h : i < c.blocks.length) : c.blocks[i]? = some (Cm03.blockAt c i) := by
  unfold Cm03.blockAt
  rw [List.getElem?_eq_getElem h]
  rfl

/-! ### what the two looks say -/
structure Whole (c : Code) : Prop where
  one : 1 ≤ c.blocks.length
  zero : (Cm03.blockAt c 0).takes = []
  to : ∀ i, i < c.blocks.length → ∀ t ∈ (Cm03.blockAt c i).last.targets, 1 ≤ t ∧ t < c.blocks.length
  fit : ∀ i, i < c.blocks.length → Cm03.fits c (Cm03.blockAt c i).last = true
theorem whole_iff {c : Code} : Cm03.isWhole c = true ↔ Whole c := by
  unfold Cm03.isWhole
  simp only [Bool.and_eq_true, decide_eq_true_iff, List.isEmpty_iff, List.all_eq_true]
  constructor
  · rintro ⟨h1, h2, h3⟩
    refine ⟨h1, h2, fun i hi t ht => ?_, fun i hi => ?_⟩
    · exact (h3 (Cm03.blockAt c i) (List.mem_of_getElem? (at_blockAt hi))).1 t ht
    · exact (h3 (Cm03.blockAt c i) (List.mem_of_getElem? (at_blockAt hi))).2
  · rintro ⟨h1, h2, h3, h4⟩
    refine ⟨h1, h2, fun b hb => ?_⟩
    obtain ⟨i, hi⟩ := List.mem_iff_getElem?.mp hb
    have li := (List.getElem?_eq_some_iff.mp hi).1
    have e := blockAt_of hi
    exact ⟨fun t ht => h3 i li t (by rw [e]; exact ht), by have := h4 i li; rw [e] at this; exact this⟩
theorem twice_iff : ∀ {l : List Nat}, Cm03.twice l = false ↔ l.Nodup
  | [] => by simp [Cm03.twice]
  | a :: l => by
    rw [List.nodup_cons]
    show (l.contains a || Cm03.twice l) = false ↔ _
    rw [Bool.or_eq_false_iff, twice_iff]
    simp
structure Fair (c : Code) : Prop where
  once : (Cm03.given c).Nodup
  reached : ∀ i, i < c.blocks.length → Way (fun _ => false) (Cm03.graphOf c).es 0 i
  plain : ∀ b ∈ c.blocks, ∀ r ∈ b.rows, Cm03.isCopy r = false
  rows : ∀ j, j < c.blocks.length → ∀ (r : Nat) (row : Row), (Cm03.blockAt c j).rows[r]? = some row → ∀ x ∈ row.uses, Cm03.givenBy c (Cm01.without (Cm03.graphOf c) 0) j r x = true
  ends : ∀ j, j < c.blocks.length → ∀ x ∈ (Cm03.blockAt c j).last.uses, Cm03.givenBy c (Cm01.without (Cm03.graphOf c) 0) j (Cm03.blockAt c j).rows.length x = true
theorem reach_all {c : Code} (h : 1 ≤ c.blocks.length) : (Cm01.reach (Cm03.graphOf c) 0).length = c.blocks.length ↔ ∀ i, i < c.blocks.length → Way (fun _ => false) (Cm03.graphOf c).es 0 i := by
  have hm : ∀ v, v ∈ Cm01.reach (Cm03.graphOf c) 0 ↔ Way (fun _ => false) (Cm03.graphOf c).es 0 v := fun v => mem_reach inside h
  have form : Cm01.reach (Cm03.graphOf c) 0 = (List.range c.blocks.length).filter fun v => (Cm01.rounds (fun _ => false) (Cm03.graphOf c).es c.blocks.length [0]).contains v := rfl
  constructor
  · intro e i hi
    rw [← hm]
    have : Cm01.reach (Cm03.graphOf c) 0 = List.range c.blocks.length := by
      rw [form] at e ⊢
      refine List.Sublist.eq_of_length List.filter_sublist ?_
      rw [e, List.length_range]
    rw [this]
    exact List.mem_range.mpr hi
  · intro a
    have : Cm01.reach (Cm03.graphOf c) 0 = List.range c.blocks.length := by
      rw [form]
      refine List.filter_eq_self.mpr fun v hv => ?_
      have := (hm v).mpr (a v (List.mem_range.mp hv))
      rw [form] at this
      exact (List.mem_filter.mp this).2
    rw [this, List.length_range]
theorem usesFair_iff {c : Code} {t : List (List Nat)} {j : Nat} : Cm03.usesFair c t j = true ↔ (∀ (r : Nat) (row : Row), (Cm03.blockAt c j).rows[r]? = some row → ∀ x ∈ row.uses, Cm03.givenBy c t j r x = true) ∧ ∀ x ∈ (Cm03.blockAt c j).last.uses, Cm03.givenBy c t j (Cm03.blockAt c j).rows.length x = true := by
  unfold Cm03.usesFair
  simp only [Bool.and_eq_true, List.all_eq_true]
  refine and_congr_left fun _ => ?_
  constructor
  · intro h r row e x hx
    exact h (row, r) (List.mem_zipIdx_iff_getElem?.mpr e) x hx
  · rintro h ⟨row, r⟩ hm x hx
    exact h r row (List.mem_zipIdx_iff_getElem?.mp hm) x hx
theorem fair_iff {c : Code} (h : 1 ≤ c.blocks.length) : Cm03.isFair c = true ↔ Fair c := by
  unfold Cm03.isFair
  simp only [Bool.and_eq_true, Bool.not_eq_true', List.all_eq_true, beq_iff_eq, mem_all, usesFair_iff, twice_iff, reach_all h]
  constructor
  · rintro ⟨a, b, d, e⟩
    refine ⟨a, b, fun x hx r hr => ?_, fun j hj => (e j hj).1, fun j hj => (e j hj).2⟩
    have := d x hx
    rw [List.any_eq_false] at this
    simpa using this r hr
  · rintro ⟨a, b, d, e, f⟩
    refine ⟨a, b, fun x hx => ?_, fun j hj => ⟨e j hj, f j hj⟩⟩
    rw [List.any_eq_false]
    intro r hr
    simpa using d x hx r hr

/-! ### where a value is given -/
/-- x is given in block i, ahead of its row r: handed to the code (block 0), taken over, or by a row before r -/
def Ahead (c : Code) (x i r : Nat) : Prop := (i = 0 ∧ x < c.args) ∨ x ∈ (Cm03.blockAt c i).takes ∨ ∃ (s : Nat) (row : Row), s < r ∧ (Cm03.blockAt c i).rows[s]? = some row ∧ row.gives = some x
/-- x is given in block i -/
def GivenIn (c : Code) (x i : Nat) : Prop := i < c.blocks.length ∧ ((i = 0 ∧ x < c.args) ∨ x ∈ Cm03.givenIn (Cm03.blockAt c i))
theorem mem_givenIn {b : Block} {x : Nat} : x ∈ Cm03.givenIn b ↔ x ∈ b.takes ∨ ∃ (s : Nat) (row : Row), b.rows[s]? = some row ∧ row.gives = some x := by
  unfold Cm03.givenIn
  rw [List.mem_append, List.mem_filterMap]
  refine or_congr Iff.rfl ⟨?_, ?_⟩
  · rintro ⟨row, hr, g⟩
    obtain ⟨s, hs⟩ := List.mem_iff_getElem?.mp hr
    exact ⟨s, row, hs, g⟩
  · rintro ⟨s, row, hs, g⟩
    exact ⟨row, List.mem_of_getElem? hs, g⟩
theorem Ahead.given {c : Code} {x i r : Nat} (hi : i < c.blocks.length) (h : Ahead c x i r) : GivenIn c x i := by
  refine ⟨hi, ?_⟩
  rcases h with h | h | ⟨s, row, _, e, g⟩
  · exact .inl h
  · exact .inr (mem_givenIn.mpr (.inl h))
  · exact .inr (mem_givenIn.mpr (.inr ⟨s, row, e, g⟩))
/-- what the specification's place tells -/
structure Place (c : Code) (x i p : Nat) : Prop where
  lt : i < c.blocks.length
  ex : (i = 0 ∧ x < c.args ∧ p = x) ∨ (∃ j, (Cm03.blockAt c i).takes[j]? = some x ∧ p = j) ∨ ∃ (r : Nat) (row : Row), (Cm03.blockAt c i).rows[r]? = some row ∧ row.gives = some x ∧ p = Cm03.before c i r
theorem placeIn_some {c : Code} {x i p : Nat} : ∀ {k : Nat}, k ≤ c.blocks.length → Cm03.placeIn c x k = some (i, p) → Place c x i p
  | 0, _, h => by cases h
  | k + 1, hk, h => by
    unfold Cm03.placeIn at h
    simp only at h
    split at h
    · rename_i hc
      cases h
      refine ⟨by omega, .inr (.inl ⟨_, ?_, rfl⟩)⟩
      have hm : x ∈ (Cm03.blockAt c (c.blocks.length - (k + 1))).takes := List.contains_iff_mem.mp hc
      rw [List.getElem?_eq_getElem (List.idxOf_lt_length_of_mem hm), List.getElem_idxOf]
    · split at h
      · rename_i r hr
        cases h
        refine ⟨by omega, .inr (.inr ?_)⟩
        obtain ⟨hl, hp, _⟩ := List.findIdx?_eq_some_iff_getElem.mp hr
        exact ⟨r, _, List.getElem?_eq_getElem hl, by simpa using hp, rfl⟩
      · exact placeIn_some (by omega) h
theorem placeOf_some {c : Code} {x i p : Nat} (h1 : 1 ≤ c.blocks.length) (h : Cm03.placeOf c x = some (i, p)) : Place c x i p := by
  unfold Cm03.placeOf at h
  split at h
  · rename_i hx
    cases h
    exact ⟨h1, .inl ⟨rfl, hx, rfl⟩⟩
  · exact placeIn_some (Nat.le_refl _) h
theorem Place.given {c : Code} {x i p : Nat} (h : Place c x i p) : GivenIn c x i := by
  refine ⟨h.lt, ?_⟩
  rcases h.ex with ⟨a, b, _⟩ | ⟨j, e, _⟩ | ⟨r, row, e, g, _⟩
  · exact .inl ⟨a, b⟩
  · exact .inr (mem_givenIn.mpr (.inl (List.mem_of_getElem? e)))
  · exact .inr (mem_givenIn.mpr (.inr ⟨r, row, e, g⟩))
/-- a use that's fair: given on every way, or in the block, ahead -/
theorem givenBy_true {c : Code} {j r x : Nat} (w : Whole c) (hj : j < c.blocks.length) (h : Cm03.givenBy c (Cm01.without (Cm03.graphOf c) 0) j r x = true) :
    (∃ d, GivenIn c x d ∧ d ≠ j ∧ Dom (Cm03.graphOf c).es d j) ∨ Ahead c x j r := by
  unfold Cm03.givenBy at h
  cases e : Cm03.placeOf c x with
  | none =>
    rw [e] at h
    cases h
  | some q =>
    obtain ⟨i, p⟩ := q
    rw [e] at h
    have pl := placeOf_some w.one e
    simp only at h
    split at h
    · rename_i hij
      subst hij
      right
      have hp := of_decide_eq_true h
      rcases pl.ex with ⟨a, b, _⟩ | ⟨j', e', _⟩ | ⟨s, row, e', g, ep⟩
      · exact .inl ⟨a, b⟩
      · exact .inr (.inl (List.mem_of_getElem? e'))
      · refine .inr (.inr ⟨s, row, ?_, e', g⟩)
        rw [ep] at hp
        unfold Cm03.before at hp
        omega
    · rename_i hij
      exact .inl ⟨i, pl.given, hij, (passed_iff inside w.one pl.lt).mp h⟩
/-- what Up says: a use, nothing before giving it; or none gives it, and it's live behind -/
theorem Up.cases {x : Nat} {p : Prop} : ∀ {l : List Row}, Up x l p → (∃ (r : Nat) (row : Row), l[r]? = some row ∧ x ∈ row.uses ∧ ∀ (s : Nat) (row' : Row), s < r → l[s]? = some row' → row'.gives ≠ some x) ∨ (p ∧ ∀ (s : Nat) (row : Row), l[s]? = some row → row.gives ≠ some x)
  | [], h => .inr ⟨h, fun s row e => by simp at e⟩
  | r :: l, h => by
    rcases h with h | ⟨g, h⟩
    · exact .inl ⟨0, r, rfl, h, fun s _ hs => absurd hs (Nat.not_lt_zero s)⟩
    · rcases Up.cases h with ⟨k, row, e, u, a⟩ | ⟨hp, a⟩
      · refine .inl ⟨k + 1, row, e, u, fun s row' hs es => ?_⟩
        cases s with
        | zero =>
          cases es
          exact g
        | succ s => exact a s row' (by omega) es
      · refine .inr ⟨hp, fun s row es => ?_⟩
        cases s with
        | zero =>
          cases es
          exact g
        | succ s => exact a s row es
/-- what's live ahead of row r of block i is given on every way there -/
theorem up_dom {c : Code} (w : Whole c) (f : Fair c) {x i r : Nat} (hi : i < c.blocks.length)
    (h : Up x ((Cm03.blockAt c i).rows.drop r) (x ∈ (Cm03.blockAt c i).last.uses ∨ ∃ t ∈ (Cm03.blockAt c i).last.targets, ∃ d, GivenIn c x d ∧ d ≠ t ∧ Dom (Cm03.graphOf c).es d t)) :
    (∃ d, GivenIn c x d ∧ d ≠ i ∧ Dom (Cm03.graphOf c).es d i) ∨ Ahead c x i r := by
  have early : ∀ m, Ahead c x i m → (∀ (s : Nat) (row : Row), r ≤ s → s < m → (Cm03.blockAt c i).rows[s]? = some row → row.gives ≠ some x) → Ahead c x i r := by
    intro m hm a
    rcases hm with hm | hm | ⟨s, row, hs, e, g⟩
    · exact .inl hm
    · exact .inr (.inl hm)
    · by_cases q : s < r
      · exact .inr (.inr ⟨s, row, q, e, g⟩)
      · exact absurd g (a s row (by omega) hs e)
  rcases h.cases with ⟨k, row, e, u, a⟩ | ⟨hp, a⟩
  · rw [List.getElem?_drop] at e
    rcases givenBy_true w hi (f.rows i hi (r + k) row e x u) with g | g
    · exact .inl g
    · refine .inr (early (r + k) g fun s row' h1 h2 es => a (s - r) row' (by omega) ?_)
      rw [List.getElem?_drop]
      have : r + (s - r) = s := by omega
      rw [this]
      exact es
  · have none : ∀ (s : Nat) (row : Row), r ≤ s → (Cm03.blockAt c i).rows[s]? = some row → row.gives ≠ some x := by
      intro s row h1 es
      refine a (s - r) row ?_
      rw [List.getElem?_drop]
      have : r + (s - r) = s := by omega
      rw [this]
      exact es
    rcases hp with u | ⟨t, ht, d, gd, nd, dom⟩
    · rcases givenBy_true w hi (f.ends i hi x u) with g | g
      · exact .inl g
      · exact .inr (early _ g fun s row h1 _ es => none s row h1 es)
    · have edge : (i, t) ∈ (Cm03.graphOf c).es := mem_es.mpr ⟨hi, (w.to i hi t ht).2, ht⟩
      have di := dom.back nd edge
      by_cases q : d = i
      · subst q
        right
        rcases gd.2 with g | g
        · exact .inl g
        · rcases mem_givenIn.mp g with g | ⟨s, row, es, g⟩
          · exact .inr (.inl g)
          · by_cases q : s < r
            · exact .inr (.inr ⟨s, row, q, es, g⟩)
            · exact absurd g (none s row (by omega) es)
      · exact .inl ⟨d, gd, q, di⟩
/-- **what comes in live is given on every way there, ahead of the block** (or handed to the code, at block 0) -/
theorem live_dom {c : Code} (w : Whole c) (f : Fair c) {x i : Nat} (h : LiveIn c x i) : (∃ d, GivenIn c x d ∧ d ≠ i ∧ Dom (Cm03.graphOf c).es d i) ∨ (i = 0 ∧ x < c.args) := by
  refine liveIn_least (P := fun i => (∃ d, GivenIn c x d ∧ d ≠ i ∧ Dom (Cm03.graphOf c).es d i) ∨ (i = 0 ∧ x < c.args)) (fun i b e h40 nt u => ?_) h
  have hi := (List.getElem?_eq_some_iff.mp e).1
  have eb := blockAt_of e
  rw [← eb] at nt u
  have := up_dom w f (x := x) (r := 0) hi (by
    rw [List.drop_zero]
    refine u.mono (Or.imp_right ?_)
    rintro ⟨t, ht, _, p | ⟨z, _⟩⟩
    · exact ⟨t, ht, p⟩
    · have := (w.to i hi t ht).1
      omega)
  rcases this with p | p | p | ⟨s, _, hs, _⟩
  · exact .inl p
  · exact .inr p
  · exact absurd p nt
  · exact absurd hs (Nat.not_lt_zero s)
/-- **what's live ahead of a row is given on every way there** -/
theorem liveAt_dom {c : Code} (w : Whole c) (f : Fair c) {x i r : Nat} (hi : i < c.blocks.length) (h : x ∈ Cm06.liveAt c (Cm06.lives c) i r) : (∃ d, GivenIn c x d ∧ d ≠ i ∧ Dom (Cm03.graphOf c).es d i) ∨ Ahead c x i r := by
  refine up_dom w f hi ((mem_liveAt.mp h).2.mono (Or.imp_right ?_))
  rintro ⟨t, ht, l⟩
  rcases live_dom w f l with p | ⟨z, _⟩
  · exact ⟨t, ht, p⟩
  · have := (w.to i hi t ht).1
    omega
/-! ### depth -/
theorem depth_lt {c : Code} (w : Whole c) (f : Fair c) {d i : Nat} (hd : d < c.blocks.length) (hi : i < c.blocks.length) (n : d ≠ i) (h : Dom (Cm03.graphOf c).es d i) :
    Cm01.depth (Cm01.without (Cm03.graphOf c) 0) (Cm03.all c) d < Cm01.depth (Cm01.without (Cm03.graphOf c) 0) (Cm03.all c) i := by
  unfold Cm01.depth
  have hp : ∀ a b, a < c.blocks.length → (Cm01.passed (Cm01.without (Cm03.graphOf c) 0) a b = true ↔ Dom (Cm03.graphOf c).es a b) := fun a b ha => passed_iff inside w.one ha
  have nd : (i :: (Cm03.all c).filter fun a => Cm01.passed (Cm01.without (Cm03.graphOf c) 0) a d).Nodup := by
    rw [List.nodup_cons]
    refine ⟨fun m => ?_, List.Nodup.sublist List.filter_sublist List.nodup_range⟩
    have := (hp i d hi).mp (List.mem_filter.mp m).2
    exact n (Dom.asymm (f.reached d hd) h this)
  have sub : (i :: (Cm03.all c).filter fun a => Cm01.passed (Cm01.without (Cm03.graphOf c) 0) a d) ⊆ (Cm03.all c).filter fun a => Cm01.passed (Cm01.without (Cm03.graphOf c) 0) a i := by
    intro a ha
    rcases List.mem_cons.mp ha with ha | ha
    · subst ha
      exact List.mem_filter.mpr ⟨mem_all.mpr hi, (hp _ _ hi).mpr Dom.self⟩
    · have q := List.mem_filter.mp ha
      have la := mem_all.mp q.1
      exact List.mem_filter.mpr ⟨q.1, (hp _ _ la).mpr (((hp _ _ la).mp q.2).trans h)⟩
  have := List.Nodup.length_le_of_subset nd sub
  rw [List.length_cons] at this
  omega
end VS
/-! Registers: the least free one, and that the order of the blocks doesn't matter as long as those over others come first. Plain Lean, no model. -/
namespace VS
open CmBase

/-! ### the least that's not in a list -/
theorem free_spec (l : List Nat) : Cm06.free l ∉ l ∧ ∀ k, k < Cm06.free l → k ∈ l := by
  unfold Cm06.free
  cases e : (List.range (l.length + 1)).find? fun k => !l.contains k with
  | none =>
    exfalso
    have h := List.find?_eq_none.mp e
    have sub : List.range (l.length + 1) ⊆ l := fun k hk => by simpa using h k hk
    have := List.Nodup.length_le_of_subset List.nodup_range sub
    rw [List.length_range] at this
    omega
  | some k =>
    rw [Option.getD_some]
    obtain ⟨hp, as, bs, hl, ha⟩ := List.find?_eq_some_iff_append.mp e
    refine ⟨by simpa using hp, fun j hj => ?_⟩
    have hk : k < l.length + 1 := by
      have : k ∈ List.range (l.length + 1) := by
        rw [hl]
        simp
      exact List.mem_range.mp this
    have sorted : (as ++ k :: bs).Pairwise (· < ·) := by
      rw [← hl]
      exact List.pairwise_lt_range
    have jm : j ∈ as ++ k :: bs := by
      rw [← hl]
      exact List.mem_range.mpr (by omega)
    rcases List.mem_append.mp jm with jm | jm
    · simpa using ha j jm
    · rcases List.mem_cons.mp jm with jm | jm
      · omega
      · have := (List.pairwise_append.mp sorted).2.1
        have := (List.pairwise_cons.mp this).1 j jm
        omega
theorem free_unique {l : List Nat} {k : Nat} (h1 : k ∉ l) (h2 : ∀ j, j < k → j ∈ l) : Cm06.free l = k := by
  obtain ⟨a, b⟩ := free_spec l
  rcases Nat.lt_trichotomy (Cm06.free l) k with h | h | h
  · exact absurd (h2 _ h) a
  · exact h
  · exact absurd (b _ h) h1
theorem free_congr {l m : List Nat} (h : ∀ k, k ∈ l ↔ k ∈ m) : Cm06.free l = Cm06.free m := by
  obtain ⟨a, b⟩ := free_spec m
  exact free_unique (fun z => a ((h _).mp z)) fun j hj => (h j).mpr (b j hj)
theorem free_le (l : List Nat) : Cm06.free l ≤ l.length := by
  obtain ⟨_, b⟩ := free_spec l
  have sub : List.range (Cm06.free l) ⊆ l := fun k hk => b k (List.mem_range.mp hk)
  have := List.Nodup.length_le_of_subset List.nodup_range sub
  rwa [List.length_range] at this

/-! ### registers given one after another -/
/-- an event: a value comes to be with others -/
abbrev Evt := Nat × List Nat
def giveE (g : Cm06.Given) (e : Evt) : Cm06.Given := Cm06.giveOne g e.2 e.1
theorem regIn_cons {g : Cm06.Given} {x k y : Nat} : Cm06.regIn ((x, k) :: g) y = if x = y then k else Cm06.regIn g y := by
  unfold Cm06.regIn
  rw [List.find?_cons]
  by_cases h : x = y
  · subst h
    simp
  · have : ((x, k).1 == y) = false := by simpa using h
    rw [this, if_neg h]
theorem regIn_giveE {g : Cm06.Given} {e : Evt} {y : Nat} : Cm06.regIn (giveE g e) y = if e.1 = y then Cm06.free ((e.2.filter fun z => !(z == e.1)).map (Cm06.regIn g)) else Cm06.regIn g y := regIn_cons
/-- each comes to be once, with such as came to be before -/
def OkEvs (seen : Nat → Prop) : List Evt → Prop
  | [] => True
  | e :: r => ¬ seen e.1 ∧ (∀ y ∈ e.2, y ≠ e.1 → seen y) ∧ OkEvs (fun y => seen y ∨ y = e.1) r
theorem okEvs_congr {s t : Nat → Prop} (h : ∀ y, s y ↔ t y) {E : List Evt} : OkEvs s E ↔ OkEvs t E := by
  have : s = t := funext fun y => propext (h y)
  rw [this]
theorem okEvs_append {s : Nat → Prop} : ∀ {A B : List Evt}, OkEvs s (A ++ B) ↔ OkEvs s A ∧ OkEvs (fun y => s y ∨ y ∈ A.map (·.1)) B
  | [], B => by
    rw [List.nil_append]
    refine ⟨fun h => ⟨trivial, (okEvs_congr fun y => ?_).mp h⟩, fun h => (okEvs_congr fun y => ?_).mp h.2⟩ <;> simp
  | e :: A, B => by
    show (_ ∧ _ ∧ OkEvs _ (A ++ B)) ↔ (_ ∧ _ ∧ OkEvs _ A) ∧ _
    rw [okEvs_append (A := A)]
    have : OkEvs (fun y => (s y ∨ y = e.1) ∨ y ∈ A.map (·.1)) B ↔ OkEvs (fun y => s y ∨ y ∈ (e :: A).map (·.1)) B := okEvs_congr fun y => by
      rw [List.map_cons, List.mem_cons, or_assoc]
    rw [this]
    constructor
    · rintro ⟨a, b, d, f⟩
      exact ⟨⟨a, b, d⟩, f⟩
    · rintro ⟨⟨a, b, d⟩, f⟩
      exact ⟨a, b, d, f⟩
/-- behind them: those that had one keep it -/
theorem fold_keeps_reg {s : Nat → Prop} {y : Nat} : ∀ {E : List Evt} {g : Cm06.Given}, OkEvs s E → s y → Cm06.regIn (E.foldl giveE g) y = Cm06.regIn g y
  | [], _, _, _ => rfl
  | e :: r, g, h, hy => by
    rw [List.foldl_cons, fold_keeps_reg h.2.2 (.inl hy), regIn_giveE, if_neg]
    intro z
    subst z
    exact h.1 hy
/-- **the equation of the registers** -/
theorem fold_eq {s : Nat → Prop} : ∀ {E : List Evt} {g : Cm06.Given}, OkEvs s E → ∀ e ∈ E, Cm06.regIn (E.foldl giveE g) e.1 = Cm06.free ((e.2.filter fun z => !(z == e.1)).map (Cm06.regIn (E.foldl giveE g)))
  | e :: r, g, h, f, hf => by
    rw [List.foldl_cons]
    rcases List.mem_cons.mp hf with hf | hf
    · subst hf
      rw [fold_keeps_reg h.2.2 (.inr rfl), regIn_giveE, if_pos rfl]
      refine congrArg Cm06.free (List.map_congr_left fun z hz => ?_)
      have hz' := List.mem_filter.mp hz
      have nz : z ≠ f.1 := by simpa using hz'.2
      rw [fold_keeps_reg h.2.2 (.inl (h.2.1 z hz'.1 nz)), regIn_giveE, if_neg fun q => nz q.symm]
    · exact fold_eq h.2.2 f hf
/-- **there's but one**: what keeps the equations is what the order gives -/
theorem fold_unique {s : Nat → Prop} {f h : Nat → Nat} : ∀ {E : List Evt}, OkEvs s E → (∀ y, s y → f y = h y) → (∀ e ∈ E, f e.1 = Cm06.free ((e.2.filter fun z => !(z == e.1)).map f)) → (∀ e ∈ E, h e.1 = Cm06.free ((e.2.filter fun z => !(z == e.1)).map h)) →
    ∀ e ∈ E, f e.1 = h e.1
  | e :: r, ok, hs, ef, eh, d, hd => by
    have here : f e.1 = h e.1 := by
      rw [ef e (List.mem_cons_self ..), eh e (List.mem_cons_self ..)]
      refine congrArg Cm06.free (List.map_congr_left fun z hz => ?_)
      have hz' := List.mem_filter.mp hz
      exact hs z (ok.2.1 z hz'.1 (by simpa using hz'.2))
    rcases List.mem_cons.mp hd with hd | hd
    · subst hd
      exact here
    · refine fold_unique ok.2.2 (fun y hy => ?_) (fun e' he' => ef e' (List.mem_cons_of_mem _ he')) (fun e' he' => eh e' (List.mem_cons_of_mem _ he')) d hd
      rcases hy with hy | hy
      · exact hs y hy
      · subst hy
        exact here

/-! ### the events of a block -/
def takenEvs : List Nat → List Nat → List Evt
  | _, [] => []
  | live, x :: l => (x, live) :: takenEvs (live ++ [x]) l
def rowEvs (c : Code) (i : Nat) : Nat → List Row → List Evt
  | _, [] => []
  | r, row :: l => (match row.gives with
    | none => []
    | some x => [(x, Cm06.liveAt c (Cm06.lives c) i (r + 1))]) ++ rowEvs c i (r + 1) l
def rowEv (c : Code) (i r : Nat) (row : Row) : List Evt := match row.gives with
    | none => []
    | some x => [(x, Cm06.liveAt c (Cm06.lives c) i (r + 1))]
theorem rowEvs_cons (c : Code) (i r : Nat) (row : Row) (l : List Row) : rowEvs c i r (row :: l) = rowEv c i r row ++ rowEvs c i (r + 1) l := rfl
def blockEvs (c : Code) (i : Nat) : List Evt := (if i = 0 then takenEvs [] (List.range c.args) else takenEvs ((Cm06.lives c).getD i []) (Cm03.blockAt c i).takes) ++ rowEvs c i 0 (Cm03.blockAt c i).rows
theorem giveTaken_eq : ∀ (l live : List Nat) (g : Cm06.Given), Cm06.giveTaken g live l = (takenEvs live l).foldl giveE g
  | [], _, _ => rfl
  | x :: l, live, g => giveTaken_eq l (live ++ [x]) (Cm06.giveOne g live x)
theorem giveRows_eq (c : Code) (i : Nat) : ∀ (l : List Row) (r : Nat) (g : Cm06.Given), Cm06.giveRows c (Cm06.lives c) i g r l = (rowEvs c i r l).foldl giveE g
  | [], _, _ => rfl
  | row :: l, r, g => by
    show Cm06.giveRows c (Cm06.lives c) i _ (r + 1) l = _
    rw [giveRows_eq c i l (r + 1), rowEvs_cons, List.foldl_append]
    unfold rowEv
    cases row.gives <;> rfl
theorem giveBlock_eq (c : Code) (g : Cm06.Given) (i : Nat) : Cm06.giveBlock c (Cm06.lives c) g i = (blockEvs c i).foldl giveE g := by
  unfold Cm06.giveBlock blockEvs
  simp only
  rw [giveRows_eq, List.foldl_append]
  congr 1
  split
  · exact giveTaken_eq ..
  · exact giveTaken_eq ..
theorem blocks_fold (c : Code) : ∀ (l : List Nat) (g : Cm06.Given), l.foldl (Cm06.giveBlock c (Cm06.lives c)) g = (l.flatMap (blockEvs c)).foldl giveE g
  | [], _ => rfl
  | i :: l, g => by
    rw [List.foldl_cons, giveBlock_eq, blocks_fold c l, List.flatMap_cons, List.foldl_append]
theorem takenEvs_fst : ∀ (l live : List Nat), (takenEvs live l).map (·.1) = l
  | [], _ => rfl
  | x :: l, live => congrArg (x :: ·) (takenEvs_fst l (live ++ [x]))
theorem rowEvs_fst (c : Code) (i : Nat) : ∀ (l : List Row) (r : Nat), (rowEvs c i r l).map (·.1) = l.filterMap Row.gives
  | [], _ => rfl
  | row :: l, r => by
    rw [rowEvs_cons, List.map_append, rowEvs_fst c i l (r + 1), List.filterMap_cons]
    unfold rowEv
    cases row.gives <;> rfl
/-- what a block gives, in order -/
def gives (c : Code) (i : Nat) : List Nat := (if i = 0 then List.range c.args else (Cm03.blockAt c i).takes) ++ (Cm03.blockAt c i).rows.filterMap Row.gives
theorem blockEvs_fst (c : Code) (i : Nat) : (blockEvs c i).map (·.1) = gives c i := by
  unfold blockEvs gives
  rw [List.map_append, rowEvs_fst]
  congr 1
  split
  · exact takenEvs_fst ..
  · exact takenEvs_fst ..
theorem mem_gives {c : Code} (w : Whole c) {x i : Nat} (hi : i < c.blocks.length) : x ∈ gives c i ↔ GivenIn c x i := by
  unfold gives GivenIn
  rw [List.mem_append]
  unfold Cm03.givenIn
  rw [List.mem_append]
  by_cases h : i = 0
  · subst h
    rw [if_pos rfl, List.mem_range, w.zero]
    simp [hi]
  · rw [if_neg h]
    simp [hi, h]
/-! ### each value is given in one block, once -/
theorem given_parts {c : Code} (w : Whole c) (once : (Cm03.given c).Nodup) : (∀ i, i < c.blocks.length → (gives c i).Nodup) ∧ ∀ i j x, i < c.blocks.length → j < c.blocks.length → x ∈ gives c i → x ∈ gives c j → i = j := by
  unfold Cm03.given at once
  have e0 : ∃ b0 bs, c.blocks = b0 :: bs := by
    cases h : c.blocks with
    | nil =>
      have := w.one
      rw [h] at this
      simp at this
    | cons b bs => exact ⟨b, bs, rfl⟩
  have key : (List.range c.blocks.length).flatMap (gives c) = List.range c.args ++ c.blocks.flatMap Cm03.givenIn := by
    obtain ⟨b0, bs, hb⟩ := e0
    have hz : b0.takes = [] := by
      have := w.zero
      rw [blockAt_of (c := c) (i := 0) (b := b0) (by rw [hb]; rfl)] at this
      exact this
    have tail : (List.range bs.length).flatMap (fun i => gives c (i + 1)) = bs.flatMap Cm03.givenIn := by
      have : ∀ i, i < bs.length → gives c (i + 1) = Cm03.givenIn ((bs[i]?).getD b0) := by
        intro i hi
        unfold gives Cm03.givenIn
        rw [if_neg (by omega)]
        have : Cm03.blockAt c (i + 1) = (bs[i]?).getD b0 := by
          refine blockAt_of ?_
          rw [hb, List.getElem?_cons_succ, List.getElem?_eq_getElem hi]
          rfl
        rw [this]
      have e1 : (List.range bs.length).flatMap (fun i => gives c (i + 1)) = (List.range bs.length).flatMap (fun i => Cm03.givenIn ((bs[i]?).getD b0)) := by
        rw [List.flatMap_def, List.flatMap_def]
        refine congrArg _ (List.map_congr_left fun i hi => this i (List.mem_range.mp hi))
      rw [e1]
      have e2 : bs = (List.range bs.length).map fun i => (bs[i]?).getD b0 := by
        refine List.ext_getElem? fun i => ?_
        rw [List.getElem?_map]
        by_cases hi : i < bs.length
        · rw [List.getElem?_range hi, Option.map_some, List.getElem?_eq_getElem hi]
          rfl
        · rw [List.getElem?_eq_none (by omega), List.getElem?_eq_none (by rw [List.length_range]; omega)]
          rfl
      conv => rhs; rw [e2]
      rw [List.flatMap_map]
    rw [hb, List.length_cons, List.range_succ_eq_map, List.flatMap_cons, List.flatMap_map, tail, List.flatMap_cons]
    unfold gives Cm03.givenIn
    rw [if_pos rfl, hz, List.nil_append]
    have : Cm03.blockAt c 0 = b0 := blockAt_of (by rw [hb]; rfl)
    rw [this, List.append_assoc]
  rw [← key] at once
  have once' := List.pairwise_flatMap.mp (show List.Pairwise (· ≠ ·) _ from once)
  constructor
  · intro i hi
    exact once'.1 i (List.mem_range.mpr hi)
  · intro i j x hi hj xi xj
    rcases Nat.lt_trichotomy i j with h | h | h
    · exfalso
      have := List.pairwise_iff_getElem.mp once'.2 i j (by rwa [List.length_range]) (by rwa [List.length_range]) h
      rw [List.getElem_range, List.getElem_range] at this
      exact this x xi x xj rfl
    · exact h
    · exfalso
      have := List.pairwise_iff_getElem.mp once'.2 j i (by rwa [List.length_range]) (by rwa [List.length_range]) h
      rw [List.getElem_range, List.getElem_range] at this
      exact this x xj x xi rfl
theorem given_nodup_parts {c : Code} (w : Whole c) (f : Fair c) : (∀ i, i < c.blocks.length → (gives c i).Nodup) ∧ ∀ i j x, i < c.blocks.length → j < c.blocks.length → x ∈ gives c i → x ∈ gives c j → i = j := given_parts w f.once

/-! ### an order of the blocks in which those over others come first -/
def OkBlocks (c : Code) (done : Nat → Prop) : List Nat → Prop
  | [] => True
  | i :: r => i < c.blocks.length ∧ ¬ done i ∧ (∀ d, d < c.blocks.length → d ≠ i → Dom (Cm03.graphOf c).es d i → done d) ∧ OkBlocks c (fun d => done d ∨ d = i) r
theorem takenEvs_ok {s : Nat → Prop} : ∀ {l live : List Nat}, l.Nodup → (∀ y ∈ live, s y) → (∀ y ∈ l, ¬ s y) → OkEvs s (takenEvs live l)
  | [], _, _, _, _ => trivial
  | x :: l, live, nd, hl, hn => by
    rw [List.nodup_cons] at nd
    refine ⟨hn x (List.mem_cons_self ..), fun y hy _ => hl y hy, takenEvs_ok nd.2 (fun y hy => ?_) fun y hy h => ?_⟩
    · rcases List.mem_append.mp hy with hy | hy
      · exact .inl (hl y hy)
      · exact .inr (by simpa using hy)
    · rcases h with h | h
      · exact hn y (List.mem_cons_of_mem _ hy) h
      · exact nd.1 ((show y = x from h) ▸ hy)
theorem rowEvs_ok {c : Code} {i : Nat} {rows : List Row} : ∀ {l : List Row} {r : Nat} {s : Nat → Prop}, rows.drop r = l → (l.filterMap Row.gives).Nodup → (∀ y ∈ l.filterMap Row.gives, ¬ s y) →
    (∀ q row x, rows[q]? = some row → r ≤ q → row.gives = some x → ∀ y ∈ Cm06.liveAt c (Cm06.lives c) i (q + 1), y ≠ x → s y ∨ ∃ q' row', r ≤ q' ∧ q' < q ∧ rows[q']? = some row' ∧ Row.gives row' = some y) → OkEvs s (rowEvs c i r l)
  | [], _, _, _, _, _, _ => trivial
  | row :: l, r, s, hd, nd, hn, hl => by
    rw [rowEvs_cons]
    have hr : rows[r]? = some row := by
      have : (rows.drop r)[0]? = some row := by rw [hd]; rfl
      rw [List.getElem?_drop] at this
      exact this
    have hd' : rows.drop (r + 1) = l := by
      have : (rows.drop r).drop 1 = l := by rw [hd]; rfl
      rw [List.drop_drop] at this
      exact this
    unfold rowEv
    cases e : row.gives with
    | none =>
      rw [List.filterMap_cons, e] at nd hn
      refine rowEvs_ok hd' nd hn fun q row' x hq h1 g y hy ny => ?_
      rcases hl q row' x hq (by omega) g y hy ny with h | ⟨q', row'', a, b, d, f⟩
      · exact .inl h
      · by_cases z : q' = r
        · subst z
          rw [hr] at d
          cases d
          rw [e] at f
          cases f
        · exact .inr ⟨q', row'', by omega, b, d, f⟩
    | some x =>
      rw [List.filterMap_cons, e] at nd hn
      rw [List.nodup_cons] at nd
      refine ⟨hn x (List.mem_cons_self ..), fun y hy ny => ?_, ?_⟩
      · rcases hl r row x hr (Nat.le_refl _) e y hy ny with h | ⟨q', row'', a, b, _⟩
        · exact h
        · omega
      · refine rowEvs_ok hd' nd.2 (fun y hy h => ?_) fun q row' x' hq h1 g y hy ny => ?_
        · rcases h with h | h
          · exact hn y (List.mem_cons_of_mem _ hy) h
          · exact nd.1 ((show y = x from h) ▸ hy)
        · rcases hl q row' x' hq (by omega) g y hy ny with h | ⟨q', row'', a, b, d, f⟩
          · exact .inl (.inl h)
          · by_cases z : q' = r
            · subst z
              rw [hr] at d
              cases d
              rw [e] at f
              cases f
              exact .inl (.inr rfl)
            · exact .inr ⟨q', row'', by omega, b, d, f⟩
theorem blockEvs_ok {c : Code} (w : Whole c) (f : Fair c) {i : Nat} {done : Nat → Prop} (hi : i < c.blocks.length) (hd : ∀ d, done d → d < c.blocks.length) (ni : ¬ done i) (ho : ∀ d, d < c.blocks.length → d ≠ i → Dom (Cm03.graphOf c).es d i → done d) :
    OkEvs (fun y => ∃ d, done d ∧ y ∈ gives c d) (blockEvs c i) := by
  obtain ⟨nds, one⟩ := given_nodup_parts w f
  have nd := nds i hi
  have new : ∀ y, y ∈ gives c i → ¬ ∃ d, done d ∧ y ∈ gives c d := by
    rintro y hy ⟨d, dd, hy'⟩
    have := one i d y hi (hd d dd) hy hy'
    subst this
    exact ni dd
  have old : ∀ y, (∃ d, GivenIn c y d ∧ d ≠ i ∧ Dom (Cm03.graphOf c).es d i) → ∃ d, done d ∧ y ∈ gives c d := by
    rintro y ⟨d, g, n, dom⟩
    exact ⟨d, ho d g.1 n dom, (mem_gives w g.1).mpr g⟩
  unfold blockEvs
  rw [okEvs_append]
  constructor
  · split
    · rename_i h0
      refine takenEvs_ok List.nodup_range (fun y hy => by cases hy) fun y hy => new y ?_
      unfold gives
      rw [if_pos h0]
      exact List.mem_append_left _ hy
    · rename_i h0
      refine takenEvs_ok ?_ (fun y hy => ?_) fun y hy => new y ?_
      · unfold gives at nd
        rw [if_neg h0] at nd
        exact (List.nodup_append.mp nd).1
      · rcases live_dom w f (show LiveIn c y i from hy) with h | ⟨h, _⟩
        · exact old y h
        · exact absurd h h0
      · unfold gives
        rw [if_neg h0]
        exact List.mem_append_left _ hy
  · have first : (if i = 0 then takenEvs [] (List.range c.args) else takenEvs ((Cm06.lives c).getD i []) (Cm03.blockAt c i).takes).map (·.1) = if i = 0 then List.range c.args else (Cm03.blockAt c i).takes := by
      split
      · exact takenEvs_fst ..
      · exact takenEvs_fst ..
    have nd' := nd
    unfold gives at nd'
    have ndp := List.nodup_append.mp nd'
    refine rowEvs_ok (rows := (Cm03.blockAt c i).rows) (List.drop_zero) ndp.2.1 (fun y hy h => ?_) fun q row x hq _ g y hy ny => ?_
    · rcases h with h | h
      · exact new y (by unfold gives; exact List.mem_append_right _ hy) h
      · rw [first] at h
        exact ndp.2.2 y h y hy rfl
    · rcases liveAt_dom w f hi hy with h | h | h | ⟨s, row', hs, es, gs⟩
      · exact .inl (.inl (old y h))
      · refine .inl (.inr ?_)
        rw [first, if_pos h.1]
        exact List.mem_range.mpr h.2
      · refine .inl (.inr ?_)
        rw [first]
        split
        · rename_i h0
          subst h0
          rw [w.zero] at h
          cases h
        · exact h
      · by_cases z : s = q
        · subst z
          rw [hq] at es
          cases es
          rw [g] at gs
          cases gs
          exact absurd rfl ny
        · exact .inr ⟨s, row', Nat.zero_le _, by omega, es, gs⟩
theorem blocks_ok {c : Code} (w : Whole c) (f : Fair c) : ∀ {l : List Nat} {done : Nat → Prop}, (∀ d, done d → d < c.blocks.length) → OkBlocks c done l → OkEvs (fun y => ∃ d, done d ∧ y ∈ gives c d) (l.flatMap (blockEvs c))
  | [], _, _, _ => trivial
  | i :: l, done, hd, ⟨hi, ni, ho, r⟩ => by
    rw [List.flatMap_cons, okEvs_append]
    refine ⟨blockEvs_ok w f hi hd ni ho, (okEvs_congr fun y => ?_).mp (blocks_ok w f (done := fun d => done d ∨ d = i) (fun d h => ?_) r)⟩
    · rw [blockEvs_fst]
      constructor
      · rintro ⟨d, h | h, hy⟩
        · exact .inl ⟨d, h, hy⟩
        · subst h
          exact .inr hy
      · rintro (⟨d, h, hy⟩ | hy)
        · exact ⟨d, .inl h, hy⟩
        · exact ⟨i, .inr rfl, hy⟩
    · rcases h with h | h
      · exact hd d h
      · exact h ▸ hi
/-! ### the specification's order is such a one -/
theorem ok_of_sorted {c : Code} {key : Nat → Nat} (hk : ∀ d i, d < c.blocks.length → i < c.blocks.length → d ≠ i → Dom (Cm03.graphOf c).es d i → key d < key i) :
    ∀ {l : List Nat} {done : Nat → Prop}, (∀ i ∈ l, i < c.blocks.length) → l.Nodup → (∀ i ∈ l, ¬ done i) → l.Pairwise (fun a b => key a ≤ key b) → (∀ d, d < c.blocks.length → done d ∨ d ∈ l) → OkBlocks c done l
  | [], _, _, _, _, _, _ => trivial
  | i :: l, done, hl, nd, hn, pw, cov => by
    rw [List.nodup_cons] at nd
    rw [List.pairwise_cons] at pw
    have hi := hl i (List.mem_cons_self ..)
    refine ⟨hi, hn i (List.mem_cons_self ..), fun d hd n dom => ?_, ok_of_sorted hk (fun j hj => hl j (List.mem_cons_of_mem _ hj)) nd.2 (fun j hj h => ?_) pw.2 fun d hd => ?_⟩
    · rcases cov d hd with h | h
      · exact h
      · rcases List.mem_cons.mp h with h | h
        · exact absurd h n
        · have a := pw.1 d h
          have b := hk d i hd hi n dom
          omega
    · rcases h with h | h
      · exact hn j (List.mem_cons_of_mem _ hj) h
      · exact nd.1 (h ▸ hj)
    · rcases cov d hd with h | h
      · exact .inl (.inl h)
      · rcases List.mem_cons.mp h with h | h
        · exact .inl (.inr h)
        · exact .inr h
theorem depth_le {c : Code} {t : List (List Nat)} {i : Nat} : Cm01.depth t (Cm03.all c) i < c.blocks.length + 1 := by
  unfold Cm01.depth
  have := List.length_filter_le (fun d => Cm01.passed t d i) (Cm03.all c)
  unfold Cm03.all at this ⊢
  rw [List.length_range] at this
  omega
theorem mem_byDepth {c : Code} {i : Nat} : i ∈ Cm06.byDepth c ↔ i < c.blocks.length := by
  unfold Cm06.byDepth
  simp only [List.mem_flatMap, List.mem_filter, mem_all, List.mem_range, beq_iff_eq]
  exact ⟨fun ⟨_, _, h, _⟩ => h, fun h => ⟨_, depth_le, h, rfl⟩⟩
theorem byDepth_sorted {c : Code} : (Cm06.byDepth c).Pairwise fun a b => Cm01.depth (Cm01.without (Cm03.graphOf c) 0) (Cm03.all c) a ≤ Cm01.depth (Cm01.without (Cm03.graphOf c) 0) (Cm03.all c) b := by
  unfold Cm06.byDepth
  refine List.pairwise_flatMap.mpr ⟨fun d _ => ?_, ?_⟩
  · refine List.pairwise_of_forall_mem_list fun a ha b hb => ?_
    have e1 := (List.mem_filter.mp ha).2
    have e2 := (List.mem_filter.mp hb).2
    rw [beq_iff_eq] at e1 e2
    omega
  · refine List.pairwise_lt_range.imp fun h x hx y hy => ?_
    have e1 := (List.mem_filter.mp hx).2
    have e2 := (List.mem_filter.mp hy).2
    rw [beq_iff_eq] at e1 e2
    omega
theorem byDepth_nodup {c : Code} : (Cm06.byDepth c).Nodup := by
  unfold Cm06.byDepth
  refine List.pairwise_flatMap.mpr ⟨fun d _ => List.Nodup.sublist List.filter_sublist List.nodup_range, ?_⟩
  refine List.pairwise_lt_range.imp fun h x hx y hy z => ?_
  subst z
  have e1 := (List.mem_filter.mp hx).2
  have e2 := (List.mem_filter.mp hy).2
  rw [beq_iff_eq] at e1 e2
  omega
theorem byDepth_ok {c : Code} (w : Whole c) (f : Fair c) : OkBlocks c (fun _ => False) (Cm06.byDepth c) :=
  ok_of_sorted (fun _ _ hd hi n dom => depth_lt w f hd hi n dom) (fun _ h => mem_byDepth.mp h) byDepth_nodup (fun _ _ h => h) byDepth_sorted fun _ hd => .inr (mem_byDepth.mpr hd)
/-- **any such order of all blocks gives the same registers** -/
theorem reg_any {c : Code} (w : Whole c) (f : Fair c) {l : List Nat} (ok : OkBlocks c (fun _ => False) l) (cov : ∀ i, i < c.blocks.length → i ∈ l) {x i : Nat} (hx : GivenIn c x i) :
    Cm06.regIn (l.foldl (Cm06.giveBlock c (Cm06.lives c)) []) x = Cm06.regIn (Cm06.registers c) x := by
  have ok1 := blocks_ok w f (fun _ h => h.elim) ok
  have ok2 := blocks_ok w f (fun _ h => h.elim) (byDepth_ok w f)
  show _ = Cm06.regIn ((Cm06.byDepth c).foldl (Cm06.giveBlock c (Cm06.lives c)) []) x
  rw [blocks_fold, blocks_fold]
  have e1 := fold_eq (g := []) ok1
  have e2 := fold_eq (g := []) ok2
  have mem : ∀ {m : List Nat} {e : Evt}, (∀ i, i < c.blocks.length → i ∈ m) → e ∈ (Cm06.byDepth c).flatMap (blockEvs c) → e ∈ m.flatMap (blockEvs c) := by
    intro m e cm he
    obtain ⟨j, hj, hm⟩ := List.mem_flatMap.mp he
    exact List.mem_flatMap.mpr ⟨j, cm j (mem_byDepth.mp hj), hm⟩
  have all := fold_unique ok2 (fun y hy => by obtain ⟨_, h, _⟩ := hy; exact h.elim) (fun e he => e1 e (mem cov he)) e2
  have hm : x ∈ (blockEvs c i).map (·.1) := by
    rw [blockEvs_fst]
    exact (mem_gives w hx.1).mpr hx
  obtain ⟨e, he, rfl⟩ := List.mem_map.mp hm
  exact all e (List.mem_flatMap.mpr ⟨i, mem_byDepth.mpr hx.1, he⟩)
/-- **the equation of the specification's registers**, event by event -/
theorem reg_eq {c : Code} (w : Whole c) (f : Fair c) {i : Nat} (hi : i < c.blocks.length) : ∀ e ∈ blockEvs c i, Cm06.regIn (Cm06.registers c) e.1 = Cm06.free ((e.2.filter fun z => !(z == e.1)).map (Cm06.regIn (Cm06.registers c))) := by
  intro e he
  have ok2 := blocks_ok w f (fun _ h => h.elim) (byDepth_ok w f)
  have := fold_eq (g := []) ok2 e (List.mem_flatMap.mpr ⟨i, mem_byDepth.mpr hi, he⟩)
  rw [← blocks_fold] at this
  exact this
/-- **whatever keeps these equations is the specification's** -/
theorem reg_only {c : Code} (w : Whole c) (f : Fair c) {h : Nat → Nat} (eh : ∀ i, i < c.blocks.length → ∀ e ∈ blockEvs c i, h e.1 = Cm06.free ((e.2.filter fun z => !(z == e.1)).map h)) {x i : Nat} (hx : GivenIn c x i) : h x = Cm06.regIn (Cm06.registers c) x := by
  have ok2 := blocks_ok w f (fun _ h => h.elim) (byDepth_ok w f)
  have e2 := fold_eq (g := []) ok2
  rw [← blocks_fold] at e2
  have all := fold_unique ok2 (fun y hy => by obtain ⟨_, h, _⟩ := hy; exact h.elim) (fun e he => by
    obtain ⟨j, hj, hm⟩ := List.mem_flatMap.mp he
    exact eh j (mem_byDepth.mp hj) e hm) e2
  have hm : x ∈ (blockEvs c i).map (·.1) := by
    rw [blockEvs_fst]
    exact (mem_gives w hx.1).mpr hx
  obtain ⟨e, he, rfl⟩ := List.mem_map.mp hm
  exact all e (List.mem_flatMap.mpr ⟨i, mem_byDepth.mpr hx.1, he⟩)
end VS
/-! How the code lies in the heap. -/
namespace VS
open PySem L2 Evl CmBase
def natsV (l : List Nat) : List V := l.map fun (n : Nat) => V.int (n : Int)
def rowV : Row → List V
  | .num x k => [.int 0, .int x, .int k]
  | .copy x a => [.int 1, .int x, .int a]
  | .two x o a b => [.int 2, .int x, .int o.num, .int a, .int b]
  | .say a => [.int 3, .int a]
/-- rows: tuples of numbers -/
structure RowsAt (H : Hp) (vs : List V) (rows : List Row) : Prop where
  len : vs.length = rows.length
  row : ∀ (i : Nat) (r : Row), rows[i]? = some r → ∃ a, vs[i]? = some (.ref a) ∧ H a = some (.tup (rowV r))
def EndAt (H : Hp) (v : V) : Option CmBase.End → Prop
  | none => v = .non
  | some (.jump t as) => ∃ a p, v = .ref a ∧ H a = some (.tup [.int 0, .int t, .ref p]) ∧ H p = some (.tup (natsV as))
  | some (.fork x t as u bs) => ∃ a p q, v = .ref a ∧ H a = some (.tup [.int 1, .int x, .int t, .ref p, .int u, .ref q]) ∧ H p = some (.tup (natsV as)) ∧ H q = some (.tup (natsV bs))
  | some (.give x) => ∃ a, v = .ref a ∧ H a = some (.tup [.int 2, .int x])
/-- a block as it's written: what it takes over, its rows, its end or none yet -/
structure Bk where
  takes : List Nat
  rows : List Row
  last : Option CmBase.End
def bF (tk rl : Addr) (ev : V) : List (Str × V) := [("taken", .ref tk), ("rows", .ref rl), ("end", ev)]
def BkAt (K : PySem.W.Frag) (H : Hp) (b rl : Addr) (k : Bk) : Prop := ∃ (dx tk : Addr) (vs : List V) (ev : V), H b = some (.ins (He.ga K "Block") dx (bF tk rl ev)) ∧ H tk = some (.tup (natsV k.takes)) ∧ H rl = some (.lst vs) ∧ RowsAt H vs k.rows ∧ EndAt H ev k.last
def blks (s : Cm03.St) : List Bk := s.code.blocks.map (fun b => ⟨b.takes, b.rows, some b.last⟩) ++ match s.opened with
  | none => []
  | some (ts, l) => [⟨ts, l, none⟩]
/-- where it lies: the list of blocks, the blocks, their lists of rows -/
structure Lay where
  bl : Addr
  bs : List Addr
  rs : List Addr
def cF (w : Nat) (bl : Addr) : List (Str × V) := [("words", .int w), ("blocks", .ref bl)]
structure CodeAt (K : PySem.W.Frag) (H : Hp) (c : Addr) (s : Cm03.St) (Y : Lay) : Prop where
  obj : ∃ dx, H c = some (.ins (He.ga K "Code") dx (cF s.code.args Y.bl))
  lst : H Y.bl = some (.lst (Y.bs.map V.ref))
  lenB : Y.bs.length = (blks s).length
  lenR : Y.rs.length = (blks s).length
  blk : ∀ (i : Nat) (k : Bk), (blks s)[i]? = some k → ∃ b r, Y.bs[i]? = some b ∧ Y.rs[i]? = some r ∧ BkAt K H b r k
  ndB : Y.bs.Nodup
  ndR : (Y.bl :: Y.rs).Nodup
def foot (c : Addr) (Y : Lay) : List Addr := c :: Y.bl :: (Y.bs ++ Y.rs)
/-- what a change of the code leaves: all but the code's own things; these are the old ones, or new -/
structure Kept (c : Addr) (H : Hp) (Y : Lay) (H' : Hp) (Y' : Lay) : Prop where
  same : ∀ a o, H a = some o → a ∉ foot c Y → H' a = some o
  new : ∀ a, a ∈ foot c Y' → a ∈ foot c Y ∨ H a = none
/-! ### what stands, stands on -/
theorem RowsAt.ex {H H' : Hp} {vs : List V} {rows : List Row} (e : Ex H H') (h : RowsAt H vs rows) : RowsAt H' vs rows := ⟨h.len, fun i r hr => by
  obtain ⟨a, h1, h2⟩ := h.row i r hr
  exact ⟨a, h1, e _ _ h2⟩⟩
theorem EndAt.ex {H H' : Hp} {v : V} (e : Ex H H') : ∀ {o : Option CmBase.End}, EndAt H v o → EndAt H' v o
  | none, h => h
  | some (.jump _ _), ⟨a, p, h1, h2, h3⟩ => ⟨a, p, h1, e _ _ h2, e _ _ h3⟩
  | some (.fork _ _ _ _ _), ⟨a, p, q, h1, h2, h3, h4⟩ => ⟨a, p, q, h1, e _ _ h2, e _ _ h3, e _ _ h4⟩
  | some (.give _), ⟨a, h1, h2⟩ => ⟨a, h1, e _ _ h2⟩
theorem BkAt.ex {K : PySem.W.Frag} {H H' : Hp} {b r : Addr} {k : Bk} (e : Ex H H') (h : BkAt K H b r k) : BkAt K H' b r k := by
  obtain ⟨dx, tk, vs, ev, h1, h2, h3, h4, h5⟩ := h
  exact ⟨dx, tk, vs, ev, e _ _ h1, e _ _ h2, e _ _ h3, h4.ex e, h5.ex e⟩
theorem CodeAt.ex {K : PySem.W.Frag} {H H' : Hp} {c : Addr} {s : Cm03.St} {Y : Lay} (e : Ex H H') (h : CodeAt K H c s Y) : CodeAt K H' c s Y := by
  obtain ⟨⟨dx, h1⟩, h2, h3, h4, h5, h6, h7⟩ := h
  exact ⟨⟨dx, e _ _ h1⟩, e _ _ h2, h3, h4, fun i k hk => by
    obtain ⟨b, r, q1, q2, q3⟩ := h5 i k hk
    exact ⟨b, r, q1, q2, q3.ex e⟩, h6, h7⟩
theorem Kept.refl {c : Addr} {H : Hp} {Y : Lay} : Kept c H Y H Y := ⟨fun _ _ h _ => h, fun _ h => .inl h⟩
theorem Kept.of_ex {c : Addr} {H H' : Hp} {Y : Lay} (e : Ex H H') : Kept c H Y H' Y := ⟨fun a o h _ => e a o h, fun _ h => .inl h⟩
theorem Kept.pre {c : Addr} {H H1 H' : Hp} {Y Y' : Lay} (e : Ex H H1) (k : Kept c H1 Y H' Y') : Kept c H Y H' Y' := ⟨fun a o h n => k.same a o (e a o h) n, fun a h => (k.new a h).imp id (fresh_back e)⟩
theorem Kept.trans {c : Addr} {H H1 H2 : Hp} {Y Y1 Y2 : Lay} (k : Kept c H Y H1 Y1) (l : Kept c H1 Y1 H2 Y2) : Kept c H Y H2 Y2 := by
  refine ⟨fun a o h n => l.same a o (k.same a o h n) fun m => ?_, fun a h => ?_⟩
  · rcases k.new a m with q | q
    · exact n q
    · rw [q] at h
      cases h
  · rcases l.new a h with q | q
    · exact k.new a q
    · by_cases m : a ∈ foot c Y
      · exact .inl m
      · right
        cases e : H a with
        | none => rfl
        | some o =>
          rw [k.same a o e m] at q
          cases q
/-! ### attributes -/
theorem lk_here {x : Str} {val : V} {rest : List (Str × V)} : ((x, val) :: rest).lookup x = some val := by
  rw [List.lookup_cons]
  simp
theorem lk_past {x y : Str} {val : V} {rest : List (Str × V)} (ne : (x == y) = false) : ((y, val) :: rest).lookup x = rest.lookup x := by
  rw [List.lookup_cons, ne]
theorem put_here {x : Str} {new old : V} {rest : List (Str × V)} : putF x new ((x, old) :: rest) = (x, new) :: rest := by
  unfold putF
  exact if_pos rfl
theorem put_past {x y : Str} {new old : V} {rest : List (Str × V)} (ne : ¬ y = x) : putF x new ((y, old) :: rest) = (y, old) :: putF x new rest := by
  rw [putF]
  exact if_neg ne
theorem cF_words {w : Nat} {bl : Addr} : (cF w bl).lookup ("words" : Str) = some (.int w) := lk_here
theorem cF_blocks {w : Nat} {bl : Addr} : (cF w bl).lookup ("blocks" : Str) = some (.ref bl) := (lk_past (by decide +kernel)).trans lk_here
theorem cF_no {w : Nat} {bl : Addr} {m : Str} (h1 : (m == ("words" : Str)) = false) (h2 : (m == ("blocks" : Str)) = false) : (cF w bl).lookup m = none := (lk_past h1).trans ((lk_past h2).trans rfl)
theorem bF_taken {tk rl : Addr} {ev : V} : (bF tk rl ev).lookup ("taken" : Str) = some (.ref tk) := lk_here
theorem bF_rows {tk rl : Addr} {ev : V} : (bF tk rl ev).lookup ("rows" : Str) = some (.ref rl) := (lk_past (by decide +kernel)).trans lk_here
theorem bF_end {tk rl : Addr} {ev : V} : (bF tk rl ev).lookup ("end" : Str) = some ev := (lk_past (by decide +kernel)).trans ((lk_past (by decide +kernel)).trans lk_here)
theorem cF_put_words {w w' : Nat} {bl : Addr} : putF "words" (.int w') (cF w bl) = cF w' bl := put_here
theorem cF_put_blocks {w : Nat} {bl bl' : Addr} : putF "blocks" (.ref bl') (cF w bl) = cF w bl' := (put_past (by decide +kernel)).trans (congrArg _ put_here)
theorem bF_put_end {tk rl : Addr} {ev ev' : V} : putF "end" ev' (bF tk rl ev) = bF tk rl ev' := (put_past (by decide +kernel)).trans (congrArg _ ((put_past (by decide +kernel)).trans (congrArg _ put_here)))
end VS
/-! How a list of calls is read by the specification. Plain Lean, no model. -/
namespace VS
/-- a call: its number, its whole numbers, its list -/
structure Cl where
  p : Int
  ns : List Int
  r : List Int
def numsOf (p : Int) : Nat := ((PyCm06.shape p).getD (0, 0)).1
def hasRow (p : Int) : Bool := ((PyCm06.shape p).getD (0, 0)).2 == 1
def Cl.enc (c : Cl) : List Int := c.p :: (c.ns ++ if hasRow c.p then (c.r.length : Int) :: c.r else [])
def Cl.raw (c : Cl) : List (List Int) := (c.p :: c.ns) :: if hasRow c.p then [c.r] else []
structure Cl.Ok (c : Cl) : Prop where
  lo : 0 ≤ c.p
  hi : c.p ≤ 15
  len : c.ns.length = numsOf c.p
  row : hasRow c.p = false → c.r = []
theorem shape_some {p : Int} {n k : Nat} (h : PyCm06.shape p = some (n, k)) : 0 ≤ p ∧ p ≤ 15 ∧ numsOf p = n ∧ k ≤ 1 ∧ hasRow p = (k == 1) := by
  have e1 : numsOf p = n := by unfold numsOf; rw [h]; rfl
  have e2 : hasRow p = (k == 1) := by unfold hasRow; rw [h]; rfl
  have rng : 0 ≤ p ∧ p ≤ 15 := by
    by_cases q : 0 ≤ p ∧ p ≤ 15
    · exact q
    · exfalso
      unfold PyCm06.shape at h
      rw [if_neg (by omega), if_neg (by omega), if_neg (by omega), if_neg (by omega), if_neg (by omega), if_neg (by omega), if_neg (by omega), if_neg (by omega),
        if_neg (by omega), if_neg (by omega), if_neg (by omega), if_neg (by omega), if_neg (by omega), if_neg (by omega), if_neg (by omega), if_neg (by omega)] at h
      cases h
  have one : k ≤ 1 := by
    have cases16 : p = 0 ∨ p = 1 ∨ p = 2 ∨ p = 3 ∨ p = 4 ∨ p = 5 ∨ p = 6 ∨ p = 7 ∨ p = 8 ∨ p = 9 ∨ p = 10 ∨ p = 11 ∨ p = 12 ∨ p = 13 ∨ p = 14 ∨ p = 15 := by omega
    rcases cases16 with z | z | z | z | z | z | z | z | z | z | z | z | z | z | z | z <;> subst z <;> (have h := Option.some.inj (h : some _ = some _); have := congrArg Prod.snd h; simp at this; omega)
  exact ⟨rng.1, rng.2, e1, one, e2⟩
theorem call_some {l t : List Int} {c : List (List Int)} (h : PyFlat.call PyCm06.shape l = some (c, t)) : ∃ d : Cl, d.Ok ∧ c = d.raw ∧ l = d.enc ++ t := by
  cases l with
  | nil => cases h
  | cons p r =>
    cases e : PyCm06.shape p with
    | none => simp only [PyFlat.call, e] at h; cases h
    | some q =>
      obtain ⟨n, k⟩ := q
      obtain ⟨h0, h1, e1, hk, e2⟩ := shape_some e
      simp only [PyFlat.call, e] at h
      split at h
      · cases h
      · rename_i hl
        cases e3 : PyFlat.rows k (r.drop n) with
        | none => rw [e3] at h; cases h
        | some y =>
          obtain ⟨xs, t'⟩ := y
          rw [e3] at h
          cases h
          have ln : (r.take n).length = n := by rw [List.length_take]; omega
          match k, hk, e2, e3 with
          | 0, _, e2, e3 =>
            cases e3
            have e2 : hasRow p = false := e2
            refine ⟨⟨p, r.take n, []⟩, ⟨h0, h1, by rw [e1]; exact ln, fun _ => rfl⟩, ?_, ?_⟩
            · show _ = (p :: r.take n) :: if hasRow p then [[]] else []
              rw [e2]; rfl
            · show p :: r = (p :: (r.take n ++ if hasRow p then _ else [])) ++ r.drop n
              rw [e2]
              simp
          | 1, _, e2, e3 =>
            have e2 : hasRow p = true := e2
            cases e4 : PyFlat.row (r.drop n) with
            | none =>
              unfold PyFlat.rows at e3
              rw [e4] at e3
              cases e3
            | some z =>
              obtain ⟨x, s⟩ := z
              unfold PyFlat.rows at e3
              rw [e4] at e3
              cases e3
              cases e5 : r.drop n with
              | nil => rw [e5] at e4; cases e4
              | cons m q =>
                rw [e5] at e4
                simp only [PyFlat.row] at e4
                split at e4
                · rename_i hm
                  obtain ⟨rfl, rfl⟩ := Prod.mk.inj (Option.some.inj e4)
                  refine ⟨⟨p, r.take n, q.take m.toNat⟩, ⟨h0, h1, by rw [e1]; exact ln, fun z => by rw [e2] at z; cases z⟩, ?_, ?_⟩
                  · show _ = (p :: r.take n) :: if hasRow p then [q.take m.toNat] else []
                    rw [e2]; rfl
                  · show p :: r = (p :: (r.take n ++ if hasRow p then ((q.take m.toNat).length : Int) :: q.take m.toNat else [])) ++ q.drop m.toNat
                    rw [e2]
                    have : ((q.take m.toNat).length : Int) = m := by rw [List.length_take]; omega
                    rw [if_pos rfl, this, List.cons_append, List.append_assoc, List.cons_append, List.take_append_drop, ← e5, List.take_append_drop]
                · cases e4
theorem calls_some : ∀ {f : Nat} {l : List Int} {cs : List (List (List Int))}, PyFlat.calls PyCm06.shape f l = some cs → ∃ ds : List Cl, (∀ d ∈ ds, d.Ok) ∧ cs = ds.map Cl.raw ∧ l = ds.flatMap Cl.enc
  | f, [], cs, h => by
    have : cs = [] := by
      cases f <;> (unfold PyFlat.calls at h; cases h; rfl)
    exact ⟨[], fun d hd => (by cases hd), this, rfl⟩
  | 0, _ :: _, cs, h => by cases h
  | f + 1, p :: r, cs, h => by
    unfold PyFlat.calls at h
    cases e : PyFlat.call PyCm06.shape (p :: r) with
    | none => rw [e] at h; cases h
    | some q =>
      obtain ⟨c, t⟩ := q
      rw [e] at h
      simp only at h
      cases e2 : PyFlat.calls PyCm06.shape f t with
      | none => rw [e2] at h; cases h
      | some cs' =>
        rw [e2] at h
        cases h
        obtain ⟨d, ok, e3, e4⟩ := call_some e
        obtain ⟨ds, oks, e5, e6⟩ := calls_some e2
        refine ⟨d :: ds, fun x hx => ?_, ?_, ?_⟩
        · rcases List.mem_cons.mp hx with z | z
          · exact z ▸ ok
          · exact oks x z
        · rw [List.map_cons, e3, e5]
        · rw [List.flatMap_cons, e4, e6]
/-- the numbers of a call as the specification's machine is handed them -/
def Cl.flat (c : Cl) : List Int := c.p :: (c.ns ++ c.r)
def Cl.inside (c : Cl) : Prop := (∀ z ∈ c.ns, 0 ≤ z ∧ z ≤ 4294967295) ∧ (∀ z ∈ c.r, 0 ≤ z ∧ z ≤ 4294967295) ∧ c.r.length ≤ 20
/-- the sixteen forms -/
theorem Cl.forms {c : Cl} (h : c.Ok) : (∃ k, c = ⟨0, [k], []⟩) ∨ (∃ r, c = ⟨1, [], r⟩) ∨ (∃ x n, c = ⟨2, [x, n], []⟩) ∨ (∃ x o a b, c = ⟨3, [x, o, a, b], []⟩) ∨ (∃ a, c = ⟨4, [a], []⟩) ∨ (∃ t r, c = ⟨5, [t], r⟩) ∨
    (∃ v t u n r, c = ⟨6, [v, t, u, n], r⟩) ∨ (∃ v, c = ⟨7, [v], []⟩) ∨ (∃ n r, c = ⟨8, [n], r⟩) ∨ (∃ b r, c = ⟨9, [b, r], []⟩) ∨ (∃ b p, c = ⟨10, [b, p], []⟩) ∨ c = ⟨11, [], []⟩ ∨ (∃ x y, c = ⟨12, [x, y], []⟩) ∨ c = ⟨13, [], []⟩ ∨ c = ⟨14, [], []⟩ ∨ (∃ n r, c = ⟨15, [n], r⟩) := by
  obtain ⟨p, ns, r⟩ := c
  obtain ⟨lo, hi, len, row⟩ := h
  have lo : 0 ≤ p := lo
  have hi : p ≤ 15 := hi
  have len : ns.length = numsOf p := len
  have row : hasRow p = false → r = [] := row
  have cases16 : p = 0 ∨ p = 1 ∨ p = 2 ∨ p = 3 ∨ p = 4 ∨ p = 5 ∨ p = 6 ∨ p = 7 ∨ p = 8 ∨ p = 9 ∨ p = 10 ∨ p = 11 ∨ p = 12 ∨ p = 13 ∨ p = 14 ∨ p = 15 := by omega
  have l0 : ∀ {l : List Int}, l.length = 0 → l = [] := List.eq_nil_of_length_eq_zero
  have l1 : ∀ {l : List Int}, l.length = 1 → ∃ a, l = [a] := fun {l} h => match l, h with | [a], _ => ⟨a, rfl⟩
  have l2 : ∀ {l : List Int}, l.length = 2 → ∃ a b, l = [a, b] := fun {l} h => match l, h with | [a, b], _ => ⟨a, b, rfl⟩
  have l4 : ∀ {l : List Int}, l.length = 4 → ∃ a b d e, l = [a, b, d, e] := fun {l} h => match l, h with | [a, b, d, e], _ => ⟨a, b, d, e, rfl⟩
  rcases cases16 with z | z | z | z | z | z | z | z | z | z | z | z | z | z | z | z <;> subst z
  · obtain ⟨a, rfl⟩ := l1 len; cases row rfl; exact .inl ⟨a, rfl⟩
  · cases l0 len; exact .inr (.inl ⟨r, rfl⟩)
  · obtain ⟨a, b, rfl⟩ := l2 len; cases row rfl; exact .inr (.inr (.inl ⟨a, b, rfl⟩))
  · obtain ⟨a, b, d, e, rfl⟩ := l4 len; cases row rfl; exact .inr (.inr (.inr (.inl ⟨a, b, d, e, rfl⟩)))
  · obtain ⟨a, rfl⟩ := l1 len; cases row rfl; exact .inr (.inr (.inr (.inr (.inl ⟨a, rfl⟩))))
  · obtain ⟨a, rfl⟩ := l1 len; exact .inr (.inr (.inr (.inr (.inr (.inl ⟨a, r, rfl⟩)))))
  · obtain ⟨a, b, d, e, rfl⟩ := l4 len; exact .inr (.inr (.inr (.inr (.inr (.inr (.inl ⟨a, b, d, e, r, rfl⟩))))))
  · obtain ⟨a, rfl⟩ := l1 len; cases row rfl; exact .inr (.inr (.inr (.inr (.inr (.inr (.inr (.inl ⟨a, rfl⟩)))))))
  · obtain ⟨a, rfl⟩ := l1 len; exact .inr (.inr (.inr (.inr (.inr (.inr (.inr (.inr (.inl ⟨a, r, rfl⟩))))))))
  · obtain ⟨a, b, rfl⟩ := l2 len; cases row rfl; exact .inr (.inr (.inr (.inr (.inr (.inr (.inr (.inr (.inr (.inl ⟨a, b, rfl⟩)))))))))
  · obtain ⟨a, b, rfl⟩ := l2 len; cases row rfl; exact .inr (.inr (.inr (.inr (.inr (.inr (.inr (.inr (.inr (.inr (.inl ⟨a, b, rfl⟩))))))))))
  · cases l0 len; cases row rfl; exact .inr (.inr (.inr (.inr (.inr (.inr (.inr (.inr (.inr (.inr (.inr (.inl rfl)))))))))))
  · obtain ⟨a, b, rfl⟩ := l2 len; cases row rfl; exact .inr (.inr (.inr (.inr (.inr (.inr (.inr (.inr (.inr (.inr (.inr (.inr (.inl ⟨a, b, rfl⟩))))))))))))
  · cases l0 len; cases row rfl; exact .inr (.inr (.inr (.inr (.inr (.inr (.inr (.inr (.inr (.inr (.inr (.inr (.inr (.inl rfl)))))))))))))
  · cases l0 len; cases row rfl; exact .inr (.inr (.inr (.inr (.inr (.inr (.inr (.inr (.inr (.inr (.inr (.inr (.inr (.inr (.inl rfl))))))))))))))
  · obtain ⟨a, rfl⟩ := l1 len; exact .inr (.inr (.inr (.inr (.inr (.inr (.inr (.inr (.inr (.inr (.inr (.inr (.inr (.inr (.inr ⟨a, r, rfl⟩))))))))))))))
theorem whole_raw {c : Cl} (h : c.Ok) : (PyCm06.whole c.raw).headD [] = c.flat := by
  rcases c.forms h with ⟨k, rfl⟩ | ⟨r, rfl⟩ | ⟨x, n, rfl⟩ | ⟨x, o, a, b, rfl⟩ | ⟨a, rfl⟩ | ⟨t, r, rfl⟩ | ⟨v, t, u, n, r, rfl⟩ | ⟨v, rfl⟩ | ⟨n, r, rfl⟩ | ⟨b, r, rfl⟩ | ⟨b, p, rfl⟩ | rfl | ⟨x, y, rfl⟩ | rfl | rfl | ⟨n, r, rfl⟩ <;> rfl
/-- one call's step -/
def stepC (s : Cm03.St) (c : Cl) : Cm03.St × List Int := Cm06Neutral.step s c.flat
def playC : Cm03.St → List Cl → List (List Int)
  | _, [] => []
  | s, c :: r => (stepC s c).2 :: playC (stepC s c).1 r
theorem played_eq : ∀ (ds : List Cl) (s : Cm03.St), (∀ d ∈ ds, d.Ok) → PyFlat.played (fun s c => Cm06Neutral.step s (c.headD [])) s ((ds.map Cl.raw).map PyCm06.whole) = playC s ds
  | [], _, _ => rfl
  | d :: ds, s, h => by
    have e := whole_raw (h d (List.mem_cons_self ..))
    show (Cm06Neutral.step s ((PyCm06.whole d.raw).headD [])).2 :: PyFlat.played _ (Cm06Neutral.step s ((PyCm06.whole d.raw).headD [])).1 ((ds.map Cl.raw).map PyCm06.whole) = _
    rw [e, played_eq ds _ fun x hx => h x (List.mem_cons_of_mem _ hx)]
    rfl
theorem inside_of {c : Cl} (h : c.Ok) (hb : PyInside.call PyCm06.bound c.raw = true) : c.inside := by
  unfold Cl.inside
  rcases c.forms h with ⟨k, rfl⟩ | ⟨r, rfl⟩ | ⟨x, n, rfl⟩ | ⟨x, o, a, b, rfl⟩ | ⟨a, rfl⟩ | ⟨t, r, rfl⟩ | ⟨v, t, u, n, r, rfl⟩ | ⟨v, rfl⟩ | ⟨n, r, rfl⟩ | ⟨b, r, rfl⟩ | ⟨b, p, rfl⟩ | rfl | ⟨x, y, rfl⟩ | rfl | rfl | ⟨n, r, rfl⟩ <;>
    simp [Cl.raw, hasRow, PyCm06.shape, PyInside.call, PyCm06.bound, PyInside.each, PyInside.lists, PyInside.within] at hb ⊢
  all_goals first | done | exact hb | (refine ⟨hb.2, by omega⟩) | (refine ⟨hb.1, hb.2.2, by omega⟩) | skip
/-- **what's asked of a list, and what's due**, call by call -/
theorem asked_some {l : List Int} (h : PyCm06.answers_asked l = true) : ∃ ds : List Cl, (∀ d ∈ ds, d.Ok ∧ d.inside) ∧ l = ds.flatMap Cl.enc ∧ ds ≠ [] ∧ ds.length ≤ 40 ∧ PyCm06.answers l = PyFlat.told (playC Cm06Neutral.start ds) ∧ (PyFlat.told (playC Cm06Neutral.start ds)).length ≤ 10000000 := by
  unfold PyCm06.answers_asked at h
  cases e : PyFlat.calls PyCm06.shape l.length l with
  | none => rw [e] at h; cases h
  | some raw =>
    rw [e] at h
    simp only [Bool.and_eq_true] at h
    obtain ⟨⟨⟨⟨h1, h2⟩, h3⟩, _⟩, h5⟩ := h
    obtain ⟨ds, ok, e1, e2⟩ := calls_some e
    have ans : PyCm06.answers l = PyFlat.told (playC Cm06Neutral.start ds) := by
      unfold PyCm06.answers PyCm06.calls
      rw [e]
      simp only
      rw [e1, played_eq ds _ ok]
    refine ⟨ds, fun d hd => ⟨ok d hd, ?_⟩, e2, ?_, ?_, ans, ?_⟩
    · have hb : PyInside.call PyCm06.bound d.raw = true := by
        unfold PyInside.calls at h3
        rw [e1] at h3
        exact List.all_eq_true.mp h3 _ (List.mem_map_of_mem hd)
      exact inside_of (ok d hd) hb
    · intro z
      subst z
      rw [e1] at h1
      simp at h1
    · have := of_decide_eq_true h2
      rw [e1, List.length_map] at this
      exact this
    · rw [← ans]
      exact of_decide_eq_true h5
/-- lists of whole numbers that aren't below 0 -/
def zs (l : List Nat) : List Int := l.map fun (n : Nat) => (n : Int)
theorem zs_of : ∀ {l : List Int}, (∀ z ∈ l, 0 ≤ z ∧ z ≤ 4294967295) → ∃ m : List Nat, l = zs m ∧ ∀ n ∈ m, n ≤ 4294967295
  | [], _ => ⟨[], rfl, fun n h => by cases h⟩
  | z :: l, h => by
    obtain ⟨m, e, b⟩ := zs_of (l := l) fun y hy => h y (List.mem_cons_of_mem _ hy)
    have hz := h z (List.mem_cons_self ..)
    refine ⟨z.toNat :: m, ?_, fun n hn => ?_⟩
    · show z :: l = ((z.toNat : Nat) : Int) :: zs m
      rw [e, Int.toNat_of_nonneg hz.1]
    · rcases List.mem_cons.mp hn with q | q
      · omega
      · exact b n q
theorem zs_toNat (l : List Nat) : (zs l).map Int.toNat = l := by
  unfold zs
  rw [List.map_map]
  have : (Int.toNat ∘ fun (n : Nat) => (n : Int)) = id := funext fun n => Int.toNat_natCast n
  rw [this, List.map_id]
theorem zs_len (l : List Nat) : (zs l).length = l.length := List.length_map ..
theorem nat_ok {n : Nat} (h : n ≤ 4294967295) : Cm06Neutral.nat (n : Int) = true := by
  unfold Cm06Neutral.nat
  rw [Bool.and_eq_true, decide_eq_true_iff, decide_eq_true_iff]
  omega
theorem zs_nat {l : List Nat} (h : ∀ n ∈ l, n ≤ 4294967295) : (zs l).all Cm06Neutral.nat = true := by
  refine List.all_eq_true.mpr fun z hz => ?_
  obtain ⟨n, hn, rfl⟩ := List.mem_map.mp hz
  exact nat_ok (h n hn)
theorem le_15 {p : Nat} (hp : p ≤ 15) : p ≤ 4294967295 := by omega
theorem flat_nat {p : Nat} {ns rs : List Nat} (hp' : p ≤ 4294967295) (h1 : ∀ n ∈ ns, n ≤ 4294967295) (h2 : ∀ n ∈ rs, n ≤ 4294967295) : ((p : Int) :: (zs ns ++ zs rs)).all Cm06Neutral.nat = true := by
    rw [List.all_cons, List.all_append, zs_nat h1, zs_nat h2, nat_ok hp', Bool.and_self, Bool.and_self]
theorem flat_toNat {p : Nat} {ns rs : List Nat} : ((p : Int) :: (zs ns ++ zs rs)).map Int.toNat = p :: (ns ++ rs) := by
    rw [List.map_cons, List.map_append, zs_toNat, zs_toNat, Int.toNat_natCast]
theorem callOf_of {l : List Int} {m : List Nat} {x : Cm06.Call} (a : l.all Cm06Neutral.nat = true) (b : l.map Int.toNat = m) (hx : Cm06Neutral.callIn m = some x) : Cm06Neutral.callOf l = some x := by
    unfold Cm06Neutral.callOf
    rw [a, b, hx, if_neg (fun z => Bool.noConfusion z)]
theorem stepC_of {s : Cm03.St} {c : Cl} {l : List Int} {x : Cm06.Call} (fl : c.flat = l) (e : Cm06Neutral.callOf l = some x) : stepC s c = Cm06.step s x := by
  unfold stepC Cm06Neutral.step
  rw [fl, e]
theorem stepC_nat {s : Cm03.St} {p : Nat} {ns rs : List Nat} {x : Cm06.Call} (hp : p ≤ 15) (h1 : ∀ n ∈ ns, n ≤ 4294967295) (h2 : ∀ n ∈ rs, n ≤ 4294967295) (hx : Cm06Neutral.callIn (p :: (ns ++ rs)) = some x) :
    stepC s ⟨(p : Int), zs ns, zs rs⟩ = Cm06.step s x := stepC_of rfl (callOf_of (flat_nat (le_15 hp) h1 h2) flat_toNat hx)
/-- **every call's form and its step** -/
inductive Form (s : Cm03.St) : Cl → Cm06.Call → Prop
  | code (k : Nat) : Form s ⟨0, zs [k], zs []⟩ (.write (.code k))
  | block (r : List Nat) : r.length ≤ 20 → Form s ⟨1, zs [], zs r⟩ (.write (.block r))
  | num (x n : Nat) : n ≤ 4294967295 → Form s ⟨2, zs [x, n], zs []⟩ (.write (.num x n))
  | two (x o a b : Nat) : Form s ⟨3, zs [x, o, a, b], zs []⟩ (.write (.two x o a b))
  | say (a : Nat) : Form s ⟨4, zs [a], zs []⟩ (.write (.say a))
  | jump (t : Nat) (r : List Nat) : r.length ≤ 20 → Form s ⟨5, zs [t], zs r⟩ (.write (.jump t r))
  | fork (v t u n : Nat) (r : List Nat) : r.length ≤ 20 → Form s ⟨6, zs [v, t, u, n], zs r⟩ (.write (.fork v t u n r))
  | give (v : Nat) : Form s ⟨7, zs [v], zs []⟩ (.write (.give v))
  | run (n : Nat) (r : List Nat) : r.length ≤ 20 → (∀ z ∈ r, z ≤ 4294967295) → Form s ⟨8, zs [n], zs r⟩ (.write (.run n r))
  | lives (b r : Nat) : Form s ⟨9, zs [b, r], zs []⟩ (.lives b r)
  | there (b p : Nat) : Form s ⟨10, zs [b, p], zs []⟩ (.there b p)
  | most : Form s ⟨11, zs [], zs []⟩ .most
  | together (x y : Nat) : Form s ⟨12, zs [x, y], zs []⟩ (.together x y)
  | registers : Form s ⟨13, zs [], zs []⟩ .registers
  | inRegisters : Form s ⟨14, zs [], zs []⟩ .inRegisters
  | runRegisters (n : Nat) (r : List Nat) : r.length ≤ 20 → (∀ z ∈ r, z ≤ 4294967295) → Form s ⟨15, zs [n], zs r⟩ (.runRegisters n r)
theorem form_of {s : Cm03.St} {c : Cl} (h : c.Ok) (hi : c.inside) : ∃ x, Form s c x ∧ stepC s c = Cm06.step s x := by
  obtain ⟨p, ns, r⟩ := c
  obtain ⟨i1, i2, i3⟩ := hi
  obtain ⟨ms, e1, b1⟩ := zs_of (show ∀ z ∈ ns, 0 ≤ z ∧ z ≤ 4294967295 from i1)
  obtain ⟨rs, e2, b2⟩ := zs_of (show ∀ z ∈ r, 0 ≤ z ∧ z ≤ 4294967295 from i2)
  have i3 : r.length ≤ 20 := i3
  subst e1 e2
  rw [zs_len] at i3
  have z0 : ∀ {l : List Nat}, zs l = [] → l = [] := fun {l} h => List.map_eq_nil_iff.mp h
  have z1 : ∀ {l : List Nat} {a : Int}, zs l = [a] → ∃ n, l = [n] := fun {l a} h => match l, h with | [n], _ => ⟨n, rfl⟩
  have z2 : ∀ {l : List Nat} {a b : Int}, zs l = [a, b] → ∃ n m, l = [n, m] := fun {l a b} h => match l, h with | [n, m], _ => ⟨n, m, rfl⟩
  have z4 : ∀ {l : List Nat} {a b d e : Int}, zs l = [a, b, d, e] → ∃ n m o q, l = [n, m, o, q] := fun {l a b d e} h => match l, h with | [n, m, o, q], _ => ⟨n, m, o, q, rfl⟩
  rcases Cl.forms h with ⟨k, e⟩ | ⟨r, e⟩ | ⟨x, n, e⟩ | ⟨x, o, a, b, e⟩ | ⟨a, e⟩ | ⟨t, r, e⟩ | ⟨v, t, u, n, r, e⟩ | ⟨v, e⟩ | ⟨n, r, e⟩ | ⟨b, r, e⟩ | ⟨b, p, e⟩ | e | ⟨x, y, e⟩ | e | e | ⟨n, r, e⟩ <;>
    (obtain ⟨rfl, e1, e2⟩ := Cl.mk.inj e)
  · obtain ⟨k, rfl⟩ := z1 e1; cases z0 e2
    exact ⟨_, .code k, stepC_nat (p := 0) (by decide) b1 b2 (by simp [Cm06Neutral.callIn])⟩
  · cases z0 e1
    exact ⟨_, .block rs i3, stepC_nat (p := 1) (by decide) b1 b2 (by simp [Cm06Neutral.callIn])⟩
  · obtain ⟨x, n, rfl⟩ := z2 e1; cases z0 e2
    exact ⟨_, .num x n (b1 n (by simp)), stepC_nat (p := 2) (by decide) b1 b2 (by simp [Cm06Neutral.callIn])⟩
  · obtain ⟨x, o, a, b, rfl⟩ := z4 e1; cases z0 e2
    exact ⟨_, .two x o a b, stepC_nat (p := 3) (by decide) b1 b2 (by simp [Cm06Neutral.callIn])⟩
  · obtain ⟨a, rfl⟩ := z1 e1; cases z0 e2
    exact ⟨_, .say a, stepC_nat (p := 4) (by decide) b1 b2 (by simp [Cm06Neutral.callIn])⟩
  · obtain ⟨t, rfl⟩ := z1 e1
    exact ⟨_, .jump t rs i3, stepC_nat (p := 5) (by decide) b1 b2 (by simp [Cm06Neutral.callIn])⟩
  · obtain ⟨v, t, u, n, rfl⟩ := z4 e1
    exact ⟨_, .fork v t u n rs i3, stepC_nat (p := 6) (by decide) b1 b2 (by simp [Cm06Neutral.callIn])⟩
  · obtain ⟨v, rfl⟩ := z1 e1; cases z0 e2
    exact ⟨_, .give v, stepC_nat (p := 7) (by decide) b1 b2 (by simp [Cm06Neutral.callIn])⟩
  · obtain ⟨n, rfl⟩ := z1 e1
    exact ⟨_, .run n rs i3 b2, stepC_nat (p := 8) (by decide) b1 b2 (by simp [Cm06Neutral.callIn])⟩
  · obtain ⟨x, n, rfl⟩ := z2 e1; cases z0 e2
    exact ⟨_, .lives x n, stepC_nat (p := 9) (by decide) b1 b2 (by simp [Cm06Neutral.callIn])⟩
  · obtain ⟨x, n, rfl⟩ := z2 e1; cases z0 e2
    exact ⟨_, .there x n, stepC_nat (p := 10) (by decide) b1 b2 (by simp [Cm06Neutral.callIn])⟩
  · cases z0 e1; cases z0 e2
    exact ⟨_, .most, stepC_nat (p := 11) (by decide) b1 b2 (by simp [Cm06Neutral.callIn])⟩
  · obtain ⟨x, n, rfl⟩ := z2 e1; cases z0 e2
    exact ⟨_, .together x n, stepC_nat (p := 12) (by decide) b1 b2 (by simp [Cm06Neutral.callIn])⟩
  · cases z0 e1; cases z0 e2
    exact ⟨_, .registers, stepC_nat (p := 13) (by decide) b1 b2 (by simp [Cm06Neutral.callIn])⟩
  · cases z0 e1; cases z0 e2
    exact ⟨_, .inRegisters, stepC_nat (p := 14) (by decide) b1 b2 (by simp [Cm06Neutral.callIn])⟩
  · obtain ⟨n, rfl⟩ := z1 e1
    exact ⟨_, .runRegisters n rs i3 b2, stepC_nat (p := 15) (by decide) b1 b2 (by simp [Cm06Neutral.callIn])⟩
end VS
/-! Bounds that hold of every state; words. Plain Lean, no model. -/
namespace VS
open CmBase
structure RowOk (r : Row) : Prop where
  plain : Cm03.isCopy r = false
  gives : ∀ x, r.gives = some x → x < 40
  uses : ∀ x ∈ r.uses, x < 40
  word : ∀ x k, r = .num x k → k < W
structure EndOk (e : CmBase.End) : Prop where
  uses : ∀ x ∈ e.uses, x < 40
  few : e.uses.length ≤ 17
  to : ∀ t ∈ e.targets, 1 ≤ t ∧ t < 10
structure BodyOk (ts : List Nat) (l : List Row) : Prop where
  few : ts.length ≤ 8
  takes : ∀ x ∈ ts, x < 40
  len : l.length ≤ 12
  rows : ∀ r ∈ l, RowOk r
structure StOk (s : Cm03.St) : Prop where
  args : s.code.args ≤ 6
  len : s.code.blocks.length + s.opened.toList.length ≤ 10
  blocks : ∀ b ∈ s.code.blocks, BodyOk b.takes b.rows ∧ EndOk b.last
  opened : ∀ ts l, s.opened = some (ts, l) → BodyOk ts l
theorem init_ok : StOk Cm03.init := ⟨Nat.zero_le _, Nat.zero_le _, fun b h => (by cases h), fun ts l h => (by cases h)⟩
theorem all_lt {l : List Nat} (h : ¬ l.all Cm03.isName = false) : ∀ x ∈ l, x < 40 := by
  have : l.all Cm03.isName = true := by simpa using h
  intro x hx
  exact of_decide_eq_true (List.all_eq_true.mp this x hx)
theorem rowed_ok {s : Cm03.St} {r : Row} (h : StOk s) (hp : Cm03.isCopy r = false) (hw : ∀ x k, r = .num x k → k < W) : StOk (Cm03.rowed s r).1 := by
  unfold Cm03.rowed
  split
  · exact h
  · rename_i ts l e
    have b := h.opened ts l e
    split
    · exact h
    · rename_i hn
      split
      · exact h
      · rename_i hl
        have lt := all_lt hn
        refine ⟨h.args, ?_, h.blocks, fun ts' l' e' => ?_⟩
        · have := h.len
          rw [e] at this
          exact this
        · obtain ⟨rfl, rfl⟩ := Prod.mk.inj (Option.some.inj e')
          refine ⟨b.few, b.takes, by rw [List.length_append]; simp; omega, fun x hx => ?_⟩
          rcases List.mem_append.mp hx with hx | hx
          · exact b.rows x hx
          · have : x = r := by simpa using hx
            subst this
            refine ⟨hp, fun y hy => lt y (List.mem_append_left _ (by rw [hy]; simp)), fun y hy => lt y (List.mem_append_right _ hy), hw⟩
theorem ended_ok {s : Cm03.St} {e : CmBase.End} (h : StOk s) (hf : e.uses.length ≤ 17) : StOk (Cm03.ended s e).1 := by
  unfold Cm03.ended
  split
  · exact h
  · rename_i ts l eo
    have b := h.opened ts l eo
    split
    · exact h
    · rename_i hn
      have hn' : (e.uses.all Cm03.isName && e.targets.all Cm03.isTarget) = true := by simpa using hn
      obtain ⟨h1, h2⟩ := Bool.and_eq_true_iff.mp hn'
      refine ⟨h.args, ?_, fun b' hb => ?_, fun ts' l' e' => by cases e'⟩
      · have := h.len
        rw [eo] at this
        show (s.code.blocks ++ [_]).length + 0 ≤ 10
        rw [List.length_append]
        exact this
      · rcases List.mem_append.mp hb with hb | hb
        · exact h.blocks b' hb
        · have : b' = ⟨ts, l, e⟩ := by simpa using hb
          subst this
          refine ⟨b, fun x hx => of_decide_eq_true (List.all_eq_true.mp h1 x hx), hf, fun t ht => ?_⟩
          have q := List.all_eq_true.mp h2 t ht
          unfold Cm03.isTarget at q
          obtain ⟨q1, q2⟩ := Bool.and_eq_true_iff.mp q
          exact ⟨of_decide_eq_true q1, of_decide_eq_true q2⟩
theorem ended_shut {s : Cm03.St} {e : CmBase.End} (h : s.opened = none) : (Cm03.ended s e).1 = s := by
  unfold Cm03.ended
  rw [h]
theorem step_ok {s : Cm03.St} {c : Cl} {x : Cm06.Call} (h : StOk s) (f : Form s c x) : StOk (Cm06.step s x).1 := by
  cases f with
  | code k =>
    show StOk (if 6 < k then (s, [-1]) else (⟨⟨k, []⟩, none⟩, Cm03.ints [k]) : Cm03.St × List Int).1
    split
    · exact h
    · exact ⟨by show k ≤ 6; omega, Nat.zero_le _, fun b hb => (by cases hb), fun ts l e => (by cases e)⟩
  | block r hr =>
    show StOk (if s.opened.isSome = true then (s, [-3]) else if r.all Cm03.isName = false then (s, [-2]) else if 10 ≤ s.code.blocks.length ∨ 8 < r.length then (s, [-1]) else (⟨s.code, some (r, [])⟩, Cm03.ints [s.code.blocks.length]) : Cm03.St × List Int).1
    split
    · exact h
    · split
      · exact h
      · split
        · exact h
        · rename_i h1 h2 h3
          refine ⟨h.args, ?_, h.blocks, fun ts l e => ?_⟩
          · show s.code.blocks.length + 1 ≤ 10
            omega
          · obtain ⟨rfl, rfl⟩ := Prod.mk.inj (Option.some.inj e)
            exact ⟨by omega, all_lt h2, Nat.zero_le _, fun r hr => by cases hr⟩
  | num x n hn => exact rowed_ok h rfl fun y k e => by cases e; show n < 4294967296; omega
  | two x o a b =>
    show StOk (match s.opened, opOf o with
      | none, _ => (s, [-3])
      | some _, none => (s, [-4])
      | some _, some p => Cm03.rowed s (.two x p a b) : Cm03.St × List Int).1
    split
    · exact h
    · exact h
    · exact rowed_ok h rfl fun y k e => by cases e
  | say a => exact rowed_ok h rfl fun y k e => by cases e
  | jump t r hr =>
    show StOk (if s.opened.isSome = true ∧ 8 < r.length then (s, [-1]) else Cm03.ended s (.jump t r) : Cm03.St × List Int).1
    split
    · exact h
    · rename_i q
      cases e : s.opened with
      | none =>
        rw [ended_shut e]
        exact h
      | some z =>
        refine ended_ok h ?_
        show r.length ≤ 17
        have : ¬ 8 < r.length := fun w => q ⟨by rw [e]; rfl, w⟩
        omega
  | fork v t u n r hr =>
    show StOk (if s.opened.isSome = true ∧ (r.length < n ∨ 16 < r.length) then (s, [-1]) else Cm03.ended s (.fork v t (r.take n) u (r.drop n)) : Cm03.St × List Int).1
    split
    · exact h
    · rename_i q
      cases e : s.opened with
      | none =>
        rw [ended_shut e]
        exact h
      | some z =>
        refine ended_ok h ?_
        show (v :: r.take n ++ r.drop n).length ≤ 17
        rw [List.cons_append, List.take_append_drop, List.length_cons]
        have : ¬ (r.length < n ∨ 16 < r.length) := fun w => q ⟨by rw [e]; rfl, w⟩
        omega
  | give v => exact ended_ok h (by show 1 ≤ 17; decide)
  | run n r _ _ => exact h
  | lives b r => exact h
  | there b p => exact h
  | most => exact h
  | together x y => exact h
  | registers => exact h
  | inRegisters => exact h
  | runRegisters n r _ _ => exact h
/-! ### words -/
theorem look_put (e : Env) (x v y : Nat) : look (put e x v) y = if y = x then v else look e y := by
  unfold look put
  rw [List.getD_eq_getElem?_getD, List.getD_eq_getElem?_getD]
  split
  · rename_i hx
    rw [List.getElem?_set]
    by_cases h : x = y
    · subst h
      rw [if_pos rfl, if_pos rfl, if_pos hx]
      rfl
    · rw [if_neg h, if_neg (Ne.symm h)]
  · rename_i hx
    by_cases h : y < e.length
    · rw [List.getElem?_append_left h, if_neg (by omega)]
    · rw [List.getElem?_append_right (by omega), List.getElem?_eq_none (l := e) (by omega)]
      by_cases h2 : y - e.length < x - e.length
      · rw [List.getElem?_append_left (by rw [List.length_replicate]; exact h2), List.getElem?_replicate, if_pos h2, if_neg (by omega)]
        rfl
      · rw [List.getElem?_append_right (by rw [List.length_replicate]; omega), List.length_replicate]
        by_cases h3 : y = x
        · subst h3
          rw [Nat.sub_self, if_pos rfl]
          first | done | rfl
        · rw [if_neg h3, List.getElem?_eq_none (by simp; omega)]
theorem make_lt {o : Op} {a b v : Nat} (ha : a < W) (hb : b < W) (h : o.make a b = some v) : v < W := by
  have w0 : (0 : Nat) < W := by decide
  have w2 : W = 2 ^ 32 := by decide
  cases o with
  | add => cases h; exact Nat.mod_lt _ w0
  | sub => cases h; exact Nat.mod_lt _ w0
  | mul => cases h; exact Nat.mod_lt _ w0
  | and => cases h; exact Nat.lt_of_le_of_lt Nat.and_le_left ha
  | or => cases h; rw [w2] at *; exact Nat.or_lt_two_pow ha hb
  | xor => cases h; rw [w2] at *; exact Nat.xor_lt_two_pow ha hb
  | shl => cases h; exact Nat.mod_lt _ w0
  | shr => cases h; exact Nat.lt_of_le_of_lt (Nat.div_le_self _ _) ha
  | below =>
    cases h
    split <;> decide
  | same =>
    cases h
    split <;> decide
  | div =>
    have h : (if b = 0 then none else some (a / b)) = some v := h
    split at h
    · cases h
    · cases h
      exact Nat.lt_of_le_of_lt (Nat.div_le_self _ _) ha
/-- all words are words -/
def Words (e : Env) : Prop := ∀ x, look e x < W
theorem Words.put {e : Env} (h : Words e) {x v : Nat} (hv : v < W) : Words (put e x v) := fun y => by
  rw [look_put]
  split
  · exact hv
  · exact h y
theorem words_puts : ∀ {xs vs : List Nat} {e : Env}, Words e → (∀ v ∈ vs, v < W) → Words (CmBase.puts e xs vs)
  | [], vs, e, h, _ => h
  | x :: xs, [], e, h, _ => h
  | x :: xs, v :: vs, e, h, hv => by
    show Words (CmBase.puts (CmBase.put e x v) xs vs)
    exact words_puts (Words.put h (hv v (List.mem_cons_self ..))) fun u hu => hv u (List.mem_cons_of_mem _ hu)
theorem Words.hand {e : Env} {xs as : List Nat} (h : Words e) : Words (CmBase.hand e xs as) := words_puts h fun v hv => by
  obtain ⟨a, _, rfl⟩ := List.mem_map.mp hv
  exact h a
theorem Words.args {l : List Nat} (h : ∀ z ∈ l, z ≤ 4294967295) : Words l := fun x => by
  unfold look
  rw [List.getD_eq_getElem?_getD]
  cases e : l[x]? with
  | none => decide
  | some z =>
    have := h z (List.mem_of_getElem? e)
    show z < 4294967296
    omega
end VS
/-! Evaluations that are lacking in Evl: values by a word of theirs, nested lists, lists put together, sets, dicts. -/
namespace VS
open PySem L2 Evl CmBase
/-- evaluates to something of which P holds then; P stands on -/
def EvP (te : TE) (σ : L2.St) (H : Hp) (P : V → Hp → Prop) : Prop := ∀ H1, Ex H H1 → ∀ Q : VK, (∀ v H2, Ex H1 H2 → P v H2 → Q v H2) → te σ H1 Q
/-- evaluates to a new list of things of which P holds -/
def EvN (te : TE) (σ : L2.St) (H : Hp) (P : List V → Hp → Prop) : Prop := ∀ H1, Ex H H1 → ∀ Q : VK, (∀ p vs H2, H1 p = none → Ex H1 H2 → H2 p = some (.lst vs) → P vs H2 → Q (.ref p) H2) → te σ H1 Q
def SpP (sp : Sp) (vs : List V) (H : Hp) (P : V → Hp → Prop) : Prop := ∀ H1, Ex H H1 → ∀ Q : VK, (∀ v H2, Ex H1 H2 → P v H2 → Q v H2) → ∀ E : XK, sp vs H1 Q E
def SpN (sp : Sp) (vs : List V) (H : Hp) (P : List V → Hp → Prop) : Prop := ∀ H1, Ex H H1 → ∀ Q : VK, (∀ p vs' H2, H1 p = none → Ex H1 H2 → H2 p = some (.lst vs') → P vs' H2 → Q (.ref p) H2) → ∀ E : XK, sp vs H1 Q E
section
variable {K : PySem.W.Frag} {σ : L2.St} {H H' : Hp} {ta tb te tl tx : TE} {t u : TT} {x y z v : V} {r : R2} {D : Ends} {tz tu : TS}
theorem EvP.mono {P : V → Hp → Prop} (e : Ex H H') (h : EvP te σ H P) : EvP te σ H' P := fun H1 a Q q => h H1 (e.trans a) Q q
theorem EvN.mono {P : List V → Hp → Prop} (e : Ex H H') (h : EvN te σ H P) : EvN te σ H' P := fun H1 a Q q => h H1 (e.trans a) Q q
theorem EvL.p {xs : List V} (h : EvL te σ H xs) : EvP te σ H fun v H' => ∃ p, v = .ref p ∧ H' p = some (.lst xs) := fun H1 e Q q => h H1 e Q fun p H2 _ e2 hp => q _ H2 e2 ⟨p, rfl, hp⟩
theorem EvL.n {xs : List V} (h : EvL te σ H xs) : EvN te σ H fun vs _ => vs = xs := fun H1 e Q q => h H1 e Q fun p H2 hn e2 hp => q p xs H2 hn e2 hp rfl
theorem EvN.p {P : List V → Hp → Prop} (h : EvN te σ H P) : EvP te σ H fun v H' => ∃ p vs, v = .ref p ∧ H' p = some (.lst vs) ∧ P vs H' := fun H1 e Q q => h H1 e Q fun p vs H2 _ e2 hp hP => q _ H2 e2 ⟨p, vs, rfl, hp, hP⟩
theorem ep_call {sp : Sp} {dvs vs : List V} {E : XK} {tA : TA} {P : V → Hp → Prop} (h : EvA tA σ H vs) (hs : SpP sp (vs ++ dvs) H P) : EvP (tCall sp dvs E tA) σ H P := fun H1 e Q q =>
  h H1 e _ fun H2 e2 => hs H2 (e.trans e2) Q (fun w H3 e3 p => q w H3 (e2.trans e3) p) E
theorem en_call {sp : Sp} {dvs vs : List V} {E : XK} {tA : TA} {P : List V → Hp → Prop} (h : EvA tA σ H vs) (hs : SpN sp (vs ++ dvs) H P) : EvN (tCall sp dvs E tA) σ H P := fun H1 e Q q =>
  h H1 e _ fun H2 e2 => hs H2 (e.trans e2) Q (fun p ws H3 hn e3 hp hP => q p ws H3 (fresh_back e2 hn) (e2.trans e3) hp hP) E
/-- arguments of which the last ones are new: what holds of them -/
def EvAP (tA : TA) (σ : L2.St) (H : Hp) (P : List V → Hp → Prop) : Prop := ∀ H1, Ex H H1 → ∀ Q : List V → Hp → Prop, (∀ vs H2, Ex H1 H2 → P vs H2 → Q vs H2) → tA σ H1 Q
theorem EvA.p {tA : TA} {vs : List V} (h : EvA tA σ H vs) : EvAP tA σ H fun ws _ => ws = vs := fun H1 e Q q => h H1 e Q fun H2 e2 => q vs H2 e2 rfl
theorem ap_nil : EvAP tNil σ H fun ws _ => ws = [] := VS.EvA.p ea_nil
theorem ap_cons {tr : TA} {P : V → Hp → Prop} {R : List V → Hp → Prop} (st : ∀ v H1 H2, Ex H1 H2 → P v H1 → P v H2) (h : EvP te σ H P) (hr : EvAP tr σ H R) : EvAP (tCons te tr) σ H fun ws H' => ∃ w l, ws = w :: l ∧ P w H' ∧ R l H' := fun H1 e Q q =>
  h H1 e _ fun w H2 e2 hP => hr H2 (e.trans e2) _ fun l H3 e3 hR => q _ H3 (e2.trans e3) ⟨w, l, rfl, st w H2 H3 e3 hP, hR⟩
/-- a call whose arguments are told by a word -/
theorem ev_callP {sp : Sp} {E : XK} {tA : TA} {P : List V → Hp → Prop} (h : EvAP tA σ H P) (hs : ∀ vs H1, Ex H H1 → P vs H1 → SpV sp vs H1 z) : Ev (tCall sp [] E tA) σ H z := fun H1 e Q q =>
  h H1 e _ fun vs H2 e2 hP => by
    rw [List.append_nil]
    exact hs vs H2 (e.trans e2) hP H2 (Ex.refl H2) Q (fun H3 e3 => q H3 (e2.trans e3)) E
theorem el_callP {sp : Sp} {E : XK} {tA : TA} {P : List V → Hp → Prop} {xs : List V} (h : EvAP tA σ H P) (hs : ∀ vs H1, Ex H H1 → P vs H1 → SpL sp vs H1 xs) : EvL (tCall sp [] E tA) σ H xs := fun H1 e Q q =>
  h H1 e _ fun vs H2 e2 hP => by
    rw [List.append_nil]
    exact hs vs H2 (e.trans e2) hP H2 (Ex.refl H2) Q (fun p H3 hn e3 hp => q p H3 (fresh_back e2 hn) (e2.trans e3) hp) E
theorem en_callP {sp : Sp} {E : XK} {tA : TA} {P R : List V → Hp → Prop} (h : EvAP tA σ H P) (hs : ∀ vs H1, Ex H H1 → P vs H1 → SpN sp vs H1 R) : EvN (tCall sp [] E tA) σ H R := fun H1 e Q q =>
  h H1 e _ fun vs H2 e2 hP => by
    rw [List.append_nil]
    exact hs vs H2 (e.trans e2) hP H2 (Ex.refl H2) Q (fun p ws H3 hn e3 hp hR => q p ws H3 (fresh_back e2 hn) (e2.trans e3) hp hR) E
theorem ep_callP {sp : Sp} {E : XK} {tA : TA} {P : List V → Hp → Prop} {R : V → Hp → Prop} (h : EvAP tA σ H P) (hs : ∀ vs H1, Ex H H1 → P vs H1 → SpP sp vs H1 R) : EvP (tCall sp [] E tA) σ H R := fun H1 e Q q =>
  h H1 e _ fun vs H2 e2 hP => by
    rw [List.append_nil]
    exact hs vs H2 (e.trans e2) hP H2 (Ex.refl H2) Q (fun w H3 e3 hR => q w H3 (e2.trans e3) hR) E
/-- an operation whose operands are told by a word -/
theorem ev_opP {P R : V → Hp → Prop} (st : ∀ v H1 H2, Ex H1 H2 → P v H1 → P v H2) (ha : EvP ta σ H P) (hb : EvP tb σ H R) (hr : ∀ a b H1, Ex H H1 → P a H1 → R b H1 → RV r a b H1 z) : Ev (tOp r ta tb) σ H z := fun H1 e Q q =>
  ha H1 e _ fun a H2 e2 hP => hb H2 (e.trans e2) _ fun b H3 e3 hR => hr a b H3 ((e.trans e2).trans e3) (st a H2 H3 e3 hP) hR H3 (Ex.refl H3) Q fun H4 e4 => q H4 ((e2.trans e3).trans e4)
theorem Ev.p (h : Ev te σ H v) : EvP te σ H fun w _ => w = v := fun H1 e Q q => h H1 e Q fun H2 e2 => q v H2 e2 rfl
theorem st_eq : ∀ (w : V) (H1 H2 : Hp), Ex H1 H2 → w = v → w = v := fun _ _ _ _ h => h
theorem EvP.weak {P R : V → Hp → Prop} (h : EvP te σ H P) (k : ∀ v H', Ex H H' → P v H' → R v H') : EvP te σ H R := fun H1 e Q q => h H1 e Q fun v H2 e2 hP => q v H2 e2 (k v H2 (e.trans e2) hP)
/-! ### if, of lists -/
theorem el_if {b : Bool} {xs : List V} (h : EvT t σ H b) (h1 : b = true → EvL ta σ H xs) (h2 : b = false → EvL tb σ H xs) : EvL (tIf t ta tb) σ H xs := fun H1 e Q q => h H1 e _ fun H2 e2 => by
  cases b with
  | true => exact h1 rfl H2 (e.trans e2) Q fun p H3 hn e3 hp => q p H3 (fresh_back e2 hn) (e2.trans e3) hp
  | false => exact h2 rfl H2 (e.trans e2) Q fun p H3 hn e3 hp => q p H3 (fresh_back e2 hn) (e2.trans e3) hp
theorem el_is {xs ys : List V} (h : EvL te σ H xs) (e : xs = ys) : EvL te σ H ys := e ▸ h
/-! ### lists put together -/
theorem el_cat {xs ys : List V} (ha : EvL ta σ H xs) (hb : EvL tb σ H ys) (hz : xs.length + ys.length ≤ 100000) : EvL (tOp rCat ta tb) σ H (xs ++ ys) := fun H1 e Q q =>
  ha H1 e _ fun a H2 _ e2 h2 => hb H2 (e.trans e2) _ fun b H3 _ e3 h3 => ⟨a, b, xs, ys, rfl, rfl, e3 a _ h2, h3, sz_of hz, fun p hp => q p _ (fresh_back (e2.trans e3) hp) ((e2.trans e3).trans (Ex.new hp)) upd_same⟩
/-- the first one stands already -/
theorem el_catV {xs ys : List V} {a : Addr} (ha : Ev ta σ H (.ref a)) (h1 : H a = some (.lst xs)) (hb : EvL tb σ H ys) (hz : xs.length + ys.length ≤ 100000) : EvL (tOp rCat ta tb) σ H (xs ++ ys) := fun H1 e Q q =>
  ha H1 e _ fun H2 e2 => hb H2 (e.trans e2) _ fun b H3 _ e3 h3 => ⟨a, b, xs, ys, rfl, rfl, ((e.trans e2).trans e3) a _ h1, h3, sz_of hz, fun p hp => q p _ (fresh_back (e2.trans e3) hp) ((e2.trans e3).trans (Ex.new hp)) upd_same⟩
/-- the second one stands already -/
theorem el_catL {xs ys : List V} {b : Addr} (ha : EvL ta σ H xs) (hb : Ev tb σ H (.ref b)) (h1 : H b = some (.lst ys)) (hz : xs.length + ys.length ≤ 100000) : EvL (tOp rCat ta tb) σ H (xs ++ ys) := fun H1 e Q q =>
  ha H1 e _ fun a H2 _ e2 h2 => hb H2 (e.trans e2) _ fun H3 e3 => ⟨a, b, xs, ys, rfl, rfl, e3 a _ h2, ((e.trans e2).trans e3) b _ h1, sz_of hz, fun p hp => q p _ (fresh_back (e2.trans e3) hp) ((e2.trans e3).trans (Ex.new hp)) upd_same⟩
theorem el_catVV {xs ys : List V} {a b : Addr} (ha : Ev ta σ H (.ref a)) (h1 : H a = some (.lst xs)) (hb : Ev tb σ H (.ref b)) (h2 : H b = some (.lst ys)) (hz : xs.length + ys.length ≤ 100000) : EvL (tOp rCat ta tb) σ H (xs ++ ys) := fun H1 e Q q =>
  ha H1 e _ fun H2 e2 => hb H2 (e.trans e2) _ fun H3 e3 => ⟨a, b, xs, ys, rfl, rfl, ((e.trans e2).trans e3) a _ h1, ((e.trans e2).trans e3) b _ h2, sz_of hz, fun p hp => q p _ (fresh_back (e2.trans e3) hp) ((e2.trans e3).trans (Ex.new hp)) upd_same⟩
theorem el_rep {xs : List V} {n : Nat} (ha : EvL ta σ H xs) (hb : Ev tb σ H (.int (n : Int))) (hz : xs.length * n ≤ 100000) (hn : n ≤ 100000) : EvL (tOp rRep ta tb) σ H (List.replicate n xs).flatten := fun H1 e Q q =>
  ha H1 e _ fun a H2 _ e2 h2 => hb H2 (e.trans e2) _ fun H3 e3 => ⟨a, n, xs, rfl, rfl, e3 a _ h2, by omega, by omega, sz_of (by simpa using hz), fun p hp => q p _ (fresh_back (e2.trans e3) hp) ((e2.trans e3).trans (Ex.new hp)) (by simpa using upd_same)⟩
/-- list(a tuple) -/
theorem el_listT {p : Addr} {xs : List V} (ha : Ev ta σ H (.ref p)) (h : SqT K H p xs) : EvL (tCB (rListS K) (tCons ta tNil)) σ H xs := fun H1 e Q q =>
  ha H1 e _ fun H2 e2 => ⟨p, xs, rfl, Or.inr (ex_t (e.trans e2) h), fun l hl => q l _ (fresh_back e2 hl) (e2.trans (Ex.new hl)) upd_same⟩
theorem ev_lenT {p : Addr} {xs : List V} (ha : Ev ta σ H (.ref p)) (h : SqT K H p xs) : Ev (tCB (rLenS K) (tCons ta tNil)) σ H (.int (xs.length : Int)) := fun H1 e Q q =>
  ha H1 e _ fun H2 e2 => ⟨p, xs, rfl, Or.inr (ex_t (e.trans e2) h), q H2 e2⟩
theorem ev_lenP {P : List V → Hp → Prop} {n : Nat} (ha : EvN ta σ H P) (hn : ∀ vs H1, P vs H1 → vs.length = n) : Ev (tCB (rLenS K) (tCons ta tNil)) σ H (.int (n : Int)) := fun H1 e Q q =>
  ha H1 e _ fun p vs H2 _ e2 hp hP => ⟨p, vs, rfl, Or.inl (sq_of hp), by rw [hn vs H2 hP]; exact q H2 e2⟩
/-! ### a list grows by another -/
theorem s_ext {l : Addr} {xs ys : List V} (hl : H l = some (.lst xs)) (ha : Ev ta σ H (.ref l)) (h : EvL te σ H ys) (hz : xs.length + ys.length ≤ 100000) (k : ∀ H1, Ex H H1 → D.nx σ (upd H1 l (.lst (xs ++ ys)))) :
    tDrop (tBM K "list" rExtend ta (tCons te tNil)) D σ H := ha H (Ex.refl H) _ fun H1 e1 =>
  ⟨Or.inl ⟨rfl, xs, sq_of (e1 l _ hl)⟩, h H1 e1 _ fun p H2 hp e2 h2 => ⟨l, p, xs, ys, rfl, rfl, e2 l _ (e1 l _ hl), h2, sz_of hz, k H2 (e1.trans e2)⟩⟩
theorem s_extV {l p : Addr} {xs ys : List V} (hl : H l = some (.lst xs)) (ha : Ev ta σ H (.ref l)) (h : Ev te σ H (.ref p)) (hp : H p = some (.lst ys)) (hz : xs.length + ys.length ≤ 100000) (k : ∀ H1, Ex H H1 → D.nx σ (upd H1 l (.lst (xs ++ ys)))) :
    tDrop (tBM K "list" rExtend ta (tCons te tNil)) D σ H := ha H (Ex.refl H) _ fun H1 e1 =>
  ⟨Or.inl ⟨rfl, xs, sq_of (e1 l _ hl)⟩, h H1 e1 _ fun H2 e2 => ⟨l, p, xs, ys, rfl, rfl, e2 l _ (e1 l _ hl), e2 p _ (e1 p _ hp), sz_of hz, k H2 (e1.trans e2)⟩⟩
theorem s_extT {l p : Addr} {xs ys : List V} (hl : H l = some (.lst xs)) (ha : Ev ta σ H (.ref l)) (h : Ev te σ H (.ref p)) (hp : SqT K H p ys) (hz : xs.length + ys.length ≤ 100000) (k : ∀ H1, Ex H H1 → D.nx σ (upd H1 l (.lst (xs ++ ys)))) :
    tDrop (tBM K "list" (rExtendT K) ta (tCons te tNil)) D σ H := ha H (Ex.refl H) _ fun H1 e1 =>
  ⟨Or.inl ⟨rfl, xs, sq_of (e1 l _ hl)⟩, h H1 e1 _ fun H2 e2 => ⟨l, p, xs, ys, rfl, rfl, e2 l _ (e1 l _ hl), ex_t (e1.trans e2) hp, sz_of hz, k H2 (e1.trans e2)⟩⟩
theorem q_ext {l : Addr} {xs ys : List V} (hl : H l = some (.lst xs)) (ha : Ev ta σ H (.ref l)) (h : EvL te σ H ys) (hz : xs.length + ys.length ≤ 100000) (k : ∀ H1, Ex H H1 → tz D σ (upd H1 l (.lst (xs ++ ys)))) :
    tSeq (tDrop (tBM K "list" rExtend ta (tCons te tNil))) tz D σ H := s_ext (D := { D with nx := tz D }) hl ha h hz k
theorem q_extV {l p : Addr} {xs ys : List V} (hl : H l = some (.lst xs)) (ha : Ev ta σ H (.ref l)) (h : Ev te σ H (.ref p)) (hp : H p = some (.lst ys)) (hz : xs.length + ys.length ≤ 100000) (k : ∀ H1, Ex H H1 → tz D σ (upd H1 l (.lst (xs ++ ys)))) :
    tSeq (tDrop (tBM K "list" rExtend ta (tCons te tNil))) tz D σ H := s_extV (D := { D with nx := tz D }) hl ha h hp hz k
/-! ### asg and ret by a word -/
theorem q_asgP {i : Nat} {P : V → Hp → Prop} (h : EvP te σ H P) (k : ∀ v H1, Ex H H1 → P v H1 → tz D (σ.set i (some v)) H1) : tSeq (tAsg te (gName i)) tz D σ H := h H (Ex.refl H) _ k
theorem q_asgN {i : Nat} {P : List V → Hp → Prop} (h : EvN te σ H P) (k : ∀ p vs H1, H p = none → Ex H H1 → H1 p = some (.lst vs) → P vs H1 → tz D (σ.set i (some (.ref p))) H1) : tSeq (tAsg te (gName i)) tz D σ H := h H (Ex.refl H) _ k
theorem s_asgP {i : Nat} {P : V → Hp → Prop} (h : EvP te σ H P) (k : ∀ v H1, Ex H H1 → P v H1 → D.nx (σ.set i (some v)) H1) : tAsg te (gName i) D σ H := h H (Ex.refl H) _ k
theorem s_retP {P : V → Hp → Prop} (h : EvP te σ H P) (k : ∀ v H1, Ex H H1 → P v H1 → D.rt v H1) : tRet te D σ H := h H (Ex.refl H) _ k
theorem s_retN {P : List V → Hp → Prop} (h : EvN te σ H P) (k : ∀ p vs H1, H p = none → Ex H H1 → H1 p = some (.lst vs) → P vs H1 → D.rt (.ref p) H1) : tRet te D σ H := h H (Ex.refl H) _ k
/-! ### numbers -/
theorem inV_nat {n : Nat} : ∀ {l : List Nat}, inV (.int (n : Int)) (natsV l) = l.contains n
  | [] => rfl
  | a :: l => by
    show (eqV (.int (a : Int)) (.int (n : Int)) || inV (.int (n : Int)) (natsV l)) = _
    rw [inV_nat, List.contains_cons]
    refine congrArg (· || l.contains n) ?_
    show decide ((a : Int) = n) = (n == a)
    by_cases e : a = n
    · subst e; simp
    · have e1 : ¬ ((a : Int) = n) := by omega
      have e2 : ¬ n = a := fun q => e q.symm
      simp [e1, e2]
theorem flat_nats (l : List Nat) : (natsV l).all flatV = true := by
  unfold natsV
  rw [List.all_map]
  exact List.all_eq_true.mpr fun _ _ => rfl
theorem rv_inN {p : Addr} {l : List Nat} {n : Nat} (h : SqL K H p (natsV l)) : RV (rIn K false) (.int (n : Int)) (.ref p) H (.bl (l.contains n)) := by
  have := rv_isL h (x := .int (n : Int)) rfl (flat_nats l)
  rwa [inV_nat] at this
theorem rv_niN {p : Addr} {l : List Nat} {n : Nat} (h : SqL K H p (natsV l)) : RV (rIn K true) (.int (n : Int)) (.ref p) H (.bl (!l.contains n)) := by
  have := rv_niL h (x := .int (n : Int)) rfl (flat_nats l)
  rwa [inV_nat] at this
theorem rv_niTN {p : Addr} {l : List Nat} {n : Nat} (h : SqT K H p (natsV l)) : RV (rIn K true) (.int (n : Int)) (.ref p) H (.bl (!l.contains n)) := by
  have := rv_niT h (x := .int (n : Int)) rfl (flat_nats l)
  rwa [inV_nat] at this
theorem at_nat {α : Type} {xs : List α} {i : Nat} {a : α} (h : xs[i]? = some a) : atI xs (i : Int) = some a := by
  unfold atI
  rw [ixN_nat (List.getElem?_eq_some_iff.mp h).1]
  exact h
theorem nats_at {l : List Nat} {i n : Nat} (h : l[i]? = some n) : (natsV l)[i]? = some (.int (n : Int)) := by
  unfold natsV
  rw [List.getElem?_map, h]
  rfl
theorem natsV_append (l m : List Nat) : natsV (l ++ m) = natsV l ++ natsV m := List.map_append ..
theorem natsV_length (l : List Nat) : (natsV l).length = l.length := List.length_map ..
theorem natsV_filter (l : List Nat) (p : V → Bool) : (natsV l).filter p = natsV (l.filter fun n => p (.int (n : Int))) := by
  unfold natsV
  rw [List.filter_map]
  rfl
theorem rv_eqI {i j : Int} : RV rEq (.int i) (.int j) H (.bl (decide (i = j))) := fun H1 e Q q => by
  have := rv_eq (H := H) (x := .int i) (y := .int j) rfl H1 e Q
  refine this fun H2 e2 => ?_
  have : decide (V.int i = V.int j) = decide (i = j) := decide_eq_decide.mpr ⟨fun h => by cases h; rfl, fun h => by rw [h]⟩
  rw [this]
  exact q H2 e2
theorem rv_neI {i j : Int} : RV rNe (.int i) (.int j) H (.bl (!decide (i = j))) := fun H1 e Q q => by
  have := rv_ne (H := H) (x := .int i) (y := .int j) rfl H1 e Q
  refine this fun H2 e2 => ?_
  have : decide (V.int i = V.int j) = decide (i = j) := decide_eq_decide.mpr ⟨fun h => by cases h; rfl, fun h => by rw [h]⟩
  rw [this]
  exact q H2 e2
/-! ### sorted(set(x)), len(set(x)), list(range(n)), list(reversed(x)) -/
/-- the numbers below 40 that a list has, in order -/
def srt (l : List Nat) : List Nat := (List.range 40).filter fun x => l.contains x
theorem mem_srt {l : List Nat} {x : Nat} : x ∈ srt l ↔ x < 40 ∧ x ∈ l := by simp [srt]
theorem srt_of {l : List Nat} {out : List Int} (hl : ∀ x ∈ l, x < 40) (ho : out.Pairwise (· < ·)) (hm : ∀ k, k ∈ out ↔ k ∈ l.map fun (n : Nat) => (n : Int)) : out = (srt l).map fun (n : Nat) => (n : Int) := by
  refine List.Perm.eq_of_pairwise (le := (· < ·)) (fun a b _ _ h1 h2 => by omega) ho ?_ ((List.perm_ext_iff_of_nodup ?_ ?_).mpr fun k => ?_)
  · rw [List.pairwise_map]
    exact ((List.pairwise_lt_range (n := 40)).filter _).imp fun h => by omega
  · exact ho.imp fun h => by omega
  · exact List.Pairwise.map _ (fun a b h => by omega) ((List.nodup_range (n := 40)).filter _)
  · rw [hm, List.mem_map, List.mem_map]
    exact ⟨fun ⟨n, h, e⟩ => ⟨n, mem_srt.mpr ⟨hl n h, h⟩, e⟩, fun ⟨n, h, e⟩ => ⟨n, (mem_srt.mp h).2, e⟩⟩
theorem nats_int (l : List Nat) : natsV l = (l.map fun (n : Nat) => (n : Int)).map V.int := by
  unfold natsV
  rw [List.map_map]
  rfl
theorem el_sortSet {l : List Nat} (h : EvL te σ H (natsV l)) (hz : l.length ≤ 4000) (hl : ∀ x ∈ l, x < 40) : EvL (tSortSetZ K te) σ H (natsV (srt l)) := fun H1 e Q q =>
  h H1 e _ fun p H2 hn e2 hp => ⟨p, l.map fun (n : Nat) => (n : Int), rfl, nats_int l ▸ sq_of hp, by rw [List.length_map]; exact hz, fun k hk => by
    obtain ⟨n, h1, rfl⟩ := List.mem_map.mp hk
    have := hl n h1
    omega, fun out r ho hm hr => by
    rw [srt_of hl ho hm, ← nats_int]
    exact q r _ (fresh_back e2 hr) (e2.trans (Ex.new hr)) upd_same⟩
theorem el_sortSetV {l : List Nat} {p : Addr} (h : Ev te σ H (.ref p)) (hp : SqL K H p (natsV l)) (hz : l.length ≤ 4000) (hl : ∀ x ∈ l, x < 40) : EvL (tSortSetZ K te) σ H (natsV (srt l)) := fun H1 e Q q =>
  h H1 e _ fun H2 e2 => ⟨p, l.map fun (n : Nat) => (n : Int), rfl, nats_int l ▸ ex_l (e.trans e2) hp, by rw [List.length_map]; exact hz, fun k hk => by
    obtain ⟨n, h1, rfl⟩ := List.mem_map.mp hk
    have := hl n h1
    omega, fun out r ho hm hr => by
    rw [srt_of hl ho hm, ← nats_int]
    exact q r _ (fresh_back e2 hr) (e2.trans (Ex.new hr)) upd_same⟩
theorem nodup_of_cover : ∀ {ks L : List Int}, ks.Nodup → ks ⊆ L → L.length ≤ ks.length → L.Nodup
  | [], L, _, _, h => by
    have : L = [] := List.eq_nil_of_length_eq_zero (by simpa using h)
    rw [this]
    exact List.nodup_nil
  | k :: ks, L, nd, sub, h => by
    have hk : k ∈ L := sub (by simp)
    have hp := List.perm_cons_erase hk
    have ln : (L.erase k).length = L.length - 1 := List.length_erase_of_mem hk
    have hnd := List.nodup_cons.mp nd
    have pos := List.length_pos_of_mem hk
    have sub2 : ks ⊆ L.erase k := fun x hx => (List.mem_erase_of_ne (a := x) (b := k) (fun e => hnd.1 (e ▸ hx))).mpr (sub (List.mem_cons_of_mem _ hx))
    have h1 : (L.erase k).Nodup := nodup_of_cover hnd.2 sub2 (by have : (k :: ks).length = ks.length + 1 := rfl; omega)
    have h2 : k ∉ L.erase k := fun m => by
      have sub3 : (k :: ks) ⊆ L.erase k := fun x hx => by
        rcases List.mem_cons.mp hx with e | e
        · rw [e]; exact m
        · exact sub2 e
      have := List.Nodup.length_le_of_subset nd sub3
      omega
    exact hp.nodup_iff.mpr (List.nodup_cons.mpr ⟨h2, h1⟩)
/-- how many different ones -/
theorem different_eq {l : List Nat} {n : Nat} (h : Different (l.map fun (n : Nat) => (n : Int)) n) : (n = l.length ↔ l.Nodup) ∧ n ≤ l.length := by
  obtain ⟨ks, nd, hm, e⟩ := h
  have hl : (l.map fun (n : Nat) => (n : Int)).length = l.length := List.length_map ..
  have sub1 : ks ⊆ l.map fun (n : Nat) => (n : Int) := fun k hk => (hm k).mp hk
  have le1 := List.Nodup.length_le_of_subset nd sub1
  refine ⟨⟨fun q => ?_, fun q => ?_⟩, by omega⟩
  · have := nodup_of_cover nd sub1 (by omega)
    exact (List.pairwise_map.mp this).imp fun h q => h (by rw [q])
  · have nd2 : (l.map fun (n : Nat) => (n : Int)).Nodup := List.Pairwise.map _ (fun a b h => by omega) q
    have le2 := List.Nodup.length_le_of_subset nd2 (fun k hk => (hm k).mpr hk)
    omega
theorem ev_lenSet {l : List Nat} {p : Addr} (h : Ev te σ H (.ref p)) (hp : SqL K H p (natsV l)) (hz : l.length ≤ 4000) : EvP (tLenSetZ K te) σ H fun v _ => ∃ n : Nat, v = .int n ∧ (n = l.length ↔ l.Nodup) ∧ n ≤ l.length := fun H1 e Q q =>
  h H1 e _ fun H2 e2 => ⟨p, l.map fun (n : Nat) => (n : Int), rfl, nats_int l ▸ ex_l (e.trans e2) hp, by rw [List.length_map]; exact hz, fun n hn => q _ H2 e2 ⟨n, rfl, different_eq hn⟩⟩
theorem el_range {n : Nat} (h : Ev te σ H (.int (n : Int))) (hn : n ≤ 100000) : EvL (tLstRg (tRg1 te)) σ H (natsV (List.range n)) := fun H1 e Q q =>
  h H1 e _ fun H2 e2 => ⟨(n : Int), rfl, RgOk.of_le (by omega) (by omega) (by omega) (by omega), fun r hr => by
    have : rgV 0 (n : Int) = natsV (List.range n) := by
      unfold rgV natsV
      rw [show ((n : Int) - 0).toNat = n by omega]
      exact List.map_congr_left fun i _ => by rw [Int.zero_add]
    rw [this]
    exact q r _ (fresh_back e2 hr) (e2.trans (Ex.new hr)) upd_same⟩
theorem el_rev {xs : List V} {p : Addr} (h : Ev te σ H (.ref p)) (hp : SqL K H p xs) : EvL (tListRevZ K te) σ H xs.reverse := fun H1 e Q q =>
  h H1 e _ fun H2 e2 => ⟨p, xs, rfl, ex_l (e.trans e2) hp, fun r hr => q r _ (fresh_back e2 hr) (e2.trans (Ex.new hr)) upd_same⟩
end
end VS
/-! What holds of new things: a word that leans on new addresses alone. -/
namespace VS
open PySem L2 Evl CmBase
/-- R holds in every heap that has what H has at some addresses, all of them in N -/
def Fr (N : Addr → Prop) (H : Hp) (R : Hp → Prop) : Prop := ∃ F : Addr → Prop, (∀ a, F a → N a) ∧ ∀ H3 : Hp, (∀ a o, F a → H a = some o → H3 a = some o) → R H3
/-- not yet there -/
abbrev New (H : Hp) : Addr → Prop := fun a => H a = none
section
variable {N N' : Addr → Prop} {H H1 H2 H3 : Hp} {R R' : Hp → Prop} {p : Addr} {o : HO}
theorem Fr.here (h : Fr N H R) : R H := by
  obtain ⟨F, _, k⟩ := h
  exact k H fun _ _ _ e => e
theorem Fr.ex (h : Fr N H1 R) (e : Ex H1 H2) : Fr N H2 R := by
  obtain ⟨F, f, k⟩ := h
  refine ⟨fun a => F a ∧ H1 a ≠ none, fun a h => f a h.1, fun H3 q => k H3 fun a o fa ho => q a o ⟨fa, by rw [ho]; simp⟩ (e a o ho)⟩
theorem Fr.sub (h : Fr N H R) (s : ∀ a, N a → N' a) : Fr N' H R := by
  obtain ⟨F, f, k⟩ := h
  exact ⟨F, fun a q => s a (f a q), k⟩
theorem Fr.back (h : Fr (New H1) H R) (e : Ex H2 H1) : Fr (New H2) H R := h.sub fun _ q => fresh_back e q
theorem Fr.weak (h : Fr N H R) (k : ∀ H', R H' → R' H') : Fr N H R' := by
  obtain ⟨F, f, q⟩ := h
  exact ⟨F, f, fun H3 z => k H3 (q H3 z)⟩
/-- what isn't there is leaned on by nothing -/
theorem Fr.there (h : Fr N H R) : Fr (fun a => N a ∧ H a ≠ none) H R := by
  obtain ⟨F, f, k⟩ := h
  exact ⟨fun a => F a ∧ H a ≠ none, fun a q => ⟨f a q.1, q.2⟩, fun H3 q => k H3 fun a o fa ho => q a o ⟨fa, by rw [ho]; simp⟩ ho⟩
/-- a change elsewhere -/
theorem Fr.upd (h : Fr N H R) (hp : ¬ N p) : Fr N (upd H p o) R := by
  obtain ⟨F, f, k⟩ := h
  refine ⟨F, f, fun H3 q => k H3 fun a u fa ha => q a u fa ?_⟩
  have ne : a ≠ p := fun e => hp (by rw [← e]; exact f a fa)
  rw [upd_ne ne]
  exact ha
theorem Fr.one (hp : N p) (h : H p = some o) : Fr N H fun H' => H' p = some o := ⟨fun a => a = p, fun a e => e ▸ hp, fun H3 q => q p o rfl h⟩
theorem Fr.both (h : Fr N H R) (h' : Fr N H R') : Fr N H fun H' => R H' ∧ R' H' := by
  obtain ⟨F, f, k⟩ := h
  obtain ⟨F', f', k'⟩ := h'
  exact ⟨fun a => F a ∨ F' a, fun a q => q.elim (f a) (f' a), fun H3 q => ⟨k H3 fun a o fa ha => q a o (.inl fa) ha, k' H3 fun a o fa ha => q a o (.inr fa) ha⟩⟩
theorem Fr.all {ι : Type} {S : ι → Hp → Prop} (h : ∀ i, Fr N H (S i)) : Fr N H fun H' => ∀ i, S i H' := by
  refine ⟨fun a => ∃ i, (h i).choose a, fun a ⟨i, q⟩ => (h i).choose_spec.1 a q, fun H3 q i => (h i).choose_spec.2 H3 fun a o fa ha => q a o ⟨i, fa⟩ ha⟩
theorem Fr.imp {p : Prop} (h : p → Fr N H R) : Fr N H fun H' => p → R H' := by
  by_cases q : p
  · exact (h q).weak fun _ r _ => r
  · exact ⟨fun _ => False, fun _ z => z.elim, fun _ _ z => absurd z q⟩
theorem Fr.const {p : Prop} (h : p) : Fr N H fun _ => p := ⟨fun _ => False, fun _ z => z.elim, fun _ _ => h⟩
/-- what R leans on is new -/
theorem Fr.new (h : Fr N H R) (k : ∀ H', R H' → H' p ≠ none) : N p := by
  obtain ⟨F, f, q⟩ := h
  by_cases c : F p
  · exact f p c
  · exact absurd (show (fun a => if a = p then none else H a) p = none from if_pos rfl) (k (fun a => if a = p then none else H a) (q _ fun a o fa ha => by
      show (if a = p then none else H a) = some o
      have ne : ¬ a = p := fun e => c (by rw [← e]; exact fa)
      rw [if_neg ne]
      exact ha))
end
/-- evaluates to something new -/
def EvF (te : TE) (σ : L2.St) (H : Hp) (R : V → Hp → Prop) : Prop := ∀ H1, Ex H H1 → ∀ Q : VK, (∀ v H2, Ex H1 H2 → Fr (New H1) H2 (R v) → Q v H2) → te σ H1 Q
def RetF (R : V → Hp → Prop) (H : Hp) (Q : VK) : Prop := ∀ v H2, Ex H H2 → Fr (New H) H2 (R v) → Q v H2
def SpF (sp : Sp) (vs : List V) (H : Hp) (R : V → Hp → Prop) : Prop := ∀ H1, Ex H H1 → ∀ Q : VK, RetF R H1 Q → ∀ E : XK, sp vs H1 Q E
/-- a list of numbers; a list of things -/
def NumsV (l : List Nat) : V → Hp → Prop := fun v H => ∃ a, v = .ref a ∧ H a = some (.lst (natsV l))
def ListV (n : Nat) (R : Nat → V → Hp → Prop) : V → Hp → Prop := fun v H => ∃ a vs, v = .ref a ∧ H a = some (.lst vs) ∧ vs.length = n ∧ ∀ i w, vs[i]? = some w → R i w H
/-- it stands on -/
def Mono (R : V → Hp → Prop) : Prop := ∀ v H H', Ex H H' → R v H → R v H'
section
variable {K : PySem.W.Frag} {σ : L2.St} {H H' : Hp} {ta tb te tl tx : TE} {t u : TT} {x y z v : V} {r : R2} {D : Ends} {tz tu : TS} {R R' : V → Hp → Prop}
theorem EvF.mono (e : Ex H H') (h : EvF te σ H R) : EvF te σ H' R := fun H1 a Q q => h H1 (e.trans a) Q q
theorem EvL.f {xs : List V} (h : EvL te σ H xs) : EvF te σ H fun v H' => ∃ p, v = .ref p ∧ H' p = some (.lst xs) := fun H1 e Q q =>
  h H1 e Q fun p H2 hn e2 hp => q _ H2 e2 ((Fr.one (N := New H1) hn hp).weak fun _ h => ⟨p, rfl, h⟩)
theorem EvU.f {xs : List V} (h : EvU te σ H xs) : EvF te σ H fun v H' => ∃ p, v = .ref p ∧ H' p = some (.tup xs) := fun H1 e Q q =>
  h H1 e Q fun p H2 hn e2 hp => q _ H2 e2 ((Fr.one (N := New H1) hn hp).weak fun _ h => ⟨p, rfl, h⟩)
theorem EvL.nums {l : List Nat} (h : EvL te σ H (natsV l)) : EvF te σ H (NumsV l) := EvL.f h
theorem EvF.p (h : EvF te σ H R) : EvP te σ H fun v H' => R v H' := fun H1 e Q q => h H1 e Q fun v H2 e2 f => q v H2 e2 f.here
theorem EvF.weak (h : EvF te σ H R) (k : ∀ v H', R v H' → R' v H') : EvF te σ H R' := fun H1 e Q q => h H1 e Q fun v H2 e2 f => q v H2 e2 (f.weak fun H' => k v H')
theorem ef_call {sp : Sp} {dvs vs : List V} {E : XK} {tA : TA} (h : EvA tA σ H vs) (hs : SpF sp (vs ++ dvs) H R) : EvF (tCall sp dvs E tA) σ H R := fun H1 e Q q =>
  h H1 e _ fun H2 e2 => hs H2 (e.trans e2) Q (fun w H3 e3 f => q w H3 (e2.trans e3) (f.back e2)) E
theorem ef_callP {sp : Sp} {E : XK} {tA : TA} {P : List V → Hp → Prop} (h : EvAP tA σ H P) (hs : ∀ vs H1, Ex H H1 → P vs H1 → SpF sp vs H1 R) : EvF (tCall sp [] E tA) σ H R := fun H1 e Q q =>
  h H1 e _ fun vs H2 e2 hP => by
    rw [List.append_nil]
    exact hs vs H2 (e.trans e2) hP H2 (Ex.refl H2) Q (fun w H3 e3 f => q w H3 (e2.trans e3) (f.back e2)) E
theorem RetF.go {Q : VK} (k : RetF R H Q) (e : Ex H H') {v : V} {H2 : Hp} (e2 : Ex H' H2) (f : Fr (New H') H2 (R v)) : Q v H2 := k v H2 (e.trans e2) (f.back e)
theorem RetF.pre {Q : VK} (k : RetF R H Q) (e : Ex H H') : RetF R H' Q := fun v H2 e2 f => k v H2 (e.trans e2) (f.back e)
theorem _root_.Evl.RetV.pre {Q : VK} (k : RetV v H Q) (e : Ex H H') : RetV v H' Q := fun H2 e2 => k H2 (e.trans e2)
theorem _root_.Evl.RetL.pre {Q : VK} {xs : List V} (k : RetL xs H Q) (e : Ex H H') : RetL xs H' Q := fun p H2 hn e2 h => k p H2 (fresh_back e hn) (e.trans e2) h
theorem q_asgF {i : Nat} (h : EvF te σ H R) (k : ∀ v H1, Ex H H1 → Fr (New H) H1 (R v) → tz D (σ.set i (some v)) H1) : tSeq (tAsg te (gName i)) tz D σ H := h H (Ex.refl H) _ k
theorem s_asgF {i : Nat} (h : EvF te σ H R) (k : ∀ v H1, Ex H H1 → Fr (New H) H1 (R v) → D.nx (σ.set i (some v)) H1) : tAsg te (gName i) D σ H := h H (Ex.refl H) _ k
theorem s_retF (h : EvF te σ H R) (k : RetF R H D.rt) : tRet te D σ H := h H (Ex.refl H) _ k
/-- a loop over a new list, of which P holds -/
theorem q_forEN {P : List V → Hp → Prop} {g : TG} (h : EvN tl σ H P) (Pv : Addr → List V → Nat → L2.St → Hp → Prop) (h0 : ∀ p xs H1, H p = none → Ex H H1 → H1 p = some (.lst xs) → P xs H1 → Pv p xs 0 σ H1) (hl : ∀ p xs i σ' H', i ≤ xs.length → Pv p xs i σ' H' → SqL K H' p xs)
    (hs : ∀ p xs i x σ' H', xs[i]? = some x → Pv p xs i σ' H' → g x σ' H' fun σ2 H2 => tu { D with nx := Pv p xs (i + 1), ct := Pv p xs (i + 1), bk := tz D } σ2 H2) (hd : ∀ p xs σ' H', Pv p xs xs.length σ' H' → tz D σ' H') : tSeq (tFor (iList K tl) g tu) tz D σ H :=
  h H (Ex.refl H) _ fun p xs H1 hn e h1 hP => ⟨p, rfl, ⟨xs, sq_of h1⟩, for_list (D := { D with nx := tz D }) (Pv p xs) (h0 p xs H1 hn e h1 hP) (hl p xs) (hs p xs) (hd p xs)⟩
theorem s_forEN {P : List V → Hp → Prop} {g : TG} (h : EvN tl σ H P) (Pv : Addr → List V → Nat → L2.St → Hp → Prop) (h0 : ∀ p xs H1, H p = none → Ex H H1 → H1 p = some (.lst xs) → P xs H1 → Pv p xs 0 σ H1) (hl : ∀ p xs i σ' H', i ≤ xs.length → Pv p xs i σ' H' → SqL K H' p xs)
    (hs : ∀ p xs i x σ' H', xs[i]? = some x → Pv p xs i σ' H' → g x σ' H' fun σ2 H2 => tu { D with nx := Pv p xs (i + 1), ct := Pv p xs (i + 1), bk := D.nx } σ2 H2) (hd : ∀ p xs σ' H', Pv p xs xs.length σ' H' → D.nx σ' H') : tFor (iList K tl) g tu D σ H :=
  h H (Ex.refl H) _ fun p xs H1 hn e h1 hP => ⟨p, rfl, ⟨xs, sq_of h1⟩, for_list (Pv p xs) (h0 p xs H1 hn e h1 hP) (hl p xs) (hs p xs) (hd p xs)⟩
/-- xs.append(e), e new -/
theorem s_appF {l : Addr} {xs : List V} (hl : H l = some (.lst xs)) (ha : Ev ta σ H (.ref l)) (h : EvF te σ H R) (hz : xs.length < 100000) (k : ∀ v H1, Ex H H1 → Fr (New H) H1 (R v) → D.nx σ (upd H1 l (.lst (xs ++ [v])))) :
    tDrop (tBM K "list" rAppend ta (tCons te tNil)) D σ H := ha H (Ex.refl H) _ fun H1 e1 =>
  ⟨Or.inl ⟨rfl, xs, sq_of (e1 l _ hl)⟩, h H1 e1 _ fun w H2 e2 f => ⟨l, xs, w, rfl, rfl, e2 l _ (e1 l _ hl), sz_lt hz, k w H2 (e1.trans e2) (f.back e1)⟩⟩
theorem nums_mono (l : List Nat) : Mono (NumsV l) := fun v H H' e ⟨a, h1, h2⟩ => ⟨a, h1, e _ _ h2⟩
theorem list_mono {n : Nat} {R : Nat → V → Hp → Prop} (m : ∀ i, Mono (R i)) : Mono (ListV n R) := fun v H H' e ⟨a, vs, h1, h2, h3, h4⟩ => ⟨a, vs, h1, e _ _ h2, h3, fun i w hw => m i w H H' e (h4 i w hw)⟩
/-- [e, ..] of one new thing -/
theorem ef_lst1 (h : EvF te σ H R) : EvF (tLst (tCons te tNil)) σ H (ListV 1 fun _ => R) := fun H1 e Q q =>
  h H1 e _ fun w H2 e2 f => ⟨sz_of (show 1 ≤ 100000 by decide), fun p hp => q _ _ (e2.trans (Ex.new hp)) (by
    have f1 : Fr (New H1) (upd H2 p (.lst [w])) (R w) := f.ex (Ex.new hp)
    refine ((Fr.one (N := New H1) (fresh_back e2 hp) (upd_same (H := H2) (a := p) (o := .lst [w]))).both f1).weak fun H3 hh => ⟨p, [w], rfl, hh.1, rfl, fun i w' hw => ?_⟩
    cases i with
    | zero => cases hw; exact hh.2
    | succ i => simp at hw)⟩
/-- a list of one new tuple, of two -/
theorem en_lst1 {xs : List V} (h : EvU te σ H xs) : EvN (tLst (tCons te tNil)) σ H fun ws H' => ∃ x, ws = [.ref x] ∧ H' x = some (.tup xs) := fun H1 e Q q =>
  h H1 e _ fun x H2 _ e2 h2 => ⟨sz_of (show 1 ≤ 100000 by decide), fun l hl => q l [.ref x] _ (fresh_back e2 hl) (e2.trans (Ex.new hl)) upd_same ⟨x, rfl, Ex.new hl _ _ h2⟩⟩
theorem en_lst2 {xs ys : List V} (h : EvU ta σ H xs) (h' : EvU tb σ H ys) : EvN (tLst (tCons ta (tCons tb tNil))) σ H fun ws H' => ∃ x y, ws = [.ref x, .ref y] ∧ H' x = some (.tup xs) ∧ H' y = some (.tup ys) := fun H1 e Q q =>
  h H1 e _ fun x H2 _ e2 h2 => h' H2 (e.trans e2) _ fun y H3 _ e3 h3 => ⟨sz_of (show 2 ≤ 100000 by decide), fun l hl => q l [.ref x, .ref y] _ (fresh_back (e2.trans e3) hl) ((e2.trans e3).trans (Ex.new hl)) upd_same ⟨x, y, rfl, Ex.new hl _ _ (e3 _ _ h2), Ex.new hl _ _ h3⟩⟩
/-! ### comprehensions that give new things -/
/-- the word of a comprehension at turn i: the list at Dl has i things so far -/
def Cf (H : Hp) (R : Nat → V → Hp → Prop) (Dl : Addr) (i : Nat) (H' : Hp) : Prop := H Dl = none ∧ Ex H H' ∧ ∃ acc : List V, H' Dl = some (.lst acc) ∧ acc.length = i ∧ Fr (fun a => H a = none ∧ a ≠ Dl) H' fun H3 => ∀ k w, acc[k]? = some w → R k w H3
theorem cf_begin {R : Nat → V → Hp → Prop} {Dl : Addr} (hD : H Dl = none) : Cf H R Dl 0 (upd H Dl (.lst [])) := ⟨hD, Ex.new hD, [], upd_same, rfl, (Fr.const (p := True) trivial).weak fun _ _ k w h => by simp at h⟩
theorem cf_turn {R : Nat → V → Hp → Prop} {Dl : Addr} {i : Nat} {σ2 : L2.St} (p : Cf H R Dl i H') (hi : i < 50000) (he : EvF te σ2 H (R i)) :
    te σ2 H' fun y H4 => ∃ acc, H4 Dl = some (.lst acc) ∧ acc.length < sizeLine ∧ Cf H R Dl (i + 1) (upd H4 Dl (.lst (acc ++ [y]))) := by
  obtain ⟨p1, p2, acc, p3, p4, p5⟩ := p
  refine he H' p2 _ fun w H4 e4 f => ⟨acc, e4 _ _ p3, sz_lt (by omega), p1, Ex.mut (p2.trans e4) p1, acc ++ [w], upd_same, by rw [List.length_append, p4]; rfl, ?_⟩
  have nw : ∀ a, New H' a → H a = none ∧ a ≠ Dl := fun a q => ⟨fresh_back p2 q, fun e => by rw [e] at q; rw [show H' Dl = none from q] at p3; cases p3⟩
  have f1 : Fr (fun a => H a = none ∧ a ≠ Dl) (upd H4 Dl (.lst (acc ++ [w]))) (R i w) := (f.sub nw).upd fun q => q.2 rfl
  have f2 := ((p5.ex e4).upd (p := Dl) (o := .lst (acc ++ [w])) fun q => q.2 rfl).both f1
  refine f2.weak fun H3 hh k w' hw => ?_
  rcases Nat.lt_trichotomy k acc.length with q | q | q
  · rw [List.getElem?_append_left q] at hw
    exact hh.1 k w' hw
  · rw [q, List.getElem?_append_right (Nat.le_refl _), Nat.sub_self] at hw
    cases hw
    rw [q, p4]
    exact hh.2
  · rw [List.getElem?_eq_none (by rw [List.length_append]; simp; omega)] at hw
    cases hw
theorem cf_end {R : Nat → V → Hp → Prop} {Dl : Addr} {n : Nat} (p : Cf H R Dl n H') : Fr (New H) H' (ListV n R (.ref Dl)) := by
  obtain ⟨p1, p2, acc, p3, p4, p5⟩ := p
  refine ((Fr.one (N := New H) p1 p3).both (p5.sub fun a q => q.1)).weak fun H3 hh => ⟨Dl, acc, rfl, hh.1, p4, hh.2⟩
theorem ef_comp {R : Nat → V → Hp → Prop} {a : Addr} {xs : List V} {j : Nat} {vs : List Nat} (h : Ev tl σ H (.ref a)) (hx : SqL K H a xs) (hz : xs.length ≤ 40000) (hw : ∀ x, wipe ((wipe σ vs).set j (some x)) vs = wipe σ vs)
    (he : ∀ (i : Nat) (x : V) H1, Ex H H1 → xs[i]? = some x → EvF te ((wipe σ vs).set j (some x)) H1 (R i)) : EvF (tLc (iList K tl) (gName j) tYes te vs) σ H (ListV xs.length R) := fun H0 e Q q =>
  h H0 e _ fun H1 e1 => ⟨a, rfl, ⟨xs, ex_l (e.trans e1) hx⟩, fun Dl hD =>
    lc_list (xs := xs) (Cf H1 R Dl) (cf_begin hD) (fun i H' _ p => ex_l ((e.trans e1).trans p.2.1) hx) (fun i x H' hi p => ⟨hw x, by
      show te _ H' _
      exact cf_turn p (by have := (List.getElem?_eq_some_iff.mp hi).1; omega) (he i x H1 (e.trans e1) hi)⟩)
      (fun H' p => q _ H' (e1.trans p.2.1) ((cf_end p).back e1))⟩
end
end VS
/-! Each def's reading, and that its text has it. Printed by ties.py. -/
namespace VS
open PySem PySem.Spec PyProof.Rows L2
section
variable {P : Program} {w : World} {K : PySem.W.Frag} {mg : Str → Option Value} {base : Heap}
/-! ### all_values (level 1; slots 0 numbers, 1 number) -/
abbrev N_all_values : List Str := ["numbers", "number"]
theorem sc_all_values : FnScope N_all_values ["numbers"] (defScope s_all_values) := ⟨rfl, rfl, rfl, by decide +kernel, rfl, by decide +kernel, by decide +kernel⟩
def t_all_values (K : PySem.W.Frag) : TS := (tRet (tCB (rAll K) (tCons (tLc (iList K (tVar 0)) (gName 1) tYes (tOp rLe (tVar 1) (tC (.int (39)))) [1]) tNil)))
theorem der_all_values (T : Tx K mg) {cdv : Value} {A : Around} {outer : List Env} {s : Shared} {H : Hp} {E : XK} (hr : Room 0 (A.deeper (envOfC "all_values" (defScope s_all_values) s.heap.objs.size (He.ga K "all_values") cdv))) :
    PSs (cxOf CX0 P w K mg base N_all_values "all_values" (defScope s_all_values) (He.ga K "all_values") cdv A outer s H E).nox (defBody s_all_values) (t_all_values K) := by
  exact (pss_one (ps_ret (pe_callB (cr_all rfl) (by rfl) T.free_all (by decide +kernel) (pa_cons (pe_lc (own := [("number", 1)]) (g := (gName 1)) (tt := tYes) rfl sc_all_values.nd (pi_list (pv 0)) (blkOk_by (N := N_all_values) (sc := defScope s_all_values) (by decide +kernel)) (fun _ _ _ _ _ => (pg_name (i := 1) sc_all_values.nd rfl (by first | exact Or.inl rfl | exact Or.inr rfl))) (fun _ _ _ _ _ => pts_nil) (fun _ _ _ _ _ => (pe_cmpR op_le (pv 1) (pe_cint T.int_LAST_VALUE) (nomark _)))) pa_nil))))
theorem ok_all_values (T : Tx K mg) {sp : Sp} (len : ∀ vs H Q E, sp vs H Q E → vs.length = 1) (pure : ∀ vs H Q E, sp vs H Q E → t_all_values K { nx := fun _ H' => Q .non H', rt := Q } (start N_all_values vs) H) : Df P w K mg base 1 (He.ga K "all_values") ["numbers"] sp := by
  obtain ⟨fd, F⟩ := T.def_all_values
  exact df_of F sc_all_values (fun _ _ _ _ _ _ us hl => match us, hl with | [_], _ => rfl) len (fun hr => der_all_values T hr) pure
/-! ### all_targets (level 1; slots 0 numbers, 1 number) -/
abbrev N_all_targets : List Str := ["numbers", "number"]
theorem sc_all_targets : FnScope N_all_targets ["numbers"] (defScope s_all_targets) := ⟨rfl, rfl, rfl, by decide +kernel, rfl, by decide +kernel, by decide +kernel⟩
def t_all_targets (K : PySem.W.Frag) : TS := (tRet (tCB (rAll K) (tCons (tLc (iList K (tVar 0)) (gName 1) tYes (tChain rLe rLe (tC (.int (1))) (tVar 1) (tC (.int (9)))) [1]) tNil)))
theorem der_all_targets (T : Tx K mg) {cdv : Value} {A : Around} {outer : List Env} {s : Shared} {H : Hp} {E : XK} (hr : Room 0 (A.deeper (envOfC "all_targets" (defScope s_all_targets) s.heap.objs.size (He.ga K "all_targets") cdv))) :
    PSs (cxOf CX0 P w K mg base N_all_targets "all_targets" (defScope s_all_targets) (He.ga K "all_targets") cdv A outer s H E).nox (defBody s_all_targets) (t_all_targets K) := by
  exact (pss_one (ps_ret (pe_callB (cr_all rfl) (by rfl) T.free_all (by decide +kernel) (pa_cons (pe_lc (own := [("number", 1)]) (g := (gName 1)) (tt := tYes) rfl sc_all_targets.nd (pi_list (pv 0)) (blkOk_by (N := N_all_targets) (sc := defScope s_all_targets) (by decide +kernel)) (fun _ _ _ _ _ => (pg_name (i := 1) sc_all_targets.nd rfl (by first | exact Or.inl rfl | exact Or.inr rfl))) (fun _ _ _ _ _ => pts_nil) (fun _ _ _ _ _ => (pe_chain op_le op_le (pe_cint T.int_FIRST_TARGET) (pv 1) (pe_cint T.int_LAST_TARGET)))) pa_nil))))
theorem ok_all_targets (T : Tx K mg) {sp : Sp} (len : ∀ vs H Q E, sp vs H Q E → vs.length = 1) (pure : ∀ vs H Q E, sp vs H Q E → t_all_targets K { nx := fun _ H' => Q .non H', rt := Q } (start N_all_targets vs) H) : Df P w K mg base 1 (He.ga K "all_targets") ["numbers"] sp := by
  obtain ⟨fd, F⟩ := T.def_all_targets
  exact df_of F sc_all_targets (fun _ _ _ _ _ _ us hl => match us, hl with | [_], _ => rfl) len (fun hr => der_all_targets T hr) pure
/-! ### Block_init (level 1; slots 0 self, 1 taken) -/
abbrev N_Block_init : List Str := ["self", "taken"]
theorem sc_Block_init : FnScope N_Block_init ["self", "taken"] (defScope s_Block_init) := ⟨rfl, rfl, rfl, by decide +kernel, rfl, by decide +kernel, by decide +kernel⟩
def t_Block_init (K : PySem.W.Frag) : TS := (tSeq (sFld K (tVar 0) (tCB (rTupS K) (tCons (tVar 1) tNil)) "taken")
    (tSeq (sFld K (tVar 0) (tLst tNil) "rows")
    (sFld K (tVar 0) (tC .non) "end")))
theorem der_Block_init (T : Tx K mg) {cdv : Value} {A : Around} {outer : List Env} {s : Shared} {H : Hp} {E : XK} (hr : Room 0 (A.deeper (envOfC "Block.__init__" (defScope s_Block_init) s.heap.objs.size (He.ma K (He.ga K "Block") "__init__") cdv))) :
    PSs (cxOf CX0 P w K mg base N_Block_init "Block.__init__" (defScope s_Block_init) (He.ma K (He.ga K "Block") "__init__") cdv A outer s H E).nox (defBody s_Block_init) (t_Block_init K) := by
  exact (pss_cons (ps_fld (pv 0) (pe_callTy call_tuple_of (by rfl) T.free_tuple (by decide +kernel) (pa_cons (pv 1) pa_nil)) rfl)
    (pss_cons (ps_fld (pv 0) (pe_lst pa_nil) rfl)
    (pss_one (ps_fld (pv 0) pe_non rfl))))
theorem ok_Block_init (T : Tx K mg) {sp : Sp} (len : ∀ vs H Q E, sp vs H Q E → vs.length = 2) (pure : ∀ vs H Q E, sp vs H Q E → t_Block_init K { nx := fun _ H' => Q .non H', rt := Q } (start N_Block_init vs) H) : Df P w K mg base 1 (He.ma K (He.ga K "Block") "__init__") ["self", "taken"] sp := by
  obtain ⟨fd, F⟩ := T.def_Block_init
  exact df_of F sc_Block_init (fun _ _ _ _ _ _ us hl => match us, hl with | [_, _], _ => rfl) len (fun hr => der_Block_init T hr) pure
/-! ### Code_init (level 1; slots 0 self) -/
abbrev N_Code_init : List Str := ["self"]
theorem sc_Code_init : FnScope N_Code_init ["self"] (defScope s_Code_init) := ⟨rfl, rfl, rfl, by decide +kernel, rfl, by decide +kernel, by decide +kernel⟩
def t_Code_init (K : PySem.W.Frag) : TS := (tSeq (sFld K (tVar 0) (tC (.int 0)) "words")
    (sFld K (tVar 0) (tLst tNil) "blocks"))
theorem der_Code_init (T : Tx K mg) {cdv : Value} {A : Around} {outer : List Env} {s : Shared} {H : Hp} {E : XK} (hr : Room 0 (A.deeper (envOfC "Code.__init__" (defScope s_Code_init) s.heap.objs.size (He.ma K (He.ga K "Code") "__init__") cdv))) :
    PSs (cxOf CX0 P w K mg base N_Code_init "Code.__init__" (defScope s_Code_init) (He.ma K (He.ga K "Code") "__init__") cdv A outer s H E).nox (defBody s_Code_init) (t_Code_init K) := by
  exact (pss_cons (ps_fld (pv 0) pe_int rfl)
    (pss_one (ps_fld (pv 0) (pe_lst pa_nil) rfl)))
theorem ok_Code_init (T : Tx K mg) {sp : Sp} (len : ∀ vs H Q E, sp vs H Q E → vs.length = 1) (pure : ∀ vs H Q E, sp vs H Q E → t_Code_init K { nx := fun _ H' => Q .non H', rt := Q } (start N_Code_init vs) H) : Df P w K mg base 1 (He.ma K (He.ga K "Code") "__init__") ["self"] sp := by
  obtain ⟨fd, F⟩ := T.def_Code_init
  exact df_of F sc_Code_init (fun _ _ _ _ _ _ us hl => match us, hl with | [_], _ => rfl) len (fun hr => der_Code_init T hr) pure
/-! ### Code_open_block (level 1; slots 0 self, 1 last) -/
abbrev N_Code_open_block : List Str := ["self", "last"]
theorem sc_Code_open_block : FnScope N_Code_open_block ["self"] (defScope s_Code_open_block) := ⟨rfl, rfl, rfl, by decide +kernel, rfl, by decide +kernel, by decide +kernel⟩
def t_Code_open_block (K : PySem.W.Frag) : TS := (tSeq (tIfS (tTest (tOp rEq (tCB (Evl.rLenS K) (tCons (tFld K (tVar 0) "blocks") tNil)) (tC (.int 0)))) (tRet (tC .non)) tNext)
    (tSeq (tAsg (tOp (rIxL K) (tFld K (tVar 0) "blocks") (tUn rNeg (tC (.int 1)))) (gName 1))
    (tRet (tIf (tTest (tOp rIsN (tFld K (tVar 1) "end") (tC .non))) (tVar 1) (tC .non)))))
theorem der_Code_open_block (T : Tx K mg) {cdv : Value} {A : Around} {outer : List Env} {s : Shared} {H : Hp} {E : XK} (hr : Room 0 (A.deeper (envOfC "Code.open_block" (defScope s_Code_open_block) s.heap.objs.size (He.ma K (He.ga K "Code") "open_block") cdv))) :
    PSs (cxOf CX0 P w K mg base N_Code_open_block "Code.open_block" (defScope s_Code_open_block) (He.ma K (He.ga K "Code") "open_block") cdv A outer s H E).nox (defBody s_Code_open_block) (t_Code_open_block K) := by
  exact (pss_cons (ps_if (pt_cmpR op_eq (pe_callB call_len_seq (by rfl) T.free_len (by decide +kernel) (pa_cons (pe_fld (pv 0) rfl) pa_nil)) pe_int (nomark _)) (pss_one (ps_ret pe_non)) pss_nil)
    (pss_cons (ps_set (i := 1) sc_Code_open_block.nd rfl (by first | exact Or.inl rfl | exact Or.inr rfl) (pe_ix ix_list (pe_fld (pv 0) rfl) (pe_un un_neg pe_int) (fun _ _ => rfl)))
    (pss_one (ps_ret (pe_ifExp (pt_cmpR op_isN (pe_fld (pv 1) rfl) pe_non (nomark _)) (pv 1) pe_non)))))
theorem ok_Code_open_block (T : Tx K mg) {sp : Sp} (len : ∀ vs H Q E, sp vs H Q E → vs.length = 1) (pure : ∀ vs H Q E, sp vs H Q E → t_Code_open_block K { nx := fun _ H' => Q .non H', rt := Q } (start N_Code_open_block vs) H) : Df P w K mg base 1 (He.ma K (He.ga K "Code") "open_block") ["self"] sp := by
  obtain ⟨fd, F⟩ := T.def_Code_open_block
  exact df_of F sc_Code_open_block (fun _ _ _ _ _ _ us hl => match us, hl with | [_], _ => rfl) len (fun hr => der_Code_open_block T hr) pure
/-! ### Code_begin (level 1; slots 0 self, 1 k) -/
abbrev N_Code_begin : List Str := ["self", "k"]
theorem sc_Code_begin : FnScope N_Code_begin ["self", "k"] (defScope s_Code_begin) := ⟨rfl, rfl, rfl, by decide +kernel, rfl, by decide +kernel, by decide +kernel⟩
def t_Code_begin (K : PySem.W.Frag) : TS := (tSeq (tIfS (tTest (tOp rGt (tVar 1) (tC (.int (6))))) (tRet (tC (.int (-1)))) tNext)
    (tSeq (sFld K (tVar 0) (tVar 1) "words")
    (tSeq (sFld K (tVar 0) (tLst tNil) "blocks")
    (tRet (tVar 1)))))
theorem der_Code_begin (T : Tx K mg) {cdv : Value} {A : Around} {outer : List Env} {s : Shared} {H : Hp} {E : XK} (hr : Room 0 (A.deeper (envOfC "Code.begin" (defScope s_Code_begin) s.heap.objs.size (He.ma K (He.ga K "Code") "begin") cdv))) :
    PSs (cxOf CX0 P w K mg base N_Code_begin "Code.begin" (defScope s_Code_begin) (He.ma K (He.ga K "Code") "begin") cdv A outer s H E).nox (defBody s_Code_begin) (t_Code_begin K) := by
  exact (pss_cons (ps_if (pt_cmpR op_gt (pv 1) (pe_cint T.int_MOST_WORDS) (nomark _)) (pss_one (ps_ret (pe_cint T.int_BAD_COUNT))) pss_nil)
    (pss_cons (ps_fld (pv 0) (pv 1) rfl)
    (pss_cons (ps_fld (pv 0) (pe_lst pa_nil) rfl)
    (pss_one (ps_ret (pv 1))))))
theorem ok_Code_begin (T : Tx K mg) {sp : Sp} (len : ∀ vs H Q E, sp vs H Q E → vs.length = 2) (pure : ∀ vs H Q E, sp vs H Q E → t_Code_begin K { nx := fun _ H' => Q .non H', rt := Q } (start N_Code_begin vs) H) : Df P w K mg base 1 (He.ma K (He.ga K "Code") "begin") ["self", "k"] sp := by
  obtain ⟨fd, F⟩ := T.def_Code_begin
  exact df_of F sc_Code_begin (fun _ _ _ _ _ _ us hl => match us, hl with | [_, _], _ => rfl) len (fun hr => der_Code_begin T hr) pure
/-! ### given_by_row (level 1; slots 0 row) -/
abbrev N_given_by_row : List Str := ["row"]
theorem sc_given_by_row : FnScope N_given_by_row ["row"] (defScope s_given_by_row) := ⟨rfl, rfl, rfl, by decide +kernel, rfl, by decide +kernel, by decide +kernel⟩
def t_given_by_row (K : PySem.W.Frag) : TS := (tRet (tIf (tTest (tOp rEq (tOp (rIxT K) (tVar 0) (tC (.int 0))) (tC (.int (3))))) (tLst tNil) (tLst (tCons (tOp (rIxT K) (tVar 0) (tC (.int 1))) tNil))))
theorem der_given_by_row (T : Tx K mg) {cdv : Value} {A : Around} {outer : List Env} {s : Shared} {H : Hp} {E : XK} (hr : Room 0 (A.deeper (envOfC "given_by_row" (defScope s_given_by_row) s.heap.objs.size (He.ga K "given_by_row") cdv))) :
    PSs (cxOf CX0 P w K mg base N_given_by_row "given_by_row" (defScope s_given_by_row) (He.ga K "given_by_row") cdv A outer s H E).nox (defBody s_given_by_row) (t_given_by_row K) := by
  exact (pss_one (ps_ret (pe_ifExp (pt_cmpR op_eq (pe_ix ix_tup (pv 0) pe_int (fun _ _ => rfl)) (pe_cint T.int_SAY_ROW) (nomark _)) (pe_lst pa_nil) (pe_lst (pa_cons (pe_ix ix_tup (pv 0) pe_int (fun _ _ => rfl)) pa_nil)))))
theorem ok_given_by_row (T : Tx K mg) {sp : Sp} (len : ∀ vs H Q E, sp vs H Q E → vs.length = 1) (pure : ∀ vs H Q E, sp vs H Q E → t_given_by_row K { nx := fun _ H' => Q .non H', rt := Q } (start N_given_by_row vs) H) : Df P w K mg base 1 (He.ga K "given_by_row") ["row"] sp := by
  obtain ⟨fd, F⟩ := T.def_given_by_row
  exact df_of F sc_given_by_row (fun _ _ _ _ _ _ us hl => match us, hl with | [_], _ => rfl) len (fun hr => der_given_by_row T hr) pure
/-! ### used_by_row (level 1; slots 0 row) -/
abbrev N_used_by_row : List Str := ["row"]
theorem sc_used_by_row : FnScope N_used_by_row ["row"] (defScope s_used_by_row) := ⟨rfl, rfl, rfl, by decide +kernel, rfl, by decide +kernel, by decide +kernel⟩
def t_used_by_row (K : PySem.W.Frag) : TS := (tSeq (tIfS (tTest (tOp rEq (tOp (rIxT K) (tVar 0) (tC (.int 0))) (tC (.int (0))))) (tRet (tLst tNil)) tNext)
    (tSeq (tIfS (tTest (tOp rEq (tOp (rIxT K) (tVar 0) (tC (.int 0))) (tC (.int (3))))) (tRet (tLst (tCons (tOp (rIxT K) (tVar 0) (tC (.int 1))) tNil))) tNext)
    (tRet (tLst (tCons (tOp (rIxT K) (tVar 0) (tC (.int 3))) (tCons (tOp (rIxT K) (tVar 0) (tC (.int 4))) tNil))))))
theorem der_used_by_row (T : Tx K mg) {cdv : Value} {A : Around} {outer : List Env} {s : Shared} {H : Hp} {E : XK} (hr : Room 0 (A.deeper (envOfC "used_by_row" (defScope s_used_by_row) s.heap.objs.size (He.ga K "used_by_row") cdv))) :
    PSs (cxOf CX0 P w K mg base N_used_by_row "used_by_row" (defScope s_used_by_row) (He.ga K "used_by_row") cdv A outer s H E).nox (defBody s_used_by_row) (t_used_by_row K) := by
  exact (pss_cons (ps_if (pt_cmpR op_eq (pe_ix ix_tup (pv 0) pe_int (fun _ _ => rfl)) (pe_cint T.int_NUMBER_ROW) (nomark _)) (pss_one (ps_ret (pe_lst pa_nil))) pss_nil)
    (pss_cons (ps_if (pt_cmpR op_eq (pe_ix ix_tup (pv 0) pe_int (fun _ _ => rfl)) (pe_cint T.int_SAY_ROW) (nomark _)) (pss_one (ps_ret (pe_lst (pa_cons (pe_ix ix_tup (pv 0) pe_int (fun _ _ => rfl)) pa_nil)))) pss_nil)
    (pss_one (ps_ret (pe_lst (pa_cons (pe_ix ix_tup (pv 0) pe_int (fun _ _ => rfl)) (pa_cons (pe_ix ix_tup (pv 0) pe_int (fun _ _ => rfl)) pa_nil)))))))
theorem ok_used_by_row (T : Tx K mg) {sp : Sp} (len : ∀ vs H Q E, sp vs H Q E → vs.length = 1) (pure : ∀ vs H Q E, sp vs H Q E → t_used_by_row K { nx := fun _ H' => Q .non H', rt := Q } (start N_used_by_row vs) H) : Df P w K mg base 1 (He.ga K "used_by_row") ["row"] sp := by
  obtain ⟨fd, F⟩ := T.def_used_by_row
  exact df_of F sc_used_by_row (fun _ _ _ _ _ _ us hl => match us, hl with | [_], _ => rfl) len (fun hr => der_used_by_row T hr) pure
/-! ### used_by_end (level 1; slots 0 end) -/
abbrev N_used_by_end : List Str := ["end"]
theorem sc_used_by_end : FnScope N_used_by_end ["end"] (defScope s_used_by_end) := ⟨rfl, rfl, rfl, by decide +kernel, rfl, by decide +kernel, by decide +kernel⟩
def t_used_by_end (K : PySem.W.Frag) : TS := (tSeq (tIfS (tTest (tOp rEq (tOp (rIxT K) (tVar 0) (tC (.int 0))) (tC (.int (0))))) (tRet (tCB (Evl.rListS K) (tCons (tOp (rIxT K) (tVar 0) (tC (.int 2))) tNil))) tNext)
    (tSeq (tIfS (tTest (tOp rEq (tOp (rIxT K) (tVar 0) (tC (.int 0))) (tC (.int (1))))) (tRet (tOp rCat (tOp rCat (tLst (tCons (tOp (rIxT K) (tVar 0) (tC (.int 1))) tNil)) (tCB (Evl.rListS K) (tCons (tOp (rIxT K) (tVar 0) (tC (.int 3))) tNil))) (tCB (Evl.rListS K) (tCons (tOp (rIxT K) (tVar 0) (tC (.int 5))) tNil)))) tNext)
    (tRet (tLst (tCons (tOp (rIxT K) (tVar 0) (tC (.int 1))) tNil)))))
theorem der_used_by_end (T : Tx K mg) {cdv : Value} {A : Around} {outer : List Env} {s : Shared} {H : Hp} {E : XK} (hr : Room 0 (A.deeper (envOfC "used_by_end" (defScope s_used_by_end) s.heap.objs.size (He.ga K "used_by_end") cdv))) :
    PSs (cxOf CX0 P w K mg base N_used_by_end "used_by_end" (defScope s_used_by_end) (He.ga K "used_by_end") cdv A outer s H E).nox (defBody s_used_by_end) (t_used_by_end K) := by
  exact (pss_cons (ps_if (pt_cmpR op_eq (pe_ix ix_tup (pv 0) pe_int (fun _ _ => rfl)) (pe_cint T.int_JUMP_END) (nomark _)) (pss_one (ps_ret (pe_callTy call_list_of (by rfl) T.free_list (by decide +kernel) (pa_cons (pe_ix ix_tup (pv 0) pe_int (fun _ _ => rfl)) pa_nil)))) pss_nil)
    (pss_cons (ps_if (pt_cmpR op_eq (pe_ix ix_tup (pv 0) pe_int (fun _ _ => rfl)) (pe_cint T.int_FORK_END) (nomark _)) (pss_one (ps_ret (pe_op op_cat (pe_op op_cat (pe_lst (pa_cons (pe_ix ix_tup (pv 0) pe_int (fun _ _ => rfl)) pa_nil)) (pe_callTy call_list_of (by rfl) T.free_list (by decide +kernel) (pa_cons (pe_ix ix_tup (pv 0) pe_int (fun _ _ => rfl)) pa_nil))) (pe_callTy call_list_of (by rfl) T.free_list (by decide +kernel) (pa_cons (pe_ix ix_tup (pv 0) pe_int (fun _ _ => rfl)) pa_nil))))) pss_nil)
    (pss_one (ps_ret (pe_lst (pa_cons (pe_ix ix_tup (pv 0) pe_int (fun _ _ => rfl)) pa_nil))))))
theorem ok_used_by_end (T : Tx K mg) {sp : Sp} (len : ∀ vs H Q E, sp vs H Q E → vs.length = 1) (pure : ∀ vs H Q E, sp vs H Q E → t_used_by_end K { nx := fun _ H' => Q .non H', rt := Q } (start N_used_by_end vs) H) : Df P w K mg base 1 (He.ga K "used_by_end") ["end"] sp := by
  obtain ⟨fd, F⟩ := T.def_used_by_end
  exact df_of F sc_used_by_end (fun _ _ _ _ _ _ us hl => match us, hl with | [_], _ => rfl) len (fun hr => der_used_by_end T hr) pure
/-! ### ways (level 1; slots 0 end) -/
abbrev N_ways : List Str := ["end"]
theorem sc_ways : FnScope N_ways ["end"] (defScope s_ways) := ⟨rfl, rfl, rfl, by decide +kernel, rfl, by decide +kernel, by decide +kernel⟩
def t_ways (K : PySem.W.Frag) : TS := (tSeq (tIfS (tTest (tOp rEq (tOp (rIxT K) (tVar 0) (tC (.int 0))) (tC (.int (0))))) (tRet (tLst (tCons (tTup (tCons (tOp (rIxT K) (tVar 0) (tC (.int 1))) (tCons (tOp (rIxT K) (tVar 0) (tC (.int 2))) tNil))) tNil))) tNext)
    (tSeq (tIfS (tTest (tOp rEq (tOp (rIxT K) (tVar 0) (tC (.int 0))) (tC (.int (1))))) (tRet (tLst (tCons (tTup (tCons (tOp (rIxT K) (tVar 0) (tC (.int 2))) (tCons (tOp (rIxT K) (tVar 0) (tC (.int 3))) tNil))) (tCons (tTup (tCons (tOp (rIxT K) (tVar 0) (tC (.int 4))) (tCons (tOp (rIxT K) (tVar 0) (tC (.int 5))) tNil))) tNil)))) tNext)
    (tRet (tLst tNil))))
theorem der_ways (T : Tx K mg) {cdv : Value} {A : Around} {outer : List Env} {s : Shared} {H : Hp} {E : XK} (hr : Room 0 (A.deeper (envOfC "ways" (defScope s_ways) s.heap.objs.size (He.ga K "ways") cdv))) :
    PSs (cxOf CX0 P w K mg base N_ways "ways" (defScope s_ways) (He.ga K "ways") cdv A outer s H E).nox (defBody s_ways) (t_ways K) := by
  exact (pss_cons (ps_if (pt_cmpR op_eq (pe_ix ix_tup (pv 0) pe_int (fun _ _ => rfl)) (pe_cint T.int_JUMP_END) (nomark _)) (pss_one (ps_ret (pe_lst (pa_cons (pe_tup (pa_cons (pe_ix ix_tup (pv 0) pe_int (fun _ _ => rfl)) (pa_cons (pe_ix ix_tup (pv 0) pe_int (fun _ _ => rfl)) pa_nil))) pa_nil)))) pss_nil)
    (pss_cons (ps_if (pt_cmpR op_eq (pe_ix ix_tup (pv 0) pe_int (fun _ _ => rfl)) (pe_cint T.int_FORK_END) (nomark _)) (pss_one (ps_ret (pe_lst (pa_cons (pe_tup (pa_cons (pe_ix ix_tup (pv 0) pe_int (fun _ _ => rfl)) (pa_cons (pe_ix ix_tup (pv 0) pe_int (fun _ _ => rfl)) pa_nil))) (pa_cons (pe_tup (pa_cons (pe_ix ix_tup (pv 0) pe_int (fun _ _ => rfl)) (pa_cons (pe_ix ix_tup (pv 0) pe_int (fun _ _ => rfl)) pa_nil))) pa_nil))))) pss_nil)
    (pss_one (ps_ret (pe_lst pa_nil)))))
theorem ok_ways (T : Tx K mg) {sp : Sp} (len : ∀ vs H Q E, sp vs H Q E → vs.length = 1) (pure : ∀ vs H Q E, sp vs H Q E → t_ways K { nx := fun _ H' => Q .non H', rt := Q } (start N_ways vs) H) : Df P w K mg base 1 (He.ga K "ways") ["end"] sp := by
  obtain ⟨fd, F⟩ := T.def_ways
  exact df_of F sc_ways (fun _ _ _ _ _ _ us hl => match us, hl with | [_], _ => rfl) len (fun hr => der_ways T hr) pure
/-! ### all_among (level 1; slots 0 used, 1 given, 2 value) -/
abbrev N_all_among : List Str := ["used", "given", "value"]
theorem sc_all_among : FnScope N_all_among ["used", "given"] (defScope s_all_among) := ⟨rfl, rfl, rfl, by decide +kernel, rfl, by decide +kernel, by decide +kernel⟩
def t_all_among (K : PySem.W.Frag) : TS := (tRet (tCB (rAll K) (tCons (tLc (iList K (tVar 0)) (gName 2) tYes (tOp (rIn K false) (tVar 2) (tVar 1)) [2]) tNil)))
theorem der_all_among (T : Tx K mg) {cdv : Value} {A : Around} {outer : List Env} {s : Shared} {H : Hp} {E : XK} (hr : Room 0 (A.deeper (envOfC "all_among" (defScope s_all_among) s.heap.objs.size (He.ga K "all_among") cdv))) :
    PSs (cxOf CX0 P w K mg base N_all_among "all_among" (defScope s_all_among) (He.ga K "all_among") cdv A outer s H E).nox (defBody s_all_among) (t_all_among K) := by
  exact (pss_one (ps_ret (pe_callB (cr_all rfl) (by rfl) T.free_all (by decide +kernel) (pa_cons (pe_lc (own := [("value", 2)]) (g := (gName 2)) (tt := tYes) rfl sc_all_among.nd (pi_list (pv 0)) (blkOk_by (N := N_all_among) (sc := defScope s_all_among) (by decide +kernel)) (fun _ _ _ _ _ => (pg_name (i := 2) sc_all_among.nd rfl (by first | exact Or.inl rfl | exact Or.inr rfl))) (fun _ _ _ _ _ => pts_nil) (fun _ _ _ _ _ => (pe_cmpR op_in_seq (pv 2) (pv 1) rfl))) pa_nil))))
theorem ok_all_among (T : Tx K mg) {sp : Sp} (len : ∀ vs H Q E, sp vs H Q E → vs.length = 2) (pure : ∀ vs H Q E, sp vs H Q E → t_all_among K { nx := fun _ H' => Q .non H', rt := Q } (start N_all_among vs) H) : Df P w K mg base 1 (He.ga K "all_among") ["used", "given"] sp := by
  obtain ⟨fd, F⟩ := T.def_all_among
  exact df_of F sc_all_among (fun _ _ _ _ _ _ us hl => match us, hl with | [_, _], _ => rfl) len (fun hr => der_all_among T hr) pure
/-! ### least_free (level 1; slots 0 slots, 1 others, 2 used, 3 other, 4 slot) -/
abbrev N_least_free : List Str := ["slots", "others", "used", "other", "slot"]
theorem sc_least_free : FnScope N_least_free ["slots", "others"] (defScope s_least_free) := ⟨rfl, rfl, rfl, by decide +kernel, rfl, by decide +kernel, by decide +kernel⟩
def t_least_free (K : PySem.W.Frag) : TS := (tSeq (tAsg (tLc (iList K (tVar 1)) (gName 3) tYes (tDGet (tVar 0) (tVar 3)) [3]) (gName 2))
    (tSeq (tAsg (tC (.int 0)) (gName 4))
    (tSeq (tWhile (tTest (tOp (rIn K false) (tVar 4) (tVar 2))) (tAug 4 (tC (.int 1)) (ipI fun i j => i + j)))
    (tRet (tVar 4)))))
theorem der_least_free (T : Tx K mg) {cdv : Value} {A : Around} {outer : List Env} {s : Shared} {H : Hp} {E : XK} (hr : Room 0 (A.deeper (envOfC "least_free" (defScope s_least_free) s.heap.objs.size (He.ga K "least_free") cdv))) :
    PSs (cxOf CX0 P w K mg base N_least_free "least_free" (defScope s_least_free) (He.ga K "least_free") cdv A outer s H E).nox (defBody s_least_free) (t_least_free K) := by
  have hu := hu_of hr
  exact (pss_cons (ps_setLc (i := 2) (own := [("other", 3)]) (g := (gName 3)) (tt := tYes) rfl sc_least_free.nd rfl rfl (sw_true rfl rfl rfl (by decide +kernel)) (pi_list (pv 1)) (blkOk_by (N := N_least_free) (sc := defScope s_least_free) (by decide +kernel)) (fun _ _ _ _ _ => (pg_name (i := 3) sc_least_free.nd rfl (by first | exact Or.inl rfl | exact Or.inr rfl))) (fun _ _ _ _ _ => pts_nil) (fun _ _ _ _ _ => (pe_dget hu (pv 0) (pv 3) (fun _ _ => rfl))))
    (pss_cons (ps_set (i := 4) sc_least_free.nd rfl (by first | exact Or.inl rfl | exact Or.inr rfl) pe_int)
    (pss_cons (ps_while PassesOwn.never (pt_cmpR op_in_seq (pv 4) (pv 2) rfl) (pss_one (ps_aug (i := 4) sc_least_free.nd rfl (by first | exact Or.inl rfl | exact Or.inr rfl) pe_int ip_add)))
    (pss_one (ps_ret (pv 4))))))
theorem ok_least_free (T : Tx K mg) {sp : Sp} (len : ∀ vs H Q E, sp vs H Q E → vs.length = 2) (pure : ∀ vs H Q E, sp vs H Q E → t_least_free K { nx := fun _ H' => Q .non H', rt := Q } (start N_least_free vs) H) : Df P w K mg base 1 (He.ga K "least_free") ["slots", "others"] sp := by
  obtain ⟨fd, F⟩ := T.def_least_free
  exact df_of F sc_least_free (fun _ _ _ _ _ _ us hl => match us, hl with | [_, _], _ => rfl) len (fun hr => der_least_free T hr) pure
/-! ### all_in_slots (level 1; slots 0 values, 1 slots, 2 value) -/
abbrev N_all_in_slots : List Str := ["values", "slots", "value"]
theorem sc_all_in_slots : FnScope N_all_in_slots ["values", "slots"] (defScope s_all_in_slots) := ⟨rfl, rfl, rfl, by decide +kernel, rfl, by decide +kernel, by decide +kernel⟩
def t_all_in_slots (K : PySem.W.Frag) : TS := (tRet (tCB (rTupS K) (tCons (tLc (iTup K (tVar 0)) (gName 2) tYes (tDGet (tVar 1) (tVar 2)) [2]) tNil)))
theorem der_all_in_slots (T : Tx K mg) {cdv : Value} {A : Around} {outer : List Env} {s : Shared} {H : Hp} {E : XK} (hr : Room 0 (A.deeper (envOfC "all_in_slots" (defScope s_all_in_slots) s.heap.objs.size (He.ga K "all_in_slots") cdv))) :
    PSs (cxOf CX0 P w K mg base N_all_in_slots "all_in_slots" (defScope s_all_in_slots) (He.ga K "all_in_slots") cdv A outer s H E).nox (defBody s_all_in_slots) (t_all_in_slots K) := by
  have hu := hu_of hr
  exact (pss_one (ps_ret (pe_callTy call_tuple_of (by rfl) T.free_tuple (by decide +kernel) (pa_cons (pe_lc (own := [("value", 2)]) (g := (gName 2)) (tt := tYes) rfl sc_all_in_slots.nd (pi_tup (pv 0)) (blkOk_by (N := N_all_in_slots) (sc := defScope s_all_in_slots) (by decide +kernel)) (fun _ _ _ _ _ => (pg_name (i := 2) sc_all_in_slots.nd rfl (by first | exact Or.inl rfl | exact Or.inr rfl))) (fun _ _ _ _ _ => pts_nil) (fun _ _ _ _ _ => (pe_dget hu (pv 1) (pv 2) (fun _ _ => rfl)))) pa_nil))))
theorem ok_all_in_slots (T : Tx K mg) {sp : Sp} (len : ∀ vs H Q E, sp vs H Q E → vs.length = 2) (pure : ∀ vs H Q E, sp vs H Q E → t_all_in_slots K { nx := fun _ H' => Q .non H', rt := Q } (start N_all_in_slots vs) H) : Df P w K mg base 1 (He.ga K "all_in_slots") ["values", "slots"] sp := by
  obtain ⟨fd, F⟩ := T.def_all_in_slots
  exact df_of F sc_all_in_slots (fun _ _ _ _ _ _ us hl => match us, hl with | [_, _], _ => rfl) len (fun hr => der_all_in_slots T hr) pure
/-! ### row_in_slots (level 1; slots 0 row, 1 slots) -/
abbrev N_row_in_slots : List Str := ["row", "slots"]
theorem sc_row_in_slots : FnScope N_row_in_slots ["row", "slots"] (defScope s_row_in_slots) := ⟨rfl, rfl, rfl, by decide +kernel, rfl, by decide +kernel, by decide +kernel⟩
def t_row_in_slots (K : PySem.W.Frag) : TS := (tSeq (tIfS (tTest (tOp rEq (tOp (rIxT K) (tVar 0) (tC (.int 0))) (tC (.int (0))))) (tRet (tTup (tCons (tOp (rIxT K) (tVar 0) (tC (.int 0))) (tCons (tDGet (tVar 1) (tOp (rIxT K) (tVar 0) (tC (.int 1)))) (tCons (tOp (rIxT K) (tVar 0) (tC (.int 2))) tNil))))) tNext)
    (tSeq (tIfS (tTest (tOp rEq (tOp (rIxT K) (tVar 0) (tC (.int 0))) (tC (.int (2))))) (tRet (tTup (tCons (tOp (rIxT K) (tVar 0) (tC (.int 0))) (tCons (tDGet (tVar 1) (tOp (rIxT K) (tVar 0) (tC (.int 1)))) (tCons (tOp (rIxT K) (tVar 0) (tC (.int 2))) (tCons (tDGet (tVar 1) (tOp (rIxT K) (tVar 0) (tC (.int 3)))) (tCons (tDGet (tVar 1) (tOp (rIxT K) (tVar 0) (tC (.int 4)))) tNil))))))) tNext)
    (tRet (tTup (tCons (tOp (rIxT K) (tVar 0) (tC (.int 0))) (tCons (tDGet (tVar 1) (tOp (rIxT K) (tVar 0) (tC (.int 1)))) tNil))))))
theorem der_row_in_slots (T : Tx K mg) {cdv : Value} {A : Around} {outer : List Env} {s : Shared} {H : Hp} {E : XK} (hr : Room 0 (A.deeper (envOfC "row_in_slots" (defScope s_row_in_slots) s.heap.objs.size (He.ga K "row_in_slots") cdv))) :
    PSs (cxOf CX0 P w K mg base N_row_in_slots "row_in_slots" (defScope s_row_in_slots) (He.ga K "row_in_slots") cdv A outer s H E).nox (defBody s_row_in_slots) (t_row_in_slots K) := by
  have hu := hu_of hr
  exact (pss_cons (ps_if (pt_cmpR op_eq (pe_ix ix_tup (pv 0) pe_int (fun _ _ => rfl)) (pe_cint T.int_NUMBER_ROW) (nomark _)) (pss_one (ps_ret (pe_tup (pa_cons (pe_ix ix_tup (pv 0) pe_int (fun _ _ => rfl)) (pa_cons (pe_dget hu (pv 1) (pe_ix ix_tup (pv 0) pe_int (fun _ _ => rfl)) (fun _ _ => rfl)) (pa_cons (pe_ix ix_tup (pv 0) pe_int (fun _ _ => rfl)) pa_nil)))))) pss_nil)
    (pss_cons (ps_if (pt_cmpR op_eq (pe_ix ix_tup (pv 0) pe_int (fun _ _ => rfl)) (pe_cint T.int_TWO_ROW) (nomark _)) (pss_one (ps_ret (pe_tup (pa_cons (pe_ix ix_tup (pv 0) pe_int (fun _ _ => rfl)) (pa_cons (pe_dget hu (pv 1) (pe_ix ix_tup (pv 0) pe_int (fun _ _ => rfl)) (fun _ _ => rfl)) (pa_cons (pe_ix ix_tup (pv 0) pe_int (fun _ _ => rfl)) (pa_cons (pe_dget hu (pv 1) (pe_ix ix_tup (pv 0) pe_int (fun _ _ => rfl)) (fun _ _ => rfl)) (pa_cons (pe_dget hu (pv 1) (pe_ix ix_tup (pv 0) pe_int (fun _ _ => rfl)) (fun _ _ => rfl)) pa_nil)))))))) pss_nil)
    (pss_one (ps_ret (pe_tup (pa_cons (pe_ix ix_tup (pv 0) pe_int (fun _ _ => rfl)) (pa_cons (pe_dget hu (pv 1) (pe_ix ix_tup (pv 0) pe_int (fun _ _ => rfl)) (fun _ _ => rfl)) pa_nil)))))))
theorem ok_row_in_slots (T : Tx K mg) {sp : Sp} (len : ∀ vs H Q E, sp vs H Q E → vs.length = 2) (pure : ∀ vs H Q E, sp vs H Q E → t_row_in_slots K { nx := fun _ H' => Q .non H', rt := Q } (start N_row_in_slots vs) H) : Df P w K mg base 1 (He.ga K "row_in_slots") ["row", "slots"] sp := by
  obtain ⟨fd, F⟩ := T.def_row_in_slots
  exact df_of F sc_row_in_slots (fun _ _ _ _ _ _ us hl => match us, hl with | [_, _], _ => rfl) len (fun hr => der_row_in_slots T hr) pure
/-! ### hand_over (level 1; slots 0 blocks, 1 t, 2 handed, 3 held, 4 words, 5 value, 6 word) -/
abbrev N_hand_over : List Str := ["blocks", "t", "handed", "held", "words", "value", "word"]
theorem sc_hand_over : FnScope N_hand_over ["blocks", "t", "handed", "held"] (defScope s_hand_over) := ⟨rfl, rfl, rfl, by decide +kernel, rfl, by decide +kernel, by decide +kernel⟩
def t_hand_over (K : PySem.W.Frag) : TS := (tSeq (tAsg (tLc (iTup K (tVar 2)) (gName 5) tYes (tOp (rIxL K) (tVar 3) (tVar 5)) [5]) (gName 4))
    (tSeq (tFor (iZipTL K (tCons (tFld K (tOp (rIxL K) (tVar 0) (tVar 1)) "taken") (tCons (tVar 4) tNil))) (gTup K 2 (gCons (gName 5) (gCons (gName 6) gNil))) (tAsg (tVar 6) (gSub (tVar 3) (tVar 5) rSetL)))
    (tRet (tVar 1))))
theorem der_hand_over (T : Tx K mg) {cdv : Value} {A : Around} {outer : List Env} {s : Shared} {H : Hp} {E : XK} (hr : Room 0 (A.deeper (envOfC "hand_over" (defScope s_hand_over) s.heap.objs.size (He.ga K "hand_over") cdv))) :
    PSs (cxOf CX0 P w K mg base N_hand_over "hand_over" (defScope s_hand_over) (He.ga K "hand_over") cdv A outer s H E).nox (defBody s_hand_over) (t_hand_over K) := by
  exact (pss_cons (ps_setLc (i := 4) (own := [("value", 5)]) (g := (gName 5)) (tt := tYes) rfl sc_hand_over.nd rfl rfl (sw_true rfl rfl rfl (by decide +kernel)) (pi_tup (pv 2)) (blkOk_by (N := N_hand_over) (sc := defScope s_hand_over) (by decide +kernel)) (fun _ _ _ _ _ => (pg_name (i := 5) sc_hand_over.nd rfl (by first | exact Or.inl rfl | exact Or.inr rfl))) (fun _ _ _ _ _ => pts_nil) (fun _ _ _ _ _ => (pe_ix ix_list (pv 3) (pv 5) (fun _ _ => rfl))))
    (pss_cons (ps_for PassesOwn.never rfl (pi_zipTL (by rfl) T.free_zip (pa_cons (pe_fld (pe_ix ix_list (pv 0) (pv 1) (fun _ _ => rfl)) rfl) (pa_cons (pv 4) pa_nil))) (pg_tup rfl (pgs_cons (pg_name (i := 5) sc_hand_over.nd rfl (by first | exact Or.inl rfl | exact Or.inr rfl)) (pgs_cons (pg_name (i := 6) sc_hand_over.nd rfl (by first | exact Or.inl rfl | exact Or.inr rfl)) pgs_nil))) (pss_one (ps_asg (pv 6) (pg_sub (pv 3) (pv 5) set_list))))
    (pss_one (ps_ret (pv 1)))))
theorem ok_hand_over (T : Tx K mg) {sp : Sp} (len : ∀ vs H Q E, sp vs H Q E → vs.length = 4) (pure : ∀ vs H Q E, sp vs H Q E → t_hand_over K { nx := fun _ H' => Q .non H', rt := Q } (start N_hand_over vs) H) : Df P w K mg base 1 (He.ga K "hand_over") ["blocks", "t", "handed", "held"] sp := by
  obtain ⟨fd, F⟩ := T.def_hand_over
  exact df_of F sc_hand_over (fun _ _ _ _ _ _ us hl => match us, hl with | [_, _, _, _], _ => rfl) len (fun hr => der_hand_over T hr) pure
/-! ### combined (level 1; slots 0 operation, 1 first, 2 second) -/
abbrev N_combined : List Str := ["operation", "first", "second"]
theorem sc_combined : FnScope N_combined ["operation", "first", "second"] (defScope s_combined) := ⟨rfl, rfl, rfl, by decide +kernel, rfl, by decide +kernel, by decide +kernel⟩
def t_combined (K : PySem.W.Frag) : TS := (tSeq (tIfS (tTest (tOp rEq (tVar 0) (tC (.int (0))))) (tRet (tOp rModN (tOp rAdd (tVar 1) (tVar 2)) (tC (.int (4294967296))))) tNext)
    (tSeq (tIfS (tTest (tOp rEq (tVar 0) (tC (.int (1))))) (tRet (tOp rModN (tOp rSub (tVar 1) (tVar 2)) (tC (.int (4294967296))))) tNext)
    (tSeq (tIfS (tTest (tOp rEq (tVar 0) (tC (.int (2))))) (tRet (tOp rModN (tOp rMul (tVar 1) (tVar 2)) (tC (.int (4294967296))))) tNext)
    (tSeq (tIfS (tTest (tOp rEq (tVar 0) (tC (.int (3))))) (tRet (tOp rAnd (tVar 1) (tVar 2))) tNext)
    (tSeq (tIfS (tTest (tOp rEq (tVar 0) (tC (.int (4))))) (tRet (tOp rOr (tVar 1) (tVar 2))) tNext)
    (tSeq (tIfS (tTest (tOp rEq (tVar 0) (tC (.int (5))))) (tRet (tOp rXor (tVar 1) (tVar 2))) tNext)
    (tSeq (tIfS (tTest (tOp rEq (tVar 0) (tC (.int (6))))) (tRet (tOp rModN (tOp rShl (tVar 1) (tOp rModN (tVar 2) (tC (.int (32))))) (tC (.int (4294967296))))) tNext)
    (tSeq (tIfS (tTest (tOp rEq (tVar 0) (tC (.int (7))))) (tRet (tOp rShr (tVar 1) (tOp rModN (tVar 2) (tC (.int (32)))))) tNext)
    (tSeq (tIfS (tTest (tOp rEq (tVar 0) (tC (.int (8))))) (tRet (tIf (tTest (tOp rLt (tVar 1) (tVar 2))) (tC (.int 1)) (tC (.int 0)))) tNext)
    (tSeq (tIfS (tTest (tOp rEq (tVar 0) (tC (.int (9))))) (tRet (tIf (tTest (tOp rEq (tVar 1) (tVar 2))) (tC (.int 1)) (tC (.int 0)))) tNext)
    (tRet (tIf (tTest (tOp rEq (tVar 2) (tC (.int 0)))) (tC .non) (tOp rDivZ (tVar 1) (tVar 2))))))))))))))
theorem der_combined (T : Tx K mg) {cdv : Value} {A : Around} {outer : List Env} {s : Shared} {H : Hp} {E : XK} (hr : Room 0 (A.deeper (envOfC "combined" (defScope s_combined) s.heap.objs.size (He.ga K "combined") cdv))) :
    PSs (cxOf CX0 P w K mg base N_combined "combined" (defScope s_combined) (He.ga K "combined") cdv A outer s H E).nox (defBody s_combined) (t_combined K) := by
  exact (pss_cons (ps_if (pt_cmpR op_eq (pv 0) (pe_cint T.int_SUM) (nomark _)) (pss_one (ps_ret (pe_op op_modN (pe_op op_add (pv 1) (pv 2)) (pe_cint T.int_ALL_WORDS)))) pss_nil)
    (pss_cons (ps_if (pt_cmpR op_eq (pv 0) (pe_cint T.int_LESS) (nomark _)) (pss_one (ps_ret (pe_op op_modN (pe_op op_sub (pv 1) (pv 2)) (pe_cint T.int_ALL_WORDS)))) pss_nil)
    (pss_cons (ps_if (pt_cmpR op_eq (pv 0) (pe_cint T.int_PRODUCT) (nomark _)) (pss_one (ps_ret (pe_op op_modN (pe_op op_mul (pv 1) (pv 2)) (pe_cint T.int_ALL_WORDS)))) pss_nil)
    (pss_cons (ps_if (pt_cmpR op_eq (pv 0) (pe_cint T.int_AND) (nomark _)) (pss_one (ps_ret (pe_op op_and (pv 1) (pv 2)))) pss_nil)
    (pss_cons (ps_if (pt_cmpR op_eq (pv 0) (pe_cint T.int_OR) (nomark _)) (pss_one (ps_ret (pe_op op_or (pv 1) (pv 2)))) pss_nil)
    (pss_cons (ps_if (pt_cmpR op_eq (pv 0) (pe_cint T.int_EXCLUSIVE_OR) (nomark _)) (pss_one (ps_ret (pe_op op_xor (pv 1) (pv 2)))) pss_nil)
    (pss_cons (ps_if (pt_cmpR op_eq (pv 0) (pe_cint T.int_TIMES_POWER) (nomark _)) (pss_one (ps_ret (pe_op op_modN (pe_op op_shl (pv 1) (pe_op op_modN (pv 2) (pe_cint T.int_WORD_BITS))) (pe_cint T.int_ALL_WORDS)))) pss_nil)
    (pss_cons (ps_if (pt_cmpR op_eq (pv 0) (pe_cint T.int_DIVIDED_BY_POWER) (nomark _)) (pss_one (ps_ret (pe_op op_shr (pv 1) (pe_op op_modN (pv 2) (pe_cint T.int_WORD_BITS))))) pss_nil)
    (pss_cons (ps_if (pt_cmpR op_eq (pv 0) (pe_cint T.int_IS_LESS) (nomark _)) (pss_one (ps_ret (pe_ifExp (pt_cmpR op_lt (pv 1) (pv 2) (nomark _)) pe_int pe_int))) pss_nil)
    (pss_cons (ps_if (pt_cmpR op_eq (pv 0) (pe_cint T.int_IS_SAME) (nomark _)) (pss_one (ps_ret (pe_ifExp (pt_cmpR op_eq (pv 1) (pv 2) (nomark _)) pe_int pe_int))) pss_nil)
    (pss_one (ps_ret (pe_ifExp (pt_cmpR op_eq (pv 2) pe_int (nomark _)) pe_non (pe_op op_fdivZ (pv 1) (pv 2)))))))))))))))
theorem ok_combined (T : Tx K mg) {sp : Sp} (len : ∀ vs H Q E, sp vs H Q E → vs.length = 3) (pure : ∀ vs H Q E, sp vs H Q E → t_combined K { nx := fun _ H' => Q .non H', rt := Q } (start N_combined vs) H) : Df P w K mg base 1 (He.ga K "combined") ["operation", "first", "second"] sp := by
  obtain ⟨fd, F⟩ := T.def_combined
  exact df_of F sc_combined (fun _ _ _ _ _ _ us hl => match us, hl with | [_, _, _], _ => rfl) len (fun hr => der_combined T hr) pure
/-! ### counted (level 1; slots 0 values) -/
abbrev N_counted : List Str := ["values"]
theorem sc_counted : FnScope N_counted ["values"] (defScope s_counted) := ⟨rfl, rfl, rfl, by decide +kernel, rfl, by decide +kernel, by decide +kernel⟩
def t_counted (K : PySem.W.Frag) : TS := (tRet (tOp rCat (tLst (tCons (tCB (Evl.rLenS K) (tCons (tVar 0) tNil)) tNil)) (tCB (Evl.rListS K) (tCons (tVar 0) tNil))))
theorem der_counted (T : Tx K mg) {cdv : Value} {A : Around} {outer : List Env} {s : Shared} {H : Hp} {E : XK} (hr : Room 0 (A.deeper (envOfC "counted" (defScope s_counted) s.heap.objs.size (He.ga K "counted") cdv))) :
    PSs (cxOf CX0 P w K mg base N_counted "counted" (defScope s_counted) (He.ga K "counted") cdv A outer s H E).nox (defBody s_counted) (t_counted K) := by
  exact (pss_one (ps_ret (pe_op op_cat (pe_lst (pa_cons (pe_callB call_len_seq (by rfl) T.free_len (by decide +kernel) (pa_cons (pv 0) pa_nil)) pa_nil)) (pe_callTy call_list_of (by rfl) T.free_list (by decide +kernel) (pa_cons (pv 0) pa_nil)))))
theorem ok_counted (T : Tx K mg) {sp : Sp} (len : ∀ vs H Q E, sp vs H Q E → vs.length = 1) (pure : ∀ vs H Q E, sp vs H Q E → t_counted K { nx := fun _ H' => Q .non H', rt := Q } (start N_counted vs) H) : Df P w K mg base 1 (He.ga K "counted") ["values"] sp := by
  obtain ⟨fd, F⟩ := T.def_counted
  exact df_of F sc_counted (fun _ _ _ _ _ _ us hl => match us, hl with | [_], _ => rfl) len (fun hr => der_counted T hr) pure
/-! ### is_place (level 1; slots 0 code, 1 b, 2 number) -/
abbrev N_is_place : List Str := ["code", "b", "number"]
theorem sc_is_place : FnScope N_is_place ["code", "b", "number"] (defScope s_is_place) := ⟨rfl, rfl, rfl, by decide +kernel, rfl, by decide +kernel, by decide +kernel⟩
def t_is_place (K : PySem.W.Frag) : TS := (tRet (tAndV (tOp rLt (tVar 1) (tCB (Evl.rLenS K) (tCons (tFld K (tVar 0) "blocks") tNil))) (tOp rLe (tVar 2) (tCB (Evl.rLenS K) (tCons (tFld K (tOp (rIxL K) (tFld K (tVar 0) "blocks") (tVar 1)) "rows") tNil)))))
theorem der_is_place (T : Tx K mg) {cdv : Value} {A : Around} {outer : List Env} {s : Shared} {H : Hp} {E : XK} (hr : Room 0 (A.deeper (envOfC "is_place" (defScope s_is_place) s.heap.objs.size (He.ga K "is_place") cdv))) :
    PSs (cxOf CX0 P w K mg base N_is_place "is_place" (defScope s_is_place) (He.ga K "is_place") cdv A outer s H E).nox (defBody s_is_place) (t_is_place K) := by
  exact (pss_one (ps_ret (pe_and (pe_cmpR op_lt (pv 1) (pe_callB call_len_seq (by rfl) T.free_len (by decide +kernel) (pa_cons (pe_fld (pv 0) rfl) pa_nil)) (nomark _)) (pe_one (pe_cmpR op_le (pv 2) (pe_callB call_len_seq (by rfl) T.free_len (by decide +kernel) (pa_cons (pe_fld (pe_ix ix_list (pe_fld (pv 0) rfl) (pv 1) (fun _ _ => rfl)) rfl) pa_nil)) (nomark _))))))
theorem ok_is_place (T : Tx K mg) {sp : Sp} (len : ∀ vs H Q E, sp vs H Q E → vs.length = 3) (pure : ∀ vs H Q E, sp vs H Q E → t_is_place K { nx := fun _ H' => Q .non H', rt := Q } (start N_is_place vs) H) : Df P w K mg base 1 (He.ga K "is_place") ["code", "b", "number"] sp := by
  obtain ⟨fd, F⟩ := T.def_is_place
  exact df_of F sc_is_place (fun _ _ _ _ _ _ us hl => match us, hl with | [_, _, _], _ => rfl) len (fun hr => der_is_place T hr) pure
/-! ### split_calls (level 1; slots 0 calls, 1 parts, 2 at, 3 call, 4 behind, 5 numbers, 6 listed) -/
abbrev N_split_calls : List Str := ["calls", "parts", "at", "call", "behind", "numbers", "listed"]
theorem sc_split_calls : FnScope N_split_calls ["calls"] (defScope s_split_calls) := ⟨rfl, rfl, rfl, by decide +kernel, rfl, by decide +kernel, by decide +kernel⟩
def t_split_calls (K : PySem.W.Frag) : TS := (tSeq (tAsg (tLst tNil) (gName 1))
    (tSeq (tAsg (tC (.int 0)) (gName 2))
    (tSeq (tWhile (tTest (tOp rLt (tVar 2) (tCB (Evl.rLenS K) (tCons (tVar 0) tNil)))) (tSeq (tAsg (tOp (rIxL K) (tVar 0) (tVar 2)) (gName 3))
    (tSeq (tAsg (tOp rAdd (tOp rAdd (tVar 2) (tC (.int 1))) (tOp (rIxT K) (tOp (rIxT K) (tC (.ref (He.ga K "FORMS"))) (tVar 3)) (tC (.int 0)))) (gName 4))
    (tSeq (tAsg (tSl (rSlL K) (tVar 0) (tPart (tOp rAdd (tVar 2) (tC (.int 1)))) (tPart (tVar 4))) (gName 5))
    (tSeq (tAsg (tLst tNil) (gName 6))
    (tSeq (tAsg (tVar 4) (gName 2))
    (tSeq (tIfS (tB (tOp (rIxT K) (tOp (rIxT K) (tC (.ref (He.ga K "FORMS"))) (tVar 3)) (tC (.int 1)))) (tSeq (tAsg (tOp rAdd (tOp rAdd (tVar 4) (tC (.int 1))) (tOp (rIxL K) (tVar 0) (tVar 4))) (gName 2))
    (tAsg (tSl (rSlL K) (tVar 0) (tPart (tOp rAdd (tVar 4) (tC (.int 1)))) (tPart (tVar 2))) (gName 6))) tNext)
    (tDrop (tBM K "list" rAppend (tVar 1) (tCons (tTup (tCons (tVar 3) (tCons (tVar 5) (tCons (tVar 6) tNil)))) tNil))))))))))
    (tRet (tVar 1)))))
theorem der_split_calls (T : Tx K mg) {cdv : Value} {A : Around} {outer : List Env} {s : Shared} {H : Hp} {E : XK} (hr : Room 0 (A.deeper (envOfC "split_calls" (defScope s_split_calls) s.heap.objs.size (He.ga K "split_calls") cdv))) :
    PSs (cxOf CX0 P w K mg base N_split_calls "split_calls" (defScope s_split_calls) (He.ga K "split_calls") cdv A outer s H E).nox (defBody s_split_calls) (t_split_calls K) := by
  exact (pss_cons (ps_set (i := 1) sc_split_calls.nd rfl (by first | exact Or.inl rfl | exact Or.inr rfl) (pe_lst pa_nil))
    (pss_cons (ps_set (i := 2) sc_split_calls.nd rfl (by first | exact Or.inl rfl | exact Or.inr rfl) pe_int)
    (pss_cons (ps_while PassesOwn.never (pt_cmpR op_lt (pv 2) (pe_callB call_len_seq (by rfl) T.free_len (by decide +kernel) (pa_cons (pv 0) pa_nil)) (nomark _)) (pss_cons (ps_set (i := 3) sc_split_calls.nd rfl (by first | exact Or.inl rfl | exact Or.inr rfl) (pe_ix ix_list (pv 0) (pv 2) (fun _ _ => rfl)))
    (pss_cons (ps_set (i := 4) sc_split_calls.nd rfl (by first | exact Or.inl rfl | exact Or.inr rfl) (pe_op op_add (pe_op op_add (pv 2) pe_int) (pe_ix ix_tup (pe_ix ix_tup (pe_glob rfl T.glo_FORMS rfl) (pv 3) (fun _ _ => rfl)) pe_int (fun _ _ => rfl))))
    (pss_cons (ps_set (i := 5) sc_split_calls.nd rfl (by first | exact Or.inl rfl | exact Or.inr rfl) (pe_slice sl_list (pv 0) (po_some (pe_op op_add (pv 2) pe_int)) (po_some (pv 4))))
    (pss_cons (ps_set (i := 6) sc_split_calls.nd rfl (by first | exact Or.inl rfl | exact Or.inr rfl) (pe_lst pa_nil))
    (pss_cons (ps_set (i := 2) sc_split_calls.nd rfl (by first | exact Or.inl rfl | exact Or.inr rfl) (pv 4))
    (pss_cons (ps_if (pt_val (pe_ix ix_tup (pe_ix ix_tup (pe_glob rfl T.glo_FORMS rfl) (pv 3) (fun _ _ => rfl)) pe_int (fun _ _ => rfl))) (pss_cons (ps_set (i := 2) sc_split_calls.nd rfl (by first | exact Or.inl rfl | exact Or.inr rfl) (pe_op op_add (pe_op op_add (pv 4) pe_int) (pe_ix ix_list (pv 0) (pv 4) (fun _ _ => rfl))))
    (pss_one (ps_set (i := 6) sc_split_calls.nd rfl (by first | exact Or.inl rfl | exact Or.inr rfl) (pe_slice sl_list (pv 0) (po_some (pe_op op_add (pv 4) pe_int)) (po_some (pv 2)))))) pss_nil)
    (pss_one (ps_expr (pe_bm PySem.F.plainAttrs_list PySem.F.slot_list_append PySem.F.type_list_append mt_append (pv 1) (pa_cons (pe_tup (pa_cons (pv 3) (pa_cons (pv 5) (pa_cons (pv 6) pa_nil)))) pa_nil)))))))))))
    (pss_one (ps_ret (pv 1))))))
theorem ok_split_calls (T : Tx K mg) {sp : Sp} (len : ∀ vs H Q E, sp vs H Q E → vs.length = 1) (pure : ∀ vs H Q E, sp vs H Q E → t_split_calls K { nx := fun _ H' => Q .non H', rt := Q } (start N_split_calls vs) H) : Df P w K mg base 1 (He.ga K "split_calls") ["calls"] sp := by
  obtain ⟨fd, F⟩ := T.def_split_calls
  exact df_of F sc_split_calls (fun _ _ _ _ _ _ us hl => match us, hl with | [_], _ => rfl) len (fun hr => der_split_calls T hr) pure
/-! ### Code_put_row (level 2; slots 0 self, 1 row, 2 used, 3 block) -/
abbrev N_Code_put_row : List Str := ["self", "row", "used", "block"]
theorem sc_Code_put_row : FnScope N_Code_put_row ["self", "row", "used"] (defScope s_Code_put_row) := ⟨rfl, rfl, rfl, by decide +kernel, rfl, by decide +kernel, by decide +kernel⟩
def t_Code_put_row (K : PySem.W.Frag) (sp_Code_open_block : Sp) (sp_all_values : Sp) : TS := (tSeq (tAsg (tMeth (He.ga K "Code") "open_block" sp_Code_open_block [] E0 (tVar 0) tNil) (gName 3))
    (tSeq (tIfS (tTest (tOp rIsN (tVar 3) (tC .non))) (tRet (tC (.int (-3)))) tNext)
    (tSeq (tIfS (tNot (tB (tCall sp_all_values [] E0 (tCons (tVar 2) tNil)))) (tRet (tC (.int (-2)))) tNext)
    (tSeq (tIfS (tTest (tOp rGe (tCB (Evl.rLenS K) (tCons (tFld K (tVar 3) "rows") tNil)) (tC (.int (12))))) (tRet (tC (.int (-1)))) tNext)
    (tSeq (tDrop (tBM K "list" rAppend (tFld K (tVar 3) "rows") (tCons (tVar 1) tNil)))
    (tRet (tCB (Evl.rLenS K) (tCons (tFld K (tVar 3) "rows") tNil))))))))
theorem der_Code_put_row (T : Tx K mg) {sp_Code_open_block : Sp} (D_Code_open_block : Df P w K mg base 1 (He.ma K (He.ga K "Code") "open_block") ["self"] sp_Code_open_block) {sp_all_values : Sp} (D_all_values : Df P w K mg base 1 (He.ga K "all_values") ["numbers"] sp_all_values) {cdv : Value} {A : Around} {outer : List Env} {s : Shared} {H : Hp} {E : XK} (hr : Room 1 (A.deeper (envOfC "Code.put_row" (defScope s_Code_put_row) s.heap.objs.size (He.ma K (He.ga K "Code") "put_row") cdv))) :
    PSs (cxOf CX0 P w K mg base N_Code_put_row "Code.put_row" (defScope s_Code_put_row) (He.ma K (He.ga K "Code") "put_row") cdv A outer s H E).nox (defBody s_Code_put_row) (t_Code_put_row K sp_Code_open_block sp_all_values) := by
  have hr_Code_open_block : Room 1 _ := hr.mono (by decide)
  obtain ⟨fd_Code_open_block, F_Code_open_block, b_Code_open_block⟩ := D_Code_open_block.ex
  have hr_all_values : Room 1 _ := hr.mono (by decide)
  obtain ⟨fd_all_values, F_all_values, b_all_values⟩ := D_all_values.ex
  exact (pss_cons (ps_set (i := 3) sc_Code_put_row.nd rfl (by first | exact Or.inl rfl | exact Or.inr rfl) (pe_meth0 (pv 0) T.cls_Code T.meth_Code_open_block F_Code_open_block hr_Code_open_block b_Code_open_block .nil pass0))
    (pss_cons (ps_if (pt_cmpR op_isN (pv 3) pe_non (nomark _)) (pss_one (ps_ret (pe_cint T.int_WRONG_TIME))) pss_nil)
    (pss_cons (ps_if (pt_not (pt_val (pe_call F_all_values hr_all_values rfl T.glo_all_values D_all_values.kp b_all_values .nil pass0 (pa_cons (pv 2) pa_nil)))) (pss_one (ps_ret (pe_cint T.int_OUT_OF_RANGE))) pss_nil)
    (pss_cons (ps_if (pt_cmpR op_ge (pe_callB call_len_seq (by rfl) T.free_len (by decide +kernel) (pa_cons (pe_fld (pv 3) rfl) pa_nil)) (pe_cint T.int_MOST_ROWS) (nomark _)) (pss_one (ps_ret (pe_cint T.int_BAD_COUNT))) pss_nil)
    (pss_cons (ps_expr (pe_bm PySem.F.plainAttrs_list PySem.F.slot_list_append PySem.F.type_list_append mt_append (pe_fld (pv 3) rfl) (pa_cons (pv 1) pa_nil)))
    (pss_one (ps_ret (pe_callB call_len_seq (by rfl) T.free_len (by decide +kernel) (pa_cons (pe_fld (pv 3) rfl) pa_nil)))))))))
theorem ok_Code_put_row (T : Tx K mg) {sp_Code_open_block : Sp} (D_Code_open_block : Df P w K mg base 1 (He.ma K (He.ga K "Code") "open_block") ["self"] sp_Code_open_block) {sp_all_values : Sp} (D_all_values : Df P w K mg base 1 (He.ga K "all_values") ["numbers"] sp_all_values) {sp : Sp} (len : ∀ vs H Q E, sp vs H Q E → vs.length = 3) (pure : ∀ vs H Q E, sp vs H Q E → t_Code_put_row K sp_Code_open_block sp_all_values { nx := fun _ H' => Q .non H', rt := Q } (start N_Code_put_row vs) H) : Df P w K mg base 2 (He.ma K (He.ga K "Code") "put_row") ["self", "row", "used"] sp := by
  obtain ⟨fd, F⟩ := T.def_Code_put_row
  exact df_of F sc_Code_put_row (fun _ _ _ _ _ _ us hl => match us, hl with | [_, _, _], _ => rfl) len (fun hr => der_Code_put_row T D_Code_open_block D_all_values hr) pure
/-! ### Code_put_end (level 2; slots 0 self, 1 end, 2 used, 3 targets, 4 block) -/
abbrev N_Code_put_end : List Str := ["self", "end", "used", "targets", "block"]
theorem sc_Code_put_end : FnScope N_Code_put_end ["self", "end", "used", "targets"] (defScope s_Code_put_end) := ⟨rfl, rfl, rfl, by decide +kernel, rfl, by decide +kernel, by decide +kernel⟩
def t_Code_put_end (K : PySem.W.Frag) (sp_Code_open_block : Sp) (sp_all_targets : Sp) (sp_all_values : Sp) : TS := (tSeq (tAsg (tMeth (He.ga K "Code") "open_block" sp_Code_open_block [] E0 (tVar 0) tNil) (gName 4))
    (tSeq (tIfS (tTest (tOp rIsN (tVar 4) (tC .non))) (tRet (tC (.int (-3)))) tNext)
    (tSeq (tIfS (tOr (tNot (tB (tCall sp_all_values [] E0 (tCons (tVar 2) tNil)))) (tNot (tB (tCall sp_all_targets [] E0 (tCons (tVar 3) tNil))))) (tRet (tC (.int (-2)))) tNext)
    (tSeq (sFld K (tVar 4) (tVar 1) "end")
    (tRet (tCB (Evl.rLenS K) (tCons (tFld K (tVar 0) "blocks") tNil)))))))
theorem der_Code_put_end (T : Tx K mg) {sp_Code_open_block : Sp} (D_Code_open_block : Df P w K mg base 1 (He.ma K (He.ga K "Code") "open_block") ["self"] sp_Code_open_block) {sp_all_targets : Sp} (D_all_targets : Df P w K mg base 1 (He.ga K "all_targets") ["numbers"] sp_all_targets) {sp_all_values : Sp} (D_all_values : Df P w K mg base 1 (He.ga K "all_values") ["numbers"] sp_all_values) {cdv : Value} {A : Around} {outer : List Env} {s : Shared} {H : Hp} {E : XK} (hr : Room 1 (A.deeper (envOfC "Code.put_end" (defScope s_Code_put_end) s.heap.objs.size (He.ma K (He.ga K "Code") "put_end") cdv))) :
    PSs (cxOf CX0 P w K mg base N_Code_put_end "Code.put_end" (defScope s_Code_put_end) (He.ma K (He.ga K "Code") "put_end") cdv A outer s H E).nox (defBody s_Code_put_end) (t_Code_put_end K sp_Code_open_block sp_all_targets sp_all_values) := by
  have hr_Code_open_block : Room 1 _ := hr.mono (by decide)
  obtain ⟨fd_Code_open_block, F_Code_open_block, b_Code_open_block⟩ := D_Code_open_block.ex
  have hr_all_targets : Room 1 _ := hr.mono (by decide)
  obtain ⟨fd_all_targets, F_all_targets, b_all_targets⟩ := D_all_targets.ex
  have hr_all_values : Room 1 _ := hr.mono (by decide)
  obtain ⟨fd_all_values, F_all_values, b_all_values⟩ := D_all_values.ex
  exact (pss_cons (ps_set (i := 4) sc_Code_put_end.nd rfl (by first | exact Or.inl rfl | exact Or.inr rfl) (pe_meth0 (pv 0) T.cls_Code T.meth_Code_open_block F_Code_open_block hr_Code_open_block b_Code_open_block .nil pass0))
    (pss_cons (ps_if (pt_cmpR op_isN (pv 4) pe_non (nomark _)) (pss_one (ps_ret (pe_cint T.int_WRONG_TIME))) pss_nil)
    (pss_cons (ps_if (PW.pt (pw_or (pt_not (pt_val (pe_call F_all_values hr_all_values rfl T.glo_all_values D_all_values.kp b_all_values .nil pass0 (pa_cons (pv 2) pa_nil)))) (pw_or1 (pt_not (pt_val (pe_call F_all_targets hr_all_targets rfl T.glo_all_targets D_all_targets.kp b_all_targets .nil pass0 (pa_cons (pv 3) pa_nil))))))) (pss_one (ps_ret (pe_cint T.int_OUT_OF_RANGE))) pss_nil)
    (pss_cons (ps_fld (pv 4) (pv 1) rfl)
    (pss_one (ps_ret (pe_callB call_len_seq (by rfl) T.free_len (by decide +kernel) (pa_cons (pe_fld (pv 0) rfl) pa_nil))))))))
theorem ok_Code_put_end (T : Tx K mg) {sp_Code_open_block : Sp} (D_Code_open_block : Df P w K mg base 1 (He.ma K (He.ga K "Code") "open_block") ["self"] sp_Code_open_block) {sp_all_targets : Sp} (D_all_targets : Df P w K mg base 1 (He.ga K "all_targets") ["numbers"] sp_all_targets) {sp_all_values : Sp} (D_all_values : Df P w K mg base 1 (He.ga K "all_values") ["numbers"] sp_all_values) {sp : Sp} (len : ∀ vs H Q E, sp vs H Q E → vs.length = 4) (pure : ∀ vs H Q E, sp vs H Q E → t_Code_put_end K sp_Code_open_block sp_all_targets sp_all_values { nx := fun _ H' => Q .non H', rt := Q } (start N_Code_put_end vs) H) : Df P w K mg base 2 (He.ma K (He.ga K "Code") "put_end") ["self", "end", "used", "targets"] sp := by
  obtain ⟨fd, F⟩ := T.def_Code_put_end
  exact df_of F sc_Code_put_end (fun _ _ _ _ _ _ us hl => match us, hl with | [_, _, _, _], _ => rfl) len (fun hr => der_Code_put_end T D_Code_open_block D_all_targets D_all_values hr) pure
/-! ### given_in_block (level 2; slots 0 block, 1 given, 2 row) -/
abbrev N_given_in_block : List Str := ["block", "given", "row"]
theorem sc_given_in_block : FnScope N_given_in_block ["block"] (defScope s_given_in_block) := ⟨rfl, rfl, rfl, by decide +kernel, rfl, by decide +kernel, by decide +kernel⟩
def t_given_in_block (K : PySem.W.Frag) (sp_given_by_row : Sp) : TS := (tSeq (tAsg (tCB (Evl.rListS K) (tCons (tFld K (tVar 0) "taken") tNil)) (gName 1))
    (tSeq (tFor (iList K (tFld K (tVar 0) "rows")) (gName 2) (tDrop (tBM K "list" rExtend (tVar 1) (tCons (tCall sp_given_by_row [] E0 (tCons (tVar 2) tNil)) tNil))))
    (tRet (tVar 1))))
theorem der_given_in_block (T : Tx K mg) {sp_given_by_row : Sp} (D_given_by_row : Df P w K mg base 1 (He.ga K "given_by_row") ["row"] sp_given_by_row) {cdv : Value} {A : Around} {outer : List Env} {s : Shared} {H : Hp} {E : XK} (hr : Room 1 (A.deeper (envOfC "given_in_block" (defScope s_given_in_block) s.heap.objs.size (He.ga K "given_in_block") cdv))) :
    PSs (cxOf CX0 P w K mg base N_given_in_block "given_in_block" (defScope s_given_in_block) (He.ga K "given_in_block") cdv A outer s H E).nox (defBody s_given_in_block) (t_given_in_block K sp_given_by_row) := by
  have hr_given_by_row : Room 1 _ := hr.mono (by decide)
  obtain ⟨fd_given_by_row, F_given_by_row, b_given_by_row⟩ := D_given_by_row.ex
  exact (pss_cons (ps_set (i := 1) sc_given_in_block.nd rfl (by first | exact Or.inl rfl | exact Or.inr rfl) (pe_callTy call_list_of (by rfl) T.free_list (by decide +kernel) (pa_cons (pe_fld (pv 0) rfl) pa_nil)))
    (pss_cons (ps_for PassesOwn.never rfl (pi_list (pe_fld (pv 0) rfl)) (pg_name (i := 2) sc_given_in_block.nd rfl (by first | exact Or.inl rfl | exact Or.inr rfl)) (pss_one (ps_expr (pe_bm PySem.F.plainAttrs_list PySem.F.slot_list_extend PySem.F.type_list_extend mt_extend (pv 1) (pa_cons (pe_call F_given_by_row hr_given_by_row rfl T.glo_given_by_row D_given_by_row.kp b_given_by_row .nil pass0 (pa_cons (pv 2) pa_nil)) pa_nil)))))
    (pss_one (ps_ret (pv 1)))))
theorem ok_given_in_block (T : Tx K mg) {sp_given_by_row : Sp} (D_given_by_row : Df P w K mg base 1 (He.ga K "given_by_row") ["row"] sp_given_by_row) {sp : Sp} (len : ∀ vs H Q E, sp vs H Q E → vs.length = 1) (pure : ∀ vs H Q E, sp vs H Q E → t_given_in_block K sp_given_by_row { nx := fun _ H' => Q .non H', rt := Q } (start N_given_in_block vs) H) : Df P w K mg base 2 (He.ga K "given_in_block") ["block"] sp := by
  obtain ⟨fd, F⟩ := T.def_given_in_block
  exact df_of F sc_given_in_block (fun _ _ _ _ _ _ us hl => match us, hl with | [_], _ => rfl) len (fun hr => der_given_in_block T D_given_by_row hr) pure
/-! ### ways_fit (level 2; slots 0 code, 1 block, 2 t, 3 handed) -/
abbrev N_ways_fit : List Str := ["code", "block", "t", "handed"]
theorem sc_ways_fit : FnScope N_ways_fit ["code", "block"] (defScope s_ways_fit) := ⟨rfl, rfl, rfl, by decide +kernel, rfl, by decide +kernel, by decide +kernel⟩
def t_ways_fit (K : PySem.W.Frag) (sp_ways : Sp) : TS := (tSeq (tFor (iList K (tCall sp_ways [] E0 (tCons (tFld K (tVar 1) "end") tNil))) (gTup K 2 (gCons (gName 2) (gCons (gName 3) gNil))) (tIfS (tOr (tTest (tOp rGe (tVar 2) (tCB (Evl.rLenS K) (tCons (tFld K (tVar 0) "blocks") tNil)))) (tTest (tOp rNe (tCB (Evl.rLenS K) (tCons (tVar 3) tNil)) (tCB (Evl.rLenS K) (tCons (tFld K (tOp (rIxL K) (tFld K (tVar 0) "blocks") (tVar 2)) "taken") tNil))))) (tRet (tC (.bl false))) tNext))
    (tRet (tC (.bl true))))
theorem der_ways_fit (T : Tx K mg) {sp_ways : Sp} (D_ways : Df P w K mg base 1 (He.ga K "ways") ["end"] sp_ways) {cdv : Value} {A : Around} {outer : List Env} {s : Shared} {H : Hp} {E : XK} (hr : Room 1 (A.deeper (envOfC "ways_fit" (defScope s_ways_fit) s.heap.objs.size (He.ga K "ways_fit") cdv))) :
    PSs (cxOf CX0 P w K mg base N_ways_fit "ways_fit" (defScope s_ways_fit) (He.ga K "ways_fit") cdv A outer s H E).nox (defBody s_ways_fit) (t_ways_fit K sp_ways) := by
  have hr_ways : Room 1 _ := hr.mono (by decide)
  obtain ⟨fd_ways, F_ways, b_ways⟩ := D_ways.ex
  exact (pss_cons (ps_for PassesOwn.never rfl (pi_list (pe_call F_ways hr_ways rfl T.glo_ways D_ways.kp b_ways .nil pass0 (pa_cons (pe_fld (pv 1) rfl) pa_nil))) (pg_tup rfl (pgs_cons (pg_name (i := 2) sc_ways_fit.nd rfl (by first | exact Or.inl rfl | exact Or.inr rfl)) (pgs_cons (pg_name (i := 3) sc_ways_fit.nd rfl (by first | exact Or.inl rfl | exact Or.inr rfl)) pgs_nil))) (pss_one (ps_if (PW.pt (pw_or (pt_cmpR op_ge (pv 2) (pe_callB call_len_seq (by rfl) T.free_len (by decide +kernel) (pa_cons (pe_fld (pv 0) rfl) pa_nil)) (nomark _)) (pw_or1 (pt_cmpR op_ne (pe_callB call_len_seq (by rfl) T.free_len (by decide +kernel) (pa_cons (pv 3) pa_nil)) (pe_callB call_len_seq (by rfl) T.free_len (by decide +kernel) (pa_cons (pe_fld (pe_ix ix_list (pe_fld (pv 0) rfl) (pv 2) (fun _ _ => rfl)) rfl) pa_nil)) (nomark _))))) (pss_one (ps_ret pe_bl)) pss_nil)))
    (pss_one (ps_ret pe_bl)))
theorem ok_ways_fit (T : Tx K mg) {sp_ways : Sp} (D_ways : Df P w K mg base 1 (He.ga K "ways") ["end"] sp_ways) {sp : Sp} (len : ∀ vs H Q E, sp vs H Q E → vs.length = 2) (pure : ∀ vs H Q E, sp vs H Q E → t_ways_fit K sp_ways { nx := fun _ H' => Q .non H', rt := Q } (start N_ways_fit vs) H) : Df P w K mg base 2 (He.ga K "ways_fit") ["code", "block"] sp := by
  obtain ⟨fd, F⟩ := T.def_ways_fit
  exact df_of F sc_ways_fit (fun _ _ _ _ _ _ us hl => match us, hl with | [_, _], _ => rfl) len (fun hr => der_ways_fit T D_ways hr) pure
/-! ### reached (level 2; slots 0 code, 1 left_out, 2 found, 3 at, 4 t, 5 handed) -/
abbrev N_reached : List Str := ["code", "left_out", "found", "at", "t", "handed"]
theorem sc_reached : FnScope N_reached ["code", "left_out"] (defScope s_reached) := ⟨rfl, rfl, rfl, by decide +kernel, rfl, by decide +kernel, by decide +kernel⟩
def t_reached (K : PySem.W.Frag) (sp_ways : Sp) : TS := (tSeq (tAsg (tIf (tTest (tOp rEq (tVar 1) (tC (.int 0)))) (tLst tNil) (tLst (tCons (tC (.int 0)) tNil))) (gName 2))
    (tSeq (tAsg (tC (.int 0)) (gName 3))
    (tSeq (tWhile (tTest (tOp rLt (tVar 3) (tCB (Evl.rLenS K) (tCons (tVar 2) tNil)))) (tSeq (tFor (iList K (tCall sp_ways [] E0 (tCons (tFld K (tOp (rIxL K) (tFld K (tVar 0) "blocks") (tOp (rIxL K) (tVar 2) (tVar 3))) "end") tNil))) (gTup K 2 (gCons (gName 4) (gCons (gName 5) gNil))) (tIfS (tAnd (tTest (tOp rNe (tVar 4) (tVar 1))) (tTest (tOp (rIn K true) (tVar 4) (tVar 2)))) (tDrop (tBM K "list" rAppend (tVar 2) (tCons (tVar 4) tNil))) tNext))
    (tAug 3 (tC (.int 1)) (ipI fun i j => i + j))))
    (tRet (tVar 2)))))
theorem der_reached (T : Tx K mg) {sp_ways : Sp} (D_ways : Df P w K mg base 1 (He.ga K "ways") ["end"] sp_ways) {cdv : Value} {A : Around} {outer : List Env} {s : Shared} {H : Hp} {E : XK} (hr : Room 1 (A.deeper (envOfC "reached" (defScope s_reached) s.heap.objs.size (He.ga K "reached") cdv))) :
    PSs (cxOf CX0 P w K mg base N_reached "reached" (defScope s_reached) (He.ga K "reached") cdv A outer s H E).nox (defBody s_reached) (t_reached K sp_ways) := by
  have hr_ways : Room 1 _ := hr.mono (by decide)
  obtain ⟨fd_ways, F_ways, b_ways⟩ := D_ways.ex
  exact (pss_cons (ps_set (i := 2) sc_reached.nd rfl (by first | exact Or.inl rfl | exact Or.inr rfl) (pe_ifExp (pt_cmpR op_eq (pv 1) pe_int (nomark _)) (pe_lst pa_nil) (pe_lst (pa_cons pe_int pa_nil))))
    (pss_cons (ps_set (i := 3) sc_reached.nd rfl (by first | exact Or.inl rfl | exact Or.inr rfl) pe_int)
    (pss_cons (ps_while PassesOwn.never (pt_cmpR op_lt (pv 3) (pe_callB call_len_seq (by rfl) T.free_len (by decide +kernel) (pa_cons (pv 2) pa_nil)) (nomark _)) (pss_cons (ps_for PassesOwn.never rfl (pi_list (pe_call F_ways hr_ways rfl T.glo_ways D_ways.kp b_ways .nil pass0 (pa_cons (pe_fld (pe_ix ix_list (pe_fld (pv 0) rfl) (pe_ix ix_list (pv 2) (pv 3) (fun _ _ => rfl)) (fun _ _ => rfl)) rfl) pa_nil))) (pg_tup rfl (pgs_cons (pg_name (i := 4) sc_reached.nd rfl (by first | exact Or.inl rfl | exact Or.inr rfl)) (pgs_cons (pg_name (i := 5) sc_reached.nd rfl (by first | exact Or.inl rfl | exact Or.inr rfl)) pgs_nil))) (pss_one (ps_if (PW.pt (pw_and (pt_cmpR op_ne (pv 4) (pv 1) (nomark _)) (pw_and1 (pt_cmpR op_notIn_seq (pv 4) (pv 2) rfl)))) (pss_one (ps_expr (pe_bm PySem.F.plainAttrs_list PySem.F.slot_list_append PySem.F.type_list_append mt_append (pv 2) (pa_cons (pv 4) pa_nil)))) pss_nil)))
    (pss_one (ps_aug (i := 3) sc_reached.nd rfl (by first | exact Or.inl rfl | exact Or.inr rfl) pe_int ip_add))))
    (pss_one (ps_ret (pv 2))))))
theorem ok_reached (T : Tx K mg) {sp_ways : Sp} (D_ways : Df P w K mg base 1 (He.ga K "ways") ["end"] sp_ways) {sp : Sp} (len : ∀ vs H Q E, sp vs H Q E → vs.length = 2) (pure : ∀ vs H Q E, sp vs H Q E → t_reached K sp_ways { nx := fun _ H' => Q .non H', rt := Q } (start N_reached vs) H) : Df P w K mg base 2 (He.ga K "reached") ["code", "left_out"] sp := by
  obtain ⟨fd, F⟩ := T.def_reached
  exact df_of F sc_reached (fun _ _ _ _ _ _ us hl => match us, hl with | [_, _], _ => rfl) len (fun hr => der_reached T D_ways hr) pure
/-! ### live_at_end (level 2; slots 0 end, 1 coming, 2 live, 3 t, 4 handed) -/
abbrev N_live_at_end : List Str := ["end", "coming", "live", "t", "handed"]
theorem sc_live_at_end : FnScope N_live_at_end ["end", "coming"] (defScope s_live_at_end) := ⟨rfl, rfl, rfl, by decide +kernel, rfl, by decide +kernel, by decide +kernel⟩
def t_live_at_end (K : PySem.W.Frag) (sp_used_by_end : Sp) (sp_ways : Sp) : TS := (tSeq (tAsg (tCall sp_used_by_end [] E0 (tCons (tVar 0) tNil)) (gName 2))
    (tSeq (tFor (iList K (tCall sp_ways [] E0 (tCons (tVar 0) tNil))) (gTup K 2 (gCons (gName 3) (gCons (gName 4) gNil))) (tDrop (tBM K "list" rExtend (tVar 2) (tCons (tOp (rIxL K) (tVar 1) (tVar 3)) tNil))))
    (tRet (tSortSetZ K (tVar 2)))))
theorem der_live_at_end (T : Tx K mg) {sp_used_by_end : Sp} (D_used_by_end : Df P w K mg base 1 (He.ga K "used_by_end") ["end"] sp_used_by_end) {sp_ways : Sp} (D_ways : Df P w K mg base 1 (He.ga K "ways") ["end"] sp_ways) {cdv : Value} {A : Around} {outer : List Env} {s : Shared} {H : Hp} {E : XK} (hr : Room 1 (A.deeper (envOfC "live_at_end" (defScope s_live_at_end) s.heap.objs.size (He.ga K "live_at_end") cdv))) :
    PSs (cxOf CX0 P w K mg base N_live_at_end "live_at_end" (defScope s_live_at_end) (He.ga K "live_at_end") cdv A outer s H E).nox (defBody s_live_at_end) (t_live_at_end K sp_used_by_end sp_ways) := by
  have hr_used_by_end : Room 1 _ := hr.mono (by decide)
  obtain ⟨fd_used_by_end, F_used_by_end, b_used_by_end⟩ := D_used_by_end.ex
  have hr_ways : Room 1 _ := hr.mono (by decide)
  obtain ⟨fd_ways, F_ways, b_ways⟩ := D_ways.ex
  exact (pss_cons (ps_set (i := 2) sc_live_at_end.nd rfl (by first | exact Or.inl rfl | exact Or.inr rfl) (pe_call F_used_by_end hr_used_by_end rfl T.glo_used_by_end D_used_by_end.kp b_used_by_end .nil pass0 (pa_cons (pv 0) pa_nil)))
    (pss_cons (ps_for PassesOwn.never rfl (pi_list (pe_call F_ways hr_ways rfl T.glo_ways D_ways.kp b_ways .nil pass0 (pa_cons (pv 0) pa_nil))) (pg_tup rfl (pgs_cons (pg_name (i := 3) sc_live_at_end.nd rfl (by first | exact Or.inl rfl | exact Or.inr rfl)) (pgs_cons (pg_name (i := 4) sc_live_at_end.nd rfl (by first | exact Or.inl rfl | exact Or.inr rfl)) pgs_nil))) (pss_one (ps_expr (pe_bm PySem.F.plainAttrs_list PySem.F.slot_list_extend PySem.F.type_list_extend mt_extend (pv 2) (pa_cons (pe_ix ix_list (pv 1) (pv 3) (fun _ _ => rfl)) pa_nil)))))
    (pss_one (ps_ret (pe_sortSetZ rfl (by rfl) T.free_sorted (by rfl) T.free_set (pv 2))))))
theorem ok_live_at_end (T : Tx K mg) {sp_used_by_end : Sp} (D_used_by_end : Df P w K mg base 1 (He.ga K "used_by_end") ["end"] sp_used_by_end) {sp_ways : Sp} (D_ways : Df P w K mg base 1 (He.ga K "ways") ["end"] sp_ways) {sp : Sp} (len : ∀ vs H Q E, sp vs H Q E → vs.length = 2) (pure : ∀ vs H Q E, sp vs H Q E → t_live_at_end K sp_used_by_end sp_ways { nx := fun _ H' => Q .non H', rt := Q } (start N_live_at_end vs) H) : Df P w K mg base 2 (He.ga K "live_at_end") ["end", "coming"] sp := by
  obtain ⟨fd, F⟩ := T.def_live_at_end
  exact df_of F sc_live_at_end (fun _ _ _ _ _ _ us hl => match us, hl with | [_, _], _ => rfl) len (fun hr => der_live_at_end T D_used_by_end D_ways hr) pure
/-! ### there_in_block (level 2; slots 0 block, 1 places, 2 given, 3 row, 4 live, 5 new) -/
abbrev N_there_in_block : List Str := ["block", "places", "given", "row", "live", "new"]
theorem sc_there_in_block : FnScope N_there_in_block ["block", "places"] (defScope s_there_in_block) := ⟨rfl, rfl, rfl, by decide +kernel, rfl, by decide +kernel, by decide +kernel⟩
def t_there_in_block (K : PySem.W.Frag) (sp_given_by_row : Sp) : TS := (tSeq (tAsg (tOp rCat (tLst (tCons (tCB (Evl.rListS K) (tCons (tFld K (tVar 0) "taken") tNil)) tNil)) (tLc (iList K (tFld K (tVar 0) "rows")) (gName 3) tYes (tCall sp_given_by_row [] E0 (tCons (tVar 3) tNil)) [3])) (gName 2))
    (tRet (tLc (iZip K (tCons (tVar 1) (tCons (tVar 2) tNil))) (gTup K 2 (gCons (gName 4) (gCons (gName 5) gNil))) tYes (tSortSetZ K (tOp rCat (tVar 4) (tVar 5))) [4, 5])))
theorem der_there_in_block (T : Tx K mg) {sp_given_by_row : Sp} (D_given_by_row : Df P w K mg base 1 (He.ga K "given_by_row") ["row"] sp_given_by_row) {cdv : Value} {A : Around} {outer : List Env} {s : Shared} {H : Hp} {E : XK} (hr : Room 1 (A.deeper (envOfC "there_in_block" (defScope s_there_in_block) s.heap.objs.size (He.ga K "there_in_block") cdv))) :
    PSs (cxOf CX0 P w K mg base N_there_in_block "there_in_block" (defScope s_there_in_block) (He.ga K "there_in_block") cdv A outer s H E).nox (defBody s_there_in_block) (t_there_in_block K sp_given_by_row) := by
  have hr_given_by_row : Room 1 _ := hr.mono (by decide)
  obtain ⟨fd_given_by_row, F_given_by_row, b_given_by_row⟩ := D_given_by_row.ex
  exact (pss_cons (ps_set (i := 2) sc_there_in_block.nd rfl (by first | exact Or.inl rfl | exact Or.inr rfl) (pe_op op_cat (pe_lst (pa_cons (pe_callTy call_list_of (by rfl) T.free_list (by decide +kernel) (pa_cons (pe_fld (pv 0) rfl) pa_nil)) pa_nil)) (pe_lc (own := [("row", 3)]) (g := (gName 3)) (tt := tYes) rfl sc_there_in_block.nd (pi_list (pe_fld (pv 0) rfl)) (blkOk_by (N := N_there_in_block) (sc := defScope s_there_in_block) (by decide +kernel)) (fun _ _ _ _ _ => (pg_name (i := 3) sc_there_in_block.nd rfl (by first | exact Or.inl rfl | exact Or.inr rfl))) (fun _ _ _ _ _ => pts_nil) (fun _ _ _ _ _ => (pe_call F_given_by_row hr_given_by_row rfl T.glo_given_by_row D_given_by_row.kp b_given_by_row .nil pass0 (pa_cons (pv 3) pa_nil))))))
    (pss_one (ps_ret (pe_lc (own := [("live", 4), ("new", 5)]) (g := (gTup K 2 (gCons (gName 4) (gCons (gName 5) gNil)))) (tt := tYes) rfl sc_there_in_block.nd (pi_zip (by rfl) T.free_zip (pa_cons (pv 1) (pa_cons (pv 2) pa_nil))) (blkOk_by (N := N_there_in_block) (sc := defScope s_there_in_block) (by decide +kernel)) (fun _ _ _ _ _ => (pg_tup rfl (pgs_cons (pg_name (i := 4) sc_there_in_block.nd rfl (by first | exact Or.inl rfl | exact Or.inr rfl)) (pgs_cons (pg_name (i := 5) sc_there_in_block.nd rfl (by first | exact Or.inl rfl | exact Or.inr rfl)) pgs_nil)))) (fun _ _ _ _ _ => pts_nil) (fun _ _ _ _ _ => (pe_sortSetZ rfl (by rfl) T.free_sorted (by rfl) T.free_set (pe_op op_cat (pv 4) (pv 5))))))))
theorem ok_there_in_block (T : Tx K mg) {sp_given_by_row : Sp} (D_given_by_row : Df P w K mg base 1 (He.ga K "given_by_row") ["row"] sp_given_by_row) {sp : Sp} (len : ∀ vs H Q E, sp vs H Q E → vs.length = 2) (pure : ∀ vs H Q E, sp vs H Q E → t_there_in_block K sp_given_by_row { nx := fun _ H' => Q .non H', rt := Q } (start N_there_in_block vs) H) : Df P w K mg base 2 (He.ga K "there_in_block") ["block", "places"] sp := by
  obtain ⟨fd, F⟩ := T.def_there_in_block
  exact df_of F sc_there_in_block (fun _ _ _ _ _ _ us hl => match us, hl with | [_, _], _ => rfl) len (fun hr => der_there_in_block T D_given_by_row hr) pure
/-! ### place_one_by_one (level 2; slots 0 slots, 1 values, 2 others, 3 there, 4 value) -/
abbrev N_place_one_by_one : List Str := ["slots", "values", "others", "there", "value"]
theorem sc_place_one_by_one : FnScope N_place_one_by_one ["slots", "values", "others"] (defScope s_place_one_by_one) := ⟨rfl, rfl, rfl, by decide +kernel, rfl, by decide +kernel, by decide +kernel⟩
def t_place_one_by_one (K : PySem.W.Frag) (sp_least_free : Sp) : TS := (tSeq (tAsg (tCB (Evl.rListS K) (tCons (tVar 2) tNil)) (gName 3))
    (tFor (iList K (tVar 1)) (gName 4) (tSeq (sDPut (tVar 0) (tVar 4) (tCall sp_least_free [] E0 (tCons (tVar 0) (tCons (tVar 3) tNil))))
    (tDrop (tBM K "list" rAppend (tVar 3) (tCons (tVar 4) tNil))))))
theorem der_place_one_by_one (T : Tx K mg) {sp_least_free : Sp} (D_least_free : Df P w K mg base 1 (He.ga K "least_free") ["slots", "others"] sp_least_free) {cdv : Value} {A : Around} {outer : List Env} {s : Shared} {H : Hp} {E : XK} (hr : Room 1 (A.deeper (envOfC "place_one_by_one" (defScope s_place_one_by_one) s.heap.objs.size (He.ga K "place_one_by_one") cdv))) :
    PSs (cxOf CX0 P w K mg base N_place_one_by_one "place_one_by_one" (defScope s_place_one_by_one) (He.ga K "place_one_by_one") cdv A outer s H E).nox (defBody s_place_one_by_one) (t_place_one_by_one K sp_least_free) := by
  have hr_least_free : Room 1 _ := hr.mono (by decide)
  obtain ⟨fd_least_free, F_least_free, b_least_free⟩ := D_least_free.ex
  have hu := hu_of hr
  exact (pss_cons (ps_set (i := 3) sc_place_one_by_one.nd rfl (by first | exact Or.inl rfl | exact Or.inr rfl) (pe_callTy call_list_of (by rfl) T.free_list (by decide +kernel) (pa_cons (pv 2) pa_nil)))
    (pss_one (ps_for PassesOwn.never rfl (pi_list (pv 1)) (pg_name (i := 4) sc_place_one_by_one.nd rfl (by first | exact Or.inl rfl | exact Or.inr rfl)) (pss_cons (ps_dput hu (pv 0) (pv 4) (pe_call F_least_free hr_least_free rfl T.glo_least_free D_least_free.kp b_least_free .nil pass0 (pa_cons (pv 0) (pa_cons (pv 3) pa_nil))) rfl)
    (pss_one (ps_expr (pe_bm PySem.F.plainAttrs_list PySem.F.slot_list_append PySem.F.type_list_append mt_append (pv 3) (pa_cons (pv 4) pa_nil))))))))
theorem ok_place_one_by_one (T : Tx K mg) {sp_least_free : Sp} (D_least_free : Df P w K mg base 1 (He.ga K "least_free") ["slots", "others"] sp_least_free) {sp : Sp} (len : ∀ vs H Q E, sp vs H Q E → vs.length = 3) (pure : ∀ vs H Q E, sp vs H Q E → t_place_one_by_one K sp_least_free { nx := fun _ H' => Q .non H', rt := Q } (start N_place_one_by_one vs) H) : Df P w K mg base 2 (He.ga K "place_one_by_one") ["slots", "values", "others"] sp := by
  obtain ⟨fd, F⟩ := T.def_place_one_by_one
  exact df_of F sc_place_one_by_one (fun _ _ _ _ _ _ us hl => match us, hl with | [_, _, _], _ => rfl) len (fun hr => der_place_one_by_one T D_least_free hr) pure
/-! ### place_rows (level 2; slots 0 slots, 1 rows, 2 places, 3 r, 4 row, 5 value, 6 other) -/
abbrev N_place_rows : List Str := ["slots", "rows", "places", "r", "row", "value", "other"]
theorem sc_place_rows : FnScope N_place_rows ["slots", "rows", "places"] (defScope s_place_rows) := ⟨rfl, rfl, rfl, by decide +kernel, rfl, by decide +kernel, by decide +kernel⟩
def t_place_rows (K : PySem.W.Frag) (sp_given_by_row : Sp) (sp_least_free : Sp) : TS := (tFor (iEnum K (tCons (tVar 1) tNil)) (gTup K 2 (gCons (gName 3) (gCons (gName 4) gNil))) (tFor (iList K (tCall sp_given_by_row [] E0 (tCons (tVar 4) tNil))) (gName 5) (sDPut (tVar 0) (tVar 5) (tCall sp_least_free [] E0 (tCons (tVar 0) (tCons (tLc (iList K (tOp (rIxL K) (tVar 2) (tOp rAdd (tVar 3) (tC (.int 1))))) (gName 6) (tTest (tOp rNe (tVar 6) (tVar 5))) (tVar 6) [6]) tNil))))))
theorem der_place_rows (T : Tx K mg) {sp_given_by_row : Sp} (D_given_by_row : Df P w K mg base 1 (He.ga K "given_by_row") ["row"] sp_given_by_row) {sp_least_free : Sp} (D_least_free : Df P w K mg base 1 (He.ga K "least_free") ["slots", "others"] sp_least_free) {cdv : Value} {A : Around} {outer : List Env} {s : Shared} {H : Hp} {E : XK} (hr : Room 1 (A.deeper (envOfC "place_rows" (defScope s_place_rows) s.heap.objs.size (He.ga K "place_rows") cdv))) :
    PSs (cxOf CX0 P w K mg base N_place_rows "place_rows" (defScope s_place_rows) (He.ga K "place_rows") cdv A outer s H E).nox (defBody s_place_rows) (t_place_rows K sp_given_by_row sp_least_free) := by
  have hr_given_by_row : Room 1 _ := hr.mono (by decide)
  obtain ⟨fd_given_by_row, F_given_by_row, b_given_by_row⟩ := D_given_by_row.ex
  have hr_least_free : Room 1 _ := hr.mono (by decide)
  obtain ⟨fd_least_free, F_least_free, b_least_free⟩ := D_least_free.ex
  have hu := hu_of hr
  exact (pss_one (ps_for PassesOwn.never rfl (pi_enum (by rfl) T.free_enumerate (pa_cons (pv 1) pa_nil)) (pg_tup rfl (pgs_cons (pg_name (i := 3) sc_place_rows.nd rfl (by first | exact Or.inl rfl | exact Or.inr rfl)) (pgs_cons (pg_name (i := 4) sc_place_rows.nd rfl (by first | exact Or.inl rfl | exact Or.inr rfl)) pgs_nil))) (pss_one (ps_for PassesOwn.never rfl (pi_list (pe_call F_given_by_row hr_given_by_row rfl T.glo_given_by_row D_given_by_row.kp b_given_by_row .nil pass0 (pa_cons (pv 4) pa_nil))) (pg_name (i := 5) sc_place_rows.nd rfl (by first | exact Or.inl rfl | exact Or.inr rfl)) (pss_one (ps_dput hu (pv 0) (pv 5) (pe_call F_least_free hr_least_free rfl T.glo_least_free D_least_free.kp b_least_free .nil pass0 (pa_cons (pv 0) (pa_cons (pe_lc (own := [("other", 6)]) (g := (gName 6)) (tt := (tTest (tOp rNe (tVar 6) (tVar 5)))) rfl sc_place_rows.nd (pi_list (pe_ix ix_list (pv 2) (pe_op op_add (pv 3) pe_int) (fun _ _ => rfl))) (blkOk_by (N := N_place_rows) (sc := defScope s_place_rows) (by decide +kernel)) (fun _ _ _ _ _ => (pg_name (i := 6) sc_place_rows.nd rfl (by first | exact Or.inl rfl | exact Or.inr rfl))) (fun _ _ _ _ _ => (pts_one (pt_cmpR op_ne (pv 6) (pv 5) (nomark _)))) (fun _ _ _ _ _ => (pv 6))) pa_nil))) rfl))))))
theorem ok_place_rows (T : Tx K mg) {sp_given_by_row : Sp} (D_given_by_row : Df P w K mg base 1 (He.ga K "given_by_row") ["row"] sp_given_by_row) {sp_least_free : Sp} (D_least_free : Df P w K mg base 1 (He.ga K "least_free") ["slots", "others"] sp_least_free) {sp : Sp} (len : ∀ vs H Q E, sp vs H Q E → vs.length = 3) (pure : ∀ vs H Q E, sp vs H Q E → t_place_rows K sp_given_by_row sp_least_free { nx := fun _ H' => Q .non H', rt := Q } (start N_place_rows vs) H) : Df P w K mg base 2 (He.ga K "place_rows") ["slots", "rows", "places"] sp := by
  obtain ⟨fd, F⟩ := T.def_place_rows
  exact df_of F sc_place_rows (fun _ _ _ _ _ _ us hl => match us, hl with | [_, _, _], _ => rfl) len (fun hr => der_place_rows T D_given_by_row D_least_free hr) pure
/-! ### end_in_slots (level 2; slots 0 end, 1 slots) -/
abbrev N_end_in_slots : List Str := ["end", "slots"]
theorem sc_end_in_slots : FnScope N_end_in_slots ["end", "slots"] (defScope s_end_in_slots) := ⟨rfl, rfl, rfl, by decide +kernel, rfl, by decide +kernel, by decide +kernel⟩
def t_end_in_slots (K : PySem.W.Frag) (sp_all_in_slots : Sp) : TS := (tSeq (tIfS (tTest (tOp rEq (tOp (rIxT K) (tVar 0) (tC (.int 0))) (tC (.int (0))))) (tRet (tTup (tCons (tOp (rIxT K) (tVar 0) (tC (.int 0))) (tCons (tOp (rIxT K) (tVar 0) (tC (.int 1))) (tCons (tCall sp_all_in_slots [] E0 (tCons (tOp (rIxT K) (tVar 0) (tC (.int 2))) (tCons (tVar 1) tNil))) tNil))))) tNext)
    (tSeq (tIfS (tTest (tOp rEq (tOp (rIxT K) (tVar 0) (tC (.int 0))) (tC (.int (1))))) (tRet (tTup (tCons (tOp (rIxT K) (tVar 0) (tC (.int 0))) (tCons (tDGet (tVar 1) (tOp (rIxT K) (tVar 0) (tC (.int 1)))) (tCons (tOp (rIxT K) (tVar 0) (tC (.int 2))) (tCons (tCall sp_all_in_slots [] E0 (tCons (tOp (rIxT K) (tVar 0) (tC (.int 3))) (tCons (tVar 1) tNil))) (tCons (tOp (rIxT K) (tVar 0) (tC (.int 4))) (tCons (tCall sp_all_in_slots [] E0 (tCons (tOp (rIxT K) (tVar 0) (tC (.int 5))) (tCons (tVar 1) tNil))) tNil)))))))) tNext)
    (tRet (tTup (tCons (tOp (rIxT K) (tVar 0) (tC (.int 0))) (tCons (tDGet (tVar 1) (tOp (rIxT K) (tVar 0) (tC (.int 1)))) tNil))))))
theorem der_end_in_slots (T : Tx K mg) {sp_all_in_slots : Sp} (D_all_in_slots : Df P w K mg base 1 (He.ga K "all_in_slots") ["values", "slots"] sp_all_in_slots) {cdv : Value} {A : Around} {outer : List Env} {s : Shared} {H : Hp} {E : XK} (hr : Room 1 (A.deeper (envOfC "end_in_slots" (defScope s_end_in_slots) s.heap.objs.size (He.ga K "end_in_slots") cdv))) :
    PSs (cxOf CX0 P w K mg base N_end_in_slots "end_in_slots" (defScope s_end_in_slots) (He.ga K "end_in_slots") cdv A outer s H E).nox (defBody s_end_in_slots) (t_end_in_slots K sp_all_in_slots) := by
  have hr_all_in_slots : Room 1 _ := hr.mono (by decide)
  obtain ⟨fd_all_in_slots, F_all_in_slots, b_all_in_slots⟩ := D_all_in_slots.ex
  have hu := hu_of hr
  exact (pss_cons (ps_if (pt_cmpR op_eq (pe_ix ix_tup (pv 0) pe_int (fun _ _ => rfl)) (pe_cint T.int_JUMP_END) (nomark _)) (pss_one (ps_ret (pe_tup (pa_cons (pe_ix ix_tup (pv 0) pe_int (fun _ _ => rfl)) (pa_cons (pe_ix ix_tup (pv 0) pe_int (fun _ _ => rfl)) (pa_cons (pe_call F_all_in_slots hr_all_in_slots rfl T.glo_all_in_slots D_all_in_slots.kp b_all_in_slots .nil pass0 (pa_cons (pe_ix ix_tup (pv 0) pe_int (fun _ _ => rfl)) (pa_cons (pv 1) pa_nil))) pa_nil)))))) pss_nil)
    (pss_cons (ps_if (pt_cmpR op_eq (pe_ix ix_tup (pv 0) pe_int (fun _ _ => rfl)) (pe_cint T.int_FORK_END) (nomark _)) (pss_one (ps_ret (pe_tup (pa_cons (pe_ix ix_tup (pv 0) pe_int (fun _ _ => rfl)) (pa_cons (pe_dget hu (pv 1) (pe_ix ix_tup (pv 0) pe_int (fun _ _ => rfl)) (fun _ _ => rfl)) (pa_cons (pe_ix ix_tup (pv 0) pe_int (fun _ _ => rfl)) (pa_cons (pe_call F_all_in_slots hr_all_in_slots rfl T.glo_all_in_slots D_all_in_slots.kp b_all_in_slots .nil pass0 (pa_cons (pe_ix ix_tup (pv 0) pe_int (fun _ _ => rfl)) (pa_cons (pv 1) pa_nil))) (pa_cons (pe_ix ix_tup (pv 0) pe_int (fun _ _ => rfl)) (pa_cons (pe_call F_all_in_slots hr_all_in_slots rfl T.glo_all_in_slots D_all_in_slots.kp b_all_in_slots .nil pass0 (pa_cons (pe_ix ix_tup (pv 0) pe_int (fun _ _ => rfl)) (pa_cons (pv 1) pa_nil))) pa_nil))))))))) pss_nil)
    (pss_one (ps_ret (pe_tup (pa_cons (pe_ix ix_tup (pv 0) pe_int (fun _ _ => rfl)) (pa_cons (pe_dget hu (pv 1) (pe_ix ix_tup (pv 0) pe_int (fun _ _ => rfl)) (fun _ _ => rfl)) pa_nil)))))))
theorem ok_end_in_slots (T : Tx K mg) {sp_all_in_slots : Sp} (D_all_in_slots : Df P w K mg base 1 (He.ga K "all_in_slots") ["values", "slots"] sp_all_in_slots) {sp : Sp} (len : ∀ vs H Q E, sp vs H Q E → vs.length = 2) (pure : ∀ vs H Q E, sp vs H Q E → t_end_in_slots K sp_all_in_slots { nx := fun _ H' => Q .non H', rt := Q } (start N_end_in_slots vs) H) : Df P w K mg base 2 (He.ga K "end_in_slots") ["end", "slots"] sp := by
  obtain ⟨fd, F⟩ := T.def_end_in_slots
  exact df_of F sc_end_in_slots (fun _ _ _ _ _ _ us hl => match us, hl with | [_, _], _ => rfl) len (fun hr => der_end_in_slots T D_all_in_slots hr) pure
/-! ### run_rows (level 2; slots 0 rows, 1 held, 2 said, 3 row, 4 word) -/
abbrev N_run_rows : List Str := ["rows", "held", "said", "row", "word"]
theorem sc_run_rows : FnScope N_run_rows ["rows", "held", "said"] (defScope s_run_rows) := ⟨rfl, rfl, rfl, by decide +kernel, rfl, by decide +kernel, by decide +kernel⟩
def t_run_rows (K : PySem.W.Frag) (sp_combined : Sp) : TS := (tSeq (tFor (iList K (tVar 0)) (gName 3) (tIfS (tTest (tOp rEq (tOp (rIxT K) (tVar 3) (tC (.int 0))) (tC (.int (0))))) (tAsg (tOp (rIxT K) (tVar 3) (tC (.int 2))) (gSub (tVar 1) (tOp (rIxT K) (tVar 3) (tC (.int 1))) rSetL)) (tIfS (tTest (tOp rEq (tOp (rIxT K) (tVar 3) (tC (.int 0))) (tC (.int (2))))) (tSeq (tAsg (tCall sp_combined [] E0 (tCons (tOp (rIxT K) (tVar 3) (tC (.int 2))) (tCons (tOp (rIxL K) (tVar 1) (tOp (rIxT K) (tVar 3) (tC (.int 3)))) (tCons (tOp (rIxL K) (tVar 1) (tOp (rIxT K) (tVar 3) (tC (.int 4)))) tNil)))) (gName 4))
    (tSeq (tIfS (tTest (tOp rIsN (tVar 4) (tC .non))) (tRet (tC (.bl false))) tNext)
    (tAsg (tVar 4) (gSub (tVar 1) (tOp (rIxT K) (tVar 3) (tC (.int 1))) rSetL)))) (tDrop (tBM K "list" rAppend (tVar 2) (tCons (tOp (rIxL K) (tVar 1) (tOp (rIxT K) (tVar 3) (tC (.int 1)))) tNil))))))
    (tRet (tC (.bl true))))
theorem der_run_rows (T : Tx K mg) {sp_combined : Sp} (D_combined : Df P w K mg base 1 (He.ga K "combined") ["operation", "first", "second"] sp_combined) {cdv : Value} {A : Around} {outer : List Env} {s : Shared} {H : Hp} {E : XK} (hr : Room 1 (A.deeper (envOfC "run_rows" (defScope s_run_rows) s.heap.objs.size (He.ga K "run_rows") cdv))) :
    PSs (cxOf CX0 P w K mg base N_run_rows "run_rows" (defScope s_run_rows) (He.ga K "run_rows") cdv A outer s H E).nox (defBody s_run_rows) (t_run_rows K sp_combined) := by
  have hr_combined : Room 1 _ := hr.mono (by decide)
  obtain ⟨fd_combined, F_combined, b_combined⟩ := D_combined.ex
  exact (pss_cons (ps_for PassesOwn.never rfl (pi_list (pv 0)) (pg_name (i := 3) sc_run_rows.nd rfl (by first | exact Or.inl rfl | exact Or.inr rfl)) (pss_one (ps_if (pt_cmpR op_eq (pe_ix ix_tup (pv 3) pe_int (fun _ _ => rfl)) (pe_cint T.int_NUMBER_ROW) (nomark _)) (pss_one (ps_asg (pe_ix ix_tup (pv 3) pe_int (fun _ _ => rfl)) (pg_sub (pv 1) (pe_ix ix_tup (pv 3) pe_int (fun _ _ => rfl)) set_list))) (pss_one (ps_if (pt_cmpR op_eq (pe_ix ix_tup (pv 3) pe_int (fun _ _ => rfl)) (pe_cint T.int_TWO_ROW) (nomark _)) (pss_cons (ps_set (i := 4) sc_run_rows.nd rfl (by first | exact Or.inl rfl | exact Or.inr rfl) (pe_call F_combined hr_combined rfl T.glo_combined D_combined.kp b_combined .nil pass0 (pa_cons (pe_ix ix_tup (pv 3) pe_int (fun _ _ => rfl)) (pa_cons (pe_ix ix_list (pv 1) (pe_ix ix_tup (pv 3) pe_int (fun _ _ => rfl)) (fun _ _ => rfl)) (pa_cons (pe_ix ix_list (pv 1) (pe_ix ix_tup (pv 3) pe_int (fun _ _ => rfl)) (fun _ _ => rfl)) pa_nil)))))
    (pss_cons (ps_if (pt_cmpR op_isN (pv 4) pe_non (nomark _)) (pss_one (ps_ret pe_bl)) pss_nil)
    (pss_one (ps_asg (pv 4) (pg_sub (pv 1) (pe_ix ix_tup (pv 3) pe_int (fun _ _ => rfl)) set_list))))) (pss_one (ps_expr (pe_bm PySem.F.plainAttrs_list PySem.F.slot_list_append PySem.F.type_list_append mt_append (pv 2) (pa_cons (pe_ix ix_list (pv 1) (pe_ix ix_tup (pv 3) pe_int (fun _ _ => rfl)) (fun _ _ => rfl)) pa_nil)))))))))
    (pss_one (ps_ret pe_bl)))
theorem ok_run_rows (T : Tx K mg) {sp_combined : Sp} (D_combined : Df P w K mg base 1 (He.ga K "combined") ["operation", "first", "second"] sp_combined) {sp : Sp} (len : ∀ vs H Q E, sp vs H Q E → vs.length = 3) (pure : ∀ vs H Q E, sp vs H Q E → t_run_rows K sp_combined { nx := fun _ H' => Q .non H', rt := Q } (start N_run_rows vs) H) : Df P w K mg base 2 (He.ga K "run_rows") ["rows", "held", "said"] sp := by
  obtain ⟨fd, F⟩ := T.def_run_rows
  exact df_of F sc_run_rows (fun _ _ _ _ _ _ us hl => match us, hl with | [_, _, _], _ => rfl) len (fun hr => der_run_rows T D_combined hr) pure
/-! ### run_end (level 2; slots 0 blocks, 1 end, 2 held) -/
abbrev N_run_end : List Str := ["blocks", "end", "held"]
theorem sc_run_end : FnScope N_run_end ["blocks", "end", "held"] (defScope s_run_end) := ⟨rfl, rfl, rfl, by decide +kernel, rfl, by decide +kernel, by decide +kernel⟩
def t_run_end (K : PySem.W.Frag) (sp_hand_over : Sp) : TS := (tSeq (tIfS (tAnd (tTest (tOp rEq (tOp (rIxT K) (tVar 1) (tC (.int 0))) (tC (.int (1))))) (tTest (tOp rNe (tOp (rIxL K) (tVar 2) (tOp (rIxT K) (tVar 1) (tC (.int 1)))) (tC (.int 0))))) (tRet (tCall sp_hand_over [] E0 (tCons (tVar 0) (tCons (tOp (rIxT K) (tVar 1) (tC (.int 2))) (tCons (tOp (rIxT K) (tVar 1) (tC (.int 3))) (tCons (tVar 2) tNil)))))) tNext)
    (tSeq (tIfS (tTest (tOp rEq (tOp (rIxT K) (tVar 1) (tC (.int 0))) (tC (.int (1))))) (tRet (tCall sp_hand_over [] E0 (tCons (tVar 0) (tCons (tOp (rIxT K) (tVar 1) (tC (.int 4))) (tCons (tOp (rIxT K) (tVar 1) (tC (.int 5))) (tCons (tVar 2) tNil)))))) tNext)
    (tRet (tCall sp_hand_over [] E0 (tCons (tVar 0) (tCons (tOp (rIxT K) (tVar 1) (tC (.int 1))) (tCons (tOp (rIxT K) (tVar 1) (tC (.int 2))) (tCons (tVar 2) tNil))))))))
theorem der_run_end (T : Tx K mg) {sp_hand_over : Sp} (D_hand_over : Df P w K mg base 1 (He.ga K "hand_over") ["blocks", "t", "handed", "held"] sp_hand_over) {cdv : Value} {A : Around} {outer : List Env} {s : Shared} {H : Hp} {E : XK} (hr : Room 1 (A.deeper (envOfC "run_end" (defScope s_run_end) s.heap.objs.size (He.ga K "run_end") cdv))) :
    PSs (cxOf CX0 P w K mg base N_run_end "run_end" (defScope s_run_end) (He.ga K "run_end") cdv A outer s H E).nox (defBody s_run_end) (t_run_end K sp_hand_over) := by
  have hr_hand_over : Room 1 _ := hr.mono (by decide)
  obtain ⟨fd_hand_over, F_hand_over, b_hand_over⟩ := D_hand_over.ex
  exact (pss_cons (ps_if (PW.pt (pw_and (pt_cmpR op_eq (pe_ix ix_tup (pv 1) pe_int (fun _ _ => rfl)) (pe_cint T.int_FORK_END) (nomark _)) (pw_and1 (pt_cmpR op_ne (pe_ix ix_list (pv 2) (pe_ix ix_tup (pv 1) pe_int (fun _ _ => rfl)) (fun _ _ => rfl)) pe_int (nomark _))))) (pss_one (ps_ret (pe_call F_hand_over hr_hand_over rfl T.glo_hand_over D_hand_over.kp b_hand_over .nil pass0 (pa_cons (pv 0) (pa_cons (pe_ix ix_tup (pv 1) pe_int (fun _ _ => rfl)) (pa_cons (pe_ix ix_tup (pv 1) pe_int (fun _ _ => rfl)) (pa_cons (pv 2) pa_nil))))))) pss_nil)
    (pss_cons (ps_if (pt_cmpR op_eq (pe_ix ix_tup (pv 1) pe_int (fun _ _ => rfl)) (pe_cint T.int_FORK_END) (nomark _)) (pss_one (ps_ret (pe_call F_hand_over hr_hand_over rfl T.glo_hand_over D_hand_over.kp b_hand_over .nil pass0 (pa_cons (pv 0) (pa_cons (pe_ix ix_tup (pv 1) pe_int (fun _ _ => rfl)) (pa_cons (pe_ix ix_tup (pv 1) pe_int (fun _ _ => rfl)) (pa_cons (pv 2) pa_nil))))))) pss_nil)
    (pss_one (ps_ret (pe_call F_hand_over hr_hand_over rfl T.glo_hand_over D_hand_over.kp b_hand_over .nil pass0 (pa_cons (pv 0) (pa_cons (pe_ix ix_tup (pv 1) pe_int (fun _ _ => rfl)) (pa_cons (pe_ix ix_tup (pv 1) pe_int (fun _ _ => rfl)) (pa_cons (pv 2) pa_nil)))))))))
theorem ok_run_end (T : Tx K mg) {sp_hand_over : Sp} (D_hand_over : Df P w K mg base 1 (He.ga K "hand_over") ["blocks", "t", "handed", "held"] sp_hand_over) {sp : Sp} (len : ∀ vs H Q E, sp vs H Q E → vs.length = 3) (pure : ∀ vs H Q E, sp vs H Q E → t_run_end K sp_hand_over { nx := fun _ H' => Q .non H', rt := Q } (start N_run_end vs) H) : Df P w K mg base 2 (He.ga K "run_end") ["blocks", "end", "held"] sp := by
  obtain ⟨fd, F⟩ := T.def_run_end
  exact df_of F sc_run_end (fun _ _ _ _ _ _ us hl => match us, hl with | [_, _, _], _ => rfl) len (fun hr => der_run_end T D_hand_over hr) pure
/-! ### end_in_numbers (level 2; slots 0 end) -/
abbrev N_end_in_numbers : List Str := ["end"]
theorem sc_end_in_numbers : FnScope N_end_in_numbers ["end"] (defScope s_end_in_numbers) := ⟨rfl, rfl, rfl, by decide +kernel, rfl, by decide +kernel, by decide +kernel⟩
def t_end_in_numbers (K : PySem.W.Frag) (sp_counted : Sp) : TS := (tSeq (tIfS (tTest (tOp rEq (tOp (rIxT K) (tVar 0) (tC (.int 0))) (tC (.int (0))))) (tRet (tOp rCat (tLst (tCons (tOp (rIxT K) (tVar 0) (tC (.int 0))) (tCons (tOp (rIxT K) (tVar 0) (tC (.int 1))) tNil))) (tCall sp_counted [] E0 (tCons (tOp (rIxT K) (tVar 0) (tC (.int 2))) tNil)))) tNext)
    (tSeq (tIfS (tTest (tOp rEq (tOp (rIxT K) (tVar 0) (tC (.int 0))) (tC (.int (1))))) (tRet (tOp rCat (tOp rCat (tOp rCat (tLst (tCons (tOp (rIxT K) (tVar 0) (tC (.int 0))) (tCons (tOp (rIxT K) (tVar 0) (tC (.int 1))) (tCons (tOp (rIxT K) (tVar 0) (tC (.int 2))) tNil)))) (tCall sp_counted [] E0 (tCons (tOp (rIxT K) (tVar 0) (tC (.int 3))) tNil))) (tLst (tCons (tOp (rIxT K) (tVar 0) (tC (.int 4))) tNil))) (tCall sp_counted [] E0 (tCons (tOp (rIxT K) (tVar 0) (tC (.int 5))) tNil)))) tNext)
    (tRet (tLst (tCons (tOp (rIxT K) (tVar 0) (tC (.int 0))) (tCons (tOp (rIxT K) (tVar 0) (tC (.int 1))) tNil))))))
theorem der_end_in_numbers (T : Tx K mg) {sp_counted : Sp} (D_counted : Df P w K mg base 1 (He.ga K "counted") ["values"] sp_counted) {cdv : Value} {A : Around} {outer : List Env} {s : Shared} {H : Hp} {E : XK} (hr : Room 1 (A.deeper (envOfC "end_in_numbers" (defScope s_end_in_numbers) s.heap.objs.size (He.ga K "end_in_numbers") cdv))) :
    PSs (cxOf CX0 P w K mg base N_end_in_numbers "end_in_numbers" (defScope s_end_in_numbers) (He.ga K "end_in_numbers") cdv A outer s H E).nox (defBody s_end_in_numbers) (t_end_in_numbers K sp_counted) := by
  have hr_counted : Room 1 _ := hr.mono (by decide)
  obtain ⟨fd_counted, F_counted, b_counted⟩ := D_counted.ex
  exact (pss_cons (ps_if (pt_cmpR op_eq (pe_ix ix_tup (pv 0) pe_int (fun _ _ => rfl)) (pe_cint T.int_JUMP_END) (nomark _)) (pss_one (ps_ret (pe_op op_cat (pe_lst (pa_cons (pe_ix ix_tup (pv 0) pe_int (fun _ _ => rfl)) (pa_cons (pe_ix ix_tup (pv 0) pe_int (fun _ _ => rfl)) pa_nil))) (pe_call F_counted hr_counted rfl T.glo_counted D_counted.kp b_counted .nil pass0 (pa_cons (pe_ix ix_tup (pv 0) pe_int (fun _ _ => rfl)) pa_nil))))) pss_nil)
    (pss_cons (ps_if (pt_cmpR op_eq (pe_ix ix_tup (pv 0) pe_int (fun _ _ => rfl)) (pe_cint T.int_FORK_END) (nomark _)) (pss_one (ps_ret (pe_op op_cat (pe_op op_cat (pe_op op_cat (pe_lst (pa_cons (pe_ix ix_tup (pv 0) pe_int (fun _ _ => rfl)) (pa_cons (pe_ix ix_tup (pv 0) pe_int (fun _ _ => rfl)) (pa_cons (pe_ix ix_tup (pv 0) pe_int (fun _ _ => rfl)) pa_nil)))) (pe_call F_counted hr_counted rfl T.glo_counted D_counted.kp b_counted .nil pass0 (pa_cons (pe_ix ix_tup (pv 0) pe_int (fun _ _ => rfl)) pa_nil))) (pe_lst (pa_cons (pe_ix ix_tup (pv 0) pe_int (fun _ _ => rfl)) pa_nil))) (pe_call F_counted hr_counted rfl T.glo_counted D_counted.kp b_counted .nil pass0 (pa_cons (pe_ix ix_tup (pv 0) pe_int (fun _ _ => rfl)) pa_nil))))) pss_nil)
    (pss_one (ps_ret (pe_lst (pa_cons (pe_ix ix_tup (pv 0) pe_int (fun _ _ => rfl)) (pa_cons (pe_ix ix_tup (pv 0) pe_int (fun _ _ => rfl)) pa_nil)))))))
theorem ok_end_in_numbers (T : Tx K mg) {sp_counted : Sp} (D_counted : Df P w K mg base 1 (He.ga K "counted") ["values"] sp_counted) {sp : Sp} (len : ∀ vs H Q E, sp vs H Q E → vs.length = 1) (pure : ∀ vs H Q E, sp vs H Q E → t_end_in_numbers K sp_counted { nx := fun _ H' => Q .non H', rt := Q } (start N_end_in_numbers vs) H) : Df P w K mg base 2 (He.ga K "end_in_numbers") ["end"] sp := by
  obtain ⟨fd, F⟩ := T.def_end_in_numbers
  exact df_of F sc_end_in_numbers (fun _ _ _ _ _ _ us hl => match us, hl with | [_], _ => rfl) len (fun hr => der_end_in_numbers T D_counted hr) pure
/-! ### Code_block (level 3; slots 0 self, 1 taken) -/
abbrev N_Code_block : List Str := ["self", "taken"]
theorem sc_Code_block : FnScope N_Code_block ["self", "taken"] (defScope s_Code_block) := ⟨rfl, rfl, rfl, by decide +kernel, rfl, by decide +kernel, by decide +kernel⟩
def t_Code_block (K : PySem.W.Frag) (sp_Block_init : Sp) (sp_Code_open_block : Sp) (sp_all_values : Sp) : TS := (tSeq (tIfS (tTest (tOp rNotN (tMeth (He.ga K "Code") "open_block" sp_Code_open_block [] E0 (tVar 0) tNil) (tC .non))) (tRet (tC (.int (-3)))) tNext)
    (tSeq (tIfS (tNot (tB (tCall sp_all_values [] E0 (tCons (tVar 1) tNil)))) (tRet (tC (.int (-2)))) tNext)
    (tSeq (tIfS (tOr (tTest (tOp rGe (tCB (Evl.rLenS K) (tCons (tFld K (tVar 0) "blocks") tNil)) (tC (.int (10))))) (tTest (tOp rGt (tCB (Evl.rLenS K) (tCons (tVar 1) tNil)) (tC (.int (8)))))) (tRet (tC (.int (-1)))) tNext)
    (tSeq (tDrop (tBM K "list" rAppend (tFld K (tVar 0) "blocks") (tCons (tMake (He.ga K "Block") sp_Block_init [] E0 (tCons (tVar 1) tNil)) tNil)))
    (tRet (tOp rSub (tCB (Evl.rLenS K) (tCons (tFld K (tVar 0) "blocks") tNil)) (tC (.int 1))))))))
theorem der_Code_block (T : Tx K mg) {sp_Block_init : Sp} (D_Block_init : Df P w K mg base 1 (He.ma K (He.ga K "Block") "__init__") ["self", "taken"] sp_Block_init) {sp_Code_open_block : Sp} (D_Code_open_block : Df P w K mg base 1 (He.ma K (He.ga K "Code") "open_block") ["self"] sp_Code_open_block) {sp_all_values : Sp} (D_all_values : Df P w K mg base 1 (He.ga K "all_values") ["numbers"] sp_all_values) {cdv : Value} {A : Around} {outer : List Env} {s : Shared} {H : Hp} {E : XK} (hr : Room 2 (A.deeper (envOfC "Code.block" (defScope s_Code_block) s.heap.objs.size (He.ma K (He.ga K "Code") "block") cdv))) :
    PSs (cxOf CX0 P w K mg base N_Code_block "Code.block" (defScope s_Code_block) (He.ma K (He.ga K "Code") "block") cdv A outer s H E).nox (defBody s_Code_block) (t_Code_block K sp_Block_init sp_Code_open_block sp_all_values) := by
  have hr_Block_init : Room 2 _ := hr.mono (by decide)
  obtain ⟨fd_Block_init, F_Block_init, b_Block_init⟩ := D_Block_init.ex
  have hr_Code_open_block : Room 1 _ := hr.mono (by decide)
  obtain ⟨fd_Code_open_block, F_Code_open_block, b_Code_open_block⟩ := D_Code_open_block.ex
  have hr_all_values : Room 1 _ := hr.mono (by decide)
  obtain ⟨fd_all_values, F_all_values, b_all_values⟩ := D_all_values.ex
  exact (pss_cons (ps_if (pt_cmpR op_notN (pe_meth0 (pv 0) T.cls_Code T.meth_Code_open_block F_Code_open_block hr_Code_open_block b_Code_open_block .nil pass0) pe_non (nomark _)) (pss_one (ps_ret (pe_cint T.int_WRONG_TIME))) pss_nil)
    (pss_cons (ps_if (pt_not (pt_val (pe_call F_all_values hr_all_values rfl T.glo_all_values D_all_values.kp b_all_values .nil pass0 (pa_cons (pv 1) pa_nil)))) (pss_one (ps_ret (pe_cint T.int_OUT_OF_RANGE))) pss_nil)
    (pss_cons (ps_if (PW.pt (pw_or (pt_cmpR op_ge (pe_callB call_len_seq (by rfl) T.free_len (by decide +kernel) (pa_cons (pe_fld (pv 0) rfl) pa_nil)) (pe_cint T.int_MOST_BLOCKS) (nomark _)) (pw_or1 (pt_cmpR op_gt (pe_callB call_len_seq (by rfl) T.free_len (by decide +kernel) (pa_cons (pv 1) pa_nil)) (pe_cint T.int_MOST_TAKEN) (nomark _))))) (pss_one (ps_ret (pe_cint T.int_BAD_COUNT))) pss_nil)
    (pss_cons (ps_expr (pe_bm PySem.F.plainAttrs_list PySem.F.slot_list_append PySem.F.type_list_append mt_append (pe_fld (pv 0) rfl) (pa_cons (pe_make T.mkr_Block F_Block_init hr_Block_init rfl T.glo_Block b_Block_init .nil pass0 (pa_cons (pv 1) pa_nil)) pa_nil)))
    (pss_one (ps_ret (pe_op op_sub (pe_callB call_len_seq (by rfl) T.free_len (by decide +kernel) (pa_cons (pe_fld (pv 0) rfl) pa_nil)) pe_int)))))))
theorem ok_Code_block (T : Tx K mg) {sp_Block_init : Sp} (D_Block_init : Df P w K mg base 1 (He.ma K (He.ga K "Block") "__init__") ["self", "taken"] sp_Block_init) {sp_Code_open_block : Sp} (D_Code_open_block : Df P w K mg base 1 (He.ma K (He.ga K "Code") "open_block") ["self"] sp_Code_open_block) {sp_all_values : Sp} (D_all_values : Df P w K mg base 1 (He.ga K "all_values") ["numbers"] sp_all_values) {sp : Sp} (len : ∀ vs H Q E, sp vs H Q E → vs.length = 2) (pure : ∀ vs H Q E, sp vs H Q E → t_Code_block K sp_Block_init sp_Code_open_block sp_all_values { nx := fun _ H' => Q .non H', rt := Q } (start N_Code_block vs) H) : Df P w K mg base 3 (He.ma K (He.ga K "Code") "block") ["self", "taken"] sp := by
  obtain ⟨fd, F⟩ := T.def_Code_block
  exact df_of F sc_Code_block (fun _ _ _ _ _ _ us hl => match us, hl with | [_, _], _ => rfl) len (fun hr => der_Code_block T D_Block_init D_Code_open_block D_all_values hr) pure
/-! ### Code_num (level 3; slots 0 self, 1 x, 2 n) -/
abbrev N_Code_num : List Str := ["self", "x", "n"]
theorem sc_Code_num : FnScope N_Code_num ["self", "x", "n"] (defScope s_Code_num) := ⟨rfl, rfl, rfl, by decide +kernel, rfl, by decide +kernel, by decide +kernel⟩
def t_Code_num (K : PySem.W.Frag) (sp_Code_put_row : Sp) : TS := (tRet (tMeth (He.ga K "Code") "put_row" sp_Code_put_row [] E0 (tVar 0) (tCons (tTup (tCons (tC (.int (0))) (tCons (tVar 1) (tCons (tVar 2) tNil)))) (tCons (tLst (tCons (tVar 1) tNil)) tNil))))
theorem der_Code_num (T : Tx K mg) {sp_Code_put_row : Sp} (D_Code_put_row : Df P w K mg base 2 (He.ma K (He.ga K "Code") "put_row") ["self", "row", "used"] sp_Code_put_row) {cdv : Value} {A : Around} {outer : List Env} {s : Shared} {H : Hp} {E : XK} (hr : Room 2 (A.deeper (envOfC "Code.num" (defScope s_Code_num) s.heap.objs.size (He.ma K (He.ga K "Code") "num") cdv))) :
    PSs (cxOf CX0 P w K mg base N_Code_num "Code.num" (defScope s_Code_num) (He.ma K (He.ga K "Code") "num") cdv A outer s H E).nox (defBody s_Code_num) (t_Code_num K sp_Code_put_row) := by
  have hr_Code_put_row : Room 2 _ := hr.mono (by decide)
  obtain ⟨fd_Code_put_row, F_Code_put_row, b_Code_put_row⟩ := D_Code_put_row.ex
  exact (pss_one (ps_ret (pe_meth (pv 0) T.cls_Code T.meth_Code_put_row F_Code_put_row hr_Code_put_row b_Code_put_row .nil pass0 (pa_cons (pe_tup (pa_cons (pe_cint T.int_NUMBER_ROW) (pa_cons (pv 1) (pa_cons (pv 2) pa_nil)))) (pa_cons (pe_lst (pa_cons (pv 1) pa_nil)) pa_nil)))))
theorem ok_Code_num (T : Tx K mg) {sp_Code_put_row : Sp} (D_Code_put_row : Df P w K mg base 2 (He.ma K (He.ga K "Code") "put_row") ["self", "row", "used"] sp_Code_put_row) {sp : Sp} (len : ∀ vs H Q E, sp vs H Q E → vs.length = 3) (pure : ∀ vs H Q E, sp vs H Q E → t_Code_num K sp_Code_put_row { nx := fun _ H' => Q .non H', rt := Q } (start N_Code_num vs) H) : Df P w K mg base 3 (He.ma K (He.ga K "Code") "num") ["self", "x", "n"] sp := by
  obtain ⟨fd, F⟩ := T.def_Code_num
  exact df_of F sc_Code_num (fun _ _ _ _ _ _ us hl => match us, hl with | [_, _, _], _ => rfl) len (fun hr => der_Code_num T D_Code_put_row hr) pure
/-! ### Code_two (level 3; slots 0 self, 1 x, 2 o, 3 a, 4 b) -/
abbrev N_Code_two : List Str := ["self", "x", "o", "a", "b"]
theorem sc_Code_two : FnScope N_Code_two ["self", "x", "o", "a", "b"] (defScope s_Code_two) := ⟨rfl, rfl, rfl, by decide +kernel, rfl, by decide +kernel, by decide +kernel⟩
def t_Code_two (K : PySem.W.Frag) (sp_Code_open_block : Sp) (sp_Code_put_row : Sp) : TS := (tSeq (tIfS (tTest (tOp rIsN (tMeth (He.ga K "Code") "open_block" sp_Code_open_block [] E0 (tVar 0) tNil) (tC .non))) (tRet (tC (.int (-3)))) tNext)
    (tSeq (tIfS (tTest (tOp rGt (tVar 2) (tC (.int (10))))) (tRet (tC (.int (-4)))) tNext)
    (tRet (tMeth (He.ga K "Code") "put_row" sp_Code_put_row [] E0 (tVar 0) (tCons (tTup (tCons (tC (.int (2))) (tCons (tVar 1) (tCons (tVar 2) (tCons (tVar 3) (tCons (tVar 4) tNil)))))) (tCons (tLst (tCons (tVar 1) (tCons (tVar 3) (tCons (tVar 4) tNil)))) tNil))))))
theorem der_Code_two (T : Tx K mg) {sp_Code_open_block : Sp} (D_Code_open_block : Df P w K mg base 1 (He.ma K (He.ga K "Code") "open_block") ["self"] sp_Code_open_block) {sp_Code_put_row : Sp} (D_Code_put_row : Df P w K mg base 2 (He.ma K (He.ga K "Code") "put_row") ["self", "row", "used"] sp_Code_put_row) {cdv : Value} {A : Around} {outer : List Env} {s : Shared} {H : Hp} {E : XK} (hr : Room 2 (A.deeper (envOfC "Code.two" (defScope s_Code_two) s.heap.objs.size (He.ma K (He.ga K "Code") "two") cdv))) :
    PSs (cxOf CX0 P w K mg base N_Code_two "Code.two" (defScope s_Code_two) (He.ma K (He.ga K "Code") "two") cdv A outer s H E).nox (defBody s_Code_two) (t_Code_two K sp_Code_open_block sp_Code_put_row) := by
  have hr_Code_open_block : Room 1 _ := hr.mono (by decide)
  obtain ⟨fd_Code_open_block, F_Code_open_block, b_Code_open_block⟩ := D_Code_open_block.ex
  have hr_Code_put_row : Room 2 _ := hr.mono (by decide)
  obtain ⟨fd_Code_put_row, F_Code_put_row, b_Code_put_row⟩ := D_Code_put_row.ex
  exact (pss_cons (ps_if (pt_cmpR op_isN (pe_meth0 (pv 0) T.cls_Code T.meth_Code_open_block F_Code_open_block hr_Code_open_block b_Code_open_block .nil pass0) pe_non (nomark _)) (pss_one (ps_ret (pe_cint T.int_WRONG_TIME))) pss_nil)
    (pss_cons (ps_if (pt_cmpR op_gt (pv 2) (pe_cint T.int_LAST_OPERATION) (nomark _)) (pss_one (ps_ret (pe_cint T.int_NO_OPERATION))) pss_nil)
    (pss_one (ps_ret (pe_meth (pv 0) T.cls_Code T.meth_Code_put_row F_Code_put_row hr_Code_put_row b_Code_put_row .nil pass0 (pa_cons (pe_tup (pa_cons (pe_cint T.int_TWO_ROW) (pa_cons (pv 1) (pa_cons (pv 2) (pa_cons (pv 3) (pa_cons (pv 4) pa_nil)))))) (pa_cons (pe_lst (pa_cons (pv 1) (pa_cons (pv 3) (pa_cons (pv 4) pa_nil)))) pa_nil)))))))
theorem ok_Code_two (T : Tx K mg) {sp_Code_open_block : Sp} (D_Code_open_block : Df P w K mg base 1 (He.ma K (He.ga K "Code") "open_block") ["self"] sp_Code_open_block) {sp_Code_put_row : Sp} (D_Code_put_row : Df P w K mg base 2 (He.ma K (He.ga K "Code") "put_row") ["self", "row", "used"] sp_Code_put_row) {sp : Sp} (len : ∀ vs H Q E, sp vs H Q E → vs.length = 5) (pure : ∀ vs H Q E, sp vs H Q E → t_Code_two K sp_Code_open_block sp_Code_put_row { nx := fun _ H' => Q .non H', rt := Q } (start N_Code_two vs) H) : Df P w K mg base 3 (He.ma K (He.ga K "Code") "two") ["self", "x", "o", "a", "b"] sp := by
  obtain ⟨fd, F⟩ := T.def_Code_two
  exact df_of F sc_Code_two (fun _ _ _ _ _ _ us hl => match us, hl with | [_, _, _, _, _], _ => rfl) len (fun hr => der_Code_two T D_Code_open_block D_Code_put_row hr) pure
/-! ### Code_say (level 3; slots 0 self, 1 a) -/
abbrev N_Code_say : List Str := ["self", "a"]
theorem sc_Code_say : FnScope N_Code_say ["self", "a"] (defScope s_Code_say) := ⟨rfl, rfl, rfl, by decide +kernel, rfl, by decide +kernel, by decide +kernel⟩
def t_Code_say (K : PySem.W.Frag) (sp_Code_put_row : Sp) : TS := (tRet (tMeth (He.ga K "Code") "put_row" sp_Code_put_row [] E0 (tVar 0) (tCons (tTup (tCons (tC (.int (3))) (tCons (tVar 1) tNil))) (tCons (tLst (tCons (tVar 1) tNil)) tNil))))
theorem der_Code_say (T : Tx K mg) {sp_Code_put_row : Sp} (D_Code_put_row : Df P w K mg base 2 (He.ma K (He.ga K "Code") "put_row") ["self", "row", "used"] sp_Code_put_row) {cdv : Value} {A : Around} {outer : List Env} {s : Shared} {H : Hp} {E : XK} (hr : Room 2 (A.deeper (envOfC "Code.say" (defScope s_Code_say) s.heap.objs.size (He.ma K (He.ga K "Code") "say") cdv))) :
    PSs (cxOf CX0 P w K mg base N_Code_say "Code.say" (defScope s_Code_say) (He.ma K (He.ga K "Code") "say") cdv A outer s H E).nox (defBody s_Code_say) (t_Code_say K sp_Code_put_row) := by
  have hr_Code_put_row : Room 2 _ := hr.mono (by decide)
  obtain ⟨fd_Code_put_row, F_Code_put_row, b_Code_put_row⟩ := D_Code_put_row.ex
  exact (pss_one (ps_ret (pe_meth (pv 0) T.cls_Code T.meth_Code_put_row F_Code_put_row hr_Code_put_row b_Code_put_row .nil pass0 (pa_cons (pe_tup (pa_cons (pe_cint T.int_SAY_ROW) (pa_cons (pv 1) pa_nil))) (pa_cons (pe_lst (pa_cons (pv 1) pa_nil)) pa_nil)))))
theorem ok_Code_say (T : Tx K mg) {sp_Code_put_row : Sp} (D_Code_put_row : Df P w K mg base 2 (He.ma K (He.ga K "Code") "put_row") ["self", "row", "used"] sp_Code_put_row) {sp : Sp} (len : ∀ vs H Q E, sp vs H Q E → vs.length = 2) (pure : ∀ vs H Q E, sp vs H Q E → t_Code_say K sp_Code_put_row { nx := fun _ H' => Q .non H', rt := Q } (start N_Code_say vs) H) : Df P w K mg base 3 (He.ma K (He.ga K "Code") "say") ["self", "a"] sp := by
  obtain ⟨fd, F⟩ := T.def_Code_say
  exact df_of F sc_Code_say (fun _ _ _ _ _ _ us hl => match us, hl with | [_, _], _ => rfl) len (fun hr => der_Code_say T D_Code_put_row hr) pure
/-! ### Code_jump (level 3; slots 0 self, 1 t, 2 handed) -/
abbrev N_Code_jump : List Str := ["self", "t", "handed"]
theorem sc_Code_jump : FnScope N_Code_jump ["self", "t", "handed"] (defScope s_Code_jump) := ⟨rfl, rfl, rfl, by decide +kernel, rfl, by decide +kernel, by decide +kernel⟩
def t_Code_jump (K : PySem.W.Frag) (sp_Code_open_block : Sp) (sp_Code_put_end : Sp) : TS := (tSeq (tIfS (tTest (tOp rIsN (tMeth (He.ga K "Code") "open_block" sp_Code_open_block [] E0 (tVar 0) tNil) (tC .non))) (tRet (tC (.int (-3)))) tNext)
    (tSeq (tIfS (tTest (tOp rGt (tCB (Evl.rLenS K) (tCons (tVar 2) tNil)) (tC (.int (8))))) (tRet (tC (.int (-1)))) tNext)
    (tRet (tMeth (He.ga K "Code") "put_end" sp_Code_put_end [] E0 (tVar 0) (tCons (tTup (tCons (tC (.int (0))) (tCons (tVar 1) (tCons (tCB (rTupS K) (tCons (tVar 2) tNil)) tNil)))) (tCons (tVar 2) (tCons (tLst (tCons (tVar 1) tNil)) tNil)))))))
theorem der_Code_jump (T : Tx K mg) {sp_Code_open_block : Sp} (D_Code_open_block : Df P w K mg base 1 (He.ma K (He.ga K "Code") "open_block") ["self"] sp_Code_open_block) {sp_Code_put_end : Sp} (D_Code_put_end : Df P w K mg base 2 (He.ma K (He.ga K "Code") "put_end") ["self", "end", "used", "targets"] sp_Code_put_end) {cdv : Value} {A : Around} {outer : List Env} {s : Shared} {H : Hp} {E : XK} (hr : Room 2 (A.deeper (envOfC "Code.jump" (defScope s_Code_jump) s.heap.objs.size (He.ma K (He.ga K "Code") "jump") cdv))) :
    PSs (cxOf CX0 P w K mg base N_Code_jump "Code.jump" (defScope s_Code_jump) (He.ma K (He.ga K "Code") "jump") cdv A outer s H E).nox (defBody s_Code_jump) (t_Code_jump K sp_Code_open_block sp_Code_put_end) := by
  have hr_Code_open_block : Room 1 _ := hr.mono (by decide)
  obtain ⟨fd_Code_open_block, F_Code_open_block, b_Code_open_block⟩ := D_Code_open_block.ex
  have hr_Code_put_end : Room 2 _ := hr.mono (by decide)
  obtain ⟨fd_Code_put_end, F_Code_put_end, b_Code_put_end⟩ := D_Code_put_end.ex
  exact (pss_cons (ps_if (pt_cmpR op_isN (pe_meth0 (pv 0) T.cls_Code T.meth_Code_open_block F_Code_open_block hr_Code_open_block b_Code_open_block .nil pass0) pe_non (nomark _)) (pss_one (ps_ret (pe_cint T.int_WRONG_TIME))) pss_nil)
    (pss_cons (ps_if (pt_cmpR op_gt (pe_callB call_len_seq (by rfl) T.free_len (by decide +kernel) (pa_cons (pv 2) pa_nil)) (pe_cint T.int_MOST_HANDED_BY_JUMP) (nomark _)) (pss_one (ps_ret (pe_cint T.int_BAD_COUNT))) pss_nil)
    (pss_one (ps_ret (pe_meth (pv 0) T.cls_Code T.meth_Code_put_end F_Code_put_end hr_Code_put_end b_Code_put_end .nil pass0 (pa_cons (pe_tup (pa_cons (pe_cint T.int_JUMP_END) (pa_cons (pv 1) (pa_cons (pe_callTy call_tuple_of (by rfl) T.free_tuple (by decide +kernel) (pa_cons (pv 2) pa_nil)) pa_nil)))) (pa_cons (pv 2) (pa_cons (pe_lst (pa_cons (pv 1) pa_nil)) pa_nil))))))))
theorem ok_Code_jump (T : Tx K mg) {sp_Code_open_block : Sp} (D_Code_open_block : Df P w K mg base 1 (He.ma K (He.ga K "Code") "open_block") ["self"] sp_Code_open_block) {sp_Code_put_end : Sp} (D_Code_put_end : Df P w K mg base 2 (He.ma K (He.ga K "Code") "put_end") ["self", "end", "used", "targets"] sp_Code_put_end) {sp : Sp} (len : ∀ vs H Q E, sp vs H Q E → vs.length = 3) (pure : ∀ vs H Q E, sp vs H Q E → t_Code_jump K sp_Code_open_block sp_Code_put_end { nx := fun _ H' => Q .non H', rt := Q } (start N_Code_jump vs) H) : Df P w K mg base 3 (He.ma K (He.ga K "Code") "jump") ["self", "t", "handed"] sp := by
  obtain ⟨fd, F⟩ := T.def_Code_jump
  exact df_of F sc_Code_jump (fun _ _ _ _ _ _ us hl => match us, hl with | [_, _, _], _ => rfl) len (fun hr => der_Code_jump T D_Code_open_block D_Code_put_end hr) pure
/-! ### Code_fork (level 3; slots 0 self, 1 v, 2 t, 3 u, 4 n, 5 handed, 6 end) -/
abbrev N_Code_fork : List Str := ["self", "v", "t", "u", "n", "handed", "end"]
theorem sc_Code_fork : FnScope N_Code_fork ["self", "v", "t", "u", "n", "handed"] (defScope s_Code_fork) := ⟨rfl, rfl, rfl, by decide +kernel, rfl, by decide +kernel, by decide +kernel⟩
def t_Code_fork (K : PySem.W.Frag) (sp_Code_open_block : Sp) (sp_Code_put_end : Sp) : TS := (tSeq (tIfS (tTest (tOp rIsN (tMeth (He.ga K "Code") "open_block" sp_Code_open_block [] E0 (tVar 0) tNil) (tC .non))) (tRet (tC (.int (-3)))) tNext)
    (tSeq (tIfS (tOr (tTest (tOp rLt (tCB (Evl.rLenS K) (tCons (tVar 5) tNil)) (tVar 4))) (tTest (tOp rGt (tCB (Evl.rLenS K) (tCons (tVar 5) tNil)) (tC (.int (16)))))) (tRet (tC (.int (-1)))) tNext)
    (tSeq (tAsg (tTup (tCons (tC (.int (1))) (tCons (tVar 1) (tCons (tVar 2) (tCons (tCB (rTupS K) (tCons (tSl (rSlL K) (tVar 5) tNoPart (tPart (tVar 4))) tNil)) (tCons (tVar 3) (tCons (tCB (rTupS K) (tCons (tSl (rSlL K) (tVar 5) (tPart (tVar 4)) tNoPart) tNil)) tNil))))))) (gName 6))
    (tRet (tMeth (He.ga K "Code") "put_end" sp_Code_put_end [] E0 (tVar 0) (tCons (tVar 6) (tCons (tOp rCat (tLst (tCons (tVar 1) tNil)) (tVar 5)) (tCons (tLst (tCons (tVar 2) (tCons (tVar 3) tNil))) tNil))))))))
theorem der_Code_fork (T : Tx K mg) {sp_Code_open_block : Sp} (D_Code_open_block : Df P w K mg base 1 (He.ma K (He.ga K "Code") "open_block") ["self"] sp_Code_open_block) {sp_Code_put_end : Sp} (D_Code_put_end : Df P w K mg base 2 (He.ma K (He.ga K "Code") "put_end") ["self", "end", "used", "targets"] sp_Code_put_end) {cdv : Value} {A : Around} {outer : List Env} {s : Shared} {H : Hp} {E : XK} (hr : Room 2 (A.deeper (envOfC "Code.fork" (defScope s_Code_fork) s.heap.objs.size (He.ma K (He.ga K "Code") "fork") cdv))) :
    PSs (cxOf CX0 P w K mg base N_Code_fork "Code.fork" (defScope s_Code_fork) (He.ma K (He.ga K "Code") "fork") cdv A outer s H E).nox (defBody s_Code_fork) (t_Code_fork K sp_Code_open_block sp_Code_put_end) := by
  have hr_Code_open_block : Room 1 _ := hr.mono (by decide)
  obtain ⟨fd_Code_open_block, F_Code_open_block, b_Code_open_block⟩ := D_Code_open_block.ex
  have hr_Code_put_end : Room 2 _ := hr.mono (by decide)
  obtain ⟨fd_Code_put_end, F_Code_put_end, b_Code_put_end⟩ := D_Code_put_end.ex
  exact (pss_cons (ps_if (pt_cmpR op_isN (pe_meth0 (pv 0) T.cls_Code T.meth_Code_open_block F_Code_open_block hr_Code_open_block b_Code_open_block .nil pass0) pe_non (nomark _)) (pss_one (ps_ret (pe_cint T.int_WRONG_TIME))) pss_nil)
    (pss_cons (ps_if (PW.pt (pw_or (pt_cmpR op_lt (pe_callB call_len_seq (by rfl) T.free_len (by decide +kernel) (pa_cons (pv 5) pa_nil)) (pv 4) (nomark _)) (pw_or1 (pt_cmpR op_gt (pe_callB call_len_seq (by rfl) T.free_len (by decide +kernel) (pa_cons (pv 5) pa_nil)) (pe_cint T.int_MOST_HANDED_BY_FORK) (nomark _))))) (pss_one (ps_ret (pe_cint T.int_BAD_COUNT))) pss_nil)
    (pss_cons (ps_set (i := 6) sc_Code_fork.nd rfl (by first | exact Or.inl rfl | exact Or.inr rfl) (pe_tup (pa_cons (pe_cint T.int_FORK_END) (pa_cons (pv 1) (pa_cons (pv 2) (pa_cons (pe_callTy call_tuple_of (by rfl) T.free_tuple (by decide +kernel) (pa_cons (pe_slice sl_list (pv 5) po_none (po_some (pv 4))) pa_nil)) (pa_cons (pv 3) (pa_cons (pe_callTy call_tuple_of (by rfl) T.free_tuple (by decide +kernel) (pa_cons (pe_slice sl_list (pv 5) (po_some (pv 4)) po_none) pa_nil)) pa_nil))))))))
    (pss_one (ps_ret (pe_meth (pv 0) T.cls_Code T.meth_Code_put_end F_Code_put_end hr_Code_put_end b_Code_put_end .nil pass0 (pa_cons (pv 6) (pa_cons (pe_op op_cat (pe_lst (pa_cons (pv 1) pa_nil)) (pv 5)) (pa_cons (pe_lst (pa_cons (pv 2) (pa_cons (pv 3) pa_nil))) pa_nil)))))))))
theorem ok_Code_fork (T : Tx K mg) {sp_Code_open_block : Sp} (D_Code_open_block : Df P w K mg base 1 (He.ma K (He.ga K "Code") "open_block") ["self"] sp_Code_open_block) {sp_Code_put_end : Sp} (D_Code_put_end : Df P w K mg base 2 (He.ma K (He.ga K "Code") "put_end") ["self", "end", "used", "targets"] sp_Code_put_end) {sp : Sp} (len : ∀ vs H Q E, sp vs H Q E → vs.length = 6) (pure : ∀ vs H Q E, sp vs H Q E → t_Code_fork K sp_Code_open_block sp_Code_put_end { nx := fun _ H' => Q .non H', rt := Q } (start N_Code_fork vs) H) : Df P w K mg base 3 (He.ma K (He.ga K "Code") "fork") ["self", "v", "t", "u", "n", "handed"] sp := by
  obtain ⟨fd, F⟩ := T.def_Code_fork
  exact df_of F sc_Code_fork (fun _ _ _ _ _ _ us hl => match us, hl with | [_, _, _, _, _, _], _ => rfl) len (fun hr => der_Code_fork T D_Code_open_block D_Code_put_end hr) pure
/-! ### Code_give (level 3; slots 0 self, 1 v) -/
abbrev N_Code_give : List Str := ["self", "v"]
theorem sc_Code_give : FnScope N_Code_give ["self", "v"] (defScope s_Code_give) := ⟨rfl, rfl, rfl, by decide +kernel, rfl, by decide +kernel, by decide +kernel⟩
def t_Code_give (K : PySem.W.Frag) (sp_Code_put_end : Sp) : TS := (tRet (tMeth (He.ga K "Code") "put_end" sp_Code_put_end [] E0 (tVar 0) (tCons (tTup (tCons (tC (.int (2))) (tCons (tVar 1) tNil))) (tCons (tLst (tCons (tVar 1) tNil)) (tCons (tLst tNil) tNil)))))
theorem der_Code_give (T : Tx K mg) {sp_Code_put_end : Sp} (D_Code_put_end : Df P w K mg base 2 (He.ma K (He.ga K "Code") "put_end") ["self", "end", "used", "targets"] sp_Code_put_end) {cdv : Value} {A : Around} {outer : List Env} {s : Shared} {H : Hp} {E : XK} (hr : Room 2 (A.deeper (envOfC "Code.give" (defScope s_Code_give) s.heap.objs.size (He.ma K (He.ga K "Code") "give") cdv))) :
    PSs (cxOf CX0 P w K mg base N_Code_give "Code.give" (defScope s_Code_give) (He.ma K (He.ga K "Code") "give") cdv A outer s H E).nox (defBody s_Code_give) (t_Code_give K sp_Code_put_end) := by
  have hr_Code_put_end : Room 2 _ := hr.mono (by decide)
  obtain ⟨fd_Code_put_end, F_Code_put_end, b_Code_put_end⟩ := D_Code_put_end.ex
  exact (pss_one (ps_ret (pe_meth (pv 0) T.cls_Code T.meth_Code_put_end F_Code_put_end hr_Code_put_end b_Code_put_end .nil pass0 (pa_cons (pe_tup (pa_cons (pe_cint T.int_GIVE_END) (pa_cons (pv 1) pa_nil))) (pa_cons (pe_lst (pa_cons (pv 1) pa_nil)) (pa_cons (pe_lst pa_nil) pa_nil))))))
theorem ok_Code_give (T : Tx K mg) {sp_Code_put_end : Sp} (D_Code_put_end : Df P w K mg base 2 (He.ma K (He.ga K "Code") "put_end") ["self", "end", "used", "targets"] sp_Code_put_end) {sp : Sp} (len : ∀ vs H Q E, sp vs H Q E → vs.length = 2) (pure : ∀ vs H Q E, sp vs H Q E → t_Code_give K sp_Code_put_end { nx := fun _ H' => Q .non H', rt := Q } (start N_Code_give vs) H) : Df P w K mg base 3 (He.ma K (He.ga K "Code") "give") ["self", "v"] sp := by
  obtain ⟨fd, F⟩ := T.def_Code_give
  exact df_of F sc_Code_give (fun _ _ _ _ _ _ us hl => match us, hl with | [_, _], _ => rfl) len (fun hr => der_Code_give T D_Code_put_end hr) pure
/-! ### given_in_code (level 3; slots 0 code, 1 given, 2 block) -/
abbrev N_given_in_code : List Str := ["code", "given", "block"]
theorem sc_given_in_code : FnScope N_given_in_code ["code"] (defScope s_given_in_code) := ⟨rfl, rfl, rfl, by decide +kernel, rfl, by decide +kernel, by decide +kernel⟩
def t_given_in_code (K : PySem.W.Frag) (sp_given_in_block : Sp) : TS := (tSeq (tAsg (tLstRg (tRg1 (tFld K (tVar 0) "words"))) (gName 1))
    (tSeq (tFor (iList K (tFld K (tVar 0) "blocks")) (gName 2) (tDrop (tBM K "list" rExtend (tVar 1) (tCons (tCall sp_given_in_block [] E0 (tCons (tVar 2) tNil)) tNil))))
    (tRet (tVar 1))))
theorem der_given_in_code (T : Tx K mg) {sp_given_in_block : Sp} (D_given_in_block : Df P w K mg base 2 (He.ga K "given_in_block") ["block"] sp_given_in_block) {cdv : Value} {A : Around} {outer : List Env} {s : Shared} {H : Hp} {E : XK} (hr : Room 2 (A.deeper (envOfC "given_in_code" (defScope s_given_in_code) s.heap.objs.size (He.ga K "given_in_code") cdv))) :
    PSs (cxOf CX0 P w K mg base N_given_in_code "given_in_code" (defScope s_given_in_code) (He.ga K "given_in_code") cdv A outer s H E).nox (defBody s_given_in_code) (t_given_in_code K sp_given_in_block) := by
  have hr_given_in_block : Room 2 _ := hr.mono (by decide)
  obtain ⟨fd_given_in_block, F_given_in_block, b_given_in_block⟩ := D_given_in_block.ex
  exact (pss_cons (ps_set (i := 1) sc_given_in_code.nd rfl (by first | exact Or.inl rfl | exact Or.inr rfl) (pe_listRg rfl (by rfl) T.free_list (prg_1 (by rfl) T.free_range (pe_fld (pv 0) rfl))))
    (pss_cons (ps_for PassesOwn.never rfl (pi_list (pe_fld (pv 0) rfl)) (pg_name (i := 2) sc_given_in_code.nd rfl (by first | exact Or.inl rfl | exact Or.inr rfl)) (pss_one (ps_expr (pe_bm PySem.F.plainAttrs_list PySem.F.slot_list_extend PySem.F.type_list_extend mt_extend (pv 1) (pa_cons (pe_call F_given_in_block hr_given_in_block rfl T.glo_given_in_block D_given_in_block.kp b_given_in_block .nil pass0 (pa_cons (pv 2) pa_nil)) pa_nil)))))
    (pss_one (ps_ret (pv 1)))))
theorem ok_given_in_code (T : Tx K mg) {sp_given_in_block : Sp} (D_given_in_block : Df P w K mg base 2 (He.ga K "given_in_block") ["block"] sp_given_in_block) {sp : Sp} (len : ∀ vs H Q E, sp vs H Q E → vs.length = 1) (pure : ∀ vs H Q E, sp vs H Q E → t_given_in_code K sp_given_in_block { nx := fun _ H' => Q .non H', rt := Q } (start N_given_in_code vs) H) : Df P w K mg base 3 (He.ga K "given_in_code") ["code"] sp := by
  obtain ⟨fd, F⟩ := T.def_given_in_code
  exact df_of F sc_given_in_code (fun _ _ _ _ _ _ us hl => match us, hl with | [_], _ => rfl) len (fun hr => der_given_in_code T D_given_in_block hr) pure
/-! ### is_whole (level 3; slots 0 code, 1 block) -/
abbrev N_is_whole : List Str := ["code", "block"]
theorem sc_is_whole : FnScope N_is_whole ["code"] (defScope s_is_whole) := ⟨rfl, rfl, rfl, by decide +kernel, rfl, by decide +kernel, by decide +kernel⟩
def t_is_whole (K : PySem.W.Frag) (sp_Code_open_block : Sp) (sp_ways_fit : Sp) : TS := (tSeq (tIfS (tOr (tTest (tOp rEq (tCB (Evl.rLenS K) (tCons (tFld K (tVar 0) "blocks") tNil)) (tC (.int 0)))) (tTest (tOp rNotN (tMeth (He.ga K "Code") "open_block" sp_Code_open_block [] E0 (tVar 0) tNil) (tC .non)))) (tRet (tC (.bl false))) tNext)
    (tSeq (tIfS (tTest (tOp rGt (tCB (Evl.rLenS K) (tCons (tFld K (tOp (rIxL K) (tFld K (tVar 0) "blocks") (tC (.int 0))) "taken") tNil)) (tC (.int 0)))) (tRet (tC (.bl false))) tNext)
    (tRet (tCB (rAll K) (tCons (tLc (iList K (tFld K (tVar 0) "blocks")) (gName 1) tYes (tCall sp_ways_fit [] E0 (tCons (tVar 0) (tCons (tVar 1) tNil))) [1]) tNil)))))
theorem der_is_whole (T : Tx K mg) {sp_Code_open_block : Sp} (D_Code_open_block : Df P w K mg base 1 (He.ma K (He.ga K "Code") "open_block") ["self"] sp_Code_open_block) {sp_ways_fit : Sp} (D_ways_fit : Df P w K mg base 2 (He.ga K "ways_fit") ["code", "block"] sp_ways_fit) {cdv : Value} {A : Around} {outer : List Env} {s : Shared} {H : Hp} {E : XK} (hr : Room 2 (A.deeper (envOfC "is_whole" (defScope s_is_whole) s.heap.objs.size (He.ga K "is_whole") cdv))) :
    PSs (cxOf CX0 P w K mg base N_is_whole "is_whole" (defScope s_is_whole) (He.ga K "is_whole") cdv A outer s H E).nox (defBody s_is_whole) (t_is_whole K sp_Code_open_block sp_ways_fit) := by
  have hr_Code_open_block : Room 1 _ := hr.mono (by decide)
  obtain ⟨fd_Code_open_block, F_Code_open_block, b_Code_open_block⟩ := D_Code_open_block.ex
  have hr_ways_fit : Room 2 _ := hr.mono (by decide)
  obtain ⟨fd_ways_fit, F_ways_fit, b_ways_fit⟩ := D_ways_fit.ex
  exact (pss_cons (ps_if (PW.pt (pw_or (pt_cmpR op_eq (pe_callB call_len_seq (by rfl) T.free_len (by decide +kernel) (pa_cons (pe_fld (pv 0) rfl) pa_nil)) pe_int (nomark _)) (pw_or1 (pt_cmpR op_notN (pe_meth0 (pv 0) T.cls_Code T.meth_Code_open_block F_Code_open_block hr_Code_open_block b_Code_open_block .nil pass0) pe_non (nomark _))))) (pss_one (ps_ret pe_bl)) pss_nil)
    (pss_cons (ps_if (pt_cmpR op_gt (pe_callB call_len_seq (by rfl) T.free_len (by decide +kernel) (pa_cons (pe_fld (pe_ix ix_list (pe_fld (pv 0) rfl) pe_int (fun _ _ => rfl)) rfl) pa_nil)) pe_int (nomark _)) (pss_one (ps_ret pe_bl)) pss_nil)
    (pss_one (ps_ret (pe_callB (cr_all rfl) (by rfl) T.free_all (by decide +kernel) (pa_cons (pe_lc (own := [("block", 1)]) (g := (gName 1)) (tt := tYes) rfl sc_is_whole.nd (pi_list (pe_fld (pv 0) rfl)) (blkOk_by (N := N_is_whole) (sc := defScope s_is_whole) (by decide +kernel)) (fun _ _ _ _ _ => (pg_name (i := 1) sc_is_whole.nd rfl (by first | exact Or.inl rfl | exact Or.inr rfl))) (fun _ _ _ _ _ => pts_nil) (fun _ _ _ _ _ => (pe_call F_ways_fit hr_ways_fit rfl T.glo_ways_fit D_ways_fit.kp b_ways_fit .nil pass0 (pa_cons (pv 0) (pa_cons (pv 1) pa_nil))))) pa_nil))))))
theorem ok_is_whole (T : Tx K mg) {sp_Code_open_block : Sp} (D_Code_open_block : Df P w K mg base 1 (He.ma K (He.ga K "Code") "open_block") ["self"] sp_Code_open_block) {sp_ways_fit : Sp} (D_ways_fit : Df P w K mg base 2 (He.ga K "ways_fit") ["code", "block"] sp_ways_fit) {sp : Sp} (len : ∀ vs H Q E, sp vs H Q E → vs.length = 1) (pure : ∀ vs H Q E, sp vs H Q E → t_is_whole K sp_Code_open_block sp_ways_fit { nx := fun _ H' => Q .non H', rt := Q } (start N_is_whole vs) H) : Df P w K mg base 3 (He.ga K "is_whole") ["code"] sp := by
  obtain ⟨fd, F⟩ := T.def_is_whole
  exact df_of F sc_is_whole (fun _ _ _ _ _ _ us hl => match us, hl with | [_], _ => rfl) len (fun hr => der_is_whole T D_Code_open_block D_ways_fit hr) pure
/-! ### given_at_begin (level 3; slots 0 code, 1 number, 2 given, 3 other) -/
abbrev N_given_at_begin : List Str := ["code", "number", "given", "other"]
theorem sc_given_at_begin : FnScope N_given_at_begin ["code", "number"] (defScope s_given_at_begin) := ⟨rfl, rfl, rfl, by decide +kernel, rfl, by decide +kernel, by decide +kernel⟩
def t_given_at_begin (K : PySem.W.Frag) (sp_given_in_block : Sp) (sp_reached : Sp) : TS := (tSeq (tAsg (tOp rCat (tLstRg (tRg1 (tFld K (tVar 0) "words"))) (tCB (Evl.rListS K) (tCons (tFld K (tOp (rIxL K) (tFld K (tVar 0) "blocks") (tVar 1)) "taken") tNil))) (gName 2))
    (tSeq (tFor (iRng1 (tCons (tCB (Evl.rLenS K) (tCons (tFld K (tVar 0) "blocks") tNil)) tNil)) (gName 3) (tIfS (tAnd (tTest (tOp rNe (tVar 3) (tVar 1))) (tTest (tOp (rIn K true) (tVar 1) (tCall sp_reached [] E0 (tCons (tVar 0) (tCons (tVar 3) tNil)))))) (tDrop (tBM K "list" rExtend (tVar 2) (tCons (tCall sp_given_in_block [] E0 (tCons (tOp (rIxL K) (tFld K (tVar 0) "blocks") (tVar 3)) tNil)) tNil))) tNext))
    (tRet (tVar 2))))
theorem der_given_at_begin (T : Tx K mg) {sp_given_in_block : Sp} (D_given_in_block : Df P w K mg base 2 (He.ga K "given_in_block") ["block"] sp_given_in_block) {sp_reached : Sp} (D_reached : Df P w K mg base 2 (He.ga K "reached") ["code", "left_out"] sp_reached) {cdv : Value} {A : Around} {outer : List Env} {s : Shared} {H : Hp} {E : XK} (hr : Room 2 (A.deeper (envOfC "given_at_begin" (defScope s_given_at_begin) s.heap.objs.size (He.ga K "given_at_begin") cdv))) :
    PSs (cxOf CX0 P w K mg base N_given_at_begin "given_at_begin" (defScope s_given_at_begin) (He.ga K "given_at_begin") cdv A outer s H E).nox (defBody s_given_at_begin) (t_given_at_begin K sp_given_in_block sp_reached) := by
  have hr_given_in_block : Room 2 _ := hr.mono (by decide)
  obtain ⟨fd_given_in_block, F_given_in_block, b_given_in_block⟩ := D_given_in_block.ex
  have hr_reached : Room 2 _ := hr.mono (by decide)
  obtain ⟨fd_reached, F_reached, b_reached⟩ := D_reached.ex
  exact (pss_cons (ps_set (i := 2) sc_given_at_begin.nd rfl (by first | exact Or.inl rfl | exact Or.inr rfl) (pe_op op_cat (pe_listRg rfl (by rfl) T.free_list (prg_1 (by rfl) T.free_range (pe_fld (pv 0) rfl))) (pe_callTy call_list_of (by rfl) T.free_list (by decide +kernel) (pa_cons (pe_fld (pe_ix ix_list (pe_fld (pv 0) rfl) (pv 1) (fun _ _ => rfl)) rfl) pa_nil))))
    (pss_cons (ps_for PassesOwn.never rfl (pi_range1 (by rfl) T.free_range (pa_cons (pe_callB call_len_seq (by rfl) T.free_len (by decide +kernel) (pa_cons (pe_fld (pv 0) rfl) pa_nil)) pa_nil)) (pg_name (i := 3) sc_given_at_begin.nd rfl (by first | exact Or.inl rfl | exact Or.inr rfl)) (pss_one (ps_if (PW.pt (pw_and (pt_cmpR op_ne (pv 3) (pv 1) (nomark _)) (pw_and1 (pt_cmpR op_notIn_seq (pv 1) (pe_call F_reached hr_reached rfl T.glo_reached D_reached.kp b_reached .nil pass0 (pa_cons (pv 0) (pa_cons (pv 3) pa_nil))) rfl)))) (pss_one (ps_expr (pe_bm PySem.F.plainAttrs_list PySem.F.slot_list_extend PySem.F.type_list_extend mt_extend (pv 2) (pa_cons (pe_call F_given_in_block hr_given_in_block rfl T.glo_given_in_block D_given_in_block.kp b_given_in_block .nil pass0 (pa_cons (pe_ix ix_list (pe_fld (pv 0) rfl) (pv 3) (fun _ _ => rfl)) pa_nil)) pa_nil)))) pss_nil)))
    (pss_one (ps_ret (pv 2)))))
theorem ok_given_at_begin (T : Tx K mg) {sp_given_in_block : Sp} (D_given_in_block : Df P w K mg base 2 (He.ga K "given_in_block") ["block"] sp_given_in_block) {sp_reached : Sp} (D_reached : Df P w K mg base 2 (He.ga K "reached") ["code", "left_out"] sp_reached) {sp : Sp} (len : ∀ vs H Q E, sp vs H Q E → vs.length = 2) (pure : ∀ vs H Q E, sp vs H Q E → t_given_at_begin K sp_given_in_block sp_reached { nx := fun _ H' => Q .non H', rt := Q } (start N_given_at_begin vs) H) : Df P w K mg base 3 (He.ga K "given_at_begin") ["code", "number"] sp := by
  obtain ⟨fd, F⟩ := T.def_given_at_begin
  exact df_of F sc_given_at_begin (fun _ _ _ _ _ _ us hl => match us, hl with | [_, _], _ => rfl) len (fun hr => der_given_at_begin T D_given_in_block D_reached hr) pure
/-! ### live_in_block (level 3; slots 0 block, 1 coming, 2 backwards, 3 row, 4 given, 5 still, 6 value) -/
abbrev N_live_in_block : List Str := ["block", "coming", "backwards", "row", "given", "still", "value"]
theorem sc_live_in_block : FnScope N_live_in_block ["block", "coming"] (defScope s_live_in_block) := ⟨rfl, rfl, rfl, by decide +kernel, rfl, by decide +kernel, by decide +kernel⟩
def t_live_in_block (K : PySem.W.Frag) (sp_given_by_row : Sp) (sp_live_at_end : Sp) (sp_used_by_row : Sp) : TS := (tSeq (tAsg (tLst (tCons (tCall sp_live_at_end [] E0 (tCons (tFld K (tVar 0) "end") (tCons (tVar 1) tNil))) tNil)) (gName 2))
    (tSeq (tFor (iRev K (tCons (tFld K (tVar 0) "rows") tNil)) (gName 3) (tSeq (tAsg (tCall sp_given_by_row [] E0 (tCons (tVar 3) tNil)) (gName 4))
    (tSeq (tAsg (tLc (iList K (tOp (rIxL K) (tVar 2) (tUn rNeg (tC (.int 1))))) (gName 6) (tTest (tOp (rIn K true) (tVar 6) (tVar 4))) (tVar 6) [6]) (gName 5))
    (tDrop (tBM K "list" rAppend (tVar 2) (tCons (tSortSetZ K (tOp rCat (tVar 5) (tCall sp_used_by_row [] E0 (tCons (tVar 3) tNil)))) tNil))))))
    (tRet (tListRevZ K (tVar 2)))))
theorem der_live_in_block (T : Tx K mg) {sp_given_by_row : Sp} (D_given_by_row : Df P w K mg base 1 (He.ga K "given_by_row") ["row"] sp_given_by_row) {sp_live_at_end : Sp} (D_live_at_end : Df P w K mg base 2 (He.ga K "live_at_end") ["end", "coming"] sp_live_at_end) {sp_used_by_row : Sp} (D_used_by_row : Df P w K mg base 1 (He.ga K "used_by_row") ["row"] sp_used_by_row) {cdv : Value} {A : Around} {outer : List Env} {s : Shared} {H : Hp} {E : XK} (hr : Room 2 (A.deeper (envOfC "live_in_block" (defScope s_live_in_block) s.heap.objs.size (He.ga K "live_in_block") cdv))) :
    PSs (cxOf CX0 P w K mg base N_live_in_block "live_in_block" (defScope s_live_in_block) (He.ga K "live_in_block") cdv A outer s H E).nox (defBody s_live_in_block) (t_live_in_block K sp_given_by_row sp_live_at_end sp_used_by_row) := by
  have hr_given_by_row : Room 1 _ := hr.mono (by decide)
  obtain ⟨fd_given_by_row, F_given_by_row, b_given_by_row⟩ := D_given_by_row.ex
  have hr_live_at_end : Room 2 _ := hr.mono (by decide)
  obtain ⟨fd_live_at_end, F_live_at_end, b_live_at_end⟩ := D_live_at_end.ex
  have hr_used_by_row : Room 1 _ := hr.mono (by decide)
  obtain ⟨fd_used_by_row, F_used_by_row, b_used_by_row⟩ := D_used_by_row.ex
  exact (pss_cons (ps_set (i := 2) sc_live_in_block.nd rfl (by first | exact Or.inl rfl | exact Or.inr rfl) (pe_lst (pa_cons (pe_call F_live_at_end hr_live_at_end rfl T.glo_live_at_end D_live_at_end.kp b_live_at_end .nil pass0 (pa_cons (pe_fld (pv 0) rfl) (pa_cons (pv 1) pa_nil))) pa_nil)))
    (pss_cons (ps_for PassesOwn.never rfl (pi_reversed (by rfl) T.free_reversed (pa_cons (pe_fld (pv 0) rfl) pa_nil)) (pg_name (i := 3) sc_live_in_block.nd rfl (by first | exact Or.inl rfl | exact Or.inr rfl)) (pss_cons (ps_set (i := 4) sc_live_in_block.nd rfl (by first | exact Or.inl rfl | exact Or.inr rfl) (pe_call F_given_by_row hr_given_by_row rfl T.glo_given_by_row D_given_by_row.kp b_given_by_row .nil pass0 (pa_cons (pv 3) pa_nil)))
    (pss_cons (ps_setLc (i := 5) (own := [("value", 6)]) (g := (gName 6)) (tt := (tTest (tOp (rIn K true) (tVar 6) (tVar 4)))) rfl sc_live_in_block.nd rfl rfl (sw_true rfl rfl rfl (by decide +kernel)) (pi_list (pe_ix ix_list (pv 2) (pe_un un_neg pe_int) (fun _ _ => rfl))) (blkOk_by (N := N_live_in_block) (sc := defScope s_live_in_block) (by decide +kernel)) (fun _ _ _ _ _ => (pg_name (i := 6) sc_live_in_block.nd rfl (by first | exact Or.inl rfl | exact Or.inr rfl))) (fun _ _ _ _ _ => (pts_one (pt_cmpR op_notIn_seq (pv 6) (pv 4) rfl))) (fun _ _ _ _ _ => (pv 6)))
    (pss_one (ps_expr (pe_bm PySem.F.plainAttrs_list PySem.F.slot_list_append PySem.F.type_list_append mt_append (pv 2) (pa_cons (pe_sortSetZ rfl (by rfl) T.free_sorted (by rfl) T.free_set (pe_op op_cat (pv 5) (pe_call F_used_by_row hr_used_by_row rfl T.glo_used_by_row D_used_by_row.kp b_used_by_row .nil pass0 (pa_cons (pv 3) pa_nil)))) pa_nil)))))))
    (pss_one (ps_ret (pe_listRevZ rfl (by rfl) T.free_list (by rfl) T.free_reversed (pv 2))))))
theorem ok_live_in_block (T : Tx K mg) {sp_given_by_row : Sp} (D_given_by_row : Df P w K mg base 1 (He.ga K "given_by_row") ["row"] sp_given_by_row) {sp_live_at_end : Sp} (D_live_at_end : Df P w K mg base 2 (He.ga K "live_at_end") ["end", "coming"] sp_live_at_end) {sp_used_by_row : Sp} (D_used_by_row : Df P w K mg base 1 (He.ga K "used_by_row") ["row"] sp_used_by_row) {sp : Sp} (len : ∀ vs H Q E, sp vs H Q E → vs.length = 2) (pure : ∀ vs H Q E, sp vs H Q E → t_live_in_block K sp_given_by_row sp_live_at_end sp_used_by_row { nx := fun _ H' => Q .non H', rt := Q } (start N_live_in_block vs) H) : Df P w K mg base 3 (He.ga K "live_in_block") ["block", "coming"] sp := by
  obtain ⟨fd, F⟩ := T.def_live_in_block
  exact df_of F sc_live_in_block (fun _ _ _ _ _ _ us hl => match us, hl with | [_, _], _ => rfl) len (fun hr => der_live_in_block T D_given_by_row D_live_at_end D_used_by_row hr) pure
/-! ### block_in_slots (level 3; slots 0 block, 1 slots, 2 placed, 3 row) -/
abbrev N_block_in_slots : List Str := ["block", "slots", "placed", "row"]
theorem sc_block_in_slots : FnScope N_block_in_slots ["block", "slots"] (defScope s_block_in_slots) := ⟨rfl, rfl, rfl, by decide +kernel, rfl, by decide +kernel, by decide +kernel⟩
def t_block_in_slots (K : PySem.W.Frag) (sp_Block_init : Sp) (sp_all_in_slots : Sp) (sp_end_in_slots : Sp) (sp_row_in_slots : Sp) : TS := (tSeq (tAsg (tMake (He.ga K "Block") sp_Block_init [] E0 (tCons (tCall sp_all_in_slots [] E0 (tCons (tFld K (tVar 0) "taken") (tCons (tVar 1) tNil))) tNil)) (gName 2))
    (tSeq (sFld K (tVar 2) (tLc (iList K (tFld K (tVar 0) "rows")) (gName 3) tYes (tCall sp_row_in_slots [] E0 (tCons (tVar 3) (tCons (tVar 1) tNil))) [3]) "rows")
    (tSeq (sFld K (tVar 2) (tCall sp_end_in_slots [] E0 (tCons (tFld K (tVar 0) "end") (tCons (tVar 1) tNil))) "end")
    (tRet (tVar 2)))))
theorem der_block_in_slots (T : Tx K mg) {sp_Block_init : Sp} (D_Block_init : Df P w K mg base 1 (He.ma K (He.ga K "Block") "__init__") ["self", "taken"] sp_Block_init) {sp_all_in_slots : Sp} (D_all_in_slots : Df P w K mg base 1 (He.ga K "all_in_slots") ["values", "slots"] sp_all_in_slots) {sp_end_in_slots : Sp} (D_end_in_slots : Df P w K mg base 2 (He.ga K "end_in_slots") ["end", "slots"] sp_end_in_slots) {sp_row_in_slots : Sp} (D_row_in_slots : Df P w K mg base 1 (He.ga K "row_in_slots") ["row", "slots"] sp_row_in_slots) {cdv : Value} {A : Around} {outer : List Env} {s : Shared} {H : Hp} {E : XK} (hr : Room 2 (A.deeper (envOfC "block_in_slots" (defScope s_block_in_slots) s.heap.objs.size (He.ga K "block_in_slots") cdv))) :
    PSs (cxOf CX0 P w K mg base N_block_in_slots "block_in_slots" (defScope s_block_in_slots) (He.ga K "block_in_slots") cdv A outer s H E).nox (defBody s_block_in_slots) (t_block_in_slots K sp_Block_init sp_all_in_slots sp_end_in_slots sp_row_in_slots) := by
  have hr_Block_init : Room 2 _ := hr.mono (by decide)
  obtain ⟨fd_Block_init, F_Block_init, b_Block_init⟩ := D_Block_init.ex
  have hr_all_in_slots : Room 1 _ := hr.mono (by decide)
  obtain ⟨fd_all_in_slots, F_all_in_slots, b_all_in_slots⟩ := D_all_in_slots.ex
  have hr_end_in_slots : Room 2 _ := hr.mono (by decide)
  obtain ⟨fd_end_in_slots, F_end_in_slots, b_end_in_slots⟩ := D_end_in_slots.ex
  have hr_row_in_slots : Room 1 _ := hr.mono (by decide)
  obtain ⟨fd_row_in_slots, F_row_in_slots, b_row_in_slots⟩ := D_row_in_slots.ex
  exact (pss_cons (ps_set (i := 2) sc_block_in_slots.nd rfl (by first | exact Or.inl rfl | exact Or.inr rfl) (pe_make T.mkr_Block F_Block_init hr_Block_init rfl T.glo_Block b_Block_init .nil pass0 (pa_cons (pe_call F_all_in_slots hr_all_in_slots rfl T.glo_all_in_slots D_all_in_slots.kp b_all_in_slots .nil pass0 (pa_cons (pe_fld (pv 0) rfl) (pa_cons (pv 1) pa_nil))) pa_nil)))
    (pss_cons (ps_fld (pv 2) (pe_lc (own := [("row", 3)]) (g := (gName 3)) (tt := tYes) rfl sc_block_in_slots.nd (pi_list (pe_fld (pv 0) rfl)) (blkOk_by (N := N_block_in_slots) (sc := defScope s_block_in_slots) (by decide +kernel)) (fun _ _ _ _ _ => (pg_name (i := 3) sc_block_in_slots.nd rfl (by first | exact Or.inl rfl | exact Or.inr rfl))) (fun _ _ _ _ _ => pts_nil) (fun _ _ _ _ _ => (pe_call F_row_in_slots hr_row_in_slots rfl T.glo_row_in_slots D_row_in_slots.kp b_row_in_slots .nil pass0 (pa_cons (pv 3) (pa_cons (pv 1) pa_nil))))) rfl)
    (pss_cons (ps_fld (pv 2) (pe_call F_end_in_slots hr_end_in_slots rfl T.glo_end_in_slots D_end_in_slots.kp b_end_in_slots .nil pass0 (pa_cons (pe_fld (pv 0) rfl) (pa_cons (pv 1) pa_nil))) rfl)
    (pss_one (ps_ret (pv 2))))))
theorem ok_block_in_slots (T : Tx K mg) {sp_Block_init : Sp} (D_Block_init : Df P w K mg base 1 (He.ma K (He.ga K "Block") "__init__") ["self", "taken"] sp_Block_init) {sp_all_in_slots : Sp} (D_all_in_slots : Df P w K mg base 1 (He.ga K "all_in_slots") ["values", "slots"] sp_all_in_slots) {sp_end_in_slots : Sp} (D_end_in_slots : Df P w K mg base 2 (He.ga K "end_in_slots") ["end", "slots"] sp_end_in_slots) {sp_row_in_slots : Sp} (D_row_in_slots : Df P w K mg base 1 (He.ga K "row_in_slots") ["row", "slots"] sp_row_in_slots) {sp : Sp} (len : ∀ vs H Q E, sp vs H Q E → vs.length = 2) (pure : ∀ vs H Q E, sp vs H Q E → t_block_in_slots K sp_Block_init sp_all_in_slots sp_end_in_slots sp_row_in_slots { nx := fun _ H' => Q .non H', rt := Q } (start N_block_in_slots vs) H) : Df P w K mg base 3 (He.ga K "block_in_slots") ["block", "slots"] sp := by
  obtain ⟨fd, F⟩ := T.def_block_in_slots
  exact df_of F sc_block_in_slots (fun _ _ _ _ _ _ us hl => match us, hl with | [_, _], _ => rfl) len (fun hr => der_block_in_slots T D_Block_init D_all_in_slots D_end_in_slots D_row_in_slots hr) pure
/-! ### run_blocks (level 3; slots 0 blocks, 1 n, 2 held, 3 said, 4 number, 5 turn, 6 block) -/
abbrev N_run_blocks : List Str := ["blocks", "n", "held", "said", "number", "turn", "block"]
theorem sc_run_blocks : FnScope N_run_blocks ["blocks", "n", "held", "said"] (defScope s_run_blocks) := ⟨rfl, rfl, rfl, by decide +kernel, rfl, by decide +kernel, by decide +kernel⟩
def t_run_blocks (K : PySem.W.Frag) (sp_run_end : Sp) (sp_run_rows : Sp) : TS := (tSeq (tAsg (tC (.int 0)) (gName 4))
    (tSeq (tFor (iRng1 (tCons (tVar 1) tNil)) (gName 5) (tSeq (tAsg (tOp (rIxL K) (tVar 0) (tVar 4)) (gName 6))
    (tSeq (tIfS (tNot (tB (tCall sp_run_rows [] E0 (tCons (tFld K (tVar 6) "rows") (tCons (tVar 2) (tCons (tVar 3) tNil)))))) (tRet (tLst (tCons (tC (.int (1))) tNil))) tNext)
    (tSeq (tIfS (tTest (tOp rEq (tOp (rIxT K) (tFld K (tVar 6) "end") (tC (.int 0))) (tC (.int (2))))) (tRet (tLst (tCons (tC (.int (0))) (tCons (tOp (rIxL K) (tVar 2) (tOp (rIxT K) (tFld K (tVar 6) "end") (tC (.int 1)))) tNil)))) tNext)
    (tAsg (tCall sp_run_end [] E0 (tCons (tVar 0) (tCons (tFld K (tVar 6) "end") (tCons (tVar 2) tNil)))) (gName 4))))))
    (tRet (tLst (tCons (tC (.int (2))) tNil)))))
theorem der_run_blocks (T : Tx K mg) {sp_run_end : Sp} (D_run_end : Df P w K mg base 2 (He.ga K "run_end") ["blocks", "end", "held"] sp_run_end) {sp_run_rows : Sp} (D_run_rows : Df P w K mg base 2 (He.ga K "run_rows") ["rows", "held", "said"] sp_run_rows) {cdv : Value} {A : Around} {outer : List Env} {s : Shared} {H : Hp} {E : XK} (hr : Room 2 (A.deeper (envOfC "run_blocks" (defScope s_run_blocks) s.heap.objs.size (He.ga K "run_blocks") cdv))) :
    PSs (cxOf CX0 P w K mg base N_run_blocks "run_blocks" (defScope s_run_blocks) (He.ga K "run_blocks") cdv A outer s H E).nox (defBody s_run_blocks) (t_run_blocks K sp_run_end sp_run_rows) := by
  have hr_run_end : Room 2 _ := hr.mono (by decide)
  obtain ⟨fd_run_end, F_run_end, b_run_end⟩ := D_run_end.ex
  have hr_run_rows : Room 2 _ := hr.mono (by decide)
  obtain ⟨fd_run_rows, F_run_rows, b_run_rows⟩ := D_run_rows.ex
  exact (pss_cons (ps_set (i := 4) sc_run_blocks.nd rfl (by first | exact Or.inl rfl | exact Or.inr rfl) pe_int)
    (pss_cons (ps_for PassesOwn.never rfl (pi_range1 (by rfl) T.free_range (pa_cons (pv 1) pa_nil)) (pg_name (i := 5) sc_run_blocks.nd rfl (by first | exact Or.inl rfl | exact Or.inr rfl)) (pss_cons (ps_set (i := 6) sc_run_blocks.nd rfl (by first | exact Or.inl rfl | exact Or.inr rfl) (pe_ix ix_list (pv 0) (pv 4) (fun _ _ => rfl)))
    (pss_cons (ps_if (pt_not (pt_val (pe_call F_run_rows hr_run_rows rfl T.glo_run_rows D_run_rows.kp b_run_rows .nil pass0 (pa_cons (pe_fld (pv 6) rfl) (pa_cons (pv 2) (pa_cons (pv 3) pa_nil)))))) (pss_one (ps_ret (pe_lst (pa_cons (pe_cint T.int_FAILED) pa_nil)))) pss_nil)
    (pss_cons (ps_if (pt_cmpR op_eq (pe_ix ix_tup (pe_fld (pv 6) rfl) pe_int (fun _ _ => rfl)) (pe_cint T.int_GIVE_END) (nomark _)) (pss_one (ps_ret (pe_lst (pa_cons (pe_cint T.int_IS_OVER) (pa_cons (pe_ix ix_list (pv 2) (pe_ix ix_tup (pe_fld (pv 6) rfl) pe_int (fun _ _ => rfl)) (fun _ _ => rfl)) pa_nil))))) pss_nil)
    (pss_one (ps_set (i := 4) sc_run_blocks.nd rfl (by first | exact Or.inl rfl | exact Or.inr rfl) (pe_call F_run_end hr_run_end rfl T.glo_run_end D_run_end.kp b_run_end .nil pass0 (pa_cons (pv 0) (pa_cons (pe_fld (pv 6) rfl) (pa_cons (pv 2) pa_nil))))))))))
    (pss_one (ps_ret (pe_lst (pa_cons (pe_cint T.int_GOES_ON) pa_nil))))))
theorem ok_run_blocks (T : Tx K mg) {sp_run_end : Sp} (D_run_end : Df P w K mg base 2 (He.ga K "run_end") ["blocks", "end", "held"] sp_run_end) {sp_run_rows : Sp} (D_run_rows : Df P w K mg base 2 (He.ga K "run_rows") ["rows", "held", "said"] sp_run_rows) {sp : Sp} (len : ∀ vs H Q E, sp vs H Q E → vs.length = 4) (pure : ∀ vs H Q E, sp vs H Q E → t_run_blocks K sp_run_end sp_run_rows { nx := fun _ H' => Q .non H', rt := Q } (start N_run_blocks vs) H) : Df P w K mg base 3 (He.ga K "run_blocks") ["blocks", "n", "held", "said"] sp := by
  obtain ⟨fd, F⟩ := T.def_run_blocks
  exact df_of F sc_run_blocks (fun _ _ _ _ _ _ us hl => match us, hl with | [_, _, _, _], _ => rfl) len (fun hr => der_run_blocks T D_run_end D_run_rows hr) pure
/-! ### block_in_numbers (level 3; slots 0 block, 1 numbers, 2 row) -/
abbrev N_block_in_numbers : List Str := ["block", "numbers", "row"]
theorem sc_block_in_numbers : FnScope N_block_in_numbers ["block"] (defScope s_block_in_numbers) := ⟨rfl, rfl, rfl, by decide +kernel, rfl, by decide +kernel, by decide +kernel⟩
def t_block_in_numbers (K : PySem.W.Frag) (sp_counted : Sp) (sp_end_in_numbers : Sp) : TS := (tSeq (tAsg (tOp rCat (tCall sp_counted [] E0 (tCons (tFld K (tVar 0) "taken") tNil)) (tLst (tCons (tCB (Evl.rLenS K) (tCons (tFld K (tVar 0) "rows") tNil)) tNil))) (gName 1))
    (tSeq (tFor (iList K (tFld K (tVar 0) "rows")) (gName 2) (tDrop (tBM K "list" (rExtendT K) (tVar 1) (tCons (tVar 2) tNil))))
    (tRet (tOp rCat (tVar 1) (tCall sp_end_in_numbers [] E0 (tCons (tFld K (tVar 0) "end") tNil))))))
theorem der_block_in_numbers (T : Tx K mg) {sp_counted : Sp} (D_counted : Df P w K mg base 1 (He.ga K "counted") ["values"] sp_counted) {sp_end_in_numbers : Sp} (D_end_in_numbers : Df P w K mg base 2 (He.ga K "end_in_numbers") ["end"] sp_end_in_numbers) {cdv : Value} {A : Around} {outer : List Env} {s : Shared} {H : Hp} {E : XK} (hr : Room 2 (A.deeper (envOfC "block_in_numbers" (defScope s_block_in_numbers) s.heap.objs.size (He.ga K "block_in_numbers") cdv))) :
    PSs (cxOf CX0 P w K mg base N_block_in_numbers "block_in_numbers" (defScope s_block_in_numbers) (He.ga K "block_in_numbers") cdv A outer s H E).nox (defBody s_block_in_numbers) (t_block_in_numbers K sp_counted sp_end_in_numbers) := by
  have hr_counted : Room 1 _ := hr.mono (by decide)
  obtain ⟨fd_counted, F_counted, b_counted⟩ := D_counted.ex
  have hr_end_in_numbers : Room 2 _ := hr.mono (by decide)
  obtain ⟨fd_end_in_numbers, F_end_in_numbers, b_end_in_numbers⟩ := D_end_in_numbers.ex
  exact (pss_cons (ps_set (i := 1) sc_block_in_numbers.nd rfl (by first | exact Or.inl rfl | exact Or.inr rfl) (pe_op op_cat (pe_call F_counted hr_counted rfl T.glo_counted D_counted.kp b_counted .nil pass0 (pa_cons (pe_fld (pv 0) rfl) pa_nil)) (pe_lst (pa_cons (pe_callB call_len_seq (by rfl) T.free_len (by decide +kernel) (pa_cons (pe_fld (pv 0) rfl) pa_nil)) pa_nil))))
    (pss_cons (ps_for PassesOwn.never rfl (pi_list (pe_fld (pv 0) rfl)) (pg_name (i := 2) sc_block_in_numbers.nd rfl (by first | exact Or.inl rfl | exact Or.inr rfl)) (pss_one (ps_expr (pe_bm PySem.F.plainAttrs_list PySem.F.slot_list_extend PySem.F.type_list_extend mt_extendT (pv 1) (pa_cons (pv 2) pa_nil)))))
    (pss_one (ps_ret (pe_op op_cat (pv 1) (pe_call F_end_in_numbers hr_end_in_numbers rfl T.glo_end_in_numbers D_end_in_numbers.kp b_end_in_numbers .nil pass0 (pa_cons (pe_fld (pv 0) rfl) pa_nil)))))))
theorem ok_block_in_numbers (T : Tx K mg) {sp_counted : Sp} (D_counted : Df P w K mg base 1 (He.ga K "counted") ["values"] sp_counted) {sp_end_in_numbers : Sp} (D_end_in_numbers : Df P w K mg base 2 (He.ga K "end_in_numbers") ["end"] sp_end_in_numbers) {sp : Sp} (len : ∀ vs H Q E, sp vs H Q E → vs.length = 1) (pure : ∀ vs H Q E, sp vs H Q E → t_block_in_numbers K sp_counted sp_end_in_numbers { nx := fun _ H' => Q .non H', rt := Q } (start N_block_in_numbers vs) H) : Df P w K mg base 3 (He.ga K "block_in_numbers") ["block"] sp := by
  obtain ⟨fd, F⟩ := T.def_block_in_numbers
  exact df_of F sc_block_in_numbers (fun _ _ _ _ _ _ us hl => match us, hl with | [_], _ => rfl) len (fun hr => der_block_in_numbers T D_counted D_end_in_numbers hr) pure
/-! ### uses_are_given (level 4; slots 0 code, 1 number, 2 block, 3 given, 4 row) -/
abbrev N_uses_are_given : List Str := ["code", "number", "block", "given", "row"]
theorem sc_uses_are_given : FnScope N_uses_are_given ["code", "number"] (defScope s_uses_are_given) := ⟨rfl, rfl, rfl, by decide +kernel, rfl, by decide +kernel, by decide +kernel⟩
def t_uses_are_given (K : PySem.W.Frag) (sp_all_among : Sp) (sp_given_at_begin : Sp) (sp_given_by_row : Sp) (sp_used_by_end : Sp) (sp_used_by_row : Sp) : TS := (tSeq (tAsg (tOp (rIxL K) (tFld K (tVar 0) "blocks") (tVar 1)) (gName 2))
    (tSeq (tAsg (tCall sp_given_at_begin [] E0 (tCons (tVar 0) (tCons (tVar 1) tNil))) (gName 3))
    (tSeq (tFor (iList K (tFld K (tVar 2) "rows")) (gName 4) (tSeq (tIfS (tNot (tB (tCall sp_all_among [] E0 (tCons (tCall sp_used_by_row [] E0 (tCons (tVar 4) tNil)) (tCons (tVar 3) tNil))))) (tRet (tC (.bl false))) tNext)
    (tDrop (tBM K "list" rExtend (tVar 3) (tCons (tCall sp_given_by_row [] E0 (tCons (tVar 4) tNil)) tNil)))))
    (tRet (tCall sp_all_among [] E0 (tCons (tCall sp_used_by_end [] E0 (tCons (tFld K (tVar 2) "end") tNil)) (tCons (tVar 3) tNil)))))))
theorem der_uses_are_given (T : Tx K mg) {sp_all_among : Sp} (D_all_among : Df P w K mg base 1 (He.ga K "all_among") ["used", "given"] sp_all_among) {sp_given_at_begin : Sp} (D_given_at_begin : Df P w K mg base 3 (He.ga K "given_at_begin") ["code", "number"] sp_given_at_begin) {sp_given_by_row : Sp} (D_given_by_row : Df P w K mg base 1 (He.ga K "given_by_row") ["row"] sp_given_by_row) {sp_used_by_end : Sp} (D_used_by_end : Df P w K mg base 1 (He.ga K "used_by_end") ["end"] sp_used_by_end) {sp_used_by_row : Sp} (D_used_by_row : Df P w K mg base 1 (He.ga K "used_by_row") ["row"] sp_used_by_row) {cdv : Value} {A : Around} {outer : List Env} {s : Shared} {H : Hp} {E : XK} (hr : Room 3 (A.deeper (envOfC "uses_are_given" (defScope s_uses_are_given) s.heap.objs.size (He.ga K "uses_are_given") cdv))) :
    PSs (cxOf CX0 P w K mg base N_uses_are_given "uses_are_given" (defScope s_uses_are_given) (He.ga K "uses_are_given") cdv A outer s H E).nox (defBody s_uses_are_given) (t_uses_are_given K sp_all_among sp_given_at_begin sp_given_by_row sp_used_by_end sp_used_by_row) := by
  have hr_all_among : Room 1 _ := hr.mono (by decide)
  obtain ⟨fd_all_among, F_all_among, b_all_among⟩ := D_all_among.ex
  have hr_given_at_begin : Room 3 _ := hr.mono (by decide)
  obtain ⟨fd_given_at_begin, F_given_at_begin, b_given_at_begin⟩ := D_given_at_begin.ex
  have hr_given_by_row : Room 1 _ := hr.mono (by decide)
  obtain ⟨fd_given_by_row, F_given_by_row, b_given_by_row⟩ := D_given_by_row.ex
  have hr_used_by_end : Room 1 _ := hr.mono (by decide)
  obtain ⟨fd_used_by_end, F_used_by_end, b_used_by_end⟩ := D_used_by_end.ex
  have hr_used_by_row : Room 1 _ := hr.mono (by decide)
  obtain ⟨fd_used_by_row, F_used_by_row, b_used_by_row⟩ := D_used_by_row.ex
  exact (pss_cons (ps_set (i := 2) sc_uses_are_given.nd rfl (by first | exact Or.inl rfl | exact Or.inr rfl) (pe_ix ix_list (pe_fld (pv 0) rfl) (pv 1) (fun _ _ => rfl)))
    (pss_cons (ps_set (i := 3) sc_uses_are_given.nd rfl (by first | exact Or.inl rfl | exact Or.inr rfl) (pe_call F_given_at_begin hr_given_at_begin rfl T.glo_given_at_begin D_given_at_begin.kp b_given_at_begin .nil pass0 (pa_cons (pv 0) (pa_cons (pv 1) pa_nil))))
    (pss_cons (ps_for PassesOwn.never rfl (pi_list (pe_fld (pv 2) rfl)) (pg_name (i := 4) sc_uses_are_given.nd rfl (by first | exact Or.inl rfl | exact Or.inr rfl)) (pss_cons (ps_if (pt_not (pt_val (pe_call F_all_among hr_all_among rfl T.glo_all_among D_all_among.kp b_all_among .nil pass0 (pa_cons (pe_call F_used_by_row hr_used_by_row rfl T.glo_used_by_row D_used_by_row.kp b_used_by_row .nil pass0 (pa_cons (pv 4) pa_nil)) (pa_cons (pv 3) pa_nil))))) (pss_one (ps_ret pe_bl)) pss_nil)
    (pss_one (ps_expr (pe_bm PySem.F.plainAttrs_list PySem.F.slot_list_extend PySem.F.type_list_extend mt_extend (pv 3) (pa_cons (pe_call F_given_by_row hr_given_by_row rfl T.glo_given_by_row D_given_by_row.kp b_given_by_row .nil pass0 (pa_cons (pv 4) pa_nil)) pa_nil))))))
    (pss_one (ps_ret (pe_call F_all_among hr_all_among rfl T.glo_all_among D_all_among.kp b_all_among .nil pass0 (pa_cons (pe_call F_used_by_end hr_used_by_end rfl T.glo_used_by_end D_used_by_end.kp b_used_by_end .nil pass0 (pa_cons (pe_fld (pv 2) rfl) pa_nil)) (pa_cons (pv 3) pa_nil))))))))
theorem ok_uses_are_given (T : Tx K mg) {sp_all_among : Sp} (D_all_among : Df P w K mg base 1 (He.ga K "all_among") ["used", "given"] sp_all_among) {sp_given_at_begin : Sp} (D_given_at_begin : Df P w K mg base 3 (He.ga K "given_at_begin") ["code", "number"] sp_given_at_begin) {sp_given_by_row : Sp} (D_given_by_row : Df P w K mg base 1 (He.ga K "given_by_row") ["row"] sp_given_by_row) {sp_used_by_end : Sp} (D_used_by_end : Df P w K mg base 1 (He.ga K "used_by_end") ["end"] sp_used_by_end) {sp_used_by_row : Sp} (D_used_by_row : Df P w K mg base 1 (He.ga K "used_by_row") ["row"] sp_used_by_row) {sp : Sp} (len : ∀ vs H Q E, sp vs H Q E → vs.length = 2) (pure : ∀ vs H Q E, sp vs H Q E → t_uses_are_given K sp_all_among sp_given_at_begin sp_given_by_row sp_used_by_end sp_used_by_row { nx := fun _ H' => Q .non H', rt := Q } (start N_uses_are_given vs) H) : Df P w K mg base 4 (He.ga K "uses_are_given") ["code", "number"] sp := by
  obtain ⟨fd, F⟩ := T.def_uses_are_given
  exact df_of F sc_uses_are_given (fun _ _ _ _ _ _ us hl => match us, hl with | [_, _], _ => rfl) len (fun hr => der_uses_are_given T D_all_among D_given_at_begin D_given_by_row D_used_by_end D_used_by_row hr) pure
/-! ### come_in_to (level 4; slots 0 block, 1 coming, 2 value) -/
abbrev N_come_in_to : List Str := ["block", "coming", "value"]
theorem sc_come_in_to : FnScope N_come_in_to ["block", "coming"] (defScope s_come_in_to) := ⟨rfl, rfl, rfl, by decide +kernel, rfl, by decide +kernel, by decide +kernel⟩
def t_come_in_to (K : PySem.W.Frag) (sp_live_in_block : Sp) : TS := (tRet (tLc (iList K (tOp (rIxL K) (tCall sp_live_in_block [] E0 (tCons (tVar 0) (tCons (tVar 1) tNil))) (tC (.int 0)))) (gName 2) (tTest (tOp (rIn K true) (tVar 2) (tFld K (tVar 0) "taken"))) (tVar 2) [2]))
theorem der_come_in_to (T : Tx K mg) {sp_live_in_block : Sp} (D_live_in_block : Df P w K mg base 3 (He.ga K "live_in_block") ["block", "coming"] sp_live_in_block) {cdv : Value} {A : Around} {outer : List Env} {s : Shared} {H : Hp} {E : XK} (hr : Room 3 (A.deeper (envOfC "come_in_to" (defScope s_come_in_to) s.heap.objs.size (He.ga K "come_in_to") cdv))) :
    PSs (cxOf CX0 P w K mg base N_come_in_to "come_in_to" (defScope s_come_in_to) (He.ga K "come_in_to") cdv A outer s H E).nox (defBody s_come_in_to) (t_come_in_to K sp_live_in_block) := by
  have hr_live_in_block : Room 3 _ := hr.mono (by decide)
  obtain ⟨fd_live_in_block, F_live_in_block, b_live_in_block⟩ := D_live_in_block.ex
  exact (pss_one (ps_ret (pe_lc (own := [("value", 2)]) (g := (gName 2)) (tt := (tTest (tOp (rIn K true) (tVar 2) (tFld K (tVar 0) "taken")))) rfl sc_come_in_to.nd (pi_list (pe_ix ix_list (pe_call F_live_in_block hr_live_in_block rfl T.glo_live_in_block D_live_in_block.kp b_live_in_block .nil pass0 (pa_cons (pv 0) (pa_cons (pv 1) pa_nil))) pe_int (fun _ _ => rfl))) (blkOk_by (N := N_come_in_to) (sc := defScope s_come_in_to) (by decide +kernel)) (fun _ _ _ _ _ => (pg_name (i := 2) sc_come_in_to.nd rfl (by first | exact Or.inl rfl | exact Or.inr rfl))) (fun _ _ _ _ _ => (pts_one (pt_cmpR op_notIn_seq (pv 2) (pe_fld (pv 0) rfl) rfl))) (fun _ _ _ _ _ => (pv 2)))))
theorem ok_come_in_to (T : Tx K mg) {sp_live_in_block : Sp} (D_live_in_block : Df P w K mg base 3 (He.ga K "live_in_block") ["block", "coming"] sp_live_in_block) {sp : Sp} (len : ∀ vs H Q E, sp vs H Q E → vs.length = 2) (pure : ∀ vs H Q E, sp vs H Q E → t_come_in_to K sp_live_in_block { nx := fun _ H' => Q .non H', rt := Q } (start N_come_in_to vs) H) : Df P w K mg base 4 (He.ga K "come_in_to") ["block", "coming"] sp := by
  obtain ⟨fd, F⟩ := T.def_come_in_to
  exact df_of F sc_come_in_to (fun _ _ _ _ _ _ us hl => match us, hl with | [_, _], _ => rfl) len (fun hr => der_come_in_to T D_live_in_block hr) pure
/-! ### code_in_slots (level 4; slots 0 code, 1 slots, 2 placed, 3 block) -/
abbrev N_code_in_slots : List Str := ["code", "slots", "placed", "block"]
theorem sc_code_in_slots : FnScope N_code_in_slots ["code", "slots"] (defScope s_code_in_slots) := ⟨rfl, rfl, rfl, by decide +kernel, rfl, by decide +kernel, by decide +kernel⟩
def t_code_in_slots (K : PySem.W.Frag) (sp_Code_init : Sp) (sp_block_in_slots : Sp) : TS := (tSeq (tAsg (tMake (He.ga K "Code") sp_Code_init [] E0 tNil) (gName 2))
    (tSeq (sFld K (tVar 2) (tFld K (tVar 0) "words") "words")
    (tSeq (sFld K (tVar 2) (tLc (iList K (tFld K (tVar 0) "blocks")) (gName 3) tYes (tCall sp_block_in_slots [] E0 (tCons (tVar 3) (tCons (tVar 1) tNil))) [3]) "blocks")
    (tRet (tVar 2)))))
theorem der_code_in_slots (T : Tx K mg) {sp_Code_init : Sp} (D_Code_init : Df P w K mg base 1 (He.ma K (He.ga K "Code") "__init__") ["self"] sp_Code_init) {sp_block_in_slots : Sp} (D_block_in_slots : Df P w K mg base 3 (He.ga K "block_in_slots") ["block", "slots"] sp_block_in_slots) {cdv : Value} {A : Around} {outer : List Env} {s : Shared} {H : Hp} {E : XK} (hr : Room 3 (A.deeper (envOfC "code_in_slots" (defScope s_code_in_slots) s.heap.objs.size (He.ga K "code_in_slots") cdv))) :
    PSs (cxOf CX0 P w K mg base N_code_in_slots "code_in_slots" (defScope s_code_in_slots) (He.ga K "code_in_slots") cdv A outer s H E).nox (defBody s_code_in_slots) (t_code_in_slots K sp_Code_init sp_block_in_slots) := by
  have hr_Code_init : Room 2 _ := hr.mono (by decide)
  obtain ⟨fd_Code_init, F_Code_init, b_Code_init⟩ := D_Code_init.ex
  have hr_block_in_slots : Room 3 _ := hr.mono (by decide)
  obtain ⟨fd_block_in_slots, F_block_in_slots, b_block_in_slots⟩ := D_block_in_slots.ex
  exact (pss_cons (ps_set (i := 2) sc_code_in_slots.nd rfl (by first | exact Or.inl rfl | exact Or.inr rfl) (pe_make0 T.mkr_Code F_Code_init hr_Code_init rfl T.glo_Code b_Code_init .nil pass0))
    (pss_cons (ps_fld (pv 2) (pe_fld (pv 0) rfl) rfl)
    (pss_cons (ps_fld (pv 2) (pe_lc (own := [("block", 3)]) (g := (gName 3)) (tt := tYes) rfl sc_code_in_slots.nd (pi_list (pe_fld (pv 0) rfl)) (blkOk_by (N := N_code_in_slots) (sc := defScope s_code_in_slots) (by decide +kernel)) (fun _ _ _ _ _ => (pg_name (i := 3) sc_code_in_slots.nd rfl (by first | exact Or.inl rfl | exact Or.inr rfl))) (fun _ _ _ _ _ => pts_nil) (fun _ _ _ _ _ => (pe_call F_block_in_slots hr_block_in_slots rfl T.glo_block_in_slots D_block_in_slots.kp b_block_in_slots .nil pass0 (pa_cons (pv 3) (pa_cons (pv 1) pa_nil))))) rfl)
    (pss_one (ps_ret (pv 2))))))
theorem ok_code_in_slots (T : Tx K mg) {sp_Code_init : Sp} (D_Code_init : Df P w K mg base 1 (He.ma K (He.ga K "Code") "__init__") ["self"] sp_Code_init) {sp_block_in_slots : Sp} (D_block_in_slots : Df P w K mg base 3 (He.ga K "block_in_slots") ["block", "slots"] sp_block_in_slots) {sp : Sp} (len : ∀ vs H Q E, sp vs H Q E → vs.length = 2) (pure : ∀ vs H Q E, sp vs H Q E → t_code_in_slots K sp_Code_init sp_block_in_slots { nx := fun _ H' => Q .non H', rt := Q } (start N_code_in_slots vs) H) : Df P w K mg base 4 (He.ga K "code_in_slots") ["code", "slots"] sp := by
  obtain ⟨fd, F⟩ := T.def_code_in_slots
  exact df_of F sc_code_in_slots (fun _ _ _ _ _ _ us hl => match us, hl with | [_, _], _ => rfl) len (fun hr => der_code_in_slots T D_Code_init D_block_in_slots hr) pure
/-! ### run (level 4; slots 0 code, 1 n, 2 words, 3 held, 4 said, 5 stands) -/
abbrev N_run : List Str := ["code", "n", "words", "held", "said", "stands"]
theorem sc_run : FnScope N_run ["code", "n", "words"] (defScope s_run) := ⟨rfl, rfl, rfl, by decide +kernel, rfl, by decide +kernel, by decide +kernel⟩
def t_run (K : PySem.W.Frag) (sp_run_blocks : Sp) : TS := (tSeq (tAsg (tOp rCat (tVar 2) (tOp rRep (tLst (tCons (tC (.int 0)) tNil)) (tOp rSub (tOp rAdd (tC (.int (39))) (tC (.int 1))) (tCB (Evl.rLenS K) (tCons (tVar 2) tNil))))) (gName 3))
    (tSeq (tAsg (tLst tNil) (gName 4))
    (tSeq (tAsg (tCall sp_run_blocks [] E0 (tCons (tFld K (tVar 0) "blocks") (tCons (tVar 1) (tCons (tVar 3) (tCons (tVar 4) tNil))))) (gName 5))
    (tRet (tOp rCat (tOp rCat (tLst (tCons (tCB (Evl.rLenS K) (tCons (tVar 4) tNil)) tNil)) (tVar 4)) (tVar 5))))))
theorem der_run (T : Tx K mg) {sp_run_blocks : Sp} (D_run_blocks : Df P w K mg base 3 (He.ga K "run_blocks") ["blocks", "n", "held", "said"] sp_run_blocks) {cdv : Value} {A : Around} {outer : List Env} {s : Shared} {H : Hp} {E : XK} (hr : Room 3 (A.deeper (envOfC "run" (defScope s_run) s.heap.objs.size (He.ga K "run") cdv))) :
    PSs (cxOf CX0 P w K mg base N_run "run" (defScope s_run) (He.ga K "run") cdv A outer s H E).nox (defBody s_run) (t_run K sp_run_blocks) := by
  have hr_run_blocks : Room 3 _ := hr.mono (by decide)
  obtain ⟨fd_run_blocks, F_run_blocks, b_run_blocks⟩ := D_run_blocks.ex
  exact (pss_cons (ps_set (i := 3) sc_run.nd rfl (by first | exact Or.inl rfl | exact Or.inr rfl) (pe_op op_cat (pv 2) (pe_op op_rep (pe_lst (pa_cons pe_int pa_nil)) (pe_op op_sub (pe_op op_add (pe_cint T.int_LAST_VALUE) pe_int) (pe_callB call_len_seq (by rfl) T.free_len (by decide +kernel) (pa_cons (pv 2) pa_nil))))))
    (pss_cons (ps_set (i := 4) sc_run.nd rfl (by first | exact Or.inl rfl | exact Or.inr rfl) (pe_lst pa_nil))
    (pss_cons (ps_set (i := 5) sc_run.nd rfl (by first | exact Or.inl rfl | exact Or.inr rfl) (pe_call F_run_blocks hr_run_blocks rfl T.glo_run_blocks D_run_blocks.kp b_run_blocks .nil pass0 (pa_cons (pe_fld (pv 0) rfl) (pa_cons (pv 1) (pa_cons (pv 3) (pa_cons (pv 4) pa_nil))))))
    (pss_one (ps_ret (pe_op op_cat (pe_op op_cat (pe_lst (pa_cons (pe_callB call_len_seq (by rfl) T.free_len (by decide +kernel) (pa_cons (pv 4) pa_nil)) pa_nil)) (pv 4)) (pv 5)))))))
theorem ok_run (T : Tx K mg) {sp_run_blocks : Sp} (D_run_blocks : Df P w K mg base 3 (He.ga K "run_blocks") ["blocks", "n", "held", "said"] sp_run_blocks) {sp : Sp} (len : ∀ vs H Q E, sp vs H Q E → vs.length = 3) (pure : ∀ vs H Q E, sp vs H Q E → t_run K sp_run_blocks { nx := fun _ H' => Q .non H', rt := Q } (start N_run vs) H) : Df P w K mg base 4 (He.ga K "run") ["code", "n", "words"] sp := by
  obtain ⟨fd, F⟩ := T.def_run
  exact df_of F sc_run (fun _ _ _ _ _ _ us hl => match us, hl with | [_, _, _], _ => rfl) len (fun hr => der_run T D_run_blocks hr) pure
/-! ### code_in_numbers (level 4; slots 0 code, 1 numbers, 2 block) -/
abbrev N_code_in_numbers : List Str := ["code", "numbers", "block"]
theorem sc_code_in_numbers : FnScope N_code_in_numbers ["code"] (defScope s_code_in_numbers) := ⟨rfl, rfl, rfl, by decide +kernel, rfl, by decide +kernel, by decide +kernel⟩
def t_code_in_numbers (K : PySem.W.Frag) (sp_block_in_numbers : Sp) : TS := (tSeq (tAsg (tLst (tCons (tFld K (tVar 0) "words") (tCons (tCB (Evl.rLenS K) (tCons (tFld K (tVar 0) "blocks") tNil)) tNil))) (gName 1))
    (tSeq (tFor (iList K (tFld K (tVar 0) "blocks")) (gName 2) (tDrop (tBM K "list" rExtend (tVar 1) (tCons (tCall sp_block_in_numbers [] E0 (tCons (tVar 2) tNil)) tNil))))
    (tRet (tVar 1))))
theorem der_code_in_numbers (T : Tx K mg) {sp_block_in_numbers : Sp} (D_block_in_numbers : Df P w K mg base 3 (He.ga K "block_in_numbers") ["block"] sp_block_in_numbers) {cdv : Value} {A : Around} {outer : List Env} {s : Shared} {H : Hp} {E : XK} (hr : Room 3 (A.deeper (envOfC "code_in_numbers" (defScope s_code_in_numbers) s.heap.objs.size (He.ga K "code_in_numbers") cdv))) :
    PSs (cxOf CX0 P w K mg base N_code_in_numbers "code_in_numbers" (defScope s_code_in_numbers) (He.ga K "code_in_numbers") cdv A outer s H E).nox (defBody s_code_in_numbers) (t_code_in_numbers K sp_block_in_numbers) := by
  have hr_block_in_numbers : Room 3 _ := hr.mono (by decide)
  obtain ⟨fd_block_in_numbers, F_block_in_numbers, b_block_in_numbers⟩ := D_block_in_numbers.ex
  exact (pss_cons (ps_set (i := 1) sc_code_in_numbers.nd rfl (by first | exact Or.inl rfl | exact Or.inr rfl) (pe_lst (pa_cons (pe_fld (pv 0) rfl) (pa_cons (pe_callB call_len_seq (by rfl) T.free_len (by decide +kernel) (pa_cons (pe_fld (pv 0) rfl) pa_nil)) pa_nil))))
    (pss_cons (ps_for PassesOwn.never rfl (pi_list (pe_fld (pv 0) rfl)) (pg_name (i := 2) sc_code_in_numbers.nd rfl (by first | exact Or.inl rfl | exact Or.inr rfl)) (pss_one (ps_expr (pe_bm PySem.F.plainAttrs_list PySem.F.slot_list_extend PySem.F.type_list_extend mt_extend (pv 1) (pa_cons (pe_call F_block_in_numbers hr_block_in_numbers rfl T.glo_block_in_numbers D_block_in_numbers.kp b_block_in_numbers .nil pass0 (pa_cons (pv 2) pa_nil)) pa_nil)))))
    (pss_one (ps_ret (pv 1)))))
theorem ok_code_in_numbers (T : Tx K mg) {sp_block_in_numbers : Sp} (D_block_in_numbers : Df P w K mg base 3 (He.ga K "block_in_numbers") ["block"] sp_block_in_numbers) {sp : Sp} (len : ∀ vs H Q E, sp vs H Q E → vs.length = 1) (pure : ∀ vs H Q E, sp vs H Q E → t_code_in_numbers K sp_block_in_numbers { nx := fun _ H' => Q .non H', rt := Q } (start N_code_in_numbers vs) H) : Df P w K mg base 4 (He.ga K "code_in_numbers") ["code"] sp := by
  obtain ⟨fd, F⟩ := T.def_code_in_numbers
  exact df_of F sc_code_in_numbers (fun _ _ _ _ _ _ us hl => match us, hl with | [_], _ => rfl) len (fun hr => der_code_in_numbers T D_block_in_numbers hr) pure
/-! ### build (level 4; slots 0 code, 1 call, 2 numbers, 3 listed) -/
abbrev N_build : List Str := ["code", "call", "numbers", "listed"]
theorem sc_build : FnScope N_build ["code", "call", "numbers", "listed"] (defScope s_build) := ⟨rfl, rfl, rfl, by decide +kernel, rfl, by decide +kernel, by decide +kernel⟩
def t_build (K : PySem.W.Frag) (sp_Code_begin : Sp) (sp_Code_block : Sp) (sp_Code_fork : Sp) (sp_Code_give : Sp) (sp_Code_jump : Sp) (sp_Code_num : Sp) (sp_Code_say : Sp) (sp_Code_two : Sp) : TS := (tSeq (tIfS (tTest (tOp rEq (tVar 1) (tC (.int (0))))) (tRet (tMeth (He.ga K "Code") "begin" sp_Code_begin [] E0 (tVar 0) (tCons (tOp (rIxL K) (tVar 2) (tC (.int 0))) tNil))) tNext)
    (tSeq (tIfS (tTest (tOp rEq (tVar 1) (tC (.int (1))))) (tRet (tMeth (He.ga K "Code") "block" sp_Code_block [] E0 (tVar 0) (tCons (tVar 3) tNil))) tNext)
    (tSeq (tIfS (tTest (tOp rEq (tVar 1) (tC (.int (2))))) (tRet (tMeth (He.ga K "Code") "num" sp_Code_num [] E0 (tVar 0) (tCons (tOp (rIxL K) (tVar 2) (tC (.int 0))) (tCons (tOp (rIxL K) (tVar 2) (tC (.int 1))) tNil)))) tNext)
    (tSeq (tIfS (tTest (tOp rEq (tVar 1) (tC (.int (3))))) (tRet (tMeth (He.ga K "Code") "two" sp_Code_two [] E0 (tVar 0) (tCons (tOp (rIxL K) (tVar 2) (tC (.int 0))) (tCons (tOp (rIxL K) (tVar 2) (tC (.int 1))) (tCons (tOp (rIxL K) (tVar 2) (tC (.int 2))) (tCons (tOp (rIxL K) (tVar 2) (tC (.int 3))) tNil)))))) tNext)
    (tSeq (tIfS (tTest (tOp rEq (tVar 1) (tC (.int (4))))) (tRet (tMeth (He.ga K "Code") "say" sp_Code_say [] E0 (tVar 0) (tCons (tOp (rIxL K) (tVar 2) (tC (.int 0))) tNil))) tNext)
    (tSeq (tIfS (tTest (tOp rEq (tVar 1) (tC (.int (5))))) (tRet (tMeth (He.ga K "Code") "jump" sp_Code_jump [] E0 (tVar 0) (tCons (tOp (rIxL K) (tVar 2) (tC (.int 0))) (tCons (tVar 3) tNil)))) tNext)
    (tSeq (tIfS (tTest (tOp rEq (tVar 1) (tC (.int (6))))) (tRet (tMeth (He.ga K "Code") "fork" sp_Code_fork [] E0 (tVar 0) (tCons (tOp (rIxL K) (tVar 2) (tC (.int 0))) (tCons (tOp (rIxL K) (tVar 2) (tC (.int 1))) (tCons (tOp (rIxL K) (tVar 2) (tC (.int 2))) (tCons (tOp (rIxL K) (tVar 2) (tC (.int 3))) (tCons (tVar 3) tNil))))))) tNext)
    (tRet (tMeth (He.ga K "Code") "give" sp_Code_give [] E0 (tVar 0) (tCons (tOp (rIxL K) (tVar 2) (tC (.int 0))) tNil))))))))))
theorem der_build (T : Tx K mg) {sp_Code_begin : Sp} (D_Code_begin : Df P w K mg base 1 (He.ma K (He.ga K "Code") "begin") ["self", "k"] sp_Code_begin) {sp_Code_block : Sp} (D_Code_block : Df P w K mg base 3 (He.ma K (He.ga K "Code") "block") ["self", "taken"] sp_Code_block) {sp_Code_fork : Sp} (D_Code_fork : Df P w K mg base 3 (He.ma K (He.ga K "Code") "fork") ["self", "v", "t", "u", "n", "handed"] sp_Code_fork) {sp_Code_give : Sp} (D_Code_give : Df P w K mg base 3 (He.ma K (He.ga K "Code") "give") ["self", "v"] sp_Code_give) {sp_Code_jump : Sp} (D_Code_jump : Df P w K mg base 3 (He.ma K (He.ga K "Code") "jump") ["self", "t", "handed"] sp_Code_jump) {sp_Code_num : Sp} (D_Code_num : Df P w K mg base 3 (He.ma K (He.ga K "Code") "num") ["self", "x", "n"] sp_Code_num) {sp_Code_say : Sp} (D_Code_say : Df P w K mg base 3 (He.ma K (He.ga K "Code") "say") ["self", "a"] sp_Code_say) {sp_Code_two : Sp} (D_Code_two : Df P w K mg base 3 (He.ma K (He.ga K "Code") "two") ["self", "x", "o", "a", "b"] sp_Code_two) {cdv : Value} {A : Around} {outer : List Env} {s : Shared} {H : Hp} {E : XK} (hr : Room 3 (A.deeper (envOfC "build" (defScope s_build) s.heap.objs.size (He.ga K "build") cdv))) :
    PSs (cxOf CX0 P w K mg base N_build "build" (defScope s_build) (He.ga K "build") cdv A outer s H E).nox (defBody s_build) (t_build K sp_Code_begin sp_Code_block sp_Code_fork sp_Code_give sp_Code_jump sp_Code_num sp_Code_say sp_Code_two) := by
  have hr_Code_begin : Room 1 _ := hr.mono (by decide)
  obtain ⟨fd_Code_begin, F_Code_begin, b_Code_begin⟩ := D_Code_begin.ex
  have hr_Code_block : Room 3 _ := hr.mono (by decide)
  obtain ⟨fd_Code_block, F_Code_block, b_Code_block⟩ := D_Code_block.ex
  have hr_Code_fork : Room 3 _ := hr.mono (by decide)
  obtain ⟨fd_Code_fork, F_Code_fork, b_Code_fork⟩ := D_Code_fork.ex
  have hr_Code_give : Room 3 _ := hr.mono (by decide)
  obtain ⟨fd_Code_give, F_Code_give, b_Code_give⟩ := D_Code_give.ex
  have hr_Code_jump : Room 3 _ := hr.mono (by decide)
  obtain ⟨fd_Code_jump, F_Code_jump, b_Code_jump⟩ := D_Code_jump.ex
  have hr_Code_num : Room 3 _ := hr.mono (by decide)
  obtain ⟨fd_Code_num, F_Code_num, b_Code_num⟩ := D_Code_num.ex
  have hr_Code_say : Room 3 _ := hr.mono (by decide)
  obtain ⟨fd_Code_say, F_Code_say, b_Code_say⟩ := D_Code_say.ex
  have hr_Code_two : Room 3 _ := hr.mono (by decide)
  obtain ⟨fd_Code_two, F_Code_two, b_Code_two⟩ := D_Code_two.ex
  exact (pss_cons (ps_if (pt_cmpR op_eq (pv 1) (pe_cint T.int_CODE) (nomark _)) (pss_one (ps_ret (pe_meth (pv 0) T.cls_Code T.meth_Code_begin F_Code_begin hr_Code_begin b_Code_begin .nil pass0 (pa_cons (pe_ix ix_list (pv 2) pe_int (fun _ _ => rfl)) pa_nil)))) pss_nil)
    (pss_cons (ps_if (pt_cmpR op_eq (pv 1) (pe_cint T.int_BLOCK) (nomark _)) (pss_one (ps_ret (pe_meth (pv 0) T.cls_Code T.meth_Code_block F_Code_block hr_Code_block b_Code_block .nil pass0 (pa_cons (pv 3) pa_nil)))) pss_nil)
    (pss_cons (ps_if (pt_cmpR op_eq (pv 1) (pe_cint T.int_NUM) (nomark _)) (pss_one (ps_ret (pe_meth (pv 0) T.cls_Code T.meth_Code_num F_Code_num hr_Code_num b_Code_num .nil pass0 (pa_cons (pe_ix ix_list (pv 2) pe_int (fun _ _ => rfl)) (pa_cons (pe_ix ix_list (pv 2) pe_int (fun _ _ => rfl)) pa_nil))))) pss_nil)
    (pss_cons (ps_if (pt_cmpR op_eq (pv 1) (pe_cint T.int_TWO) (nomark _)) (pss_one (ps_ret (pe_meth (pv 0) T.cls_Code T.meth_Code_two F_Code_two hr_Code_two b_Code_two .nil pass0 (pa_cons (pe_ix ix_list (pv 2) pe_int (fun _ _ => rfl)) (pa_cons (pe_ix ix_list (pv 2) pe_int (fun _ _ => rfl)) (pa_cons (pe_ix ix_list (pv 2) pe_int (fun _ _ => rfl)) (pa_cons (pe_ix ix_list (pv 2) pe_int (fun _ _ => rfl)) pa_nil))))))) pss_nil)
    (pss_cons (ps_if (pt_cmpR op_eq (pv 1) (pe_cint T.int_SAY) (nomark _)) (pss_one (ps_ret (pe_meth (pv 0) T.cls_Code T.meth_Code_say F_Code_say hr_Code_say b_Code_say .nil pass0 (pa_cons (pe_ix ix_list (pv 2) pe_int (fun _ _ => rfl)) pa_nil)))) pss_nil)
    (pss_cons (ps_if (pt_cmpR op_eq (pv 1) (pe_cint T.int_JUMP) (nomark _)) (pss_one (ps_ret (pe_meth (pv 0) T.cls_Code T.meth_Code_jump F_Code_jump hr_Code_jump b_Code_jump .nil pass0 (pa_cons (pe_ix ix_list (pv 2) pe_int (fun _ _ => rfl)) (pa_cons (pv 3) pa_nil))))) pss_nil)
    (pss_cons (ps_if (pt_cmpR op_eq (pv 1) (pe_cint T.int_FORK) (nomark _)) (pss_one (ps_ret (pe_meth (pv 0) T.cls_Code T.meth_Code_fork F_Code_fork hr_Code_fork b_Code_fork .nil pass0 (pa_cons (pe_ix ix_list (pv 2) pe_int (fun _ _ => rfl)) (pa_cons (pe_ix ix_list (pv 2) pe_int (fun _ _ => rfl)) (pa_cons (pe_ix ix_list (pv 2) pe_int (fun _ _ => rfl)) (pa_cons (pe_ix ix_list (pv 2) pe_int (fun _ _ => rfl)) (pa_cons (pv 3) pa_nil)))))))) pss_nil)
    (pss_one (ps_ret (pe_meth (pv 0) T.cls_Code T.meth_Code_give F_Code_give hr_Code_give b_Code_give .nil pass0 (pa_cons (pe_ix ix_list (pv 2) pe_int (fun _ _ => rfl)) pa_nil)))))))))))
theorem ok_build (T : Tx K mg) {sp_Code_begin : Sp} (D_Code_begin : Df P w K mg base 1 (He.ma K (He.ga K "Code") "begin") ["self", "k"] sp_Code_begin) {sp_Code_block : Sp} (D_Code_block : Df P w K mg base 3 (He.ma K (He.ga K "Code") "block") ["self", "taken"] sp_Code_block) {sp_Code_fork : Sp} (D_Code_fork : Df P w K mg base 3 (He.ma K (He.ga K "Code") "fork") ["self", "v", "t", "u", "n", "handed"] sp_Code_fork) {sp_Code_give : Sp} (D_Code_give : Df P w K mg base 3 (He.ma K (He.ga K "Code") "give") ["self", "v"] sp_Code_give) {sp_Code_jump : Sp} (D_Code_jump : Df P w K mg base 3 (He.ma K (He.ga K "Code") "jump") ["self", "t", "handed"] sp_Code_jump) {sp_Code_num : Sp} (D_Code_num : Df P w K mg base 3 (He.ma K (He.ga K "Code") "num") ["self", "x", "n"] sp_Code_num) {sp_Code_say : Sp} (D_Code_say : Df P w K mg base 3 (He.ma K (He.ga K "Code") "say") ["self", "a"] sp_Code_say) {sp_Code_two : Sp} (D_Code_two : Df P w K mg base 3 (He.ma K (He.ga K "Code") "two") ["self", "x", "o", "a", "b"] sp_Code_two) {sp : Sp} (len : ∀ vs H Q E, sp vs H Q E → vs.length = 4) (pure : ∀ vs H Q E, sp vs H Q E → t_build K sp_Code_begin sp_Code_block sp_Code_fork sp_Code_give sp_Code_jump sp_Code_num sp_Code_say sp_Code_two { nx := fun _ H' => Q .non H', rt := Q } (start N_build vs) H) : Df P w K mg base 4 (He.ga K "build") ["code", "call", "numbers", "listed"] sp := by
  obtain ⟨fd, F⟩ := T.def_build
  exact df_of F sc_build (fun _ _ _ _ _ _ us hl => match us, hl with | [_, _, _, _], _ => rfl) len (fun hr => der_build T D_Code_begin D_Code_block D_Code_fork D_Code_give D_Code_jump D_Code_num D_Code_say D_Code_two hr) pure
/-! ### is_fair (level 5; slots 0 code, 1 given, 2 number) -/
abbrev N_is_fair : List Str := ["code", "given", "number"]
theorem sc_is_fair : FnScope N_is_fair ["code"] (defScope s_is_fair) := ⟨rfl, rfl, rfl, by decide +kernel, rfl, by decide +kernel, by decide +kernel⟩
def t_is_fair (K : PySem.W.Frag) (sp_given_in_code : Sp) (sp_reached : Sp) (sp_uses_are_given : Sp) : TS := (tSeq (tAsg (tCall sp_given_in_code [] E0 (tCons (tVar 0) tNil)) (gName 1))
    (tSeq (tIfS (tTest (tOp rNe (tLenSetZ K (tVar 1)) (tCB (Evl.rLenS K) (tCons (tVar 1) tNil)))) (tRet (tC (.bl false))) tNext)
    (tSeq (tIfS (tTest (tOp rNe (tCB (Evl.rLenS K) (tCons (tCall sp_reached [] E0 (tCons (tVar 0) (tCons (tC .non) tNil))) tNil)) (tCB (Evl.rLenS K) (tCons (tFld K (tVar 0) "blocks") tNil)))) (tRet (tC (.bl false))) tNext)
    (tRet (tCB (rAll K) (tCons (tLc (iRng1 (tCons (tCB (Evl.rLenS K) (tCons (tFld K (tVar 0) "blocks") tNil)) tNil)) (gName 2) tYes (tCall sp_uses_are_given [] E0 (tCons (tVar 0) (tCons (tVar 2) tNil))) [2]) tNil))))))
theorem der_is_fair (T : Tx K mg) {sp_given_in_code : Sp} (D_given_in_code : Df P w K mg base 3 (He.ga K "given_in_code") ["code"] sp_given_in_code) {sp_reached : Sp} (D_reached : Df P w K mg base 2 (He.ga K "reached") ["code", "left_out"] sp_reached) {sp_uses_are_given : Sp} (D_uses_are_given : Df P w K mg base 4 (He.ga K "uses_are_given") ["code", "number"] sp_uses_are_given) {cdv : Value} {A : Around} {outer : List Env} {s : Shared} {H : Hp} {E : XK} (hr : Room 4 (A.deeper (envOfC "is_fair" (defScope s_is_fair) s.heap.objs.size (He.ga K "is_fair") cdv))) :
    PSs (cxOf CX0 P w K mg base N_is_fair "is_fair" (defScope s_is_fair) (He.ga K "is_fair") cdv A outer s H E).nox (defBody s_is_fair) (t_is_fair K sp_given_in_code sp_reached sp_uses_are_given) := by
  have hr_given_in_code : Room 3 _ := hr.mono (by decide)
  obtain ⟨fd_given_in_code, F_given_in_code, b_given_in_code⟩ := D_given_in_code.ex
  have hr_reached : Room 2 _ := hr.mono (by decide)
  obtain ⟨fd_reached, F_reached, b_reached⟩ := D_reached.ex
  have hr_uses_are_given : Room 4 _ := hr.mono (by decide)
  obtain ⟨fd_uses_are_given, F_uses_are_given, b_uses_are_given⟩ := D_uses_are_given.ex
  exact (pss_cons (ps_set (i := 1) sc_is_fair.nd rfl (by first | exact Or.inl rfl | exact Or.inr rfl) (pe_call F_given_in_code hr_given_in_code rfl T.glo_given_in_code D_given_in_code.kp b_given_in_code .nil pass0 (pa_cons (pv 0) pa_nil)))
    (pss_cons (ps_if (pt_cmpR op_ne (pe_lenSetZ rfl (by rfl) T.free_len (by rfl) T.free_set (pv 1)) (pe_callB call_len_seq (by rfl) T.free_len (by decide +kernel) (pa_cons (pv 1) pa_nil)) (nomark _)) (pss_one (ps_ret pe_bl)) pss_nil)
    (pss_cons (ps_if (pt_cmpR op_ne (pe_callB call_len_seq (by rfl) T.free_len (by decide +kernel) (pa_cons (pe_call F_reached hr_reached rfl T.glo_reached D_reached.kp b_reached .nil pass0 (pa_cons (pv 0) (pa_cons pe_non pa_nil))) pa_nil)) (pe_callB call_len_seq (by rfl) T.free_len (by decide +kernel) (pa_cons (pe_fld (pv 0) rfl) pa_nil)) (nomark _)) (pss_one (ps_ret pe_bl)) pss_nil)
    (pss_one (ps_ret (pe_callB (cr_all rfl) (by rfl) T.free_all (by decide +kernel) (pa_cons (pe_lc (own := [("number", 2)]) (g := (gName 2)) (tt := tYes) rfl sc_is_fair.nd (pi_range1 (by rfl) T.free_range (pa_cons (pe_callB call_len_seq (by rfl) T.free_len (by decide +kernel) (pa_cons (pe_fld (pv 0) rfl) pa_nil)) pa_nil)) (blkOk_by (N := N_is_fair) (sc := defScope s_is_fair) (by decide +kernel)) (fun _ _ _ _ _ => (pg_name (i := 2) sc_is_fair.nd rfl (by first | exact Or.inl rfl | exact Or.inr rfl))) (fun _ _ _ _ _ => pts_nil) (fun _ _ _ _ _ => (pe_call F_uses_are_given hr_uses_are_given rfl T.glo_uses_are_given D_uses_are_given.kp b_uses_are_given .nil pass0 (pa_cons (pv 0) (pa_cons (pv 2) pa_nil))))) pa_nil)))))))
theorem ok_is_fair (T : Tx K mg) {sp_given_in_code : Sp} (D_given_in_code : Df P w K mg base 3 (He.ga K "given_in_code") ["code"] sp_given_in_code) {sp_reached : Sp} (D_reached : Df P w K mg base 2 (He.ga K "reached") ["code", "left_out"] sp_reached) {sp_uses_are_given : Sp} (D_uses_are_given : Df P w K mg base 4 (He.ga K "uses_are_given") ["code", "number"] sp_uses_are_given) {sp : Sp} (len : ∀ vs H Q E, sp vs H Q E → vs.length = 1) (pure : ∀ vs H Q E, sp vs H Q E → t_is_fair K sp_given_in_code sp_reached sp_uses_are_given { nx := fun _ H' => Q .non H', rt := Q } (start N_is_fair vs) H) : Df P w K mg base 5 (He.ga K "is_fair") ["code"] sp := by
  obtain ⟨fd, F⟩ := T.def_is_fair
  exact df_of F sc_is_fair (fun _ _ _ _ _ _ us hl => match us, hl with | [_], _ => rfl) len (fun hr => der_is_fair T D_given_in_code D_reached D_uses_are_given hr) pure
/-! ### coming_in (level 5; slots 0 code, 1 before, 2 coming, 3 block) -/
abbrev N_coming_in : List Str := ["code", "before", "coming", "block"]
theorem sc_coming_in : FnScope N_coming_in ["code"] (defScope s_coming_in) := ⟨rfl, rfl, rfl, by decide +kernel, rfl, by decide +kernel, by decide +kernel⟩
def t_coming_in (K : PySem.W.Frag) (sp_come_in_to : Sp) : TS := (tSeq (tAsg (tLst tNil) (gName 1))
    (tSeq (tAsg (tLc (iList K (tFld K (tVar 0) "blocks")) (gName 3) tYes (tLst tNil) [3]) (gName 2))
    (tSeq (tWhile (tTest (tOp (rNeD K) (tVar 2) (tVar 1))) (tSeq (tAsg (tVar 2) (gName 1))
    (tAsg (tLc (iList K (tFld K (tVar 0) "blocks")) (gName 3) tYes (tCall sp_come_in_to [] E0 (tCons (tVar 3) (tCons (tVar 1) tNil))) [3]) (gName 2))))
    (tRet (tVar 2)))))
theorem der_coming_in (T : Tx K mg) {sp_come_in_to : Sp} (D_come_in_to : Df P w K mg base 4 (He.ga K "come_in_to") ["block", "coming"] sp_come_in_to) {cdv : Value} {A : Around} {outer : List Env} {s : Shared} {H : Hp} {E : XK} (hr : Room 4 (A.deeper (envOfC "coming_in" (defScope s_coming_in) s.heap.objs.size (He.ga K "coming_in") cdv))) :
    PSs (cxOf CX0 P w K mg base N_coming_in "coming_in" (defScope s_coming_in) (He.ga K "coming_in") cdv A outer s H E).nox (defBody s_coming_in) (t_coming_in K sp_come_in_to) := by
  have hr_come_in_to : Room 4 _ := hr.mono (by decide)
  obtain ⟨fd_come_in_to, F_come_in_to, b_come_in_to⟩ := D_come_in_to.ex
  exact (pss_cons (ps_set (i := 1) sc_coming_in.nd rfl (by first | exact Or.inl rfl | exact Or.inr rfl) (pe_lst pa_nil))
    (pss_cons (ps_setLc (i := 2) (own := [("block", 3)]) (g := (gName 3)) (tt := tYes) rfl sc_coming_in.nd rfl rfl (sw_true rfl rfl rfl (by decide +kernel)) (pi_list (pe_fld (pv 0) rfl)) (blkOk_by (N := N_coming_in) (sc := defScope s_coming_in) (by decide +kernel)) (fun _ _ _ _ _ => (pg_name (i := 3) sc_coming_in.nd rfl (by first | exact Or.inl rfl | exact Or.inr rfl))) (fun _ _ _ _ _ => pts_nil) (fun _ _ _ _ _ => (pe_lst pa_nil)))
    (pss_cons (ps_while PassesOwn.never (pt_cmpR (op_neD hr.units) (pv 2) (pv 1) (nomark _)) (pss_cons (ps_set (i := 1) sc_coming_in.nd rfl (by first | exact Or.inl rfl | exact Or.inr rfl) (pv 2))
    (pss_one (ps_setLc (i := 2) (own := [("block", 3)]) (g := (gName 3)) (tt := tYes) rfl sc_coming_in.nd rfl rfl (sw_true rfl rfl rfl (by decide +kernel)) (pi_list (pe_fld (pv 0) rfl)) (blkOk_by (N := N_coming_in) (sc := defScope s_coming_in) (by decide +kernel)) (fun _ _ _ _ _ => (pg_name (i := 3) sc_coming_in.nd rfl (by first | exact Or.inl rfl | exact Or.inr rfl))) (fun _ _ _ _ _ => pts_nil) (fun _ _ _ _ _ => (pe_call F_come_in_to hr_come_in_to rfl T.glo_come_in_to D_come_in_to.kp b_come_in_to .nil pass0 (pa_cons (pv 3) (pa_cons (pv 1) pa_nil))))))))
    (pss_one (ps_ret (pv 2))))))
theorem ok_coming_in (T : Tx K mg) {sp_come_in_to : Sp} (D_come_in_to : Df P w K mg base 4 (He.ga K "come_in_to") ["block", "coming"] sp_come_in_to) {sp : Sp} (len : ∀ vs H Q E, sp vs H Q E → vs.length = 1) (pure : ∀ vs H Q E, sp vs H Q E → t_coming_in K sp_come_in_to { nx := fun _ H' => Q .non H', rt := Q } (start N_coming_in vs) H) : Df P w K mg base 5 (He.ga K "coming_in") ["code"] sp := by
  obtain ⟨fd, F⟩ := T.def_coming_in
  exact df_of F sc_coming_in (fun _ _ _ _ _ _ us hl => match us, hl with | [_], _ => rfl) len (fun hr => der_coming_in T D_come_in_to hr) pure
/-! ### ask_run (level 5; slots 0 code, 1 n, 2 words) -/
abbrev N_ask_run : List Str := ["code", "n", "words"]
theorem sc_ask_run : FnScope N_ask_run ["code", "n", "words"] (defScope s_ask_run) := ⟨rfl, rfl, rfl, by decide +kernel, rfl, by decide +kernel, by decide +kernel⟩
def t_ask_run (K : PySem.W.Frag) (sp_run : Sp) : TS := (tSeq (tIfS (tTest (tOp rGt (tVar 1) (tC (.int (500))))) (tRet (tLst (tCons (tC (.int (-1))) tNil))) tNext)
    (tSeq (tIfS (tTest (tOp rNe (tCB (Evl.rLenS K) (tCons (tVar 2) tNil)) (tFld K (tVar 0) "words"))) (tRet (tLst (tCons (tC (.int (-5))) tNil))) tNext)
    (tRet (tCall sp_run [] E0 (tCons (tVar 0) (tCons (tVar 1) (tCons (tVar 2) tNil)))))))
theorem der_ask_run (T : Tx K mg) {sp_run : Sp} (D_run : Df P w K mg base 4 (He.ga K "run") ["code", "n", "words"] sp_run) {cdv : Value} {A : Around} {outer : List Env} {s : Shared} {H : Hp} {E : XK} (hr : Room 4 (A.deeper (envOfC "ask_run" (defScope s_ask_run) s.heap.objs.size (He.ga K "ask_run") cdv))) :
    PSs (cxOf CX0 P w K mg base N_ask_run "ask_run" (defScope s_ask_run) (He.ga K "ask_run") cdv A outer s H E).nox (defBody s_ask_run) (t_ask_run K sp_run) := by
  have hr_run : Room 4 _ := hr.mono (by decide)
  obtain ⟨fd_run, F_run, b_run⟩ := D_run.ex
  exact (pss_cons (ps_if (pt_cmpR op_gt (pv 1) (pe_cint T.int_MOST_RUN_BLOCKS) (nomark _)) (pss_one (ps_ret (pe_lst (pa_cons (pe_cint T.int_BAD_COUNT) pa_nil)))) pss_nil)
    (pss_cons (ps_if (pt_cmpR op_ne (pe_callB call_len_seq (by rfl) T.free_len (by decide +kernel) (pa_cons (pv 2) pa_nil)) (pe_fld (pv 0) rfl) (nomark _)) (pss_one (ps_ret (pe_lst (pa_cons (pe_cint T.int_WRONG_WORDS) pa_nil)))) pss_nil)
    (pss_one (ps_ret (pe_call F_run hr_run rfl T.glo_run D_run.kp b_run .nil pass0 (pa_cons (pv 0) (pa_cons (pv 1) (pa_cons (pv 2) pa_nil))))))))
theorem ok_ask_run (T : Tx K mg) {sp_run : Sp} (D_run : Df P w K mg base 4 (He.ga K "run") ["code", "n", "words"] sp_run) {sp : Sp} (len : ∀ vs H Q E, sp vs H Q E → vs.length = 3) (pure : ∀ vs H Q E, sp vs H Q E → t_ask_run K sp_run { nx := fun _ H' => Q .non H', rt := Q } (start N_ask_run vs) H) : Df P w K mg base 5 (He.ga K "ask_run") ["code", "n", "words"] sp := by
  obtain ⟨fd, F⟩ := T.def_ask_run
  exact df_of F sc_ask_run (fun _ _ _ _ _ _ us hl => match us, hl with | [_, _, _], _ => rfl) len (fun hr => der_ask_run T D_run hr) pure
/-! ### live_in_code (level 6; slots 0 code, 1 coming, 2 block) -/
abbrev N_live_in_code : List Str := ["code", "coming", "block"]
theorem sc_live_in_code : FnScope N_live_in_code ["code"] (defScope s_live_in_code) := ⟨rfl, rfl, rfl, by decide +kernel, rfl, by decide +kernel, by decide +kernel⟩
def t_live_in_code (K : PySem.W.Frag) (sp_coming_in : Sp) (sp_live_in_block : Sp) : TS := (tSeq (tAsg (tCall sp_coming_in [] E0 (tCons (tVar 0) tNil)) (gName 1))
    (tRet (tLc (iList K (tFld K (tVar 0) "blocks")) (gName 2) tYes (tCall sp_live_in_block [] E0 (tCons (tVar 2) (tCons (tVar 1) tNil))) [2])))
theorem der_live_in_code (T : Tx K mg) {sp_coming_in : Sp} (D_coming_in : Df P w K mg base 5 (He.ga K "coming_in") ["code"] sp_coming_in) {sp_live_in_block : Sp} (D_live_in_block : Df P w K mg base 3 (He.ga K "live_in_block") ["block", "coming"] sp_live_in_block) {cdv : Value} {A : Around} {outer : List Env} {s : Shared} {H : Hp} {E : XK} (hr : Room 5 (A.deeper (envOfC "live_in_code" (defScope s_live_in_code) s.heap.objs.size (He.ga K "live_in_code") cdv))) :
    PSs (cxOf CX0 P w K mg base N_live_in_code "live_in_code" (defScope s_live_in_code) (He.ga K "live_in_code") cdv A outer s H E).nox (defBody s_live_in_code) (t_live_in_code K sp_coming_in sp_live_in_block) := by
  have hr_coming_in : Room 5 _ := hr.mono (by decide)
  obtain ⟨fd_coming_in, F_coming_in, b_coming_in⟩ := D_coming_in.ex
  have hr_live_in_block : Room 3 _ := hr.mono (by decide)
  obtain ⟨fd_live_in_block, F_live_in_block, b_live_in_block⟩ := D_live_in_block.ex
  exact (pss_cons (ps_set (i := 1) sc_live_in_code.nd rfl (by first | exact Or.inl rfl | exact Or.inr rfl) (pe_call F_coming_in hr_coming_in rfl T.glo_coming_in D_coming_in.kp b_coming_in .nil pass0 (pa_cons (pv 0) pa_nil)))
    (pss_one (ps_ret (pe_lc (own := [("block", 2)]) (g := (gName 2)) (tt := tYes) rfl sc_live_in_code.nd (pi_list (pe_fld (pv 0) rfl)) (blkOk_by (N := N_live_in_code) (sc := defScope s_live_in_code) (by decide +kernel)) (fun _ _ _ _ _ => (pg_name (i := 2) sc_live_in_code.nd rfl (by first | exact Or.inl rfl | exact Or.inr rfl))) (fun _ _ _ _ _ => pts_nil) (fun _ _ _ _ _ => (pe_call F_live_in_block hr_live_in_block rfl T.glo_live_in_block D_live_in_block.kp b_live_in_block .nil pass0 (pa_cons (pv 2) (pa_cons (pv 1) pa_nil))))))))
theorem ok_live_in_code (T : Tx K mg) {sp_coming_in : Sp} (D_coming_in : Df P w K mg base 5 (He.ga K "coming_in") ["code"] sp_coming_in) {sp_live_in_block : Sp} (D_live_in_block : Df P w K mg base 3 (He.ga K "live_in_block") ["block", "coming"] sp_live_in_block) {sp : Sp} (len : ∀ vs H Q E, sp vs H Q E → vs.length = 1) (pure : ∀ vs H Q E, sp vs H Q E → t_live_in_code K sp_coming_in sp_live_in_block { nx := fun _ H' => Q .non H', rt := Q } (start N_live_in_code vs) H) : Df P w K mg base 6 (He.ga K "live_in_code") ["code"] sp := by
  obtain ⟨fd, F⟩ := T.def_live_in_code
  exact df_of F sc_live_in_code (fun _ _ _ _ _ _ us hl => match us, hl with | [_], _ => rfl) len (fun hr => der_live_in_code T D_coming_in D_live_in_block hr) pure
/-! ### refusal_of_all (level 6; slots 0 code) -/
abbrev N_refusal_of_all : List Str := ["code"]
theorem sc_refusal_of_all : FnScope N_refusal_of_all ["code"] (defScope s_refusal_of_all) := ⟨rfl, rfl, rfl, by decide +kernel, rfl, by decide +kernel, by decide +kernel⟩
def t_refusal_of_all (K : PySem.W.Frag) (sp_is_fair : Sp) (sp_is_whole : Sp) : TS := (tSeq (tIfS (tNot (tB (tCall sp_is_whole [] E0 (tCons (tVar 0) tNil)))) (tRet (tC (.int (-6)))) tNext)
    (tSeq (tIfS (tNot (tB (tCall sp_is_fair [] E0 (tCons (tVar 0) tNil)))) (tRet (tC (.int (-7)))) tNext)
    (tRet (tC (.int 0)))))
theorem der_refusal_of_all (T : Tx K mg) {sp_is_fair : Sp} (D_is_fair : Df P w K mg base 5 (He.ga K "is_fair") ["code"] sp_is_fair) {sp_is_whole : Sp} (D_is_whole : Df P w K mg base 3 (He.ga K "is_whole") ["code"] sp_is_whole) {cdv : Value} {A : Around} {outer : List Env} {s : Shared} {H : Hp} {E : XK} (hr : Room 5 (A.deeper (envOfC "refusal_of_all" (defScope s_refusal_of_all) s.heap.objs.size (He.ga K "refusal_of_all") cdv))) :
    PSs (cxOf CX0 P w K mg base N_refusal_of_all "refusal_of_all" (defScope s_refusal_of_all) (He.ga K "refusal_of_all") cdv A outer s H E).nox (defBody s_refusal_of_all) (t_refusal_of_all K sp_is_fair sp_is_whole) := by
  have hr_is_fair : Room 5 _ := hr.mono (by decide)
  obtain ⟨fd_is_fair, F_is_fair, b_is_fair⟩ := D_is_fair.ex
  have hr_is_whole : Room 3 _ := hr.mono (by decide)
  obtain ⟨fd_is_whole, F_is_whole, b_is_whole⟩ := D_is_whole.ex
  exact (pss_cons (ps_if (pt_not (pt_val (pe_call F_is_whole hr_is_whole rfl T.glo_is_whole D_is_whole.kp b_is_whole .nil pass0 (pa_cons (pv 0) pa_nil)))) (pss_one (ps_ret (pe_cint T.int_NOT_WHOLE))) pss_nil)
    (pss_cons (ps_if (pt_not (pt_val (pe_call F_is_fair hr_is_fair rfl T.glo_is_fair D_is_fair.kp b_is_fair .nil pass0 (pa_cons (pv 0) pa_nil)))) (pss_one (ps_ret (pe_cint T.int_NOT_FAIR))) pss_nil)
    (pss_one (ps_ret pe_int))))
theorem ok_refusal_of_all (T : Tx K mg) {sp_is_fair : Sp} (D_is_fair : Df P w K mg base 5 (He.ga K "is_fair") ["code"] sp_is_fair) {sp_is_whole : Sp} (D_is_whole : Df P w K mg base 3 (He.ga K "is_whole") ["code"] sp_is_whole) {sp : Sp} (len : ∀ vs H Q E, sp vs H Q E → vs.length = 1) (pure : ∀ vs H Q E, sp vs H Q E → t_refusal_of_all K sp_is_fair sp_is_whole { nx := fun _ H' => Q .non H', rt := Q } (start N_refusal_of_all vs) H) : Df P w K mg base 6 (He.ga K "refusal_of_all") ["code"] sp := by
  obtain ⟨fd, F⟩ := T.def_refusal_of_all
  exact df_of F sc_refusal_of_all (fun _ _ _ _ _ _ us hl => match us, hl with | [_], _ => rfl) len (fun hr => der_refusal_of_all T D_is_fair D_is_whole hr) pure
/-! ### there_in_code (level 7; slots 0 code, 1 points, 2 block, 3 places) -/
abbrev N_there_in_code : List Str := ["code", "points", "block", "places"]
theorem sc_there_in_code : FnScope N_there_in_code ["code"] (defScope s_there_in_code) := ⟨rfl, rfl, rfl, by decide +kernel, rfl, by decide +kernel, by decide +kernel⟩
def t_there_in_code (K : PySem.W.Frag) (sp_live_in_code : Sp) (sp_there_in_block : Sp) : TS := (tSeq (tAsg (tLc (iZip K (tCons (tFld K (tVar 0) "blocks") (tCons (tCall sp_live_in_code [] E0 (tCons (tVar 0) tNil)) tNil))) (gTup K 2 (gCons (gName 2) (gCons (gName 3) gNil))) tYes (tCall sp_there_in_block [] E0 (tCons (tVar 2) (tCons (tVar 3) tNil))) [2, 3]) (gName 1))
    (tSeq (tAsg (tSortSetZ K (tOp rCat (tOp (rIxL K) (tOp (rIxL K) (tVar 1) (tC (.int 0))) (tC (.int 0))) (tLstRg (tRg1 (tFld K (tVar 0) "words"))))) (gSub (tOp (rIxL K) (tVar 1) (tC (.int 0))) (tC (.int 0)) rSetL))
    (tRet (tVar 1))))
theorem der_there_in_code (T : Tx K mg) {sp_live_in_code : Sp} (D_live_in_code : Df P w K mg base 6 (He.ga K "live_in_code") ["code"] sp_live_in_code) {sp_there_in_block : Sp} (D_there_in_block : Df P w K mg base 2 (He.ga K "there_in_block") ["block", "places"] sp_there_in_block) {cdv : Value} {A : Around} {outer : List Env} {s : Shared} {H : Hp} {E : XK} (hr : Room 6 (A.deeper (envOfC "there_in_code" (defScope s_there_in_code) s.heap.objs.size (He.ga K "there_in_code") cdv))) :
    PSs (cxOf CX0 P w K mg base N_there_in_code "there_in_code" (defScope s_there_in_code) (He.ga K "there_in_code") cdv A outer s H E).nox (defBody s_there_in_code) (t_there_in_code K sp_live_in_code sp_there_in_block) := by
  have hr_live_in_code : Room 6 _ := hr.mono (by decide)
  obtain ⟨fd_live_in_code, F_live_in_code, b_live_in_code⟩ := D_live_in_code.ex
  have hr_there_in_block : Room 2 _ := hr.mono (by decide)
  obtain ⟨fd_there_in_block, F_there_in_block, b_there_in_block⟩ := D_there_in_block.ex
  exact (pss_cons (ps_setLc (i := 1) (own := [("block", 2), ("places", 3)]) (g := (gTup K 2 (gCons (gName 2) (gCons (gName 3) gNil)))) (tt := tYes) rfl sc_there_in_code.nd rfl rfl (sw_true rfl rfl rfl (by decide +kernel)) (pi_zip (by rfl) T.free_zip (pa_cons (pe_fld (pv 0) rfl) (pa_cons (pe_call F_live_in_code hr_live_in_code rfl T.glo_live_in_code D_live_in_code.kp b_live_in_code .nil pass0 (pa_cons (pv 0) pa_nil)) pa_nil))) (blkOk_by (N := N_there_in_code) (sc := defScope s_there_in_code) (by decide +kernel)) (fun _ _ _ _ _ => (pg_tup rfl (pgs_cons (pg_name (i := 2) sc_there_in_code.nd rfl (by first | exact Or.inl rfl | exact Or.inr rfl)) (pgs_cons (pg_name (i := 3) sc_there_in_code.nd rfl (by first | exact Or.inl rfl | exact Or.inr rfl)) pgs_nil)))) (fun _ _ _ _ _ => pts_nil) (fun _ _ _ _ _ => (pe_call F_there_in_block hr_there_in_block rfl T.glo_there_in_block D_there_in_block.kp b_there_in_block .nil pass0 (pa_cons (pv 2) (pa_cons (pv 3) pa_nil)))))
    (pss_cons (ps_asg (pe_sortSetZ rfl (by rfl) T.free_sorted (by rfl) T.free_set (pe_op op_cat (pe_ix ix_list (pe_ix ix_list (pv 1) pe_int (fun _ _ => rfl)) pe_int (fun _ _ => rfl)) (pe_listRg rfl (by rfl) T.free_list (prg_1 (by rfl) T.free_range (pe_fld (pv 0) rfl))))) (pg_sub (pe_ix ix_list (pv 1) pe_int (fun _ _ => rfl)) pe_int set_list))
    (pss_one (ps_ret (pv 1)))))
theorem ok_there_in_code (T : Tx K mg) {sp_live_in_code : Sp} (D_live_in_code : Df P w K mg base 6 (He.ga K "live_in_code") ["code"] sp_live_in_code) {sp_there_in_block : Sp} (D_there_in_block : Df P w K mg base 2 (He.ga K "there_in_block") ["block", "places"] sp_there_in_block) {sp : Sp} (len : ∀ vs H Q E, sp vs H Q E → vs.length = 1) (pure : ∀ vs H Q E, sp vs H Q E → t_there_in_code K sp_live_in_code sp_there_in_block { nx := fun _ H' => Q .non H', rt := Q } (start N_there_in_code vs) H) : Df P w K mg base 7 (He.ga K "there_in_code") ["code"] sp := by
  obtain ⟨fd, F⟩ := T.def_there_in_code
  exact df_of F sc_there_in_code (fun _ _ _ _ _ _ us hl => match us, hl with | [_], _ => rfl) len (fun hr => der_there_in_code T D_live_in_code D_there_in_block hr) pure
/-! ### value_slots (level 7; slots 0 code, 1 slots, 2 coming, 3 live, 4 number, 5 block) -/
abbrev N_value_slots : List Str := ["code", "slots", "coming", "live", "number", "block"]
theorem sc_value_slots : FnScope N_value_slots ["code"] (defScope s_value_slots) := ⟨rfl, rfl, rfl, by decide +kernel, rfl, by decide +kernel, by decide +kernel⟩
def t_value_slots (K : PySem.W.Frag) (sp_coming_in : Sp) (sp_live_in_code : Sp) (sp_place_one_by_one : Sp) (sp_place_rows : Sp) (sp_reached : Sp) : TS := (tSeq (tAsg tDNewK (gName 1))
    (tSeq (tDrop (tCall sp_place_one_by_one [] E0 (tCons (tVar 1) (tCons (tLstRg (tRg1 (tFld K (tVar 0) "words"))) (tCons (tLst tNil) tNil)))))
    (tSeq (tAsg (tCall sp_coming_in [] E0 (tCons (tVar 0) tNil)) (gName 2))
    (tSeq (tAsg (tCall sp_live_in_code [] E0 (tCons (tVar 0) tNil)) (gName 3))
    (tSeq (tFor (iList K (tCall sp_reached [] E0 (tCons (tVar 0) (tCons (tC .non) tNil)))) (gName 4) (tSeq (tAsg (tOp (rIxL K) (tFld K (tVar 0) "blocks") (tVar 4)) (gName 5))
    (tSeq (tDrop (tCall sp_place_one_by_one [] E0 (tCons (tVar 1) (tCons (tCB (Evl.rListS K) (tCons (tFld K (tVar 5) "taken") tNil)) (tCons (tOp (rIxL K) (tVar 2) (tVar 4)) tNil)))))
    (tDrop (tCall sp_place_rows [] E0 (tCons (tVar 1) (tCons (tFld K (tVar 5) "rows") (tCons (tOp (rIxL K) (tVar 3) (tVar 4)) tNil))))))))
    (tRet (tVar 1)))))))
theorem der_value_slots (T : Tx K mg) {sp_coming_in : Sp} (D_coming_in : Df P w K mg base 5 (He.ga K "coming_in") ["code"] sp_coming_in) {sp_live_in_code : Sp} (D_live_in_code : Df P w K mg base 6 (He.ga K "live_in_code") ["code"] sp_live_in_code) {sp_place_one_by_one : Sp} (D_place_one_by_one : Df P w K mg base 2 (He.ga K "place_one_by_one") ["slots", "values", "others"] sp_place_one_by_one) {sp_place_rows : Sp} (D_place_rows : Df P w K mg base 2 (He.ga K "place_rows") ["slots", "rows", "places"] sp_place_rows) {sp_reached : Sp} (D_reached : Df P w K mg base 2 (He.ga K "reached") ["code", "left_out"] sp_reached) {cdv : Value} {A : Around} {outer : List Env} {s : Shared} {H : Hp} {E : XK} (hr : Room 6 (A.deeper (envOfC "value_slots" (defScope s_value_slots) s.heap.objs.size (He.ga K "value_slots") cdv))) :
    PSs (cxOf CX0 P w K mg base N_value_slots "value_slots" (defScope s_value_slots) (He.ga K "value_slots") cdv A outer s H E).nox (defBody s_value_slots) (t_value_slots K sp_coming_in sp_live_in_code sp_place_one_by_one sp_place_rows sp_reached) := by
  have hr_coming_in : Room 5 _ := hr.mono (by decide)
  obtain ⟨fd_coming_in, F_coming_in, b_coming_in⟩ := D_coming_in.ex
  have hr_live_in_code : Room 6 _ := hr.mono (by decide)
  obtain ⟨fd_live_in_code, F_live_in_code, b_live_in_code⟩ := D_live_in_code.ex
  have hr_place_one_by_one : Room 2 _ := hr.mono (by decide)
  obtain ⟨fd_place_one_by_one, F_place_one_by_one, b_place_one_by_one⟩ := D_place_one_by_one.ex
  have hr_place_rows : Room 2 _ := hr.mono (by decide)
  obtain ⟨fd_place_rows, F_place_rows, b_place_rows⟩ := D_place_rows.ex
  have hr_reached : Room 2 _ := hr.mono (by decide)
  obtain ⟨fd_reached, F_reached, b_reached⟩ := D_reached.ex
  exact (pss_cons (ps_set (i := 1) sc_value_slots.nd rfl (by first | exact Or.inl rfl | exact Or.inr rfl) pe_dnewK)
    (pss_cons (ps_expr (pe_call F_place_one_by_one hr_place_one_by_one rfl T.glo_place_one_by_one D_place_one_by_one.kp b_place_one_by_one .nil pass0 (pa_cons (pv 1) (pa_cons (pe_listRg rfl (by rfl) T.free_list (prg_1 (by rfl) T.free_range (pe_fld (pv 0) rfl))) (pa_cons (pe_lst pa_nil) pa_nil)))))
    (pss_cons (ps_set (i := 2) sc_value_slots.nd rfl (by first | exact Or.inl rfl | exact Or.inr rfl) (pe_call F_coming_in hr_coming_in rfl T.glo_coming_in D_coming_in.kp b_coming_in .nil pass0 (pa_cons (pv 0) pa_nil)))
    (pss_cons (ps_set (i := 3) sc_value_slots.nd rfl (by first | exact Or.inl rfl | exact Or.inr rfl) (pe_call F_live_in_code hr_live_in_code rfl T.glo_live_in_code D_live_in_code.kp b_live_in_code .nil pass0 (pa_cons (pv 0) pa_nil)))
    (pss_cons (ps_for PassesOwn.never rfl (pi_list (pe_call F_reached hr_reached rfl T.glo_reached D_reached.kp b_reached .nil pass0 (pa_cons (pv 0) (pa_cons pe_non pa_nil)))) (pg_name (i := 4) sc_value_slots.nd rfl (by first | exact Or.inl rfl | exact Or.inr rfl)) (pss_cons (ps_set (i := 5) sc_value_slots.nd rfl (by first | exact Or.inl rfl | exact Or.inr rfl) (pe_ix ix_list (pe_fld (pv 0) rfl) (pv 4) (fun _ _ => rfl)))
    (pss_cons (ps_expr (pe_call F_place_one_by_one hr_place_one_by_one rfl T.glo_place_one_by_one D_place_one_by_one.kp b_place_one_by_one .nil pass0 (pa_cons (pv 1) (pa_cons (pe_callTy call_list_of (by rfl) T.free_list (by decide +kernel) (pa_cons (pe_fld (pv 5) rfl) pa_nil)) (pa_cons (pe_ix ix_list (pv 2) (pv 4) (fun _ _ => rfl)) pa_nil)))))
    (pss_one (ps_expr (pe_call F_place_rows hr_place_rows rfl T.glo_place_rows D_place_rows.kp b_place_rows .nil pass0 (pa_cons (pv 1) (pa_cons (pe_fld (pv 5) rfl) (pa_cons (pe_ix ix_list (pv 3) (pv 4) (fun _ _ => rfl)) pa_nil)))))))))
    (pss_one (ps_ret (pv 1))))))))
theorem ok_value_slots (T : Tx K mg) {sp_coming_in : Sp} (D_coming_in : Df P w K mg base 5 (He.ga K "coming_in") ["code"] sp_coming_in) {sp_live_in_code : Sp} (D_live_in_code : Df P w K mg base 6 (He.ga K "live_in_code") ["code"] sp_live_in_code) {sp_place_one_by_one : Sp} (D_place_one_by_one : Df P w K mg base 2 (He.ga K "place_one_by_one") ["slots", "values", "others"] sp_place_one_by_one) {sp_place_rows : Sp} (D_place_rows : Df P w K mg base 2 (He.ga K "place_rows") ["slots", "rows", "places"] sp_place_rows) {sp_reached : Sp} (D_reached : Df P w K mg base 2 (He.ga K "reached") ["code", "left_out"] sp_reached) {sp : Sp} (len : ∀ vs H Q E, sp vs H Q E → vs.length = 1) (pure : ∀ vs H Q E, sp vs H Q E → t_value_slots K sp_coming_in sp_live_in_code sp_place_one_by_one sp_place_rows sp_reached { nx := fun _ H' => Q .non H', rt := Q } (start N_value_slots vs) H) : Df P w K mg base 7 (He.ga K "value_slots") ["code"] sp := by
  obtain ⟨fd, F⟩ := T.def_value_slots
  exact df_of F sc_value_slots (fun _ _ _ _ _ _ us hl => match us, hl with | [_], _ => rfl) len (fun hr => der_value_slots T D_coming_in D_live_in_code D_place_one_by_one D_place_rows D_reached hr) pure
/-! ### ask_lives (level 7; slots 0 code, 1 b, 2 r) -/
abbrev N_ask_lives : List Str := ["code", "b", "r"]
theorem sc_ask_lives : FnScope N_ask_lives ["code", "b", "r"] (defScope s_ask_lives) := ⟨rfl, rfl, rfl, by decide +kernel, rfl, by decide +kernel, by decide +kernel⟩
def t_ask_lives (K : PySem.W.Frag) (sp_counted : Sp) (sp_is_place : Sp) (sp_live_in_code : Sp) : TS := (tSeq (tIfS (tNot (tB (tCall sp_is_place [] E0 (tCons (tVar 0) (tCons (tVar 1) (tCons (tVar 2) tNil)))))) (tRet (tLst (tCons (tC (.int (-2))) tNil))) tNext)
    (tRet (tCall sp_counted [] E0 (tCons (tOp (rIxL K) (tOp (rIxL K) (tCall sp_live_in_code [] E0 (tCons (tVar 0) tNil)) (tVar 1)) (tVar 2)) tNil))))
theorem der_ask_lives (T : Tx K mg) {sp_counted : Sp} (D_counted : Df P w K mg base 1 (He.ga K "counted") ["values"] sp_counted) {sp_is_place : Sp} (D_is_place : Df P w K mg base 1 (He.ga K "is_place") ["code", "b", "number"] sp_is_place) {sp_live_in_code : Sp} (D_live_in_code : Df P w K mg base 6 (He.ga K "live_in_code") ["code"] sp_live_in_code) {cdv : Value} {A : Around} {outer : List Env} {s : Shared} {H : Hp} {E : XK} (hr : Room 6 (A.deeper (envOfC "ask_lives" (defScope s_ask_lives) s.heap.objs.size (He.ga K "ask_lives") cdv))) :
    PSs (cxOf CX0 P w K mg base N_ask_lives "ask_lives" (defScope s_ask_lives) (He.ga K "ask_lives") cdv A outer s H E).nox (defBody s_ask_lives) (t_ask_lives K sp_counted sp_is_place sp_live_in_code) := by
  have hr_counted : Room 1 _ := hr.mono (by decide)
  obtain ⟨fd_counted, F_counted, b_counted⟩ := D_counted.ex
  have hr_is_place : Room 1 _ := hr.mono (by decide)
  obtain ⟨fd_is_place, F_is_place, b_is_place⟩ := D_is_place.ex
  have hr_live_in_code : Room 6 _ := hr.mono (by decide)
  obtain ⟨fd_live_in_code, F_live_in_code, b_live_in_code⟩ := D_live_in_code.ex
  exact (pss_cons (ps_if (pt_not (pt_val (pe_call F_is_place hr_is_place rfl T.glo_is_place D_is_place.kp b_is_place .nil pass0 (pa_cons (pv 0) (pa_cons (pv 1) (pa_cons (pv 2) pa_nil)))))) (pss_one (ps_ret (pe_lst (pa_cons (pe_cint T.int_OUT_OF_RANGE) pa_nil)))) pss_nil)
    (pss_one (ps_ret (pe_call F_counted hr_counted rfl T.glo_counted D_counted.kp b_counted .nil pass0 (pa_cons (pe_ix ix_list (pe_ix ix_list (pe_call F_live_in_code hr_live_in_code rfl T.glo_live_in_code D_live_in_code.kp b_live_in_code .nil pass0 (pa_cons (pv 0) pa_nil)) (pv 1) (fun _ _ => rfl)) (pv 2) (fun _ _ => rfl)) pa_nil)))))
theorem ok_ask_lives (T : Tx K mg) {sp_counted : Sp} (D_counted : Df P w K mg base 1 (He.ga K "counted") ["values"] sp_counted) {sp_is_place : Sp} (D_is_place : Df P w K mg base 1 (He.ga K "is_place") ["code", "b", "number"] sp_is_place) {sp_live_in_code : Sp} (D_live_in_code : Df P w K mg base 6 (He.ga K "live_in_code") ["code"] sp_live_in_code) {sp : Sp} (len : ∀ vs H Q E, sp vs H Q E → vs.length = 3) (pure : ∀ vs H Q E, sp vs H Q E → t_ask_lives K sp_counted sp_is_place sp_live_in_code { nx := fun _ H' => Q .non H', rt := Q } (start N_ask_lives vs) H) : Df P w K mg base 7 (He.ga K "ask_lives") ["code", "b", "r"] sp := by
  obtain ⟨fd, F⟩ := T.def_ask_lives
  exact df_of F sc_ask_lives (fun _ _ _ _ _ _ us hl => match us, hl with | [_, _, _], _ => rfl) len (fun hr => der_ask_lives T D_counted D_is_place D_live_in_code hr) pure
/-! ### most_there (level 8; slots 0 code, 1 most, 2 number, 3 points, 4 point, 5 values) -/
abbrev N_most_there : List Str := ["code", "most", "number", "points", "point", "values"]
theorem sc_most_there : FnScope N_most_there ["code"] (defScope s_most_there) := ⟨rfl, rfl, rfl, by decide +kernel, rfl, by decide +kernel, by decide +kernel⟩
def t_most_there (K : PySem.W.Frag) (sp_there_in_code : Sp) : TS := (tSeq (tAsg (tLst (tCons (tC (.int 0)) (tCons (tC (.int 0)) (tCons (tC (.int 0)) tNil)))) (gName 1))
    (tSeq (tFor (iEnum K (tCons (tCall sp_there_in_code [] E0 (tCons (tVar 0) tNil)) tNil)) (gTup K 2 (gCons (gName 2) (gCons (gName 3) gNil))) (tFor (iEnum K (tCons (tVar 3) tNil)) (gTup K 2 (gCons (gName 4) (gCons (gName 5) gNil))) (tIfS (tTest (tOp rGt (tCB (Evl.rLenS K) (tCons (tVar 5) tNil)) (tOp (rIxL K) (tVar 1) (tC (.int 0))))) (tAsg (tLst (tCons (tCB (Evl.rLenS K) (tCons (tVar 5) tNil)) (tCons (tVar 2) (tCons (tVar 4) tNil)))) (gName 1)) tNext)))
    (tRet (tVar 1))))
theorem der_most_there (T : Tx K mg) {sp_there_in_code : Sp} (D_there_in_code : Df P w K mg base 7 (He.ga K "there_in_code") ["code"] sp_there_in_code) {cdv : Value} {A : Around} {outer : List Env} {s : Shared} {H : Hp} {E : XK} (hr : Room 7 (A.deeper (envOfC "most_there" (defScope s_most_there) s.heap.objs.size (He.ga K "most_there") cdv))) :
    PSs (cxOf CX0 P w K mg base N_most_there "most_there" (defScope s_most_there) (He.ga K "most_there") cdv A outer s H E).nox (defBody s_most_there) (t_most_there K sp_there_in_code) := by
  have hr_there_in_code : Room 7 _ := hr.mono (by decide)
  obtain ⟨fd_there_in_code, F_there_in_code, b_there_in_code⟩ := D_there_in_code.ex
  exact (pss_cons (ps_set (i := 1) sc_most_there.nd rfl (by first | exact Or.inl rfl | exact Or.inr rfl) (pe_lst (pa_cons pe_int (pa_cons pe_int (pa_cons pe_int pa_nil)))))
    (pss_cons (ps_for PassesOwn.never rfl (pi_enum (by rfl) T.free_enumerate (pa_cons (pe_call F_there_in_code hr_there_in_code rfl T.glo_there_in_code D_there_in_code.kp b_there_in_code .nil pass0 (pa_cons (pv 0) pa_nil)) pa_nil)) (pg_tup rfl (pgs_cons (pg_name (i := 2) sc_most_there.nd rfl (by first | exact Or.inl rfl | exact Or.inr rfl)) (pgs_cons (pg_name (i := 3) sc_most_there.nd rfl (by first | exact Or.inl rfl | exact Or.inr rfl)) pgs_nil))) (pss_one (ps_for PassesOwn.never rfl (pi_enum (by rfl) T.free_enumerate (pa_cons (pv 3) pa_nil)) (pg_tup rfl (pgs_cons (pg_name (i := 4) sc_most_there.nd rfl (by first | exact Or.inl rfl | exact Or.inr rfl)) (pgs_cons (pg_name (i := 5) sc_most_there.nd rfl (by first | exact Or.inl rfl | exact Or.inr rfl)) pgs_nil))) (pss_one (ps_if (pt_cmpR op_gt (pe_callB call_len_seq (by rfl) T.free_len (by decide +kernel) (pa_cons (pv 5) pa_nil)) (pe_ix ix_list (pv 1) pe_int (fun _ _ => rfl)) (nomark _)) (pss_one (ps_set (i := 1) sc_most_there.nd rfl (by first | exact Or.inl rfl | exact Or.inr rfl) (pe_lst (pa_cons (pe_callB call_len_seq (by rfl) T.free_len (by decide +kernel) (pa_cons (pv 5) pa_nil)) (pa_cons (pv 2) (pa_cons (pv 4) pa_nil)))))) pss_nil)))))
    (pss_one (ps_ret (pv 1)))))
theorem ok_most_there (T : Tx K mg) {sp_there_in_code : Sp} (D_there_in_code : Df P w K mg base 7 (He.ga K "there_in_code") ["code"] sp_there_in_code) {sp : Sp} (len : ∀ vs H Q E, sp vs H Q E → vs.length = 1) (pure : ∀ vs H Q E, sp vs H Q E → t_most_there K sp_there_in_code { nx := fun _ H' => Q .non H', rt := Q } (start N_most_there vs) H) : Df P w K mg base 8 (He.ga K "most_there") ["code"] sp := by
  obtain ⟨fd, F⟩ := T.def_most_there
  exact df_of F sc_most_there (fun _ _ _ _ _ _ us hl => match us, hl with | [_], _ => rfl) len (fun hr => der_most_there T D_there_in_code hr) pure
/-! ### are_together (level 8; slots 0 code, 1 x, 2 y, 3 points, 4 values) -/
abbrev N_are_together : List Str := ["code", "x", "y", "points", "values"]
theorem sc_are_together : FnScope N_are_together ["code", "x", "y"] (defScope s_are_together) := ⟨rfl, rfl, rfl, by decide +kernel, rfl, by decide +kernel, by decide +kernel⟩
def t_are_together (K : PySem.W.Frag) (sp_there_in_code : Sp) : TS := (tSeq (tFor (iList K (tCall sp_there_in_code [] E0 (tCons (tVar 0) tNil))) (gName 3) (tIfS (tB (tCB (rAny K) (tCons (tLc (iList K (tVar 3)) (gName 4) tYes (tAndV (tOp (rIn K false) (tVar 1) (tVar 4)) (tOp (rIn K false) (tVar 2) (tVar 4))) [4]) tNil))) (tRet (tC (.bl true))) tNext))
    (tRet (tC (.bl false))))
theorem der_are_together (T : Tx K mg) {sp_there_in_code : Sp} (D_there_in_code : Df P w K mg base 7 (He.ga K "there_in_code") ["code"] sp_there_in_code) {cdv : Value} {A : Around} {outer : List Env} {s : Shared} {H : Hp} {E : XK} (hr : Room 7 (A.deeper (envOfC "are_together" (defScope s_are_together) s.heap.objs.size (He.ga K "are_together") cdv))) :
    PSs (cxOf CX0 P w K mg base N_are_together "are_together" (defScope s_are_together) (He.ga K "are_together") cdv A outer s H E).nox (defBody s_are_together) (t_are_together K sp_there_in_code) := by
  have hr_there_in_code : Room 7 _ := hr.mono (by decide)
  obtain ⟨fd_there_in_code, F_there_in_code, b_there_in_code⟩ := D_there_in_code.ex
  exact (pss_cons (ps_for PassesOwn.never rfl (pi_list (pe_call F_there_in_code hr_there_in_code rfl T.glo_there_in_code D_there_in_code.kp b_there_in_code .nil pass0 (pa_cons (pv 0) pa_nil))) (pg_name (i := 3) sc_are_together.nd rfl (by first | exact Or.inl rfl | exact Or.inr rfl)) (pss_one (ps_if (pt_val (pe_callB (cr_any rfl) (by rfl) T.free_any (by decide +kernel) (pa_cons (pe_lc (own := [("values", 4)]) (g := (gName 4)) (tt := tYes) rfl sc_are_together.nd (pi_list (pv 3)) (blkOk_by (N := N_are_together) (sc := defScope s_are_together) (by decide +kernel)) (fun _ _ _ _ _ => (pg_name (i := 4) sc_are_together.nd rfl (by first | exact Or.inl rfl | exact Or.inr rfl))) (fun _ _ _ _ _ => pts_nil) (fun _ _ _ _ _ => (pe_and (pe_cmpR op_in_seq (pv 1) (pv 4) rfl) (pe_one (pe_cmpR op_in_seq (pv 2) (pv 4) rfl))))) pa_nil))) (pss_one (ps_ret pe_bl)) pss_nil)))
    (pss_one (ps_ret pe_bl)))
theorem ok_are_together (T : Tx K mg) {sp_there_in_code : Sp} (D_there_in_code : Df P w K mg base 7 (He.ga K "there_in_code") ["code"] sp_there_in_code) {sp : Sp} (len : ∀ vs H Q E, sp vs H Q E → vs.length = 3) (pure : ∀ vs H Q E, sp vs H Q E → t_are_together K sp_there_in_code { nx := fun _ H' => Q .non H', rt := Q } (start N_are_together vs) H) : Df P w K mg base 8 (He.ga K "are_together") ["code", "x", "y"] sp := by
  obtain ⟨fd, F⟩ := T.def_are_together
  exact df_of F sc_are_together (fun _ _ _ _ _ _ us hl => match us, hl with | [_, _, _], _ => rfl) len (fun hr => der_are_together T D_there_in_code hr) pure
/-! ### ask_there (level 8; slots 0 code, 1 b, 2 p) -/
abbrev N_ask_there : List Str := ["code", "b", "p"]
theorem sc_ask_there : FnScope N_ask_there ["code", "b", "p"] (defScope s_ask_there) := ⟨rfl, rfl, rfl, by decide +kernel, rfl, by decide +kernel, by decide +kernel⟩
def t_ask_there (K : PySem.W.Frag) (sp_counted : Sp) (sp_is_place : Sp) (sp_there_in_code : Sp) : TS := (tSeq (tIfS (tNot (tB (tCall sp_is_place [] E0 (tCons (tVar 0) (tCons (tVar 1) (tCons (tVar 2) tNil)))))) (tRet (tLst (tCons (tC (.int (-2))) tNil))) tNext)
    (tRet (tCall sp_counted [] E0 (tCons (tOp (rIxL K) (tOp (rIxL K) (tCall sp_there_in_code [] E0 (tCons (tVar 0) tNil)) (tVar 1)) (tVar 2)) tNil))))
theorem der_ask_there (T : Tx K mg) {sp_counted : Sp} (D_counted : Df P w K mg base 1 (He.ga K "counted") ["values"] sp_counted) {sp_is_place : Sp} (D_is_place : Df P w K mg base 1 (He.ga K "is_place") ["code", "b", "number"] sp_is_place) {sp_there_in_code : Sp} (D_there_in_code : Df P w K mg base 7 (He.ga K "there_in_code") ["code"] sp_there_in_code) {cdv : Value} {A : Around} {outer : List Env} {s : Shared} {H : Hp} {E : XK} (hr : Room 7 (A.deeper (envOfC "ask_there" (defScope s_ask_there) s.heap.objs.size (He.ga K "ask_there") cdv))) :
    PSs (cxOf CX0 P w K mg base N_ask_there "ask_there" (defScope s_ask_there) (He.ga K "ask_there") cdv A outer s H E).nox (defBody s_ask_there) (t_ask_there K sp_counted sp_is_place sp_there_in_code) := by
  have hr_counted : Room 1 _ := hr.mono (by decide)
  obtain ⟨fd_counted, F_counted, b_counted⟩ := D_counted.ex
  have hr_is_place : Room 1 _ := hr.mono (by decide)
  obtain ⟨fd_is_place, F_is_place, b_is_place⟩ := D_is_place.ex
  have hr_there_in_code : Room 7 _ := hr.mono (by decide)
  obtain ⟨fd_there_in_code, F_there_in_code, b_there_in_code⟩ := D_there_in_code.ex
  exact (pss_cons (ps_if (pt_not (pt_val (pe_call F_is_place hr_is_place rfl T.glo_is_place D_is_place.kp b_is_place .nil pass0 (pa_cons (pv 0) (pa_cons (pv 1) (pa_cons (pv 2) pa_nil)))))) (pss_one (ps_ret (pe_lst (pa_cons (pe_cint T.int_OUT_OF_RANGE) pa_nil)))) pss_nil)
    (pss_one (ps_ret (pe_call F_counted hr_counted rfl T.glo_counted D_counted.kp b_counted .nil pass0 (pa_cons (pe_ix ix_list (pe_ix ix_list (pe_call F_there_in_code hr_there_in_code rfl T.glo_there_in_code D_there_in_code.kp b_there_in_code .nil pass0 (pa_cons (pv 0) pa_nil)) (pv 1) (fun _ _ => rfl)) (pv 2) (fun _ _ => rfl)) pa_nil)))))
theorem ok_ask_there (T : Tx K mg) {sp_counted : Sp} (D_counted : Df P w K mg base 1 (He.ga K "counted") ["values"] sp_counted) {sp_is_place : Sp} (D_is_place : Df P w K mg base 1 (He.ga K "is_place") ["code", "b", "number"] sp_is_place) {sp_there_in_code : Sp} (D_there_in_code : Df P w K mg base 7 (He.ga K "there_in_code") ["code"] sp_there_in_code) {sp : Sp} (len : ∀ vs H Q E, sp vs H Q E → vs.length = 3) (pure : ∀ vs H Q E, sp vs H Q E → t_ask_there K sp_counted sp_is_place sp_there_in_code { nx := fun _ H' => Q .non H', rt := Q } (start N_ask_there vs) H) : Df P w K mg base 8 (He.ga K "ask_there") ["code", "b", "p"] sp := by
  obtain ⟨fd, F⟩ := T.def_ask_there
  exact df_of F sc_ask_there (fun _ _ _ _ _ _ us hl => match us, hl with | [_, _, _], _ => rfl) len (fun hr => der_ask_there T D_counted D_is_place D_there_in_code hr) pure
/-! ### ask_registers (level 8; slots 0 code, 1 slots, 2 answer, 3 value) -/
abbrev N_ask_registers : List Str := ["code", "slots", "answer", "value"]
theorem sc_ask_registers : FnScope N_ask_registers ["code"] (defScope s_ask_registers) := ⟨rfl, rfl, rfl, by decide +kernel, rfl, by decide +kernel, by decide +kernel⟩
def t_ask_registers (K : PySem.W.Frag) (sp_value_slots : Sp) : TS := (tSeq (tAsg (tCall sp_value_slots [] E0 (tCons (tVar 0) tNil)) (gName 1))
    (tSeq (tAsg (tLst (tCons (tCB rLenD (tCons (tVar 1) tNil)) tNil)) (gName 2))
    (tSeq (tFor (iList K (tCB rSortedDI (tCons (tVar 1) tNil))) (gName 3) (tDrop (tBM K "list" rExtend (tVar 2) (tCons (tLst (tCons (tVar 3) (tCons (tDGet (tVar 1) (tVar 3)) tNil))) tNil))))
    (tRet (tVar 2)))))
theorem der_ask_registers (T : Tx K mg) {sp_value_slots : Sp} (D_value_slots : Df P w K mg base 7 (He.ga K "value_slots") ["code"] sp_value_slots) {cdv : Value} {A : Around} {outer : List Env} {s : Shared} {H : Hp} {E : XK} (hr : Room 7 (A.deeper (envOfC "ask_registers" (defScope s_ask_registers) s.heap.objs.size (He.ga K "ask_registers") cdv))) :
    PSs (cxOf CX0 P w K mg base N_ask_registers "ask_registers" (defScope s_ask_registers) (He.ga K "ask_registers") cdv A outer s H E).nox (defBody s_ask_registers) (t_ask_registers K sp_value_slots) := by
  have hr_value_slots : Room 7 _ := hr.mono (by decide)
  obtain ⟨fd_value_slots, F_value_slots, b_value_slots⟩ := D_value_slots.ex
  have hu := hu_of hr
  exact (pss_cons (ps_set (i := 1) sc_ask_registers.nd rfl (by first | exact Or.inl rfl | exact Or.inr rfl) (pe_call F_value_slots hr_value_slots rfl T.glo_value_slots D_value_slots.kp b_value_slots .nil pass0 (pa_cons (pv 0) pa_nil)))
    (pss_cons (ps_set (i := 2) sc_ask_registers.nd rfl (by first | exact Or.inl rfl | exact Or.inr rfl) (pe_lst (pa_cons (pe_callB call_lenD (by rfl) T.free_len (by decide +kernel) (pa_cons (pv 1) pa_nil)) pa_nil)))
    (pss_cons (ps_for PassesOwn.never rfl (pi_list (pe_callB (call_sortedDI rfl) (by rfl) T.free_sorted (by decide +kernel) (pa_cons (pv 1) pa_nil))) (pg_name (i := 3) sc_ask_registers.nd rfl (by first | exact Or.inl rfl | exact Or.inr rfl)) (pss_one (ps_expr (pe_bm PySem.F.plainAttrs_list PySem.F.slot_list_extend PySem.F.type_list_extend mt_extend (pv 2) (pa_cons (pe_lst (pa_cons (pv 3) (pa_cons (pe_dget hu (pv 1) (pv 3) (fun _ _ => rfl)) pa_nil))) pa_nil)))))
    (pss_one (ps_ret (pv 2))))))
theorem ok_ask_registers (T : Tx K mg) {sp_value_slots : Sp} (D_value_slots : Df P w K mg base 7 (He.ga K "value_slots") ["code"] sp_value_slots) {sp : Sp} (len : ∀ vs H Q E, sp vs H Q E → vs.length = 1) (pure : ∀ vs H Q E, sp vs H Q E → t_ask_registers K sp_value_slots { nx := fun _ H' => Q .non H', rt := Q } (start N_ask_registers vs) H) : Df P w K mg base 8 (He.ga K "ask_registers") ["code"] sp := by
  obtain ⟨fd, F⟩ := T.def_ask_registers
  exact df_of F sc_ask_registers (fun _ _ _ _ _ _ us hl => match us, hl with | [_], _ => rfl) len (fun hr => der_ask_registers T D_value_slots hr) pure
/-! ### in_registers (level 8; slots 0 code) -/
abbrev N_in_registers : List Str := ["code"]
theorem sc_in_registers : FnScope N_in_registers ["code"] (defScope s_in_registers) := ⟨rfl, rfl, rfl, by decide +kernel, rfl, by decide +kernel, by decide +kernel⟩
def t_in_registers (K : PySem.W.Frag) (sp_code_in_slots : Sp) (sp_value_slots : Sp) : TS := (tRet (tCall sp_code_in_slots [] E0 (tCons (tVar 0) (tCons (tCall sp_value_slots [] E0 (tCons (tVar 0) tNil)) tNil))))
theorem der_in_registers (T : Tx K mg) {sp_code_in_slots : Sp} (D_code_in_slots : Df P w K mg base 4 (He.ga K "code_in_slots") ["code", "slots"] sp_code_in_slots) {sp_value_slots : Sp} (D_value_slots : Df P w K mg base 7 (He.ga K "value_slots") ["code"] sp_value_slots) {cdv : Value} {A : Around} {outer : List Env} {s : Shared} {H : Hp} {E : XK} (hr : Room 7 (A.deeper (envOfC "in_registers" (defScope s_in_registers) s.heap.objs.size (He.ga K "in_registers") cdv))) :
    PSs (cxOf CX0 P w K mg base N_in_registers "in_registers" (defScope s_in_registers) (He.ga K "in_registers") cdv A outer s H E).nox (defBody s_in_registers) (t_in_registers K sp_code_in_slots sp_value_slots) := by
  have hr_code_in_slots : Room 4 _ := hr.mono (by decide)
  obtain ⟨fd_code_in_slots, F_code_in_slots, b_code_in_slots⟩ := D_code_in_slots.ex
  have hr_value_slots : Room 7 _ := hr.mono (by decide)
  obtain ⟨fd_value_slots, F_value_slots, b_value_slots⟩ := D_value_slots.ex
  exact (pss_one (ps_ret (pe_call F_code_in_slots hr_code_in_slots rfl T.glo_code_in_slots D_code_in_slots.kp b_code_in_slots .nil pass0 (pa_cons (pv 0) (pa_cons (pe_call F_value_slots hr_value_slots rfl T.glo_value_slots D_value_slots.kp b_value_slots .nil pass0 (pa_cons (pv 0) pa_nil)) pa_nil)))))
theorem ok_in_registers (T : Tx K mg) {sp_code_in_slots : Sp} (D_code_in_slots : Df P w K mg base 4 (He.ga K "code_in_slots") ["code", "slots"] sp_code_in_slots) {sp_value_slots : Sp} (D_value_slots : Df P w K mg base 7 (He.ga K "value_slots") ["code"] sp_value_slots) {sp : Sp} (len : ∀ vs H Q E, sp vs H Q E → vs.length = 1) (pure : ∀ vs H Q E, sp vs H Q E → t_in_registers K sp_code_in_slots sp_value_slots { nx := fun _ H' => Q .non H', rt := Q } (start N_in_registers vs) H) : Df P w K mg base 8 (He.ga K "in_registers") ["code"] sp := by
  obtain ⟨fd, F⟩ := T.def_in_registers
  exact df_of F sc_in_registers (fun _ _ _ _ _ _ us hl => match us, hl with | [_], _ => rfl) len (fun hr => der_in_registers T D_code_in_slots D_value_slots hr) pure
/-! ### ask_run_in_registers (level 9; slots 0 code, 1 n, 2 words) -/
abbrev N_ask_run_in_registers : List Str := ["code", "n", "words"]
theorem sc_ask_run_in_registers : FnScope N_ask_run_in_registers ["code", "n", "words"] (defScope s_ask_run_in_registers) := ⟨rfl, rfl, rfl, by decide +kernel, rfl, by decide +kernel, by decide +kernel⟩
def t_ask_run_in_registers (K : PySem.W.Frag) (sp_ask_run : Sp) (sp_in_registers : Sp) : TS := (tRet (tCall sp_ask_run [] E0 (tCons (tCall sp_in_registers [] E0 (tCons (tVar 0) tNil)) (tCons (tVar 1) (tCons (tVar 2) tNil)))))
theorem der_ask_run_in_registers (T : Tx K mg) {sp_ask_run : Sp} (D_ask_run : Df P w K mg base 5 (He.ga K "ask_run") ["code", "n", "words"] sp_ask_run) {sp_in_registers : Sp} (D_in_registers : Df P w K mg base 8 (He.ga K "in_registers") ["code"] sp_in_registers) {cdv : Value} {A : Around} {outer : List Env} {s : Shared} {H : Hp} {E : XK} (hr : Room 8 (A.deeper (envOfC "ask_run_in_registers" (defScope s_ask_run_in_registers) s.heap.objs.size (He.ga K "ask_run_in_registers") cdv))) :
    PSs (cxOf CX0 P w K mg base N_ask_run_in_registers "ask_run_in_registers" (defScope s_ask_run_in_registers) (He.ga K "ask_run_in_registers") cdv A outer s H E).nox (defBody s_ask_run_in_registers) (t_ask_run_in_registers K sp_ask_run sp_in_registers) := by
  have hr_ask_run : Room 5 _ := hr.mono (by decide)
  obtain ⟨fd_ask_run, F_ask_run, b_ask_run⟩ := D_ask_run.ex
  have hr_in_registers : Room 8 _ := hr.mono (by decide)
  obtain ⟨fd_in_registers, F_in_registers, b_in_registers⟩ := D_in_registers.ex
  exact (pss_one (ps_ret (pe_call F_ask_run hr_ask_run rfl T.glo_ask_run D_ask_run.kp b_ask_run .nil pass0 (pa_cons (pe_call F_in_registers hr_in_registers rfl T.glo_in_registers D_in_registers.kp b_in_registers .nil pass0 (pa_cons (pv 0) pa_nil)) (pa_cons (pv 1) (pa_cons (pv 2) pa_nil))))))
theorem ok_ask_run_in_registers (T : Tx K mg) {sp_ask_run : Sp} (D_ask_run : Df P w K mg base 5 (He.ga K "ask_run") ["code", "n", "words"] sp_ask_run) {sp_in_registers : Sp} (D_in_registers : Df P w K mg base 8 (He.ga K "in_registers") ["code"] sp_in_registers) {sp : Sp} (len : ∀ vs H Q E, sp vs H Q E → vs.length = 3) (pure : ∀ vs H Q E, sp vs H Q E → t_ask_run_in_registers K sp_ask_run sp_in_registers { nx := fun _ H' => Q .non H', rt := Q } (start N_ask_run_in_registers vs) H) : Df P w K mg base 9 (He.ga K "ask_run_in_registers") ["code", "n", "words"] sp := by
  obtain ⟨fd, F⟩ := T.def_ask_run_in_registers
  exact df_of F sc_ask_run_in_registers (fun _ _ _ _ _ _ us hl => match us, hl with | [_, _, _], _ => rfl) len (fun hr => der_ask_run_in_registers T D_ask_run D_in_registers hr) pure
/-! ### ask_together (level 9; slots 0 code, 1 x, 2 y, 3 given) -/
abbrev N_ask_together : List Str := ["code", "x", "y", "given"]
theorem sc_ask_together : FnScope N_ask_together ["code", "x", "y"] (defScope s_ask_together) := ⟨rfl, rfl, rfl, by decide +kernel, rfl, by decide +kernel, by decide +kernel⟩
def t_ask_together (K : PySem.W.Frag) (sp_are_together : Sp) (sp_given_in_code : Sp) : TS := (tSeq (tAsg (tCall sp_given_in_code [] E0 (tCons (tVar 0) tNil)) (gName 3))
    (tSeq (tIfS (tOr (tTest (tOp (rIn K true) (tVar 1) (tVar 3))) (tTest (tOp (rIn K true) (tVar 2) (tVar 3)))) (tRet (tLst (tCons (tC (.int (-2))) tNil))) tNext)
    (tRet (tLst (tCons (tIf (tB (tCall sp_are_together [] E0 (tCons (tVar 0) (tCons (tVar 1) (tCons (tVar 2) tNil))))) (tC (.int 1)) (tC (.int 0))) tNil)))))
theorem der_ask_together (T : Tx K mg) {sp_are_together : Sp} (D_are_together : Df P w K mg base 8 (He.ga K "are_together") ["code", "x", "y"] sp_are_together) {sp_given_in_code : Sp} (D_given_in_code : Df P w K mg base 3 (He.ga K "given_in_code") ["code"] sp_given_in_code) {cdv : Value} {A : Around} {outer : List Env} {s : Shared} {H : Hp} {E : XK} (hr : Room 8 (A.deeper (envOfC "ask_together" (defScope s_ask_together) s.heap.objs.size (He.ga K "ask_together") cdv))) :
    PSs (cxOf CX0 P w K mg base N_ask_together "ask_together" (defScope s_ask_together) (He.ga K "ask_together") cdv A outer s H E).nox (defBody s_ask_together) (t_ask_together K sp_are_together sp_given_in_code) := by
  have hr_are_together : Room 8 _ := hr.mono (by decide)
  obtain ⟨fd_are_together, F_are_together, b_are_together⟩ := D_are_together.ex
  have hr_given_in_code : Room 3 _ := hr.mono (by decide)
  obtain ⟨fd_given_in_code, F_given_in_code, b_given_in_code⟩ := D_given_in_code.ex
  exact (pss_cons (ps_set (i := 3) sc_ask_together.nd rfl (by first | exact Or.inl rfl | exact Or.inr rfl) (pe_call F_given_in_code hr_given_in_code rfl T.glo_given_in_code D_given_in_code.kp b_given_in_code .nil pass0 (pa_cons (pv 0) pa_nil)))
    (pss_cons (ps_if (PW.pt (pw_or (pt_cmpR op_notIn_seq (pv 1) (pv 3) rfl) (pw_or1 (pt_cmpR op_notIn_seq (pv 2) (pv 3) rfl)))) (pss_one (ps_ret (pe_lst (pa_cons (pe_cint T.int_OUT_OF_RANGE) pa_nil)))) pss_nil)
    (pss_one (ps_ret (pe_lst (pa_cons (pe_ifExp (pt_val (pe_call F_are_together hr_are_together rfl T.glo_are_together D_are_together.kp b_are_together .nil pass0 (pa_cons (pv 0) (pa_cons (pv 1) (pa_cons (pv 2) pa_nil))))) pe_int pe_int) pa_nil))))))
theorem ok_ask_together (T : Tx K mg) {sp_are_together : Sp} (D_are_together : Df P w K mg base 8 (He.ga K "are_together") ["code", "x", "y"] sp_are_together) {sp_given_in_code : Sp} (D_given_in_code : Df P w K mg base 3 (He.ga K "given_in_code") ["code"] sp_given_in_code) {sp : Sp} (len : ∀ vs H Q E, sp vs H Q E → vs.length = 3) (pure : ∀ vs H Q E, sp vs H Q E → t_ask_together K sp_are_together sp_given_in_code { nx := fun _ H' => Q .non H', rt := Q } (start N_ask_together vs) H) : Df P w K mg base 9 (He.ga K "ask_together") ["code", "x", "y"] sp := by
  obtain ⟨fd, F⟩ := T.def_ask_together
  exact df_of F sc_ask_together (fun _ _ _ _ _ _ us hl => match us, hl with | [_, _, _], _ => rfl) len (fun hr => der_ask_together T D_are_together D_given_in_code hr) pure
/-! ### ask_most (level 9; slots 0 code) -/
abbrev N_ask_most : List Str := ["code"]
theorem sc_ask_most : FnScope N_ask_most ["code"] (defScope s_ask_most) := ⟨rfl, rfl, rfl, by decide +kernel, rfl, by decide +kernel, by decide +kernel⟩
def t_ask_most (K : PySem.W.Frag) (sp_most_there : Sp) : TS := (tRet (tCall sp_most_there [] E0 (tCons (tVar 0) tNil)))
theorem der_ask_most (T : Tx K mg) {sp_most_there : Sp} (D_most_there : Df P w K mg base 8 (He.ga K "most_there") ["code"] sp_most_there) {cdv : Value} {A : Around} {outer : List Env} {s : Shared} {H : Hp} {E : XK} (hr : Room 8 (A.deeper (envOfC "ask_most" (defScope s_ask_most) s.heap.objs.size (He.ga K "ask_most") cdv))) :
    PSs (cxOf CX0 P w K mg base N_ask_most "ask_most" (defScope s_ask_most) (He.ga K "ask_most") cdv A outer s H E).nox (defBody s_ask_most) (t_ask_most K sp_most_there) := by
  have hr_most_there : Room 8 _ := hr.mono (by decide)
  obtain ⟨fd_most_there, F_most_there, b_most_there⟩ := D_most_there.ex
  exact (pss_one (ps_ret (pe_call F_most_there hr_most_there rfl T.glo_most_there D_most_there.kp b_most_there .nil pass0 (pa_cons (pv 0) pa_nil))))
theorem ok_ask_most (T : Tx K mg) {sp_most_there : Sp} (D_most_there : Df P w K mg base 8 (He.ga K "most_there") ["code"] sp_most_there) {sp : Sp} (len : ∀ vs H Q E, sp vs H Q E → vs.length = 1) (pure : ∀ vs H Q E, sp vs H Q E → t_ask_most K sp_most_there { nx := fun _ H' => Q .non H', rt := Q } (start N_ask_most vs) H) : Df P w K mg base 9 (He.ga K "ask_most") ["code"] sp := by
  obtain ⟨fd, F⟩ := T.def_ask_most
  exact df_of F sc_ask_most (fun _ _ _ _ _ _ us hl => match us, hl with | [_], _ => rfl) len (fun hr => der_ask_most T D_most_there hr) pure
/-! ### ask_in_registers (level 9; slots 0 code) -/
abbrev N_ask_in_registers : List Str := ["code"]
theorem sc_ask_in_registers : FnScope N_ask_in_registers ["code"] (defScope s_ask_in_registers) := ⟨rfl, rfl, rfl, by decide +kernel, rfl, by decide +kernel, by decide +kernel⟩
def t_ask_in_registers (K : PySem.W.Frag) (sp_code_in_numbers : Sp) (sp_in_registers : Sp) : TS := (tRet (tCall sp_code_in_numbers [] E0 (tCons (tCall sp_in_registers [] E0 (tCons (tVar 0) tNil)) tNil)))
theorem der_ask_in_registers (T : Tx K mg) {sp_code_in_numbers : Sp} (D_code_in_numbers : Df P w K mg base 4 (He.ga K "code_in_numbers") ["code"] sp_code_in_numbers) {sp_in_registers : Sp} (D_in_registers : Df P w K mg base 8 (He.ga K "in_registers") ["code"] sp_in_registers) {cdv : Value} {A : Around} {outer : List Env} {s : Shared} {H : Hp} {E : XK} (hr : Room 8 (A.deeper (envOfC "ask_in_registers" (defScope s_ask_in_registers) s.heap.objs.size (He.ga K "ask_in_registers") cdv))) :
    PSs (cxOf CX0 P w K mg base N_ask_in_registers "ask_in_registers" (defScope s_ask_in_registers) (He.ga K "ask_in_registers") cdv A outer s H E).nox (defBody s_ask_in_registers) (t_ask_in_registers K sp_code_in_numbers sp_in_registers) := by
  have hr_code_in_numbers : Room 4 _ := hr.mono (by decide)
  obtain ⟨fd_code_in_numbers, F_code_in_numbers, b_code_in_numbers⟩ := D_code_in_numbers.ex
  have hr_in_registers : Room 8 _ := hr.mono (by decide)
  obtain ⟨fd_in_registers, F_in_registers, b_in_registers⟩ := D_in_registers.ex
  exact (pss_one (ps_ret (pe_call F_code_in_numbers hr_code_in_numbers rfl T.glo_code_in_numbers D_code_in_numbers.kp b_code_in_numbers .nil pass0 (pa_cons (pe_call F_in_registers hr_in_registers rfl T.glo_in_registers D_in_registers.kp b_in_registers .nil pass0 (pa_cons (pv 0) pa_nil)) pa_nil))))
theorem ok_ask_in_registers (T : Tx K mg) {sp_code_in_numbers : Sp} (D_code_in_numbers : Df P w K mg base 4 (He.ga K "code_in_numbers") ["code"] sp_code_in_numbers) {sp_in_registers : Sp} (D_in_registers : Df P w K mg base 8 (He.ga K "in_registers") ["code"] sp_in_registers) {sp : Sp} (len : ∀ vs H Q E, sp vs H Q E → vs.length = 1) (pure : ∀ vs H Q E, sp vs H Q E → t_ask_in_registers K sp_code_in_numbers sp_in_registers { nx := fun _ H' => Q .non H', rt := Q } (start N_ask_in_registers vs) H) : Df P w K mg base 9 (He.ga K "ask_in_registers") ["code"] sp := by
  obtain ⟨fd, F⟩ := T.def_ask_in_registers
  exact df_of F sc_ask_in_registers (fun _ _ _ _ _ _ us hl => match us, hl with | [_], _ => rfl) len (fun hr => der_ask_in_registers T D_code_in_numbers D_in_registers hr) pure
/-! ### ask (level 10; slots 0 code, 1 call, 2 numbers, 3 listed) -/
abbrev N_ask : List Str := ["code", "call", "numbers", "listed"]
theorem sc_ask : FnScope N_ask ["code", "call", "numbers", "listed"] (defScope s_ask) := ⟨rfl, rfl, rfl, by decide +kernel, rfl, by decide +kernel, by decide +kernel⟩
def t_ask (K : PySem.W.Frag) (sp_ask_in_registers : Sp) (sp_ask_lives : Sp) (sp_ask_most : Sp) (sp_ask_registers : Sp) (sp_ask_run : Sp) (sp_ask_run_in_registers : Sp) (sp_ask_there : Sp) (sp_ask_together : Sp) : TS := (tSeq (tIfS (tTest (tOp rEq (tVar 1) (tC (.int (8))))) (tRet (tCall sp_ask_run [] E0 (tCons (tVar 0) (tCons (tOp (rIxL K) (tVar 2) (tC (.int 0))) (tCons (tVar 3) tNil))))) tNext)
    (tSeq (tIfS (tTest (tOp rEq (tVar 1) (tC (.int (9))))) (tRet (tCall sp_ask_lives [] E0 (tCons (tVar 0) (tCons (tOp (rIxL K) (tVar 2) (tC (.int 0))) (tCons (tOp (rIxL K) (tVar 2) (tC (.int 1))) tNil))))) tNext)
    (tSeq (tIfS (tTest (tOp rEq (tVar 1) (tC (.int (10))))) (tRet (tCall sp_ask_there [] E0 (tCons (tVar 0) (tCons (tOp (rIxL K) (tVar 2) (tC (.int 0))) (tCons (tOp (rIxL K) (tVar 2) (tC (.int 1))) tNil))))) tNext)
    (tSeq (tIfS (tTest (tOp rEq (tVar 1) (tC (.int (11))))) (tRet (tCall sp_ask_most [] E0 (tCons (tVar 0) tNil))) tNext)
    (tSeq (tIfS (tTest (tOp rEq (tVar 1) (tC (.int (12))))) (tRet (tCall sp_ask_together [] E0 (tCons (tVar 0) (tCons (tOp (rIxL K) (tVar 2) (tC (.int 0))) (tCons (tOp (rIxL K) (tVar 2) (tC (.int 1))) tNil))))) tNext)
    (tSeq (tIfS (tTest (tOp rEq (tVar 1) (tC (.int (13))))) (tRet (tCall sp_ask_registers [] E0 (tCons (tVar 0) tNil))) tNext)
    (tSeq (tIfS (tTest (tOp rEq (tVar 1) (tC (.int (14))))) (tRet (tCall sp_ask_in_registers [] E0 (tCons (tVar 0) tNil))) tNext)
    (tRet (tCall sp_ask_run_in_registers [] E0 (tCons (tVar 0) (tCons (tOp (rIxL K) (tVar 2) (tC (.int 0))) (tCons (tVar 3) tNil))))))))))))
theorem der_ask (T : Tx K mg) {sp_ask_in_registers : Sp} (D_ask_in_registers : Df P w K mg base 9 (He.ga K "ask_in_registers") ["code"] sp_ask_in_registers) {sp_ask_lives : Sp} (D_ask_lives : Df P w K mg base 7 (He.ga K "ask_lives") ["code", "b", "r"] sp_ask_lives) {sp_ask_most : Sp} (D_ask_most : Df P w K mg base 9 (He.ga K "ask_most") ["code"] sp_ask_most) {sp_ask_registers : Sp} (D_ask_registers : Df P w K mg base 8 (He.ga K "ask_registers") ["code"] sp_ask_registers) {sp_ask_run : Sp} (D_ask_run : Df P w K mg base 5 (He.ga K "ask_run") ["code", "n", "words"] sp_ask_run) {sp_ask_run_in_registers : Sp} (D_ask_run_in_registers : Df P w K mg base 9 (He.ga K "ask_run_in_registers") ["code", "n", "words"] sp_ask_run_in_registers) {sp_ask_there : Sp} (D_ask_there : Df P w K mg base 8 (He.ga K "ask_there") ["code", "b", "p"] sp_ask_there) {sp_ask_together : Sp} (D_ask_together : Df P w K mg base 9 (He.ga K "ask_together") ["code", "x", "y"] sp_ask_together) {cdv : Value} {A : Around} {outer : List Env} {s : Shared} {H : Hp} {E : XK} (hr : Room 9 (A.deeper (envOfC "ask" (defScope s_ask) s.heap.objs.size (He.ga K "ask") cdv))) :
    PSs (cxOf CX0 P w K mg base N_ask "ask" (defScope s_ask) (He.ga K "ask") cdv A outer s H E).nox (defBody s_ask) (t_ask K sp_ask_in_registers sp_ask_lives sp_ask_most sp_ask_registers sp_ask_run sp_ask_run_in_registers sp_ask_there sp_ask_together) := by
  have hr_ask_in_registers : Room 9 _ := hr.mono (by decide)
  obtain ⟨fd_ask_in_registers, F_ask_in_registers, b_ask_in_registers⟩ := D_ask_in_registers.ex
  have hr_ask_lives : Room 7 _ := hr.mono (by decide)
  obtain ⟨fd_ask_lives, F_ask_lives, b_ask_lives⟩ := D_ask_lives.ex
  have hr_ask_most : Room 9 _ := hr.mono (by decide)
  obtain ⟨fd_ask_most, F_ask_most, b_ask_most⟩ := D_ask_most.ex
  have hr_ask_registers : Room 8 _ := hr.mono (by decide)
  obtain ⟨fd_ask_registers, F_ask_registers, b_ask_registers⟩ := D_ask_registers.ex
  have hr_ask_run : Room 5 _ := hr.mono (by decide)
  obtain ⟨fd_ask_run, F_ask_run, b_ask_run⟩ := D_ask_run.ex
  have hr_ask_run_in_registers : Room 9 _ := hr.mono (by decide)
  obtain ⟨fd_ask_run_in_registers, F_ask_run_in_registers, b_ask_run_in_registers⟩ := D_ask_run_in_registers.ex
  have hr_ask_there : Room 8 _ := hr.mono (by decide)
  obtain ⟨fd_ask_there, F_ask_there, b_ask_there⟩ := D_ask_there.ex
  have hr_ask_together : Room 9 _ := hr.mono (by decide)
  obtain ⟨fd_ask_together, F_ask_together, b_ask_together⟩ := D_ask_together.ex
  exact (pss_cons (ps_if (pt_cmpR op_eq (pv 1) (pe_cint T.int_RUN) (nomark _)) (pss_one (ps_ret (pe_call F_ask_run hr_ask_run rfl T.glo_ask_run D_ask_run.kp b_ask_run .nil pass0 (pa_cons (pv 0) (pa_cons (pe_ix ix_list (pv 2) pe_int (fun _ _ => rfl)) (pa_cons (pv 3) pa_nil)))))) pss_nil)
    (pss_cons (ps_if (pt_cmpR op_eq (pv 1) (pe_cint T.int_LIVES) (nomark _)) (pss_one (ps_ret (pe_call F_ask_lives hr_ask_lives rfl T.glo_ask_lives D_ask_lives.kp b_ask_lives .nil pass0 (pa_cons (pv 0) (pa_cons (pe_ix ix_list (pv 2) pe_int (fun _ _ => rfl)) (pa_cons (pe_ix ix_list (pv 2) pe_int (fun _ _ => rfl)) pa_nil)))))) pss_nil)
    (pss_cons (ps_if (pt_cmpR op_eq (pv 1) (pe_cint T.int_THERE) (nomark _)) (pss_one (ps_ret (pe_call F_ask_there hr_ask_there rfl T.glo_ask_there D_ask_there.kp b_ask_there .nil pass0 (pa_cons (pv 0) (pa_cons (pe_ix ix_list (pv 2) pe_int (fun _ _ => rfl)) (pa_cons (pe_ix ix_list (pv 2) pe_int (fun _ _ => rfl)) pa_nil)))))) pss_nil)
    (pss_cons (ps_if (pt_cmpR op_eq (pv 1) (pe_cint T.int_MOST) (nomark _)) (pss_one (ps_ret (pe_call F_ask_most hr_ask_most rfl T.glo_ask_most D_ask_most.kp b_ask_most .nil pass0 (pa_cons (pv 0) pa_nil)))) pss_nil)
    (pss_cons (ps_if (pt_cmpR op_eq (pv 1) (pe_cint T.int_TOGETHER) (nomark _)) (pss_one (ps_ret (pe_call F_ask_together hr_ask_together rfl T.glo_ask_together D_ask_together.kp b_ask_together .nil pass0 (pa_cons (pv 0) (pa_cons (pe_ix ix_list (pv 2) pe_int (fun _ _ => rfl)) (pa_cons (pe_ix ix_list (pv 2) pe_int (fun _ _ => rfl)) pa_nil)))))) pss_nil)
    (pss_cons (ps_if (pt_cmpR op_eq (pv 1) (pe_cint T.int_REGISTERS) (nomark _)) (pss_one (ps_ret (pe_call F_ask_registers hr_ask_registers rfl T.glo_ask_registers D_ask_registers.kp b_ask_registers .nil pass0 (pa_cons (pv 0) pa_nil)))) pss_nil)
    (pss_cons (ps_if (pt_cmpR op_eq (pv 1) (pe_cint T.int_INREGISTERS) (nomark _)) (pss_one (ps_ret (pe_call F_ask_in_registers hr_ask_in_registers rfl T.glo_ask_in_registers D_ask_in_registers.kp b_ask_in_registers .nil pass0 (pa_cons (pv 0) pa_nil)))) pss_nil)
    (pss_one (ps_ret (pe_call F_ask_run_in_registers hr_ask_run_in_registers rfl T.glo_ask_run_in_registers D_ask_run_in_registers.kp b_ask_run_in_registers .nil pass0 (pa_cons (pv 0) (pa_cons (pe_ix ix_list (pv 2) pe_int (fun _ _ => rfl)) (pa_cons (pv 3) pa_nil)))))))))))))
theorem ok_ask (T : Tx K mg) {sp_ask_in_registers : Sp} (D_ask_in_registers : Df P w K mg base 9 (He.ga K "ask_in_registers") ["code"] sp_ask_in_registers) {sp_ask_lives : Sp} (D_ask_lives : Df P w K mg base 7 (He.ga K "ask_lives") ["code", "b", "r"] sp_ask_lives) {sp_ask_most : Sp} (D_ask_most : Df P w K mg base 9 (He.ga K "ask_most") ["code"] sp_ask_most) {sp_ask_registers : Sp} (D_ask_registers : Df P w K mg base 8 (He.ga K "ask_registers") ["code"] sp_ask_registers) {sp_ask_run : Sp} (D_ask_run : Df P w K mg base 5 (He.ga K "ask_run") ["code", "n", "words"] sp_ask_run) {sp_ask_run_in_registers : Sp} (D_ask_run_in_registers : Df P w K mg base 9 (He.ga K "ask_run_in_registers") ["code", "n", "words"] sp_ask_run_in_registers) {sp_ask_there : Sp} (D_ask_there : Df P w K mg base 8 (He.ga K "ask_there") ["code", "b", "p"] sp_ask_there) {sp_ask_together : Sp} (D_ask_together : Df P w K mg base 9 (He.ga K "ask_together") ["code", "x", "y"] sp_ask_together) {sp : Sp} (len : ∀ vs H Q E, sp vs H Q E → vs.length = 4) (pure : ∀ vs H Q E, sp vs H Q E → t_ask K sp_ask_in_registers sp_ask_lives sp_ask_most sp_ask_registers sp_ask_run sp_ask_run_in_registers sp_ask_there sp_ask_together { nx := fun _ H' => Q .non H', rt := Q } (start N_ask vs) H) : Df P w K mg base 10 (He.ga K "ask") ["code", "call", "numbers", "listed"] sp := by
  obtain ⟨fd, F⟩ := T.def_ask
  exact df_of F sc_ask (fun _ _ _ _ _ _ us hl => match us, hl with | [_, _, _, _], _ => rfl) len (fun hr => der_ask T D_ask_in_registers D_ask_lives D_ask_most D_ask_registers D_ask_run D_ask_run_in_registers D_ask_there D_ask_together hr) pure
/-! ### answer_to (level 11; slots 0 code, 1 call, 2 numbers, 3 listed, 4 refusal) -/
abbrev N_answer_to : List Str := ["code", "call", "numbers", "listed", "refusal"]
theorem sc_answer_to : FnScope N_answer_to ["code", "call", "numbers", "listed"] (defScope s_answer_to) := ⟨rfl, rfl, rfl, by decide +kernel, rfl, by decide +kernel, by decide +kernel⟩
def t_answer_to (K : PySem.W.Frag) (sp_ask : Sp) (sp_build : Sp) (sp_refusal_of_all : Sp) : TS := (tSeq (tIfS (tTest (tOp rLe (tVar 1) (tC (.int (7))))) (tRet (tLst (tCons (tCall sp_build [] E0 (tCons (tVar 0) (tCons (tVar 1) (tCons (tVar 2) (tCons (tVar 3) tNil))))) tNil))) tNext)
    (tSeq (tAsg (tCall sp_refusal_of_all [] E0 (tCons (tVar 0) tNil)) (gName 4))
    (tSeq (tIfS (tTest (tOp rLt (tVar 4) (tC (.int 0)))) (tRet (tLst (tCons (tVar 4) tNil))) tNext)
    (tRet (tCall sp_ask [] E0 (tCons (tVar 0) (tCons (tVar 1) (tCons (tVar 2) (tCons (tVar 3) tNil)))))))))
theorem der_answer_to (T : Tx K mg) {sp_ask : Sp} (D_ask : Df P w K mg base 10 (He.ga K "ask") ["code", "call", "numbers", "listed"] sp_ask) {sp_build : Sp} (D_build : Df P w K mg base 4 (He.ga K "build") ["code", "call", "numbers", "listed"] sp_build) {sp_refusal_of_all : Sp} (D_refusal_of_all : Df P w K mg base 6 (He.ga K "refusal_of_all") ["code"] sp_refusal_of_all) {cdv : Value} {A : Around} {outer : List Env} {s : Shared} {H : Hp} {E : XK} (hr : Room 10 (A.deeper (envOfC "answer_to" (defScope s_answer_to) s.heap.objs.size (He.ga K "answer_to") cdv))) :
    PSs (cxOf CX0 P w K mg base N_answer_to "answer_to" (defScope s_answer_to) (He.ga K "answer_to") cdv A outer s H E).nox (defBody s_answer_to) (t_answer_to K sp_ask sp_build sp_refusal_of_all) := by
  have hr_ask : Room 10 _ := hr.mono (by decide)
  obtain ⟨fd_ask, F_ask, b_ask⟩ := D_ask.ex
  have hr_build : Room 4 _ := hr.mono (by decide)
  obtain ⟨fd_build, F_build, b_build⟩ := D_build.ex
  have hr_refusal_of_all : Room 6 _ := hr.mono (by decide)
  obtain ⟨fd_refusal_of_all, F_refusal_of_all, b_refusal_of_all⟩ := D_refusal_of_all.ex
  exact (pss_cons (ps_if (pt_cmpR op_le (pv 1) (pe_cint T.int_GIVE) (nomark _)) (pss_one (ps_ret (pe_lst (pa_cons (pe_call F_build hr_build rfl T.glo_build D_build.kp b_build .nil pass0 (pa_cons (pv 0) (pa_cons (pv 1) (pa_cons (pv 2) (pa_cons (pv 3) pa_nil))))) pa_nil)))) pss_nil)
    (pss_cons (ps_set (i := 4) sc_answer_to.nd rfl (by first | exact Or.inl rfl | exact Or.inr rfl) (pe_call F_refusal_of_all hr_refusal_of_all rfl T.glo_refusal_of_all D_refusal_of_all.kp b_refusal_of_all .nil pass0 (pa_cons (pv 0) pa_nil)))
    (pss_cons (ps_if (pt_cmpR op_lt (pv 4) pe_int (nomark _)) (pss_one (ps_ret (pe_lst (pa_cons (pv 4) pa_nil)))) pss_nil)
    (pss_one (ps_ret (pe_call F_ask hr_ask rfl T.glo_ask D_ask.kp b_ask .nil pass0 (pa_cons (pv 0) (pa_cons (pv 1) (pa_cons (pv 2) (pa_cons (pv 3) pa_nil))))))))))
theorem ok_answer_to (T : Tx K mg) {sp_ask : Sp} (D_ask : Df P w K mg base 10 (He.ga K "ask") ["code", "call", "numbers", "listed"] sp_ask) {sp_build : Sp} (D_build : Df P w K mg base 4 (He.ga K "build") ["code", "call", "numbers", "listed"] sp_build) {sp_refusal_of_all : Sp} (D_refusal_of_all : Df P w K mg base 6 (He.ga K "refusal_of_all") ["code"] sp_refusal_of_all) {sp : Sp} (len : ∀ vs H Q E, sp vs H Q E → vs.length = 4) (pure : ∀ vs H Q E, sp vs H Q E → t_answer_to K sp_ask sp_build sp_refusal_of_all { nx := fun _ H' => Q .non H', rt := Q } (start N_answer_to vs) H) : Df P w K mg base 11 (He.ga K "answer_to") ["code", "call", "numbers", "listed"] sp := by
  obtain ⟨fd, F⟩ := T.def_answer_to
  exact df_of F sc_answer_to (fun _ _ _ _ _ _ us hl => match us, hl with | [_, _, _, _], _ => rfl) len (fun hr => der_answer_to T D_ask D_build D_refusal_of_all hr) pure
/-! ### answers (level 12; slots 0 calls, 1 code, 2 told, 3 call, 4 numbers, 5 listed, 6 answer) -/
abbrev N_answers : List Str := ["calls", "code", "told", "call", "numbers", "listed", "answer"]
theorem sc_answers : FnScope N_answers ["calls"] (defScope s_answers) := ⟨rfl, rfl, rfl, by decide +kernel, rfl, by decide +kernel, by decide +kernel⟩
def t_answers (K : PySem.W.Frag) (sp_Code_init : Sp) (sp_answer_to : Sp) (sp_split_calls : Sp) : TS := (tSeq (tAsg (tMake (He.ga K "Code") sp_Code_init [] E0 tNil) (gName 1))
    (tSeq (tAsg (tLst tNil) (gName 2))
    (tSeq (tFor (iList K (tCall sp_split_calls [] E0 (tCons (tVar 0) tNil))) (gTup K 3 (gCons (gName 3) (gCons (gName 4) (gCons (gName 5) gNil)))) (tSeq (tAsg (tCall sp_answer_to [] E0 (tCons (tVar 1) (tCons (tVar 3) (tCons (tVar 4) (tCons (tVar 5) tNil))))) (gName 6))
    (tSeq (tDrop (tBM K "list" rAppend (tVar 2) (tCons (tCB (Evl.rLenS K) (tCons (tVar 6) tNil)) tNil)))
    (tDrop (tBM K "list" rExtend (tVar 2) (tCons (tVar 6) tNil))))))
    (tRet (tVar 2)))))
theorem der_answers (T : Tx K mg) {sp_Code_init : Sp} (D_Code_init : Df P w K mg base 1 (He.ma K (He.ga K "Code") "__init__") ["self"] sp_Code_init) {sp_answer_to : Sp} (D_answer_to : Df P w K mg base 11 (He.ga K "answer_to") ["code", "call", "numbers", "listed"] sp_answer_to) {sp_split_calls : Sp} (D_split_calls : Df P w K mg base 1 (He.ga K "split_calls") ["calls"] sp_split_calls) {cdv : Value} {A : Around} {outer : List Env} {s : Shared} {H : Hp} {E : XK} (hr : Room 11 (A.deeper (envOfC "answers" (defScope s_answers) s.heap.objs.size (He.ga K "answers") cdv))) :
    PSs (cxOf CX0 P w K mg base N_answers "answers" (defScope s_answers) (He.ga K "answers") cdv A outer s H E).nox (defBody s_answers) (t_answers K sp_Code_init sp_answer_to sp_split_calls) := by
  have hr_Code_init : Room 2 _ := hr.mono (by decide)
  obtain ⟨fd_Code_init, F_Code_init, b_Code_init⟩ := D_Code_init.ex
  have hr_answer_to : Room 11 _ := hr.mono (by decide)
  obtain ⟨fd_answer_to, F_answer_to, b_answer_to⟩ := D_answer_to.ex
  have hr_split_calls : Room 1 _ := hr.mono (by decide)
  obtain ⟨fd_split_calls, F_split_calls, b_split_calls⟩ := D_split_calls.ex
  exact (pss_cons (ps_set (i := 1) sc_answers.nd rfl (by first | exact Or.inl rfl | exact Or.inr rfl) (pe_make0 T.mkr_Code F_Code_init hr_Code_init rfl T.glo_Code b_Code_init .nil pass0))
    (pss_cons (ps_set (i := 2) sc_answers.nd rfl (by first | exact Or.inl rfl | exact Or.inr rfl) (pe_lst pa_nil))
    (pss_cons (ps_for PassesOwn.never rfl (pi_list (pe_call F_split_calls hr_split_calls rfl T.glo_split_calls D_split_calls.kp b_split_calls .nil pass0 (pa_cons (pv 0) pa_nil))) (pg_tup rfl (pgs_cons (pg_name (i := 3) sc_answers.nd rfl (by first | exact Or.inl rfl | exact Or.inr rfl)) (pgs_cons (pg_name (i := 4) sc_answers.nd rfl (by first | exact Or.inl rfl | exact Or.inr rfl)) (pgs_cons (pg_name (i := 5) sc_answers.nd rfl (by first | exact Or.inl rfl | exact Or.inr rfl)) pgs_nil)))) (pss_cons (ps_set (i := 6) sc_answers.nd rfl (by first | exact Or.inl rfl | exact Or.inr rfl) (pe_call F_answer_to hr_answer_to rfl T.glo_answer_to D_answer_to.kp b_answer_to .nil pass0 (pa_cons (pv 1) (pa_cons (pv 3) (pa_cons (pv 4) (pa_cons (pv 5) pa_nil))))))
    (pss_cons (ps_expr (pe_bm PySem.F.plainAttrs_list PySem.F.slot_list_append PySem.F.type_list_append mt_append (pv 2) (pa_cons (pe_callB call_len_seq (by rfl) T.free_len (by decide +kernel) (pa_cons (pv 6) pa_nil)) pa_nil)))
    (pss_one (ps_expr (pe_bm PySem.F.plainAttrs_list PySem.F.slot_list_extend PySem.F.type_list_extend mt_extend (pv 2) (pa_cons (pv 6) pa_nil)))))))
    (pss_one (ps_ret (pv 2))))))
theorem ok_answers (T : Tx K mg) {sp_Code_init : Sp} (D_Code_init : Df P w K mg base 1 (He.ma K (He.ga K "Code") "__init__") ["self"] sp_Code_init) {sp_answer_to : Sp} (D_answer_to : Df P w K mg base 11 (He.ga K "answer_to") ["code", "call", "numbers", "listed"] sp_answer_to) {sp_split_calls : Sp} (D_split_calls : Df P w K mg base 1 (He.ga K "split_calls") ["calls"] sp_split_calls) {sp : Sp} (len : ∀ vs H Q E, sp vs H Q E → vs.length = 1) (pure : ∀ vs H Q E, sp vs H Q E → t_answers K sp_Code_init sp_answer_to sp_split_calls { nx := fun _ H' => Q .non H', rt := Q } (start N_answers vs) H) : Df P w K mg base 12 (He.ga K "answers") ["calls"] sp := by
  obtain ⟨fd, F⟩ := T.def_answers
  exact df_of F sc_answers (fun _ _ _ _ _ _ us hl => match us, hl with | [_], _ => rfl) len (fun hr => der_answers T D_Code_init D_answer_to D_split_calls hr) pure
end
end VS
/-! Promises and their proofs: the calls that build the code. -/
namespace VS
open PySem L2 Evl CmBase
/-! ### all_values, all_targets -/
def sp_all_values (K : PySem.W.Frag) : Sp := fun vs H Q _ => ∃ (a : Addr) (ns : List Int), vs = [.ref a] ∧ SqL K H a (ns.map V.int) ∧ ns.length ≤ 1000 ∧ ∀ H', Ex H H' → Q (.bl (ns.all fun n => decide (n ≤ 39))) H'
def sp_all_targets (K : PySem.W.Frag) : Sp := fun vs H Q _ => ∃ (a : Addr) (ns : List Int), vs = [.ref a] ∧ SqL K H a (ns.map V.int) ∧ ns.length ≤ 1000 ∧ ∀ H', Ex H H' → Q (.bl (ns.all fun n => decide (1 ≤ n) && decide (n ≤ 9))) H'
theorem filter_yes {α : Type} (l : List α) : l.filter (fun _ => true) = l := List.filter_eq_self.mpr fun _ _ => rfl
theorem bls_of {f : Int → Bool} {g : V → V} (h : ∀ n, g (.int n) = .bl (f n)) (ns : List Int) : ((ns.map V.int).filter fun _ => true).map g = (ns.map f).map V.bl := by
  rw [filter_yes, List.map_map, List.map_map]
  exact List.map_congr_left fun n _ => h n
theorem all_id {α : Type} (f : α → Bool) (l : List α) : (l.map f).all id = l.all f := by rw [List.all_map]; rfl
def onInt (f : Int → V) : V → V
  | .int n => f n
  | v => v
section
variable {P : Program} {w : World} {K : PySem.W.Frag} {mg : Str → Option Value} {base : Heap}
theorem mem_ints {ns : List Int} {x : V} (h : x ∈ ns.map V.int) : ∃ n ∈ ns, x = .int n := by
  obtain ⟨n, hn, e⟩ := List.mem_map.mp h
  exact ⟨n, hn, e.symm⟩
theorem pure_all_values (vs : List V) (H : Hp) (Q : VK) (E : XK) (h : sp_all_values K vs H Q E) : t_all_values K { nx := fun _ H' => Q .non H', rt := Q } (start N_all_values vs) H := by
  obtain ⟨a, ns, rfl, hS, hl, k⟩ := h
  refine s_ret (v := .bl (ns.all fun n => decide (n ≤ 39))) (ev_cbL (el_comp (fun _ => true) (onInt fun n => .bl (decide (n ≤ 39))) (ev_var rfl) hS (by rw [List.length_map]; omega) (fun _ => rfl) (fun _ _ _ _ => et_yes) (fun x hx H1 e _ => ?_)) fun p H1 e h1 => ?_) k
  · obtain ⟨n, _, rfl⟩ := mem_ints hx
    exact ev_op (ev_var rfl) ev_c rv_I0
  · rw [bls_of (f := fun n => decide (n ≤ 39)) (fun _ => rfl)] at h1
    have := rc_all (K := K) h1
    rw [all_id] at this
    exact this
theorem pure_all_targets (vs : List V) (H : Hp) (Q : VK) (E : XK) (h : sp_all_targets K vs H Q E) : t_all_targets K { nx := fun _ H' => Q .non H', rt := Q } (start N_all_targets vs) H := by
  obtain ⟨a, ns, rfl, hS, hl, k⟩ := h
  refine s_ret (v := .bl (ns.all fun n => decide (1 ≤ n) && decide (n ≤ 9))) (ev_cbL (el_comp (fun _ => true) (onInt fun n => .bl (decide (1 ≤ n) && decide (n ≤ 9))) (ev_var rfl) hS (by rw [List.length_map]; omega) (fun _ => rfl) (fun _ _ _ _ => et_yes) (fun x hx H1 e _ => ?_)) fun p H1 e h1 => ?_) k
  · obtain ⟨n, _, rfl⟩ := mem_ints hx
    exact ev_chain ev_c (ev_var rfl) ev_c rv_I0 fun _ => rv_I0
  · rw [bls_of (f := fun n => decide (1 ≤ n) && decide (n ≤ 9)) (fun _ => rfl)] at h1
    have := rc_all (K := K) h1
    rw [all_id] at this
    exact this
theorem D_all_values (T : Tx K mg) : Df P w K mg base 1 (He.ga K "all_values") ["numbers"] (sp_all_values K) := ok_all_values T (fun vs H Q E h => by obtain ⟨a, ns, rfl, _⟩ := h; rfl) pure_all_values
theorem D_all_targets (T : Tx K mg) : Df P w K mg base 1 (He.ga K "all_targets") ["numbers"] (sp_all_targets K) := ok_all_targets T (fun vs H Q E h => by obtain ⟨a, ns, rfl, _⟩ := h; rfl) pure_all_targets
/-! ### Block, Code: made -/
def sp_Block_init (K : PySem.W.Frag) : Sp := fun vs H Q _ => ∃ (p dx a : Addr) (ts : List Nat), vs = [.ref p, .ref a] ∧ H p = some (.ins (He.ga K "Block") dx []) ∧ ts.length ≤ 1000 ∧
  ((SqL K H a (natsV ts) ∧ ∀ (H' : Hp) (tk rl : Addr), H tk = none → H rl = none → tk ≠ rl → H' p = some (.ins (He.ga K "Block") dx (bF tk rl .non)) → H' tk = some (.tup (natsV ts)) → H' rl = some (.lst []) → (∀ b o, H b = some o → b ≠ p → H' b = some o) → Q .non H') ∨
   (H a = some (.tup (natsV ts)) ∧ ∀ (H' : Hp) (rl : Addr), H rl = none → H' p = some (.ins (He.ga K "Block") dx (bF a rl .non)) → H' rl = some (.lst []) → (∀ b o, H b = some o → b ≠ p → H' b = some o) → Q .non H'))
theorem pure_Block_init (T : Tx K mg) (vs : List V) (H : Hp) (Q : VK) (E : XK) (h : sp_Block_init K vs H Q E) : t_Block_init K { nx := fun _ H' => Q .non H', rt := Q } (start N_Block_init vs) H := by
  obtain ⟨p, dx, a, ts, rfl, hp, hl, hh⟩ := h
  rcases hh with ⟨hS, k⟩ | ⟨hS, k⟩
  · refine ⟨_, rfl, a, natsV ts, rfl, .inl ⟨hS, fun tk htk => ?_⟩⟩
    have n1 : p ≠ tk := ne_of_none hp htk
    refine ⟨_, rfl, p, He.ga K "Block", dx, [], rfl, (by rw [upd_ne n1]; exact hp), T.cls_Block, T.noat_Block_taken, (by show 0 < 1000; decide), ?_⟩
    refine ⟨Nat.zero_le _, fun rl hrl => ?_⟩
    have n2 : p ≠ rl := ne_of_none upd_same hrl
    have n3 : tk ≠ rl := ne_of_none (H := upd (upd H tk _) p _) (by rw [upd_ne n1.symm]; exact upd_same) hrl
    refine ⟨_, rfl, p, He.ga K "Block", dx, _, rfl, (by rw [upd_ne n2]; exact upd_same), T.cls_Block, T.noat_Block_rows, (by show 1 < 1000; decide), ?_⟩
    refine ⟨_, rfl, p, He.ga K "Block", dx, _, rfl, upd_same, T.cls_Block, T.noat_Block_end, (by show 2 < 1000; decide), ?_⟩
    have hrl0 : H rl = none := by rw [upd_ne n2.symm, upd_ne n3.symm] at hrl; exact hrl
    refine k _ tk rl htk hrl0 n3 ?_ ?_ ?_ fun b o e hb => ?_
    · exact upd_same.trans rfl
    · rw [upd_ne n1.symm, upd_ne n1.symm, upd_ne n3, upd_ne n1.symm, upd_same]
    · rw [upd_ne n2.symm, upd_ne n2.symm, upd_same]
    · rw [upd_ne hb, upd_ne hb, upd_ne (ne_of_none e hrl0), upd_ne hb, upd_ne (ne_of_none e htk)]
      exact e
  · refine ⟨_, rfl, a, natsV ts, rfl, .inr ⟨st_of hS, ?_⟩⟩
    refine ⟨_, rfl, p, He.ga K "Block", dx, [], rfl, hp, T.cls_Block, T.noat_Block_taken, (by show 0 < 1000; decide), ?_⟩
    refine ⟨Nat.zero_le _, fun rl hrl => ?_⟩
    have n2 : p ≠ rl := ne_of_none upd_same hrl
    refine ⟨_, rfl, p, He.ga K "Block", dx, _, rfl, (by rw [upd_ne n2]; exact upd_same), T.cls_Block, T.noat_Block_rows, (by show 1 < 1000; decide), ?_⟩
    refine ⟨_, rfl, p, He.ga K "Block", dx, _, rfl, upd_same, T.cls_Block, T.noat_Block_end, (by show 2 < 1000; decide), ?_⟩
    have hrl0 : H rl = none := by rw [upd_ne n2.symm] at hrl; exact hrl
    refine k _ rl hrl0 ?_ ?_ fun b o e hb => ?_
    · exact upd_same.trans rfl
    · rw [upd_ne n2.symm, upd_ne n2.symm, upd_same]
    · rw [upd_ne hb, upd_ne hb, upd_ne (ne_of_none e hrl0), upd_ne hb]
      exact e
theorem D_Block_init (T : Tx K mg) : Df P w K mg base 1 (He.ma K (He.ga K "Block") "__init__") ["self", "taken"] (sp_Block_init K) := ok_Block_init T (fun vs H Q E h => by obtain ⟨a, b, c, ns, rfl, _⟩ := h; rfl) (pure_Block_init T)
def sp_Code_init (K : PySem.W.Frag) : Sp := fun vs H Q _ => ∃ (p dx : Addr), vs = [.ref p] ∧ H p = some (.ins (He.ga K "Code") dx []) ∧
  ∀ (H' : Hp) (Y : Lay), CodeAt K H' p Cm03.init Y → (∀ a ∈ foot p Y, a = p ∨ H a = none) → (∀ b o, H b = some o → b ≠ p → H' b = some o) → Q .non H'
theorem pure_Code_init (T : Tx K mg) (vs : List V) (H : Hp) (Q : VK) (E : XK) (h : sp_Code_init K vs H Q E) : t_Code_init K { nx := fun _ H' => Q .non H', rt := Q } (start N_Code_init vs) H := by
  obtain ⟨p, dx, rfl, hp, k⟩ := h
  refine ⟨_, rfl, p, He.ga K "Code", dx, [], rfl, hp, T.cls_Code, T.noat_Code_words, (by show 0 < 1000; decide), ?_⟩
  refine ⟨Nat.zero_le _, fun l hl => ?_⟩
  have n1 : p ≠ l := ne_of_none upd_same hl
  have hl0 : H l = none := by rw [upd_ne n1.symm] at hl; exact hl
  refine ⟨_, rfl, p, He.ga K "Code", dx, _, rfl, (by rw [upd_ne n1]; exact upd_same), T.cls_Code, T.noat_Code_blocks, (by show 1 < 1000; decide), ?_⟩
  refine k _ ⟨l, [], []⟩ ⟨⟨dx, upd_same.trans rfl⟩, ?_, rfl, rfl, fun i k hk => ?_, List.nodup_nil, ?_⟩ (fun a ha => ?_) fun b o e hb => ?_
  · rw [upd_ne n1.symm, upd_same]; rfl
  · have hk' : ([] : List Bk)[i]? = some k := hk
    simp at hk'
  · simp
  · have : a = p ∨ a = l := by simpa [foot] using ha
    rcases this with e | e
    · exact .inl e
    · exact .inr (e ▸ hl0)
  · rw [upd_ne hb, upd_ne (ne_of_none e hl0), upd_ne hb]
    exact e
theorem D_Code_init (T : Tx K mg) : Df P w K mg base 1 (He.ma K (He.ga K "Code") "__init__") ["self"] (sp_Code_init K) := ok_Code_init T (fun vs H Q E h => by obtain ⟨a, b, rfl, _⟩ := h; rfl) (pure_Code_init T)
end
end VS
/-! Promises and their proofs: the open block, code's beginning. -/
namespace VS
open PySem L2 Evl CmBase
theorem snoc_of {α : Type} : ∀ {l : List α} {n : Nat}, l.length = n + 1 → ∃ m x, l = m ++ [x] ∧ m.length = n
  | [], n, h => by simp at h
  | a :: l, n, h => by
    refine ⟨(a :: l).dropLast, (a :: l).getLast (by simp), (List.dropLast_concat_getLast _).symm, ?_⟩
    rw [List.length_dropLast, h]
    rfl
theorem EndAt.some_ref {H : Hp} {v : V} {e : CmBase.End} (h : EndAt H v (some e)) : ∃ a, v = .ref a := by
  cases e with
  | jump t as => exact ⟨_, h.choose_spec.choose_spec.1⟩
  | fork x t as u bs => exact ⟨_, h.choose_spec.choose_spec.choose_spec.1⟩
  | give x => exact ⟨_, h.choose_spec.1⟩
section
variable {P : Program} {w : World} {K : PySem.W.Frag} {mg : Str → Option Value} {base : Heap} {H H' : Hp} {c : Addr} {s : Cm03.St} {Y : Lay}
theorem CodeAt.last (h : CodeAt K H c s Y) {ks : List Bk} {k : Bk} (e : blks s = ks ++ [k]) : ∃ bs b rs r, Y.bs = bs ++ [b] ∧ Y.rs = rs ++ [r] ∧ bs.length = ks.length ∧ rs.length = ks.length ∧ BkAt K H b r k := by
  have hl : (blks s).length = ks.length + 1 := by rw [e, List.length_append]; rfl
  obtain ⟨bs, b, e1, l1⟩ := snoc_of (h.lenB.trans hl)
  obtain ⟨rs, r, e2, l2⟩ := snoc_of (h.lenR.trans hl)
  obtain ⟨b', r', q1, q2, q3⟩ := h.blk ks.length k (by rw [e, List.getElem?_append_right (Nat.le_refl _), Nat.sub_self]; rfl)
  rw [e1, ← l1, List.getElem?_append_right (Nat.le_refl _), Nat.sub_self] at q1
  rw [e2, ← l2, List.getElem?_append_right (Nat.le_refl _), Nat.sub_self] at q2
  cases q1
  cases q2
  exact ⟨bs, b, rs, r, e1, e2, l1, l2, q3⟩
theorem blks_opened {ts : List Nat} {l : List Row} (h : s.opened = some (ts, l)) : blks s = s.code.blocks.map (fun b => ⟨b.takes, b.rows, some b.last⟩) ++ [⟨ts, l, none⟩] := by
  unfold blks
  rw [h]
theorem blks_closed (h : s.opened = none) : blks s = s.code.blocks.map (fun b => ⟨b.takes, b.rows, some b.last⟩) := by
  unfold blks
  rw [h]
  exact List.append_nil _
/-! ### open_block -/
def sp_Code_open_block (K : PySem.W.Frag) : Sp := fun vs H Q _ => ∃ (c : Addr) (s : Cm03.St) (Y : Lay), vs = [.ref c] ∧ CodeAt K H c s Y ∧ (s.opened = none → ∀ H', Ex H H' → Q .non H') ∧
  (∀ ts l bs b, s.opened = some (ts, l) → Y.bs = bs ++ [b] → ∀ H', Ex H H' → Q (.ref b) H')
theorem pure_Code_open_block (T : Tx K mg) (vs : List V) (H : Hp) (Q : VK) (E : XK) (h : sp_Code_open_block K vs H Q E) : t_Code_open_block K { nx := fun _ H' => Q .non H', rt := Q } (start N_Code_open_block vs) H := by
  obtain ⟨c, s, Y, rfl, hc, kN, kS⟩ := h
  obtain ⟨dx, ho⟩ := hc.obj
  have eb : ∀ σ : L2.St, σ[0]? = some (some (.ref c)) → Ev (tFld K (tVar 0) "blocks") σ H (.ref Y.bl) := fun σ hσ => ev_fld (ev_var hσ) ho T.cls_Code T.noat_Code_blocks cF_blocks
  refine q_when (et_test (ev_op (ev_len (eb _ rfl) (sq_of hc.lst)) ev_c (rv_eq rfl))) (fun hb H1 e1 => ?_) (fun hb H1 e1 => ?_)
  · have z := of_decide_eq_true hb
    have z' : Y.bs = [] := by
      have : (Y.bs.map V.ref).length = 0 := by simpa using z
      rw [List.length_map] at this
      exact List.eq_nil_of_length_eq_zero this
    have zo : s.opened = none := by
      cases q : s.opened with
      | none => rfl
      | some p =>
        have := hc.lenB
        rw [z', blks_opened (ts := p.1) (l := p.2) q, List.length_append] at this
        simp at this
    exact s_ret ev_c fun H2 e2 => kN zo H2 (e1.trans e2)
  · have nz : Y.bs ≠ [] := by
      intro q
      have := of_decide_eq_false hb
      rw [q] at this
      exact this rfl
    have hc1 := hc.ex e1
    obtain ⟨ks, k, ek⟩ : ∃ ks k, blks s = ks ++ [k] := by
      have : 0 < (blks s).length := by
        rw [← hc.lenB]
        exact List.length_pos_iff.mpr nz
      obtain ⟨m, x, e, _⟩ := snoc_of (l := blks s) (n := (blks s).length - 1) (by omega)
      exact ⟨m, x, e⟩
    obtain ⟨bs, b, rs, r, e2, e3, _, _, dxb, tk, vs, ev, hb1, hb2, hb3, hb4, hb5⟩ := hc1.last ek
    have eb1 : ∀ σ : L2.St, σ[0]? = some (some (.ref c)) → Ev (tFld K (tVar 0) "blocks") σ H1 (.ref Y.bl) := fun σ hσ => ev_fld (ev_var hσ) (e1 _ _ ho) T.cls_Code T.noat_Code_blocks cF_blocks
    refine q_asg (v := .ref b) (ev_op (eb1 _ rfl) (ev_un ev_c ru_neg) (rv_ixL (sq_of hc1.lst) ?_)) fun H2 e4 => ?_
    · rw [e2, List.map_append]
      exact atI_last _ _
    · have test : EvT (tTest (tOp rIsN (tFld K (tVar 1) "end") (tC .non))) [some (.ref c), some (.ref b)] H2 (decide (ev = .non)) := et_test (ev_op (ev_fld (ev_var rfl) (e4 _ _ hb1) T.cls_Block T.noat_Block_end bF_end) ev_c rv_isN)
      cases q : s.opened with
      | some p =>
        rw [blks_opened (ts := p.1) (l := p.2) q] at ek
        obtain ⟨_, ek⟩ := List.append_inj' ek rfl
        cases ek
        have : ev = .non := hb5
        subst this
        exact s_ret (v := .ref b) (ev_if test (fun _ => ev_var rfl) fun z => by simp at z) fun H3 e5 => kS p.1 p.2 bs b q e2 H3 ((e1.trans e4).trans e5)
      | none =>
        rw [blks_closed q] at ek
        have : k.last ≠ none := by
          have hm : k ∈ s.code.blocks.map (fun b => (⟨b.takes, b.rows, some b.last⟩ : Bk)) := by rw [ek]; simp
          obtain ⟨b', _, e⟩ := List.mem_map.mp hm
          rw [← e]
          simp
        cases ql : k.last with
        | none => exact absurd ql this
        | some en =>
          rw [ql] at hb5
          obtain ⟨a, rfl⟩ := hb5.some_ref
          exact s_ret (v := .non) (ev_if test (fun z => by simp at z) fun _ => ev_c) fun H3 e5 => kN q H3 ((e1.trans e4).trans e5)
theorem D_Code_open_block (T : Tx K mg) : Df P w K mg base 1 (He.ma K (He.ga K "Code") "open_block") ["self"] (sp_Code_open_block K) := ok_Code_open_block T (fun vs H Q E h => by obtain ⟨a, b, d, rfl, _⟩ := h; rfl) (pure_Code_open_block T)
/-- what it evaluates to -/
theorem spv_open_none (hc : CodeAt K H c s Y) (h : s.opened = none) : SpV (sp_Code_open_block K) [.ref c] H .non := fun H1 e Q q E => ⟨c, s, Y, rfl, hc.ex e, fun _ => q, fun ts l bs b z => by rw [h] at z; cases z⟩
theorem spv_open_some (hc : CodeAt K H c s Y) {ts : List Nat} {l : List Row} {bs : List Addr} {b : Addr} (h : s.opened = some (ts, l)) (hb : Y.bs = bs ++ [b]) : SpV (sp_Code_open_block K) [.ref c] H (.ref b) := by
  intro H1 e Q q E
  refine ⟨c, s, Y, rfl, hc.ex e, fun z => ?_, fun ts' l' bs' b' _ e' => ?_⟩
  · rw [h] at z
    cases z
  · rw [hb] at e'
    have := (List.append_inj' e' rfl).2
    cases this
    exact q
/-- what a call leaves and answers -/
def Post (K : PySem.W.Frag) (H : Hp) (Q : VK) (c : Addr) (Y : Lay) (r : Cm03.St × List Int) : Prop := ∀ H' Y', CodeAt K H' c r.1 Y' → Kept c H Y H' Y' → Q (.int (r.2.headD 0)) H'
theorem Post.pre {Q : VK} {r : Cm03.St × List Int} {H1 : Hp} (e : Ex H H1) (p : Post K H Q c Y r) : Post K H1 Q c Y r := fun H' Y' h k => p H' Y' h (k.pre e)
theorem Post.stay {Q : VK} {i : Int} {H1 : Hp} (p : Post K H Q c Y (s, [i])) (hc : CodeAt K H c s Y) (e : Ex H H1) : Q (.int i) H1 := p H1 Y (hc.ex e) (Kept.of_ex e)
/-! ### begin -/
def sp_Code_begin (K : PySem.W.Frag) : Sp := fun vs H Q _ => ∃ (c : Addr) (s : Cm03.St) (Y : Lay) (k : Nat), vs = [.ref c, .int k] ∧ CodeAt K H c s Y ∧ Post K H Q c Y (Cm03.step s (.code k))
theorem pure_Code_begin (T : Tx K mg) (vs : List V) (H : Hp) (Q : VK) (E : XK) (h : sp_Code_begin K vs H Q E) : t_Code_begin K { nx := fun _ H' => Q .non H', rt := Q } (start N_Code_begin vs) H := by
  obtain ⟨c, s, Y, k, rfl, hc, p⟩ := h
  obtain ⟨dx, ho⟩ := hc.obj
  have p : Post K H Q c Y (if 6 < k then (s, [-1]) else (⟨⟨k, []⟩, none⟩, Cm03.ints [k])) := p
  refine q_when (et_test (ev_op (ev_var rfl) ev_c rv_I0)) (fun hb H1 e1 => ?_) (fun hb H1 e1 => ?_)
  · have z : (6 : Int) < k := of_decide_eq_true hb
    rw [if_pos (by omega)] at p
    exact s_ret ev_c fun H2 e2 => p.stay hc (e1.trans e2)
  · have z : ¬ (6 : Int) < k := of_decide_eq_false hb
    rw [if_neg (by omega)] at p
    refine ⟨_, rfl, _, rfl, c, He.ga K "Code", dx, _, rfl, e1 _ _ ho, T.cls_Code, T.noat_Code_words, (by show 2 < 1000; decide), ?_⟩
    refine ⟨Nat.zero_le _, fun l hl => ?_⟩
    have n1 : c ≠ l := ne_of_none upd_same hl
    refine ⟨_, rfl, c, He.ga K "Code", dx, _, rfl, (by rw [upd_ne n1]; exact upd_same), T.cls_Code, T.noat_Code_blocks, (by show 2 < 1000; decide), ?_⟩
    have hl1 : H1 l = none := by rw [upd_ne n1.symm] at hl; exact hl
    refine ⟨_, rfl, ?_⟩
    refine p _ ⟨l, [], []⟩ ⟨⟨dx, ?_⟩, ?_, rfl, rfl, fun i k hk => ?_, List.nodup_nil, by simp⟩ ⟨fun a o ha na => ?_, fun a ha => ?_⟩
    · rw [upd_same, cF_put_words, cF_put_blocks]
    · rw [upd_ne n1.symm, upd_same]; rfl
    · have hk' : ([] : List Bk)[i]? = some k := hk
      simp at hk'
    · have nc : a ≠ c := fun q => na (by simp [foot, q])
      rw [upd_ne nc, upd_ne (ne_of_none (e1 _ _ ha) hl1), upd_ne nc]
      exact e1 _ _ ha
    · have : a = c ∨ a = l := by simpa [foot] using ha
      rcases this with e | e
      · exact .inl (by simp [foot, e])
      · exact .inr (fresh_back e1 (e ▸ hl1))
theorem D_Code_begin (T : Tx K mg) : Df P w K mg base 1 (He.ma K (He.ga K "Code") "begin") ["self", "k"] (sp_Code_begin K) := ok_Code_begin T (fun vs H Q E h => by obtain ⟨a, b, d, e, rfl, _⟩ := h; rfl) (pure_Code_begin T)
end
end VS
/-! How whole code lies; what rows and ends give and use (parts.py). -/
namespace VS
open PySem L2 Evl CmBase
/-- a whole block, as it lies -/
def BAt (K : PySem.W.Frag) (H : Hp) (a : Addr) (b : CmBase.Block) : Prop := ∃ (dx tk rl : Addr) (vs : List V) (ev : V), H a = some (.ins (He.ga K "Block") dx (bF tk rl ev)) ∧ H tk = some (.tup (natsV b.takes)) ∧ H rl = some (.lst vs) ∧ RowsAt H vs b.rows ∧ EndAt H ev (some b.last)
/-- whole code, as it lies: the object, the list of blocks, the blocks -/
structure CAt (K : PySem.W.Frag) (H : Hp) (c : Addr) (cd : CmBase.Code) (bl : Addr) (bs : List Addr) : Prop where
  obj : ∃ dx, H c = some (.ins (He.ga K "Code") dx (cF cd.args bl))
  lst : H bl = some (.lst (bs.map V.ref))
  len : bs.length = cd.blocks.length
  blk : ∀ (i : Nat) (b : CmBase.Block), cd.blocks[i]? = some b → ∃ a, bs[i]? = some a ∧ BAt K H a b
/-- bounds of code -/
structure COk (cd : CmBase.Code) : Prop where
  args : cd.args ≤ 6
  len : cd.blocks.length ≤ 10
  body : ∀ b ∈ cd.blocks, BodyOk b.takes b.rows
  last : ∀ b ∈ cd.blocks, EndOk b.last
theorem StOk.cok {s : Cm03.St} (h : StOk s) : COk s.code := ⟨h.args, by have := h.len; omega, fun b hb => (h.blocks b hb).1, fun b hb => (h.blocks b hb).2⟩
section
variable {P : Program} {w : World} {K : PySem.W.Frag} {mg : Str → Option Value} {base : Heap} {H H' : Hp} {σ : L2.St} {c a bl : Addr} {cd : CmBase.Code} {b : CmBase.Block} {bs : List Addr} {ta ti : TE} {s : Cm03.St} {Y : Lay}
theorem BAt.ex (e : Ex H H') (h : BAt K H a b) : BAt K H' a b := by
  obtain ⟨dx, tk, rl, vs, ev, h1, h2, h3, h4, h5⟩ := h
  exact ⟨dx, tk, rl, vs, ev, e _ _ h1, e _ _ h2, e _ _ h3, h4.ex e, h5.ex e⟩
theorem CAt.ex (e : Ex H H') (h : CAt K H c cd bl bs) : CAt K H' c cd bl bs := by
  obtain ⟨⟨dx, h1⟩, h2, h3, h4⟩ := h
  exact ⟨⟨dx, e _ _ h1⟩, e _ _ h2, h3, fun i b hb => by
    obtain ⟨a, q1, q2⟩ := h4 i b hb
    exact ⟨a, q1, q2.ex e⟩⟩
theorem CodeAt.cat (h : CodeAt K H c s Y) (hn : s.opened = none) : CAt K H c s.code Y.bl Y.bs := by
  have eb := blks_closed hn
  refine ⟨h.obj, h.lst, by rw [h.lenB, eb, List.length_map], fun i b hb => ?_⟩
  obtain ⟨a, r, q1, q2, dx, tk, vs, ev, q3, q4, q5, q6, q7⟩ := h.blk i ⟨b.takes, b.rows, some b.last⟩ (by rw [eb, List.getElem?_map, hb]; rfl)
  exact ⟨a, q1, dx, tk, r, vs, ev, q3, q4, q5, q6, q7⟩
/-! ### reading the code -/
theorem ev_blocks (T : Tx K mg) (h : CAt K H c cd bl bs) (ha : Ev ta σ H (.ref c)) : Ev (tFld K ta "blocks") σ H (.ref bl) := by
  obtain ⟨dx, ho⟩ := h.obj
  exact ev_fld ha ho T.cls_Code T.noat_Code_blocks cF_blocks
theorem ev_words (T : Tx K mg) (h : CAt K H c cd bl bs) (ha : Ev ta σ H (.ref c)) : Ev (tFld K ta "words") σ H (.int (cd.args : Int)) := by
  obtain ⟨dx, ho⟩ := h.obj
  exact ev_fld ha ho T.cls_Code T.noat_Code_words cF_words
theorem ev_many (T : Tx K mg) (h : CAt K H c cd bl bs) (ha : Ev ta σ H (.ref c)) : Ev (tCB (rLenS K) (tCons (tFld K ta "blocks") tNil)) σ H (.int (cd.blocks.length : Int)) := by
  have := ev_len (K := K) (ev_blocks T h ha) (sq_of h.lst)
  rwa [List.length_map, h.len] at this
theorem CAt.at_ (h : CAt K H c cd bl bs) {i : Nat} (hi : i < cd.blocks.length) : ∃ a, bs[i]? = some a ∧ BAt K H a (Cm03.blockAt cd i) := h.blk i _ (at_blockAt hi)
theorem ev_block (T : Tx K mg) (h : CAt K H c cd bl bs) (ha : Ev ta σ H (.ref c)) {i : Nat} (hi : Ev ti σ H (.int (i : Int))) {a : Addr} (hb : bs[i]? = some a) : Ev (tOp (rIxL K) (tFld K ta "blocks") ti) σ H (.ref a) :=
  ev_op (ev_blocks T h ha) hi (rv_ixL (sq_of h.lst) (at_nat (by rw [List.getElem?_map, hb]; rfl)))
/-- a field of a block -/
theorem BAt.taken (T : Tx K mg) (h : BAt K H a b) : ∃ tk, H tk = some (.tup (natsV b.takes)) ∧ ∀ {ta : TE} {σ : L2.St} {H' : Hp}, Ex H H' → Ev ta σ H' (.ref a) → Ev (tFld K ta "taken") σ H' (.ref tk) := by
  obtain ⟨dx, tk, rl, vs, ev, h1, h2, h3, h4, h5⟩ := h
  exact ⟨tk, h2, fun e ha => ev_fld ha (e _ _ h1) T.cls_Block T.noat_Block_taken bF_taken⟩
theorem BAt.rows (T : Tx K mg) (h : BAt K H a b) : ∃ rl vs, H rl = some (.lst vs) ∧ RowsAt H vs b.rows ∧ ∀ {ta : TE} {σ : L2.St} {H' : Hp}, Ex H H' → Ev ta σ H' (.ref a) → Ev (tFld K ta "rows") σ H' (.ref rl) := by
  obtain ⟨dx, tk, rl, vs, ev, h1, h2, h3, h4, h5⟩ := h
  exact ⟨rl, vs, h3, h4, fun e ha => ev_fld ha (e _ _ h1) T.cls_Block T.noat_Block_rows bF_rows⟩
theorem BAt.end_ (T : Tx K mg) (h : BAt K H a b) : ∃ ev, EndAt H ev (some b.last) ∧ ∀ {ta : TE} {σ : L2.St} {H' : Hp}, Ex H H' → Ev ta σ H' (.ref a) → Ev (tFld K ta "end") σ H' ev := by
  obtain ⟨dx, tk, rl, vs, ev, h1, h2, h3, h4, h5⟩ := h
  exact ⟨ev, h5, fun e ha => ev_fld ha (e _ _ h1) T.cls_Block T.noat_Block_end bF_end⟩
theorem RowsAt.at_ {vs : List V} {rows : List Row} (h : RowsAt H vs rows) {i : Nat} {x : V} (hx : vs[i]? = some x) : ∃ r a, rows[i]? = some r ∧ x = .ref a ∧ H a = some (.tup (rowV r)) := by
  have hi : i < rows.length := by rw [← h.len]; exact (List.getElem?_eq_some_iff.mp hx).1
  obtain ⟨a, q1, q2⟩ := h.row i _ (List.getElem?_eq_getElem hi)
  rw [hx] at q1
  cases q1
  exact ⟨_, a, List.getElem?_eq_getElem hi, rfl, q2⟩
/-- an item of a tuple -/
theorem ev_ixT {xs : List V} {i : Int} {v : V} (ha : Ev ta σ H (.ref a)) (h : H a = some (.tup xs)) (hv : atI xs i = some v) : Ev (tOp (rIxT K) ta (tC (.int i))) σ H v := ev_op ha ev_c (rv_ixT (st_of h) hv)
theorem et_ixT {xs : List V} {i n m : Int} (ha : Ev ta σ H (.ref a)) (h : H a = some (.tup xs)) (hv : atI xs i = some (.int n)) : EvT (tTest (tOp rEq (tOp (rIxT K) ta (tC (.int i))) (tC (.int m)))) σ H (decide (n = m)) := et_test (ev_op (ev_ixT ha h hv) ev_c rv_eqI)
/-! ### given_by_row, used_by_row -/
def sp_given_by_row (K : PySem.W.Frag) : Sp := fun vs H Q _ => ∃ (a : Addr) (r : Row), vs = [.ref a] ∧ H a = some (.tup (rowV r)) ∧ Cm03.isCopy r = false ∧ RetL (natsV r.gives.toList) H Q
def sp_used_by_row (K : PySem.W.Frag) : Sp := fun vs H Q _ => ∃ (a : Addr) (r : Row), vs = [.ref a] ∧ H a = some (.tup (rowV r)) ∧ Cm03.isCopy r = false ∧ RetL (natsV r.uses) H Q
theorem pure_given_by_row (vs : List V) (H : Hp) (Q : VK) (E : XK) (h : sp_given_by_row K vs H Q E) : t_given_by_row K { nx := fun _ H' => Q .non H', rt := Q } (start N_given_by_row vs) H := by
  obtain ⟨a, r, rfl, ha, hp, k⟩ := h
  have one : ∀ {x : Nat}, (rowV r)[1]? = some (.int x) → EvL (tLst (tCons (tOp (rIxT K) (tVar 0) (tC (.int 1))) tNil)) (start N_given_by_row [.ref a]) H (natsV [x]) := fun hx => el_lst (ea_cons (ev_ixT (ev_var rfl) ha (at_nat (i := 1) hx)) ea_nil) (show 1 ≤ 100000 by decide)
  cases r with
  | copy x b => cases hp
  | num x n => exact s_retL (el_if (et_ixT (n := 0) (ev_var rfl) ha rfl) (fun z => by cases z) fun _ => one rfl) k
  | two x o b d => exact s_retL (el_if (et_ixT (n := 2) (ev_var rfl) ha rfl) (fun z => by cases z) fun _ => one rfl) k
  | say x => exact s_retL (el_if (et_ixT (n := 3) (ev_var rfl) ha rfl) (fun _ => el_lst ea_nil (show 0 ≤ 100000 by decide)) fun z => by cases z) k
theorem pure_used_by_row (vs : List V) (H : Hp) (Q : VK) (E : XK) (h : sp_used_by_row K vs H Q E) : t_used_by_row K { nx := fun _ H' => Q .non H', rt := Q } (start N_used_by_row vs) H := by
  obtain ⟨a, r, rfl, ha, hp, k⟩ := h
  cases r with
  | copy x b => cases hp
  | num x n =>
    refine q_when (et_ixT (n := 0) (ev_var rfl) ha rfl) (fun _ H1 e1 => ?_) (fun z => by cases z)
    exact s_retL (el_lst ea_nil (show 0 ≤ 100000 by decide)) fun p H2 hn e2 hp => k p H2 (fresh_back e1 hn) (e1.trans e2) hp
  | say x =>
    refine q_when (et_ixT (n := 3) (ev_var rfl) ha rfl) (fun z => by cases z) (fun _ H1 e1 => ?_)
    refine q_when (et_ixT (n := 3) (ev_var rfl) (e1 _ _ ha) rfl) (fun _ H2 e2 => ?_) (fun z => by cases z)
    exact s_retL (el_lst (ea_cons (ev_ixT (ev_var rfl) (e2 _ _ (e1 _ _ ha)) rfl) ea_nil) (show 1 ≤ 100000 by decide)) ((k.pre e1).pre e2)
  | two x o b d =>
    refine q_when (et_ixT (n := 2) (ev_var rfl) ha rfl) (fun z => by cases z) (fun _ H1 e1 => ?_)
    refine q_when (et_ixT (n := 2) (ev_var rfl) (e1 _ _ ha) rfl) (fun z => by cases z) (fun _ H2 e2 => ?_)
    exact s_retL (el_lst (ea_cons (ev_ixT (ev_var rfl) (e2 _ _ (e1 _ _ ha)) rfl) (ea_cons (ev_ixT (ev_var rfl) (e2 _ _ (e1 _ _ ha)) rfl) ea_nil)) (show 2 ≤ 100000 by decide)) ((k.pre e1).pre e2)
theorem D_given_by_row (T : Tx K mg) : Df P w K mg base 1 (He.ga K "given_by_row") ["row"] (sp_given_by_row K) := ok_given_by_row T (fun vs H Q E h => by obtain ⟨a, ns, rfl, _⟩ := h; rfl) pure_given_by_row
theorem D_used_by_row (T : Tx K mg) : Df P w K mg base 1 (He.ga K "used_by_row") ["row"] (sp_used_by_row K) := ok_used_by_row T (fun vs H Q E h => by obtain ⟨a, ns, rfl, _⟩ := h; rfl) pure_used_by_row
theorem spl_given_by_row {r : Row} (ha : H a = some (.tup (rowV r))) (hp : Cm03.isCopy r = false) : SpL (sp_given_by_row K) [.ref a] H (natsV r.gives.toList) := fun H1 e Q q E => ⟨a, r, rfl, e _ _ ha, hp, q⟩
theorem spl_used_by_row {r : Row} (ha : H a = some (.tup (rowV r))) (hp : Cm03.isCopy r = false) : SpL (sp_used_by_row K) [.ref a] H (natsV r.uses) := fun H1 e Q q E => ⟨a, r, rfl, e _ _ ha, hp, q⟩
/-! ### used_by_end, ways -/
def sp_used_by_end (K : PySem.W.Frag) : Sp := fun vs H Q _ => ∃ (v : V) (e : CmBase.End), vs = [v] ∧ EndAt H v (some e) ∧ e.uses.length ≤ 1000 ∧ RetL (natsV e.uses) H Q
theorem pure_used_by_end (vs : List V) (H : Hp) (Q : VK) (E : XK) (h : sp_used_by_end K vs H Q E) : t_used_by_end K { nx := fun _ H' => Q .non H', rt := Q } (start N_used_by_end vs) H := by
  obtain ⟨v, e, rfl, hv, hz, k⟩ := h
  cases e with
  | jump t as =>
    obtain ⟨a, p, rfl, ha, hp⟩ := hv
    refine q_when (et_ixT (n := 0) (ev_var rfl) ha rfl) (fun _ H1 e1 => ?_) (fun z => by cases z)
    exact s_retL (el_listT (ev_ixT (ev_var rfl) (e1 _ _ ha) rfl) (st_of (e1 _ _ hp))) (k.pre e1)
  | fork x t as u bs =>
    obtain ⟨a, p, q, rfl, ha, hp, hq⟩ := hv
    refine q_when (et_ixT (n := 1) (ev_var rfl) ha rfl) (fun z => by cases z) (fun _ H1 e1 => ?_)
    refine q_when (et_ixT (n := 1) (ev_var rfl) (e1 _ _ ha) rfl) (fun _ H2 e2 => ?_) (fun z => by cases z)
    have e := e1.trans e2
    have hz : as.length + bs.length ≤ 1000 := by
      have : (CmBase.End.fork x t as u bs).uses.length = as.length + bs.length + 1 := by simp [CmBase.End.uses]
      omega
    have l1 : EvL (tOp rCat (tLst (tCons (tOp (rIxT K) (tVar 0) (tC (.int 1))) tNil)) (tCB (rListS K) (tCons (tOp (rIxT K) (tVar 0) (tC (.int 3))) tNil))) (start N_used_by_end [.ref a]) H2 (natsV (x :: as)) :=
      el_cat (xs := natsV [x]) (el_lst (ea_cons (ev_ixT (ev_var rfl) (e _ _ ha) rfl) ea_nil) (show 1 ≤ 100000 by decide)) (el_listT (ev_ixT (ev_var rfl) (e _ _ ha) rfl) (st_of (e _ _ hp))) (by show 1 + (natsV as).length ≤ 100000; rw [natsV_length]; omega)
    have l2 := el_cat l1 (el_listT (K := K) (ev_ixT (K := K) (i := 5) (ev_var (i := 0) rfl) (e _ _ ha) rfl) (st_of (e _ _ hq))) (by rw [natsV_length, natsV_length, List.length_cons]; omega)
    exact s_retL (el_is l2 (by rw [← natsV_append]; rfl)) (k.pre e)
  | give x =>
    obtain ⟨a, rfl, ha⟩ := hv
    refine q_when (et_ixT (n := 2) (ev_var rfl) ha rfl) (fun z => by cases z) (fun _ H1 e1 => ?_)
    refine q_when (et_ixT (n := 2) (ev_var rfl) (e1 _ _ ha) rfl) (fun z => by cases z) (fun _ H2 e2 => ?_)
    exact s_retL (el_lst (ea_cons (ev_ixT (ev_var rfl) (e2 _ _ (e1 _ _ ha)) rfl) ea_nil) (show 1 ≤ 100000 by decide)) ((k.pre e1).pre e2)
theorem D_used_by_end (T : Tx K mg) : Df P w K mg base 1 (He.ga K "used_by_end") ["end"] (sp_used_by_end K) := ok_used_by_end T (fun vs H Q E h => by obtain ⟨a, ns, rfl, _⟩ := h; rfl) pure_used_by_end
theorem spl_used_by_end {v : V} {e : CmBase.End} (hv : EndAt H v (some e)) (hz : e.uses.length ≤ 1000) : SpL (sp_used_by_end K) [v] H (natsV e.uses) := fun H1 ex Q q E => ⟨v, e, rfl, hv.ex ex, hz, q⟩
/-- the ways of an end: the block, what is handed over -/
def waysOf : CmBase.End → List (Nat × List Nat)
  | .jump t as => [(t, as)]
  | .fork _ t as u bs => [(t, as), (u, bs)]
  | .give _ => []
theorem waysOf_targets (e : CmBase.End) : (waysOf e).map (·.1) = e.targets := by cases e <;> rfl
/-- a way as a tuple -/
def WayV (wy : Nat × List Nat) (v : V) (H : Hp) : Prop := ∃ a q, v = .ref a ∧ H a = some (.tup [.int (wy.1 : Int), .ref q]) ∧ H q = some (.tup (natsV wy.2))
def sp_ways (K : PySem.W.Frag) : Sp := fun vs H Q _ => ∃ (v : V) (e : CmBase.End), vs = [v] ∧ EndAt H v (some e) ∧ ∀ p ws H2, H p = none → Ex H H2 → H2 p = some (.lst ws) → ws.length = (waysOf e).length → (∀ (i : Nat) (x : V) (wy : Nat × List Nat), ws[i]? = some x → (waysOf e)[i]? = some wy → WayV wy x H2) → Q (.ref p) H2
theorem pure_ways (vs : List V) (H : Hp) (Q : VK) (E : XK) (h : sp_ways K vs H Q E) : t_ways K { nx := fun _ H' => Q .non H', rt := Q } (start N_ways vs) H := by
  obtain ⟨v, e, rfl, hv, k⟩ := h
  cases e with
  | jump t as =>
    obtain ⟨a, p, rfl, ha, hp⟩ := hv
    refine q_when (et_ixT (n := 0) (ev_var rfl) ha rfl) (fun _ H1 e1 => ?_) (fun z => by cases z)
    have tu : EvU (tTup (tCons (tOp (rIxT K) (tVar 0) (tC (.int 1))) (tCons (tOp (rIxT K) (tVar 0) (tC (.int 2))) tNil))) (start N_ways [.ref a]) H1 [.int (t : Int), .ref p] := eu_tup (ea_cons (ev_ixT (ev_var rfl) (e1 _ _ ha) rfl) (ea_cons (ev_ixT (ev_var rfl) (e1 _ _ ha) rfl) ea_nil)) (show 2 ≤ 100000 by decide)
    refine s_retN (en_lst1 tu) fun l ws H2 hl e2 h2 hw => ?_
    obtain ⟨x, rfl, hx⟩ := hw
    refine k l [.ref x] _ (fresh_back e1 hl) (e1.trans e2) h2 rfl fun i y wy hy hw => ?_
    cases i with
    | zero =>
      cases hy
      cases hw
      exact ⟨x, p, rfl, hx, e2 _ _ (e1 _ _ hp)⟩
    | succ i => simp at hy
  | fork x t as u bs =>
    obtain ⟨a, p, q, rfl, ha, hp, hq⟩ := hv
    refine q_when (et_ixT (n := 1) (ev_var rfl) ha rfl) (fun z => by cases z) (fun _ H1 e1 => ?_)
    refine q_when (et_ixT (n := 1) (ev_var rfl) (e1 _ _ ha) rfl) (fun _ H2 e2 => ?_) (fun z => by cases z)
    have e := e1.trans e2
    have tu : EvU (tTup (tCons (tOp (rIxT K) (tVar 0) (tC (.int 2))) (tCons (tOp (rIxT K) (tVar 0) (tC (.int 3))) tNil))) (start N_ways [.ref a]) H2 [.int (t : Int), .ref p] := eu_tup (ea_cons (ev_ixT (ev_var rfl) (e _ _ ha) rfl) (ea_cons (ev_ixT (ev_var rfl) (e _ _ ha) rfl) ea_nil)) (show 2 ≤ 100000 by decide)
    have tv : EvU (tTup (tCons (tOp (rIxT K) (tVar 0) (tC (.int 4))) (tCons (tOp (rIxT K) (tVar 0) (tC (.int 5))) tNil))) (start N_ways [.ref a]) H2 [.int (u : Int), .ref q] := eu_tup (ea_cons (ev_ixT (ev_var rfl) (e _ _ ha) rfl) (ea_cons (ev_ixT (ev_var rfl) (e _ _ ha) rfl) ea_nil)) (show 2 ≤ 100000 by decide)
    refine s_retN (en_lst2 tu tv) fun l ws H3 hl e3 h3 hw => ?_
    obtain ⟨y1, y2, rfl, hy1, hy2⟩ := hw
    refine k l [.ref y1, .ref y2] _ (fresh_back e hl) (e.trans e3) h3 rfl fun i y wy hy hw => ?_
    match i, hy, hw with
    | 0, hy, hw =>
      cases hy
      cases hw
      exact ⟨y1, p, rfl, hy1, e3 _ _ (e _ _ hp)⟩
    | 1, hy, hw =>
      cases hy
      cases hw
      exact ⟨y2, q, rfl, hy2, e3 _ _ (e _ _ hq)⟩
    | i + 2, hy, _ => simp at hy
  | give x =>
    obtain ⟨a, rfl, ha⟩ := hv
    refine q_when (et_ixT (n := 2) (ev_var rfl) ha rfl) (fun z => by cases z) (fun _ H1 e1 => ?_)
    refine q_when (et_ixT (n := 2) (ev_var rfl) (e1 _ _ ha) rfl) (fun z => by cases z) (fun _ H2 e2 => ?_)
    exact s_retL (el_lst ea_nil (show 0 ≤ 100000 by decide)) fun p H3 hn e3 hp => k p [] H3 (fresh_back (e1.trans e2) hn) ((e1.trans e2).trans e3) hp rfl fun i y wy hy _ => by simp at hy
theorem D_ways (T : Tx K mg) : Df P w K mg base 1 (He.ga K "ways") ["end"] (sp_ways K) := ok_ways T (fun vs H Q E h => by obtain ⟨a, ns, rfl, _⟩ := h; rfl) pure_ways
/-- a loop over the ways -/
def WaysL (e : CmBase.End) (ws : List V) (H : Hp) : Prop := ws.length = (waysOf e).length ∧ ∀ (i : Nat) (x : V) (wy : Nat × List Nat), ws[i]? = some x → (waysOf e)[i]? = some wy → WayV wy x H
theorem WaysL.ex {e : CmBase.End} {ws : List V} (x : Ex H H') (h : WaysL e ws H) : WaysL e ws H' := ⟨h.1, fun i y wy hy hw => by
  obtain ⟨a, q, h1, h2, h3⟩ := h.2 i y wy hy hw
  exact ⟨a, q, h1, x _ _ h2, x _ _ h3⟩⟩
theorem spn_ways {v : V} {e : CmBase.End} (hv : EndAt H v (some e)) : SpN (sp_ways K) [v] H (WaysL e) := fun H1 ex Q q E => ⟨v, e, rfl, hv.ex ex, fun p ws H2 hn e2 hp h1 h2 => q p ws H2 hn e2 hp ⟨h1, h2⟩⟩
theorem WaysL.at_ {e : CmBase.End} {ws : List V} (h : WaysL e ws H) {i : Nat} {x : V} (hx : ws[i]? = some x) : ∃ wy, (waysOf e)[i]? = some wy ∧ WayV wy x H := by
  have hi : i < (waysOf e).length := by rw [← h.1]; exact (List.getElem?_eq_some_iff.mp hx).1
  exact ⟨_, List.getElem?_eq_getElem hi, h.2 i x _ hx (List.getElem?_eq_getElem hi)⟩
end
end VS
/-! What is given in blocks and code; code in numbers (telling.py). -/
namespace VS
open PySem L2 Evl CmBase
/-- a new list that grows -/
structure Gr (H0 : Hp) (l : Addr) (xs : List V) (H' : Hp) : Prop where
  new : H0 l = none
  ex : Ex H0 H'
  at_ : H' l = some (.lst xs)
theorem take_next {α : Type} {l : List α} {i : Nat} {x : α} (h : l[i]? = some x) : l.take (i + 1) = l.take i ++ [x] := by rw [List.take_add_one, h]; rfl
section
variable {P : Program} {w : World} {K : PySem.W.Frag} {mg : Str → Option Value} {base : Heap} {H H0 H' H1 : Hp} {σ : L2.St} {c a bl l : Addr} {cd : CmBase.Code} {b : CmBase.Block} {bs : List Addr} {xs ys : List V}
theorem Gr.step (g : Gr H0 l xs H') (e : Ex H' H1) : Gr H0 l xs H1 := ⟨g.new, g.ex.trans e, e _ _ g.at_⟩
theorem Gr.put (g : Gr H0 l xs H') (e : Ex H' H1) : Gr H0 l ys (upd H1 l (.lst ys)) := ⟨g.new, Ex.mut (g.ex.trans e) g.new, upd_same⟩
theorem Gr.ret {Q : VK} (g : Gr H0 l xs H') (k : RetL xs H0 Q) : Q (.ref l) H' := k l H' g.new g.ex g.at_
/-! ### given_in_block, given_in_code -/
def sp_given_in_block (K : PySem.W.Frag) : Sp := fun vs H Q _ => ∃ (a : Addr) (b : CmBase.Block), vs = [.ref a] ∧ BAt K H a b ∧ BodyOk b.takes b.rows ∧ RetL (natsV (Cm03.givenIn b)) H Q
theorem gives_flat (rows : List Row) : rows.filterMap Row.gives = rows.flatMap fun r => r.gives.toList := by
  induction rows with
  | nil => rfl
  | cons r l ih =>
    rw [List.filterMap_cons, List.flatMap_cons, ← ih]
    cases r.gives <;> rfl
theorem gives_len (rows : List Row) : (rows.flatMap fun r => r.gives.toList).length ≤ rows.length := by
  rw [← gives_flat]
  exact List.length_filterMap_le _ _
theorem pure_given_in_block (T : Tx K mg) (vs : List V) (H : Hp) (Q : VK) (E : XK) (h : sp_given_in_block K vs H Q E) : t_given_in_block K (sp_given_by_row K) { nx := fun _ H' => Q .non H', rt := Q } (start N_given_in_block vs) H := by
  obtain ⟨a, b, rfl, hb, ok, k⟩ := h
  obtain ⟨tk, htk, etk⟩ := hb.taken T
  obtain ⟨rl, vs, hrl, hrows, erl⟩ := hb.rows T
  refine q_asgL (el_listT (K := K) (etk (Ex.refl H) (ev_var rfl)) (st_of htk)) fun l H1 hn e1 hl => ?_
  refine q_forLn (erl e1 (ev_var rfl)) (sq_of (e1 _ _ hrl)) (fun i σ' H' => (∃ w, σ' = [some (.ref a), some (.ref l), w]) ∧ Gr H l (natsV (b.takes ++ (b.rows.take i).flatMap fun r => r.gives.toList)) H') (fun H2 e2 => ⟨⟨_, rfl⟩, hn, e1.trans e2, by rw [List.take_zero]; simpa using e2 _ _ hl⟩) (fun i σ' H' _ p => sq_of (p.2.ex _ _ hrl)) (fun i x σ' H' hx p => ?_) (fun σ' H' p => ?_)
  · obtain ⟨⟨w, rfl⟩, g⟩ := p
    obtain ⟨r, ra, hr, rfl, hra⟩ := hrows.at_ hx
    refine s_ext g.at_ (ev_var rfl) (el_call (ea_cons (ev_var rfl) ea_nil) (spl_given_by_row (g.ex _ _ hra) (ok.rows r (List.mem_of_getElem? hr)).plain)) ?_ fun H2 e2 => ⟨⟨_, rfl⟩, ?_⟩
    · rw [natsV_length, natsV_length, List.length_append]
      have := gives_len (b.rows.take i)
      have := List.length_take_le' i b.rows
      have := ok.few
      have := ok.len
      have : r.gives.toList.length ≤ 1 := by cases r.gives <;> simp
      omega
    · rw [take_next hr, List.flatMap_append, List.flatMap_singleton, ← List.append_assoc, natsV_append]
      exact g.put e2
  · obtain ⟨⟨w, rfl⟩, g⟩ := p
    rw [show vs.length = b.rows.length from hrows.len, List.take_length] at g
    refine s_ret (ev_var rfl) fun H2 e2 => (g.step e2).ret ?_
    rw [← gives_flat]
    exact k
theorem D_given_in_block (T : Tx K mg) : Df P w K mg base 2 (He.ga K "given_in_block") ["block"] (sp_given_in_block K) := ok_given_in_block T (D_given_by_row T) (fun vs H Q E h => by obtain ⟨a, ns, rfl, _⟩ := h; rfl) (pure_given_in_block T)
theorem spl_given_in_block (hb : BAt K H a b) (ok : BodyOk b.takes b.rows) : SpL (sp_given_in_block K) [.ref a] H (natsV (Cm03.givenIn b)) := fun H1 e Q q E => ⟨a, b, rfl, hb.ex e, ok, q⟩
theorem givenIn_len (ok : BodyOk b.takes b.rows) : (Cm03.givenIn b).length ≤ 20 := by
  unfold Cm03.givenIn
  rw [List.length_append]
  have := ok.few
  have := ok.len
  have := List.length_filterMap_le Row.gives b.rows
  omega
def sp_given_in_code (K : PySem.W.Frag) : Sp := fun vs H Q _ => ∃ (c : Addr) (cd : CmBase.Code) (bl : Addr) (bs : List Addr), vs = [.ref c] ∧ CAt K H c cd bl bs ∧ COk cd ∧ RetL (natsV (Cm03.given cd)) H Q
theorem flat_len {α : Type} {f : α → List Nat} {m : Nat} : ∀ {l : List α}, (∀ x ∈ l, (f x).length ≤ m) → (l.flatMap f).length ≤ l.length * m
  | [], _ => Nat.zero_le _
  | x :: l, h => by
    rw [List.flatMap_cons, List.length_append, List.length_cons, Nat.succ_mul]
    have := flat_len (l := l) fun y hy => h y (List.mem_cons_of_mem _ hy)
    have := h x (by simp)
    omega
theorem CAt.mem (h : CAt K H c cd bl bs) {i : Nat} {x : V} (hx : (bs.map V.ref)[i]? = some x) : ∃ a b, x = .ref a ∧ cd.blocks[i]? = some b ∧ bs[i]? = some a ∧ BAt K H a b := by
  rw [List.getElem?_map] at hx
  cases q : bs[i]? with
  | none => rw [q] at hx; cases hx
  | some a =>
    rw [q] at hx
    cases hx
    have hi : i < cd.blocks.length := by rw [← h.len]; exact (List.getElem?_eq_some_iff.mp q).1
    obtain ⟨a', h1, h2⟩ := h.blk i _ (List.getElem?_eq_getElem hi)
    rw [q] at h1
    cases h1
    exact ⟨a, _, rfl, List.getElem?_eq_getElem hi, rfl, h2⟩
theorem pure_given_in_code (T : Tx K mg) (vs : List V) (H : Hp) (Q : VK) (E : XK) (h : sp_given_in_code K vs H Q E) : t_given_in_code K (sp_given_in_block K) { nx := fun _ H' => Q .non H', rt := Q } (start N_given_in_code vs) H := by
  obtain ⟨c, cd, bl, bs, rfl, hc, ok, k⟩ := h
  refine q_asgL (el_range (ev_words T hc (ev_var rfl)) (by have := ok.args; omega)) fun l H1 hn e1 hl => ?_
  refine q_forLn (ev_blocks T (hc.ex e1) (ev_var rfl)) (sq_of (e1 _ _ hc.lst)) (fun i σ' H' => (∃ w, σ' = [some (.ref c), some (.ref l), w]) ∧ Gr H l (natsV (List.range cd.args ++ (cd.blocks.take i).flatMap Cm03.givenIn)) H') (fun H2 e2 => ⟨⟨_, rfl⟩, hn, e1.trans e2, by rw [List.take_zero]; simpa using e2 _ _ hl⟩) (fun i σ' H' _ p => sq_of (p.2.ex _ _ hc.lst)) (fun i x σ' H' hx p => ?_) (fun σ' H' p => ?_)
  · obtain ⟨⟨w, rfl⟩, g⟩ := p
    obtain ⟨a, b, rfl, hb, _, hab⟩ := hc.mem hx
    have hm := List.mem_of_getElem? hb
    refine s_ext g.at_ (ev_var rfl) (el_call (ea_cons (ev_var rfl) ea_nil) (spl_given_in_block (hab.ex g.ex) (ok.body b hm))) ?_ fun H2 e2 => ⟨⟨_, rfl⟩, ?_⟩
    · rw [natsV_length, natsV_length, List.length_append, List.length_range]
      have := flat_len (f := Cm03.givenIn) (m := 20) (l := cd.blocks.take i) fun b hb => givenIn_len (ok.body b (List.mem_of_mem_take hb))
      have := List.length_take_le' i cd.blocks
      have := ok.args
      have := ok.len
      have := givenIn_len (ok.body b hm)
      have : (cd.blocks.take i).length * 20 ≤ 10 * 20 := Nat.mul_le_mul_right _ (by omega)
      omega
    · rw [take_next hb, List.flatMap_append, List.flatMap_singleton, ← List.append_assoc, natsV_append]
      exact g.put e2
  · obtain ⟨⟨w, rfl⟩, g⟩ := p
    rw [List.length_map, hc.len, List.take_length] at g
    exact s_ret (ev_var rfl) fun H2 e2 => (g.step e2).ret k
theorem D_given_in_code (T : Tx K mg) : Df P w K mg base 3 (He.ga K "given_in_code") ["code"] (sp_given_in_code K) := ok_given_in_code T (D_given_in_block T) (fun vs H Q E h => by obtain ⟨a, b, d, e, rfl, _⟩ := h; rfl) (pure_given_in_code T)
theorem spl_given_in_code (hc : CAt K H c cd bl bs) (ok : COk cd) : SpL (sp_given_in_code K) [.ref c] H (natsV (Cm03.given cd)) := fun H1 e Q q E => ⟨c, cd, bl, bs, rfl, hc.ex e, ok, q⟩
/-! ### counted, numbers -/
def sp_counted (K : PySem.W.Frag) : Sp := fun vs H Q _ => ∃ (a : Addr) (l : List Nat), vs = [.ref a] ∧ (SqL K H a (natsV l) ∨ SqT K H a (natsV l)) ∧ l.length ≤ 50000 ∧ RetL (natsV (counted l)) H Q
theorem pure_counted (vs : List V) (H : Hp) (Q : VK) (E : XK) (h : sp_counted K vs H Q E) : t_counted K { nx := fun _ H' => Q .non H', rt := Q } (start N_counted vs) H := by
  obtain ⟨a, l, rfl, hs, hz, k⟩ := h
  have hz2 : [V.int (l.length : Int)].length + (natsV l).length ≤ 100000 := by rw [natsV_length]; simp; omega
  rcases hs with hs | hs
  · have hl := ev_len (K := K) (σ := start N_counted [.ref a]) (ta := tVar 0) (ev_var rfl) hs
    rw [natsV_length] at hl
    exact s_retL (el_cat (el_lst (ea_cons hl ea_nil) (show 1 ≤ 100000 by decide)) (el_list (ev_var rfl) hs) hz2) k
  · have hl := ev_lenT (K := K) (σ := start N_counted [.ref a]) (ta := tVar 0) (ev_var rfl) hs
    rw [natsV_length] at hl
    exact s_retL (el_cat (el_lst (ea_cons hl ea_nil) (show 1 ≤ 100000 by decide)) (el_listT (ev_var rfl) hs) hz2) k
theorem D_counted (T : Tx K mg) : Df P w K mg base 1 (He.ga K "counted") ["values"] (sp_counted K) := ok_counted T (fun vs H Q E h => by obtain ⟨a, ns, rfl, _⟩ := h; rfl) pure_counted
theorem spl_countedL {m : List Nat} (h : SqL K H a (natsV m)) (hz : m.length ≤ 50000) : SpL (sp_counted K) [.ref a] H (natsV (counted m)) := fun H1 e Q q E => ⟨a, m, rfl, .inl (ex_l e h), hz, q⟩
theorem spl_countedT {m : List Nat} (h : SqT K H a (natsV m)) (hz : m.length ≤ 50000) : SpL (sp_counted K) [.ref a] H (natsV (counted m)) := fun H1 e Q q E => ⟨a, m, rfl, .inr (ex_t e h), hz, q⟩
def sp_end_in_numbers (K : PySem.W.Frag) : Sp := fun vs H Q _ => ∃ (v : V) (e : CmBase.End), vs = [v] ∧ EndAt H v (some e) ∧ e.uses.length ≤ 1000 ∧ RetL (natsV e.nums) H Q
theorem pure_end_in_numbers (vs : List V) (H : Hp) (Q : VK) (E : XK) (h : sp_end_in_numbers K vs H Q E) : t_end_in_numbers K (sp_counted K) { nx := fun _ H' => Q .non H', rt := Q } (start N_end_in_numbers vs) H := by
  obtain ⟨v, e, rfl, hv, hz, k⟩ := h
  cases e with
  | jump t as =>
    obtain ⟨a, p, rfl, ha, hp⟩ := hv
    have hz : as.length ≤ 1000 := hz
    refine q_when (et_ixT (n := 0) (ev_var rfl) ha rfl) (fun _ H1 e1 => ?_) (fun z => by cases z)
    refine s_retL (el_is (el_cat (el_lst (ea_cons (ev_ixT (ev_var rfl) (e1 _ _ ha) rfl) (ea_cons (ev_ixT (ev_var rfl) (e1 _ _ ha) rfl) ea_nil)) (show 2 ≤ 100000 by decide)) (el_call (ea_cons (ev_ixT (ev_var rfl) (e1 _ _ ha) rfl) ea_nil) (spl_countedT (st_of (e1 _ _ hp)) (by omega))) ?_) rfl) (k.pre e1)
    rw [natsV_length]
    simp [counted]
    omega
  | fork x t as u bs =>
    obtain ⟨a, p, q, rfl, ha, hp, hq⟩ := hv
    have hz : as.length + bs.length ≤ 1000 := by
      have : (CmBase.End.fork x t as u bs).uses.length = as.length + bs.length + 1 := by simp [CmBase.End.uses]
      omega
    refine q_when (et_ixT (n := 1) (ev_var rfl) ha rfl) (fun z => by cases z) (fun _ H1 e1 => ?_)
    refine q_when (et_ixT (n := 1) (ev_var rfl) (e1 _ _ ha) rfl) (fun _ H2 e2 => ?_) (fun z => by cases z)
    have e := e1.trans e2
    have ix : ∀ {i : Int} {v : V}, atI [V.int 1, .int x, .int t, .ref p, .int u, .ref q] i = some v → Ev (tOp (rIxT K) (tVar 0) (tC (.int i))) (start N_end_in_numbers [.ref a]) H2 v := fun h => ev_ixT (ev_var rfl) (e _ _ ha) h
    have l1 := el_cat (el_lst (ea_cons (ix (i := 0) rfl) (ea_cons (ix (i := 1) rfl) (ea_cons (ix (i := 2) rfl) ea_nil))) (show 3 ≤ 100000 by decide)) (el_call (E := E0) (dvs := []) (ea_cons (ix (i := 3) rfl) ea_nil) (spl_countedT (K := K) (st_of (e _ _ hp)) (by omega))) (by rw [natsV_length]; simp [counted]; omega)
    have l2 := el_cat l1 (el_lst (ea_cons (ix (i := 4) rfl) ea_nil) (show 1 ≤ 100000 by decide)) (by rw [List.length_append, natsV_length]; simp [counted]; omega)
    have l3 := el_cat l2 (el_call (E := E0) (dvs := []) (ea_cons (ix (i := 5) rfl) ea_nil) (spl_countedT (K := K) (st_of (e _ _ hq)) (by omega))) (by rw [List.length_append, List.length_append, natsV_length, natsV_length]; simp [counted]; omega)
    refine s_retL (el_is l3 ?_) (k.pre e)
    show _ = natsV ([1, x, t] ++ counted as ++ [u] ++ counted bs)
    rw [natsV_append, natsV_append, natsV_append]
    rfl
  | give x =>
    obtain ⟨a, rfl, ha⟩ := hv
    refine q_when (et_ixT (n := 2) (ev_var rfl) ha rfl) (fun z => by cases z) (fun _ H1 e1 => ?_)
    refine q_when (et_ixT (n := 2) (ev_var rfl) (e1 _ _ ha) rfl) (fun z => by cases z) (fun _ H2 e2 => ?_)
    exact s_retL (el_lst (ea_cons (ev_ixT (ev_var rfl) (e2 _ _ (e1 _ _ ha)) rfl) (ea_cons (ev_ixT (ev_var rfl) (e2 _ _ (e1 _ _ ha)) rfl) ea_nil)) (show 2 ≤ 100000 by decide)) ((k.pre e1).pre e2)
theorem D_end_in_numbers (T : Tx K mg) : Df P w K mg base 2 (He.ga K "end_in_numbers") ["end"] (sp_end_in_numbers K) := ok_end_in_numbers T (D_counted T) (fun vs H Q E h => by obtain ⟨a, ns, rfl, _⟩ := h; rfl) pure_end_in_numbers
theorem spl_end_in_numbers {v : V} {e : CmBase.End} (hv : EndAt H v (some e)) (hz : e.uses.length ≤ 1000) : SpL (sp_end_in_numbers K) [v] H (natsV e.nums) := fun H1 ex Q q E => ⟨v, e, rfl, hv.ex ex, hz, q⟩
theorem rowV_nums {r : Row} : rowV r = natsV r.nums := by cases r <;> rfl
theorem row_nums_len (r : Row) : r.nums.length ≤ 5 := by cases r <;> simp [Row.nums]
theorem end_nums_len {e : CmBase.End} (h : e.uses.length ≤ 17) : e.nums.length ≤ 30 := by
  cases e with
  | jump t as => have h : as.length ≤ 17 := h; simp [CmBase.End.nums, counted]; omega
  | fork x t as u bs =>
    have : (CmBase.End.fork x t as u bs).uses.length = as.length + bs.length + 1 := by simp [CmBase.End.uses]
    simp [CmBase.End.nums, counted]
    omega
  | give x => simp [CmBase.End.nums]
theorem block_nums_len (ok : BodyOk b.takes b.rows) (ol : EndOk b.last) : b.nums.length ≤ 200 := by
  unfold CmBase.Block.nums
  have h1 := flat_len (f := Row.nums) (m := 5) (l := b.rows) fun r _ => row_nums_len r
  have h2 := end_nums_len ol.few
  have := ok.few
  have := ok.len
  simp only [counted, List.length_append, List.length_cons]
  have : b.rows.length * 5 ≤ 12 * 5 := Nat.mul_le_mul_right _ (by omega)
  omega
def sp_block_in_numbers (K : PySem.W.Frag) : Sp := fun vs H Q _ => ∃ (a : Addr) (b : CmBase.Block), vs = [.ref a] ∧ BAt K H a b ∧ BodyOk b.takes b.rows ∧ EndOk b.last ∧ RetL (natsV b.nums) H Q
theorem pure_block_in_numbers (T : Tx K mg) (vs : List V) (H : Hp) (Q : VK) (E : XK) (h : sp_block_in_numbers K vs H Q E) : t_block_in_numbers K (sp_counted K) (sp_end_in_numbers K) { nx := fun _ H' => Q .non H', rt := Q } (start N_block_in_numbers vs) H := by
  obtain ⟨a, b, rfl, hb, ok, ol, k⟩ := h
  obtain ⟨tk, htk, etk⟩ := hb.taken T
  obtain ⟨rl, vs, hrl, hrows, erl⟩ := hb.rows T
  obtain ⟨ev, hev, eev⟩ := hb.end_ T
  have few := ok.few
  have hlr : EvL (tLst (tCons (tCB (rLenS K) (tCons (tFld K (tVar 0) "rows") tNil)) tNil)) (start N_block_in_numbers [.ref a]) H (natsV [b.rows.length]) := by
    have hl := ev_len (K := K) (erl (Ex.refl H) (ev_var (σ := start N_block_in_numbers [.ref a]) (i := 0) rfl)) (sq_of hrl)
    rw [hrows.len] at hl
    exact el_lst (ea_cons hl ea_nil) (show 1 ≤ 100000 by decide)
  refine q_asgL (el_cat (el_call (ea_cons (etk (Ex.refl H) (ev_var rfl)) ea_nil) (spl_countedT (st_of htk) (by omega))) hlr (by rw [natsV_length]; simp [counted, natsV]; omega)) fun l H1 hn e1 hl => ?_
  rw [← natsV_append] at hl
  have rowsz : ∀ i, ((b.rows.take i).flatMap Row.nums).length ≤ 60 := fun i => by
    have h1 := flat_len (f := Row.nums) (m := 5) (l := b.rows.take i) fun r _ => row_nums_len r
    have h2 := List.length_take_le' i b.rows
    have := ok.len
    have : (b.rows.take i).length * 5 ≤ 12 * 5 := Nat.mul_le_mul_right _ (by omega)
    omega
  refine q_forLn (erl e1 (ev_var rfl)) (sq_of (e1 _ _ hrl)) (fun i σ' H' => (∃ w, σ' = [some (.ref a), some (.ref l), w]) ∧ Gr H l (natsV (counted b.takes ++ [b.rows.length] ++ (b.rows.take i).flatMap Row.nums)) H') (fun H2 e2 => ⟨⟨_, rfl⟩, hn, e1.trans e2, by rw [List.take_zero]; simpa using e2 _ _ hl⟩) (fun i σ' H' _ p => sq_of (p.2.ex _ _ hrl)) (fun i x σ' H' hx p => ?_) (fun σ' H' p => ?_)
  · obtain ⟨⟨w, rfl⟩, g⟩ := p
    obtain ⟨r, ra, hr, rfl, hra⟩ := hrows.at_ hx
    rw [rowV_nums] at hra
    refine s_extT g.at_ (ev_var rfl) (ev_var rfl) (st_of (g.ex _ _ hra)) ?_ fun H2 e2 => ⟨⟨_, rfl⟩, ?_⟩
    · have := rowsz i
      have := row_nums_len r
      rw [natsV_length, natsV_length, List.length_append, List.length_append]
      simp only [counted, List.length_cons, List.length_nil]
      omega
    · rw [take_next hr, List.flatMap_append, List.flatMap_singleton, ← List.append_assoc, natsV_append _ r.nums]
      exact g.put e2
  · obtain ⟨⟨w, rfl⟩, g⟩ := p
    rw [show vs.length = b.rows.length from hrows.len] at g
    have rz := rowsz b.rows.length
    rw [List.take_length] at g rz
    refine s_retL (el_is (el_catV (ev_var rfl) g.at_ (el_call (ea_cons (eev g.ex (ev_var rfl)) ea_nil) (spl_end_in_numbers (hev.ex g.ex) (by have := ol.few; omega))) ?_) ?_) (k.pre g.ex)
    · have := end_nums_len ol.few
      rw [natsV_length, natsV_length, List.length_append, List.length_append]
      simp only [counted, List.length_cons, List.length_nil]
      omega
    · rw [← natsV_append]
      unfold CmBase.Block.nums
      rw [List.append_assoc (counted b.takes)]
      rfl
theorem D_block_in_numbers (T : Tx K mg) : Df P w K mg base 3 (He.ga K "block_in_numbers") ["block"] (sp_block_in_numbers K) := ok_block_in_numbers T (D_counted T) (D_end_in_numbers T) (fun vs H Q E h => by obtain ⟨a, ns, rfl, _⟩ := h; rfl) (pure_block_in_numbers T)
theorem spl_block_in_numbers (hb : BAt K H a b) (ok : BodyOk b.takes b.rows) (ol : EndOk b.last) : SpL (sp_block_in_numbers K) [.ref a] H (natsV b.nums) := fun H1 e Q q E => ⟨a, b, rfl, hb.ex e, ok, ol, q⟩
def sp_code_in_numbers (K : PySem.W.Frag) : Sp := fun vs H Q _ => ∃ (c : Addr) (cd : CmBase.Code) (bl : Addr) (bs : List Addr), vs = [.ref c] ∧ CAt K H c cd bl bs ∧ COk cd ∧ RetL (natsV cd.nums) H Q
theorem pure_code_in_numbers (T : Tx K mg) (vs : List V) (H : Hp) (Q : VK) (E : XK) (h : sp_code_in_numbers K vs H Q E) : t_code_in_numbers K (sp_block_in_numbers K) { nx := fun _ H' => Q .non H', rt := Q } (start N_code_in_numbers vs) H := by
  obtain ⟨c, cd, bl, bs, rfl, hc, ok, k⟩ := h
  refine q_asgL (el_lst (ea_cons (ev_words T hc (ev_var rfl)) (ea_cons (ev_many T hc (ev_var rfl)) ea_nil)) (show 2 ≤ 100000 by decide)) fun l H1 hn e1 hl => ?_
  refine q_forLn (ev_blocks T (hc.ex e1) (ev_var rfl)) (sq_of (e1 _ _ hc.lst)) (fun i σ' H' => (∃ w, σ' = [some (.ref c), some (.ref l), w]) ∧ Gr H l (natsV ([cd.args, cd.blocks.length] ++ (cd.blocks.take i).flatMap CmBase.Block.nums)) H') (fun H2 e2 => ⟨⟨_, rfl⟩, hn, e1.trans e2, e2 _ _ hl⟩) (fun i σ' H' _ p => sq_of (p.2.ex _ _ hc.lst)) (fun i x σ' H' hx p => ?_) (fun σ' H' p => ?_)
  · obtain ⟨⟨w, rfl⟩, g⟩ := p
    obtain ⟨a, b, rfl, hb, _, hab⟩ := hc.mem hx
    have hm := List.mem_of_getElem? hb
    refine s_ext g.at_ (ev_var rfl) (el_call (ea_cons (ev_var rfl) ea_nil) (spl_block_in_numbers (hab.ex g.ex) (ok.body b hm) (ok.last b hm))) ?_ fun H2 e2 => ⟨⟨_, rfl⟩, ?_⟩
    · rw [natsV_length, natsV_length, List.length_append]
      have := flat_len (f := CmBase.Block.nums) (m := 200) (l := cd.blocks.take i) fun b hb => block_nums_len (ok.body b (List.mem_of_mem_take hb)) (ok.last b (List.mem_of_mem_take hb))
      have := List.length_take_le' i cd.blocks
      have := ok.len
      have := block_nums_len (ok.body b hm) (ok.last b hm)
      have : (cd.blocks.take i).length * 200 ≤ 10 * 200 := Nat.mul_le_mul_right _ (by omega)
      have : [cd.args, cd.blocks.length].length = 2 := rfl
      omega
    · rw [take_next hb, List.flatMap_append, List.flatMap_singleton, ← List.append_assoc, natsV_append _ b.nums]
      exact g.put e2
  · obtain ⟨⟨w, rfl⟩, g⟩ := p
    rw [List.length_map, hc.len, List.take_length] at g
    exact s_ret (ev_var rfl) fun H2 e2 => (g.step e2).ret k
theorem D_code_in_numbers (T : Tx K mg) : Df P w K mg base 4 (He.ga K "code_in_numbers") ["code"] (sp_code_in_numbers K) := ok_code_in_numbers T (D_block_in_numbers T) (fun vs H Q E h => by obtain ⟨a, b, d, e, rfl, _⟩ := h; rfl) (pure_code_in_numbers T)
theorem spl_code_in_numbers (hc : CAt K H c cd bl bs) (ok : COk cd) : SpL (sp_code_in_numbers K) [.ref c] H (natsV cd.nums) := fun H1 e Q q E => ⟨c, cd, bl, bs, rfl, hc.ex e, ok, q⟩
end
end VS
/-! Promises and their proofs: block, rows, ends. -/
namespace VS
open PySem L2 Evl CmBase
section
variable {P : Program} {w : World} {K : PySem.W.Frag} {mg : Str → Option Value} {base : Heap} {H H' : Hp} {c : Addr} {s : Cm03.St} {Y : Lay}
/-! ### one thing changes, which is no tuple -/
structure But (H H' : Hp) (m : Addr) : Prop where
  same : ∀ a o, H a = some o → a ≠ m → H' a = some o
  nt : ∀ xs, H m ≠ some (.tup xs)
theorem But.tup (h : But H H' m) {a : Addr} {xs : List V} (e : H a = some (.tup xs)) : H' a = some (.tup xs) := h.same a _ e fun q => h.nt xs (q ▸ e)
theorem RowsAt.but {m : Addr} (h : But H H' m) {vs : List V} {rows : List Row} (r : RowsAt H vs rows) : RowsAt H' vs rows := ⟨r.len, fun i q hq => by
  obtain ⟨a, h1, h2⟩ := r.row i q hq
  exact ⟨a, h1, h.tup h2⟩⟩
theorem EndAt.but {m : Addr} (h : But H H' m) {v : V} : ∀ {o : Option CmBase.End}, EndAt H v o → EndAt H' v o
  | none, q => q
  | some (.jump _ _), ⟨a, p, h1, h2, h3⟩ => ⟨a, p, h1, h.tup h2, h.tup h3⟩
  | some (.fork _ _ _ _ _), ⟨a, p, q, h1, h2, h3, h4⟩ => ⟨a, p, q, h1, h.tup h2, h.tup h3, h.tup h4⟩
  | some (.give _), ⟨a, h1, h2⟩ => ⟨a, h1, h.tup h2⟩
theorem BkAt.but {m b r : Addr} {k : Bk} (h : But H H' m) (hb : b ≠ m) (hr : r ≠ m) (q : BkAt K H b r k) : BkAt K H' b r k := by
  obtain ⟨dx, tk, vs, ev, h1, h2, h3, h4, h5⟩ := q
  exact ⟨dx, tk, vs, ev, h.same _ _ h1 hb, h.tup h2, h.same _ _ h3 hr, h4.but h, h5.but h⟩
theorem BkAt.ne {b r m : Addr} {k : Bk} (q : BkAt K H b r k) {xs : List V} (hm : H m = some (.lst xs)) : b ≠ m := by
  obtain ⟨dx, tk, vs, ev, h1, _⟩ := q
  exact ne_of h1 hm (by intro z; cases z)
theorem BkAt.neI {b r m : Addr} {k : Bk} (q : BkAt K H b r k) {C dx : Addr} {fs : List (Str × V)} (hm : H m = some (.ins C dx fs)) : r ≠ m := by
  obtain ⟨_, tk, vs, ev, _, _, h3, _⟩ := q
  exact ne_of h3 hm (by intro z; cases z)
theorem BkAt.neC {b r m : Addr} {k : Bk} (q : BkAt K H b r k) {C dx bl : Addr} {n : Nat} (hm : H m = some (.ins C dx (cF n bl))) : b ≠ m := by
  obtain ⟨_, tk, vs, ev, h1, _⟩ := q
  exact ne_of h1 hm (by intro z; simp [bF, cF] at z)
theorem in_foot_c : c ∈ foot c Y := by simp [foot]
theorem in_foot_bl : Y.bl ∈ foot c Y := by simp [foot]
theorem in_foot_b {b : Addr} (h : b ∈ Y.bs) : b ∈ foot c Y := by simp [foot, h]
theorem in_foot_r {r : Addr} (h : r ∈ Y.rs) : r ∈ foot c Y := by simp [foot, h]
theorem mem_foot {a : Addr} : a ∈ foot c Y ↔ a = c ∨ a = Y.bl ∨ a ∈ Y.bs ∨ a ∈ Y.rs := by simp [foot]
theorem CodeAt.ne_c_bl (h : CodeAt K H c s Y) : c ≠ Y.bl := by
  obtain ⟨dx, ho⟩ := h.obj
  exact ne_of ho h.lst (by intro z; cases z)
/-- each block's things by their places -/
theorem CodeAt.at_ (h : CodeAt K H c s Y) {i : Nat} {b r : Addr} (hb : Y.bs[i]? = some b) (hr : Y.rs[i]? = some r) : ∃ k, (blks s)[i]? = some k ∧ BkAt K H b r k := by
  have hi : i < (blks s).length := by rw [← h.lenB]; exact (List.getElem?_eq_some_iff.mp hb).1
  obtain ⟨b', r', q1, q2, q3⟩ := h.blk i _ (List.getElem?_eq_getElem hi)
  rw [hb] at q1
  rw [hr] at q2
  cases q1
  cases q2
  exact ⟨_, List.getElem?_eq_getElem hi, q3⟩
theorem CodeAt.mem_b (h : CodeAt K H c s Y) {b : Addr} (hb : b ∈ Y.bs) : ∃ r k, BkAt K H b r k := by
  obtain ⟨i, hi⟩ := List.mem_iff_getElem?.mp hb
  have li : i < Y.rs.length := by rw [h.lenR, ← h.lenB]; exact (List.getElem?_eq_some_iff.mp hi).1
  obtain ⟨k, _, q⟩ := h.at_ hi (List.getElem?_eq_getElem li)
  exact ⟨_, k, q⟩
theorem CodeAt.mem_r (h : CodeAt K H c s Y) {r : Addr} (hr : r ∈ Y.rs) : ∃ b k, BkAt K H b r k := by
  obtain ⟨i, hi⟩ := List.mem_iff_getElem?.mp hr
  have li : i < Y.bs.length := by rw [h.lenB, ← h.lenR]; exact (List.getElem?_eq_some_iff.mp hi).1
  obtain ⟨k, _, q⟩ := h.at_ (List.getElem?_eq_getElem li) hi
  exact ⟨_, k, q⟩
/-! ### a new block is put behind -/
theorem CodeAt.push (h : CodeAt K H c s Y) (hn : s.opened = none) {ts : List Nat} {b r dx tk : Addr} (fb : H b = none) (fr : H r = none) (nbr : b ≠ r)
    (same : ∀ a o, H a = some o → a ≠ Y.bl → H' a = some o) (hl : H' Y.bl = some (.lst (Y.bs.map V.ref ++ [.ref b])))
    (hb : H' b = some (.ins (He.ga K "Block") dx (bF tk r .non))) (ht : H' tk = some (.tup (natsV ts))) (hr : H' r = some (.lst [])) :
    CodeAt K H' c ⟨s.code, some (ts, [])⟩ ⟨Y.bl, Y.bs ++ [b], Y.rs ++ [r]⟩ := by
  obtain ⟨dc, ho⟩ := h.obj
  have bt : But H H' Y.bl := ⟨same, fun xs z => by rw [h.lst] at z; cases z⟩
  have eb : blks ⟨s.code, some (ts, [])⟩ = blks s ++ [⟨ts, [], none⟩] := by
    rw [blks_opened (s := ⟨s.code, some (ts, [])⟩) rfl, blks_closed hn]
  refine ⟨⟨dc, same _ _ ho h.ne_c_bl⟩, ?_, ?_, ?_, fun i k hk => ?_, ?_, ?_⟩
  · rw [List.map_append]; exact hl
  · rw [eb, List.length_append, List.length_append, h.lenB]; rfl
  · rw [eb, List.length_append, List.length_append, h.lenR]; rfl
  · rw [eb] at hk
    by_cases hi : i < (blks s).length
    · rw [List.getElem?_append_left hi] at hk
      obtain ⟨b', r', q1, q2, q3⟩ := h.blk i k hk
      refine ⟨b', r', ?_, ?_, q3.but bt (q3.ne h.lst) ?_⟩
      · rw [List.getElem?_append_left (by rw [h.lenB]; exact hi)]; exact q1
      · rw [List.getElem?_append_left (by rw [h.lenR]; exact hi)]; exact q2
      · intro z
        have := (List.nodup_cons.mp h.ndR).1
        exact this (z ▸ List.mem_of_getElem? q2)
    · rw [List.getElem?_append_right (by omega)] at hk
      have hi2 : i - (blks s).length = 0 := by
        have := (List.getElem?_eq_some_iff.mp hk).1
        simpa using this
      rw [hi2] at hk
      cases hk
      refine ⟨b, r, ?_, ?_, dx, tk, [], .non, hb, ht, hr, ⟨rfl, fun i r hr => by simp at hr⟩, rfl⟩
      · rw [List.getElem?_append_right (by rw [h.lenB]; omega), h.lenB, hi2]; rfl
      · rw [List.getElem?_append_right (by rw [h.lenR]; omega), h.lenR, hi2]; rfl
  · refine List.nodup_append.mpr ⟨h.ndB, by simp, fun x hx y hy z => ?_⟩
    have : y = b := by simpa using hy
    subst this
    subst z
    obtain ⟨r', k', dx', _, _, _, q, _⟩ := h.mem_b hx
    rw [fb] at q
    cases q
  · have : (Y.bl :: (Y.rs ++ [r])) = (Y.bl :: Y.rs) ++ [r] := rfl
    rw [this]
    refine List.nodup_append.mpr ⟨h.ndR, by simp, fun x hx y hy z => ?_⟩
    have : y = r := by simpa using hy
    subst this
    subst z
    rcases List.mem_cons.mp hx with e | e
    · subst e
      rw [h.lst] at fr
      cases fr
    · obtain ⟨b', k', dx', _, _, _, _, _, q, _⟩ := h.mem_r e
      rw [fr] at q
      cases q
/-- the last block is another -/
theorem CodeAt.relast (h : CodeAt K H c s Y) {s' : Cm03.St} {ks : List Bk} {k k' : Bk} {bs rs : List Addr} {b r m : Addr} (e : blks s = ks ++ [k]) (e' : blks s' = ks ++ [k']) (ha : s'.code.args = s.code.args) (eb : Y.bs = bs ++ [b]) (er : Y.rs = rs ++ [r])
    (bt : But H H' m) (mc : m ≠ c) (ml : m ≠ Y.bl) (mb : m ∉ bs) (mr : m ∉ rs) (q : BkAt K H' b r k') : CodeAt K H' c s' Y := by
  obtain ⟨dc, ho⟩ := h.obj
  have lk : bs.length = ks.length := by
    have := h.lenB
    rw [e, eb, List.length_append, List.length_append] at this
    simpa using this
  have lr : rs.length = ks.length := by
    have := h.lenR
    rw [e, er, List.length_append, List.length_append] at this
    simpa using this
  refine ⟨⟨dc, ?_⟩, bt.same _ _ h.lst (Ne.symm ml), ?_, ?_, fun i x hx => ?_, h.ndB, h.ndR⟩
  · rw [ha]; exact bt.same _ _ ho (Ne.symm mc)
  · rw [h.lenB, e, e', List.length_append, List.length_append]; rfl
  · rw [h.lenR, e, e', List.length_append, List.length_append]; rfl
  · rw [e'] at hx
    by_cases hi : i < ks.length
    · rw [List.getElem?_append_left hi] at hx
      obtain ⟨b', r', q1, q2, q3⟩ := h.blk i x (by rw [e, List.getElem?_append_left hi]; exact hx)
      refine ⟨b', r', q1, q2, q3.but bt ?_ ?_⟩
      · rw [eb, List.getElem?_append_left (by omega)] at q1
        intro z
        exact mb (z ▸ List.mem_of_getElem? q1)
      · rw [er, List.getElem?_append_left (by omega)] at q2
        intro z
        exact mr (z ▸ List.mem_of_getElem? q2)
    · rw [List.getElem?_append_right (by omega)] at hx
      have hi2 : i - ks.length = 0 := by
        have := (List.getElem?_eq_some_iff.mp hx).1
        simpa using this
      rw [hi2] at hx
      cases hx
      refine ⟨b, r, ?_, ?_, q⟩
      · rw [eb, List.getElem?_append_right (by omega), lk, hi2]; rfl
      · rw [er, List.getElem?_append_right (by omega), lr, hi2]; rfl
/-! ### numbers as they stand in lists -/
theorem natsV_ints (l : List Nat) : natsV l = (l.map fun (n : Nat) => (n : Int)).map V.int := by
  unfold natsV
  rw [List.map_map]
  rfl
theorem all_names (l : List Nat) : ((l.map fun (n : Nat) => (n : Int)).all fun n => decide (n ≤ 39)) = l.all Cm03.isName := by
  rw [List.all_map]
  refine congrArg (fun f => l.all f) (funext fun n => ?_)
  show decide ((n : Int) ≤ 39) = decide (n < 40)
  exact decide_eq_decide.mpr (by omega)
theorem all_tgts (l : List Nat) : ((l.map fun (n : Nat) => (n : Int)).all fun n => decide (1 ≤ n) && decide (n ≤ 9)) = l.all Cm03.isTarget := by
  rw [List.all_map]
  refine congrArg (fun f => l.all f) (funext fun n => ?_)
  show (decide ((1 : Int) ≤ n) && decide ((n : Int) ≤ 9)) = (decide (1 ≤ n) && decide (n < 10))
  rw [decide_eq_decide.mpr (show (1 : Int) ≤ n ↔ 1 ≤ n by omega), decide_eq_decide.mpr (show (n : Int) ≤ 9 ↔ n < 10 by omega)]
theorem spv_values {a : Addr} {l : List Nat} (hl : l.length ≤ 1000) (h : SqL K H a (natsV l)) : SpV (sp_all_values K) [.ref a] H (.bl (l.all Cm03.isName)) := by
  intro H1 e Q q E
  refine ⟨a, _, rfl, natsV_ints l ▸ ex_l e h, by rw [List.length_map]; exact hl, ?_⟩
  rw [all_names]
  exact q
theorem spv_targets {a : Addr} {l : List Nat} (hl : l.length ≤ 1000) (h : SqL K H a (natsV l)) : SpV (sp_all_targets K) [.ref a] H (.bl (l.all Cm03.isTarget)) := by
  intro H1 e Q q E
  refine ⟨a, _, rfl, natsV_ints l ▸ ex_l e h, by rw [List.length_map]; exact hl, ?_⟩
  rw [all_tgts]
  exact q
theorem natsV_len (l : List Nat) : (natsV l).length = l.length := List.length_map ..
end
end VS
/-! The program's search, and fairness as the program looks for it. Plain Lean, no model. -/
namespace VS
open CmBase
/-- which block is left out -/
def badOf (lo : Option Nat) (v : Nat) : Bool := lo == some v
def addT (lo : Option Nat) (f : List Nat) (t : Nat) : List Nat := if !badOf lo t && !f.contains t then f ++ [t] else f
def addAll (lo : Option Nat) (f ts : List Nat) : List Nat := ts.foldl (addT lo) f
def bfsGo (c : Code) (lo : Option Nat) : Nat → List Nat → Nat → List Nat
  | 0, f, _ => f
  | k + 1, f, i => match f[i]? with
    | none => f
    | some v => bfsGo c lo k (addAll lo f (Cm03.blockAt c v).last.targets) (i + 1)
def bfs0 (lo : Option Nat) : List Nat := if lo = some 0 then [] else [0]
def bfs (c : Code) (lo : Option Nat) : List Nat := bfsGo c lo (c.blocks.length + 1) (bfs0 lo) 0
structure Added (lo : Option Nat) (f ts g : List Nat) : Prop where
  pre : ∃ m, g = f ++ m
  nd : f.Nodup → g.Nodup
  from_ : ∀ v ∈ g, v ∈ f ∨ (v ∈ ts ∧ badOf lo v = false)
  all : ∀ t ∈ ts, badOf lo t = false → t ∈ g
theorem added (lo : Option Nat) : ∀ (ts f : List Nat), Added lo f ts (addAll lo f ts)
  | [], f => ⟨⟨[], (List.append_nil f).symm⟩, fun h => h, fun v h => .inl h, fun t h => by simp at h⟩
  | t :: ts, f => by
    have ih := added lo ts (addT lo f t)
    have e : addAll lo f (t :: ts) = addAll lo (addT lo f t) ts := rfl
    rw [e]
    have one : (∃ m, addT lo f t = f ++ m) ∧ (f.Nodup → (addT lo f t).Nodup) ∧ (∀ v ∈ addT lo f t, v ∈ f ∨ (v = t ∧ badOf lo v = false)) ∧ (badOf lo t = false → t ∈ addT lo f t) := by
      unfold addT
      by_cases h : (!badOf lo t && !f.contains t) = true
      · rw [if_pos h]
        rw [Bool.and_eq_true] at h
        have h1 : badOf lo t = false := by simpa using h.1
        have h2 : t ∉ f := by simpa using h.2
        refine ⟨⟨[t], rfl⟩, fun nd => List.nodup_append.mpr ⟨nd, by simp, fun a ha b hb e0 => ?_⟩, fun v hv => ?_, fun _ => by simp⟩
        · have : b = t := by simpa using hb
          rw [e0, this] at ha
          exact h2 ha
        · rcases List.mem_append.mp hv with q | q
          · exact .inl q
          · have : v = t := by simpa using q
            exact .inr ⟨this, this ▸ h1⟩
      · rw [if_neg h]
        refine ⟨⟨[], (List.append_nil f).symm⟩, fun h => h, fun v h => .inl h, fun hb => ?_⟩
        rw [hb] at h
        simpa using h
    obtain ⟨⟨m, hm⟩, nd1, fr1, al1⟩ := one
    obtain ⟨m2, hm2⟩ := ih.pre
    refine ⟨⟨m ++ m2, by rw [hm2, hm, List.append_assoc]⟩, fun h => ih.nd (nd1 h), fun v hv => ?_, fun x hx hb => ?_⟩
    · rcases ih.from_ v hv with q | q
      · rcases fr1 v q with q | q
        · exact .inl q
        · exact .inr ⟨by rw [q.1]; simp, q.2⟩
      · exact .inr ⟨List.mem_cons_of_mem _ q.1, q.2⟩
    · rcases List.mem_cons.mp hx with q | q
      · subst q
        rw [hm2]
        exact List.mem_append_left _ (al1 hb)
      · exact ih.all x q hb
/-- the word of the search -/
structure Bf (c : Code) (lo : Option Nat) (f : List Nat) (i : Nat) : Prop where
  nd : f.Nodup
  lt : ∀ v ∈ f, v < c.blocks.length
  sound : ∀ v ∈ f, Way (badOf lo) (Cm03.graphOf c).es 0 v
  zero : lo ≠ some 0 → 0 ∈ f
  none_ : lo = some 0 → f = []
  le : i ≤ f.length
  closed : ∀ (k v : Nat), k < i → f[k]? = some v → ∀ t ∈ (Cm03.blockAt c v).last.targets, badOf lo t = false → t ∈ f
  ord : ∀ (k v : Nat), f[k]? = some v → (k = 0 ∧ v = 0) ∨ ∃ k' u, k' < k ∧ f[k']? = some u ∧ v ∈ (Cm03.blockAt c u).last.targets
theorem bf_begin {c : Code} (w : Whole c) (lo : Option Nat) : Bf c lo (bfs0 lo) 0 := by
  unfold bfs0
  by_cases h : lo = some 0
  · rw [if_pos h]
    exact ⟨List.nodup_nil, fun v h => (by cases h), fun v h => (by cases h), fun q => absurd h q, fun _ => rfl, Nat.zero_le _, fun k v q => by omega, fun k v q => by simp at q⟩
  · rw [if_neg h]
    refine ⟨by simp, fun v q => ?_, fun v q => ?_, fun _ => by simp, fun q => absurd q h, Nat.zero_le _, fun k v q => by omega, fun k v q => ?_⟩
    · have : v = 0 := by simpa using q
      have := w.one
      omega
    · have : v = 0 := by simpa using q
      subst this
      exact .here
    · cases k with
      | zero => exact .inl ⟨rfl, by simpa using q.symm⟩
      | succ k => simp at q
theorem Bf.len {c : Code} {lo : Option Nat} {f : List Nat} {i : Nat} (h : Bf c lo f i) : f.length ≤ c.blocks.length := by
  have := List.Nodup.length_le_of_subset h.nd (l₂ := List.range c.blocks.length) fun v hv => List.mem_range.mpr (h.lt v hv)
  simpa using this
theorem Bf.step {c : Code} (w : Whole c) {lo : Option Nat} {f : List Nat} {i v : Nat} (h : Bf c lo f i) (hv : f[i]? = some v) : Bf c lo (addAll lo f (Cm03.blockAt c v).last.targets) (i + 1) := by
  have A := added lo (Cm03.blockAt c v).last.targets f
  obtain ⟨m, hm⟩ := A.pre
  have vm := List.mem_of_getElem? hv
  have vl := h.lt v vm
  have hi : i < f.length := (List.getElem?_eq_some_iff.mp hv).1
  refine ⟨A.nd h.nd, fun x hx => ?_, fun x hx => ?_, fun q => ?_, fun q => ?_, ?_, fun k x hk hx t ht hb => ?_, fun k x hx => ?_⟩
  · rcases A.from_ x hx with q | q
    · exact h.lt x q
    · exact (w.to v vl x q.1).2
  · rcases A.from_ x hx with q | q
    · exact h.sound x q
    · exact .on (h.sound v vm) (mem_es.mpr ⟨vl, (w.to v vl x q.1).2, q.1⟩) q.2
  · rw [hm]
    exact List.mem_append_left _ (h.zero q)
  · have := h.none_ q
    rw [this] at hi
    simp at hi
  · rw [hm, List.length_append]
    omega
  · have hk2 : k < f.length := by omega
    rw [hm, List.getElem?_append_left hk2] at hx
    rcases Nat.lt_or_ge k i with q | q
    · rw [hm]
      exact List.mem_append_left _ (h.closed k x q hx t ht hb)
    · have : k = i := by omega
      subst this
      rw [hv] at hx
      cases hx
      exact A.all t ht hb
  · by_cases hk : k < f.length
    · rw [hm, List.getElem?_append_left hk] at hx
      rcases h.ord k x hx with q | ⟨k', u, q1, q2, q3⟩
      · exact .inl q
      · refine .inr ⟨k', u, q1, ?_, q3⟩
        rw [hm, List.getElem?_append_left (by omega)]
        exact q2
    · right
      refine ⟨i, v, by omega, ?_, ?_⟩
      · rw [hm, List.getElem?_append_left hi]
        exact hv
      · rcases A.from_ x (List.mem_of_getElem? hx) with q | q
        · exfalso
          obtain ⟨k2, hk2⟩ := List.mem_iff_getElem?.mp q
          have l2 := (List.getElem?_eq_some_iff.mp hk2).1
          have nd := A.nd h.nd
          have e1 : (addAll lo f (Cm03.blockAt c v).last.targets)[k2]? = some x := by rw [hm, List.getElem?_append_left l2]; exact hk2
          have lk := (List.getElem?_eq_some_iff.mp hx).1
          have := (List.getElem?_inj (i := k) (j := k2) lk nd).mp (by rw [hx, e1])
          omega
        · exact q.1
theorem bfsGo_end {c : Code} (w : Whole c) {lo : Option Nat} : ∀ (k : Nat) {f : List Nat} {i : Nat}, Bf c lo f i → c.blocks.length + 1 ≤ k + i → ∃ i', Bf c lo (bfsGo c lo k f i) i' ∧ i' = (bfsGo c lo k f i).length
  | 0, f, i, h, hk => by
    have := h.len
    have := h.le
    omega
  | k + 1, f, i, h, hk => by
    unfold bfsGo
    cases q : f[i]? with
    | none =>
      have := List.getElem?_eq_none_iff.mp q
      have := h.le
      exact ⟨i, h, by show i = f.length; omega⟩
    | some v => exact bfsGo_end w k (h.step w q) (by omega)
theorem bfs_bf {c : Code} (w : Whole c) (lo : Option Nat) : Bf c lo (bfs c lo) (bfs c lo).length := by
  obtain ⟨i, h, e⟩ := bfsGo_end w (lo := lo) (c.blocks.length + 1) (bf_begin w lo) (by omega)
  rw [e] at h
  exact h
theorem mem_bfs {c : Code} (w : Whole c) {lo : Option Nat} {v : Nat} : v ∈ bfs c lo ↔ lo ≠ some 0 ∧ Way (badOf lo) (Cm03.graphOf c).es 0 v := by
  have h := bfs_bf w lo
  constructor
  · intro hv
    refine ⟨fun q => ?_, h.sound v hv⟩
    rw [h.none_ q] at hv
    cases hv
  · rintro ⟨h0, hw⟩
    refine way_in (fun e he h1 hb => ?_) (h.zero h0) hw
    obtain ⟨k, hk⟩ := List.mem_iff_getElem?.mp h1
    have m := mem_es.mp (show (e.1, e.2) ∈ _ from he)
    exact h.closed k e.1 (List.getElem?_eq_some_iff.mp hk).1 hk e.2 m.2.2 hb
theorem bad_some {d : Nat} : badOf (some d) = fun v => v == d := by
  funext v
  show (some d == some v) = (v == d)
  by_cases h : v = d
  · subst h; simp
  · have h' : ¬ d = v := fun e => h e.symm
    rw [show (v == d) = false from by simpa using h]
    simpa using h'
theorem bad_none : badOf none = fun _ => false := rfl
theorem dom_bfs {c : Code} (w : Whole c) {d j : Nat} : j ∉ bfs c (some d) ↔ Dom (Cm03.graphOf c).es d j := by
  rw [mem_bfs w, bad_some]
  unfold Dom
  constructor
  · intro h h0 hw
    exact h ⟨fun q => h0 (Option.some.inj q), hw⟩
  · rintro h ⟨h0, hw⟩
    exact h (fun q => h0 (by rw [q])) hw
theorem reached_bfs {c : Code} (w : Whole c) : (bfs c none).length = c.blocks.length ↔ ∀ i, i < c.blocks.length → Way (fun _ => false) (Cm03.graphOf c).es 0 i := by
  have h := bfs_bf w none
  constructor
  · intro e i hi
    have : i ∈ bfs c none := by
      refine Classical.byContradiction fun q => ?_
      have sub : (i :: bfs c none) ⊆ List.range c.blocks.length := fun v hv => by
        rcases List.mem_cons.mp hv with z | z
        · exact List.mem_range.mpr (z ▸ hi)
        · exact List.mem_range.mpr (h.lt v z)
      have := List.Nodup.length_le_of_subset (List.nodup_cons.mpr ⟨q, h.nd⟩) sub
      simp at this
      omega
    exact ((mem_bfs w).mp this).2
  · intro hw
    have l1 := h.len
    have := List.Nodup.length_le_of_subset (List.nodup_range (n := c.blocks.length)) (l₂ := bfs c none) fun v hv => (mem_bfs w).mpr ⟨fun q => (by cases q), hw v (List.mem_range.mp hv)⟩
    simp at this
    omega
/-! ### the order in which blocks are found -/
theorem bfs_way {c : Code} (w : Whole c) {d : Nat} : ∀ (k : Nat) (v : Nat), (bfs c none)[k]? = some v → d ∉ (bfs c none).take (k + 1) → Way (fun u => u == d) (Cm03.graphOf c).es 0 v := by
  have h := bfs_bf w none
  intro k
  induction k using Nat.strongRecOn with
  | _ k ih =>
    intro v hv hd
    have inn : v ∈ (bfs c none).take (k + 1) := List.mem_of_getElem? (i := k) (by rw [List.getElem?_take, if_pos (by omega)]; exact hv)
    have nb : (v == d) = false := by
      have : v ≠ d := fun e => hd (e ▸ inn)
      simpa using this
    rcases h.ord k v hv with ⟨_, e⟩ | ⟨k', u, q1, q2, q3⟩
    · rw [e]
      exact .here
    · have hd' : d ∉ (bfs c none).take (k' + 1) := fun q => hd (List.take_subset_take_left _ (by omega) q)
      have ul := h.lt u (List.mem_of_getElem? q2)
      exact .on (ih k' q1 u q2 hd') (mem_es.mpr ⟨ul, (w.to u ul v q3).2, q3⟩) nb
theorem okBlocks_congr {c : Code} : ∀ {l : List Nat} {p q : Nat → Prop}, (∀ d, p d ↔ q d) → OkBlocks c p l → OkBlocks c q l
  | [], _, _, _, _ => trivial
  | i :: r, p, q, h, ⟨h1, h2, h3, h4⟩ => ⟨h1, fun z => h2 ((h i).mpr z), fun d a b e => (h d).mp (h3 d a b e), okBlocks_congr (fun d => or_congr (h d) Iff.rfl) h4⟩
theorem bfs_first {c : Code} (w : Whole c) : ∃ r, bfs c none = 0 :: r := by
  have h := bfs_bf w none
  cases e : bfs c none with
  | nil =>
    have := h.zero (fun q => by cases q)
    rw [e] at this
    cases this
  | cons a r =>
    rcases h.ord 0 a (by rw [e]; rfl) with ⟨_, q⟩ | ⟨_, _, q, _⟩
    · exact ⟨r, by rw [q]⟩
    · omega
theorem bfs_suffix {c : Code} (w : Whole c) : ∀ (suf pre : List Nat), bfs c none = pre ++ suf → OkBlocks c (· ∈ pre) suf
  | [], _, _ => trivial
  | i :: r, pre, e => by
    have h := bfs_bf w none
    have at_ : (bfs c none)[pre.length]? = some i := by rw [e, List.getElem?_append_right (Nat.le_refl _), Nat.sub_self]; rfl
    have nd := h.nd
    rw [e] at nd
    refine ⟨h.lt i (List.mem_of_getElem? at_), fun q => ?_, fun d dl dn dom => ?_, ?_⟩
    · exact (List.nodup_append.mp nd).2.2 i q i (by simp) rfl
    · refine Classical.byContradiction fun q => ?_
      by_cases d0 : d = 0
      · subst d0
        obtain ⟨r', e'⟩ := bfs_first w
        cases pre with
        | nil =>
          rw [e'] at e
          cases e
          exact dn rfl
        | cons a p =>
          rw [e'] at e
          cases e
          exact q (by simp)
      · refine dom d0 (bfs_way w pre.length i at_ fun z => ?_)
        rw [take_succ_of at_, e, List.take_left] at z
        rcases List.mem_append.mp z with z | z
        · exact q z
        · exact dn (by simpa using z)
    · have := bfs_suffix w r (pre ++ [i]) (by rw [e, List.append_assoc]; rfl)
      exact okBlocks_congr (fun d => by simp) this
where
  take_succ_of {l : List Nat} {k v : Nat} (h : l[k]? = some v) : l.take (k + 1) = l.take k ++ [v] := by rw [List.take_add_one, h]; rfl
theorem bfs_ok {c : Code} (w : Whole c) : OkBlocks c (fun _ => False) (bfs c none) := okBlocks_congr (fun d => by simp) (bfs_suffix w (bfs c none) [] rfl)
/-! ### fairness as the program looks for it -/
def givenAt (c : Code) (j : Nat) : List Nat := List.range c.args ++ (Cm03.blockAt c j).takes ++ (List.range c.blocks.length).flatMap fun o => if (!(o == j) && !(bfs c (some o)).contains j) = true then Cm03.givenIn (Cm03.blockAt c o) else []
def usesGo : List Row → List Nat → CmBase.End → Bool
  | [], g, e => e.uses.all g.contains
  | r :: l, g, e => r.uses.all g.contains && usesGo l (g ++ r.gives.toList) e
def usesGiven (c : Code) (j : Nat) : Bool := usesGo (Cm03.blockAt c j).rows (givenAt c j) (Cm03.blockAt c j).last
theorem usesGo_iff : ∀ {rows : List Row} {g : List Nat} {e : CmBase.End}, usesGo rows g e = true ↔ (∀ (r : Nat) (row : Row), rows[r]? = some row → ∀ x ∈ row.uses, x ∈ g ++ (rows.take r).flatMap fun r => r.gives.toList) ∧ ∀ x ∈ e.uses, x ∈ g ++ rows.flatMap fun r => r.gives.toList
  | [], g, e => by
    show (e.uses.all g.contains = true) ↔ _
    rw [List.all_eq_true]
    constructor
    · intro h
      exact ⟨fun r row q => by simp at q, fun x hx => by simpa using h x hx⟩
    · rintro ⟨_, h⟩ x hx
      simpa using h x hx
  | row :: l, g, e => by
    show ((row.uses.all g.contains && usesGo l (g ++ row.gives.toList) e) = true) ↔ _
    rw [Bool.and_eq_true, usesGo_iff, List.all_eq_true]
    constructor
    · rintro ⟨h1, h2, h3⟩
      refine ⟨fun r row' q x hx => ?_, fun x hx => ?_⟩
      · cases r with
        | zero =>
          cases q
          simpa using h1 x hx
        | succ r =>
          have := h2 r row' q x hx
          rwa [List.take_succ_cons, List.flatMap_cons, ← List.append_assoc]
      · have := h3 x hx
        rwa [List.flatMap_cons, ← List.append_assoc]
    · rintro ⟨h1, h2⟩
      refine ⟨fun x hx => by simpa using h1 0 row rfl x hx, fun r row' q x hx => ?_, fun x hx => ?_⟩
      · have := h1 (r + 1) row' q x hx
        rwa [List.take_succ_cons, List.flatMap_cons, ← List.append_assoc] at this
      · have := h2 x hx
        rwa [List.flatMap_cons, ← List.append_assoc] at this
theorem mem_givesTake {rows : List Row} {r x : Nat} : x ∈ (rows.take r).flatMap (fun r => r.gives.toList) ↔ ∃ (s : Nat) (row : Row), s < r ∧ rows[s]? = some row ∧ row.gives = some x := by
  rw [List.mem_flatMap]
  constructor
  · rintro ⟨row, h1, h2⟩
    obtain ⟨s, hs⟩ := List.mem_iff_getElem?.mp h1
    rw [List.getElem?_take] at hs
    split at hs
    · rename_i q
      exact ⟨s, row, q, hs, by simpa using h2⟩
    · cases hs
  · rintro ⟨s, row, h1, h2, h3⟩
    refine ⟨row, List.mem_of_getElem? (i := s) (by rw [List.getElem?_take, if_pos h1]; exact h2), ?_⟩
    simp [h3]
theorem placeIn_ex {c : Code} {x j : Nat} (hj : j < c.blocks.length) (h : x ∈ Cm03.givenIn (Cm03.blockAt c j)) : ∀ k, k ≤ c.blocks.length → c.blocks.length - k ≤ j → ∃ q, Cm03.placeIn c x k = some q
  | 0, _, hk => by omega
  | k + 1, hl, hk => by
    unfold Cm03.placeIn
    simp only
    split
    · exact ⟨_, rfl⟩
    · rename_i hc
      split
      · exact ⟨_, rfl⟩
      · rename_i hr
        by_cases e : c.blocks.length - (k + 1) = j
        · exfalso
          rw [e] at hc hr
          rcases mem_givenIn.mp h with q | ⟨s, row, q1, q2⟩
          · exact hc (List.contains_iff_mem.mpr q)
          · have := List.findIdx?_eq_none_iff.mp hr row (List.mem_of_getElem? q1)
            rw [q2] at this
            simp at this
        · exact placeIn_ex hj h k (by omega) (by omega)
theorem placeOf_ex {c : Code} {x i : Nat} (h : GivenIn c x i) : ∃ q, Cm03.placeOf c x = some q := by
  unfold Cm03.placeOf
  split
  · exact ⟨_, rfl⟩
  · rename_i hx
    rcases h.2 with q | q
    · exact absurd q.2 hx
    · exact placeIn_ex h.1 q c.blocks.length (Nat.le_refl _) (by omega)
/-- in the block's own order there's one place -/
theorem place_ahead {c : Code} (w : Whole c) (once : (Cm03.given c).Nodup) {x j p r : Nat} (pl : Place c x j p) (hr : r ≤ (Cm03.blockAt c j).rows.length) (h : Ahead c x j r) : p < Cm03.before c j r := by
  have nd := (given_parts w once).1 j pl.lt
  unfold gives at nd
  have nd' := List.nodup_append.mp nd
  have tz : j = 0 → (Cm03.blockAt c j).takes = [] := fun e => e ▸ w.zero
  have rowsIn : ∀ (s : Nat) (row : Row), (Cm03.blockAt c j).rows[s]? = some row → row.gives = some x → x ∈ (Cm03.blockAt c j).rows.filterMap Row.gives := fun s row h1 h2 => List.mem_filterMap.mpr ⟨row, List.mem_of_getElem? h1, h2⟩
  rcases pl.ex with ⟨e0, hx, ep⟩ | ⟨k, hk, ep⟩ | ⟨s, row, hs, hg, ep⟩
  · unfold Cm03.before
    rw [if_pos e0]
    omega
  · have hk2 := (List.getElem?_eq_some_iff.mp hk).1
    unfold Cm03.before
    by_cases e0 : j = 0
    · rw [tz e0] at hk
      simp at hk
    · rw [if_neg e0]
      omega
  · rw [ep]
    unfold Cm03.before
    have : s < r := by
      rcases h with ⟨e0, hx⟩ | hx | ⟨s', row', h1, h2, h3⟩
      · exfalso
        rw [if_pos e0] at nd'
        exact nd'.2.2 x (List.mem_range.mpr hx) x (rowsIn s row hs hg) rfl
      · exfalso
        have e0 : j ≠ 0 := fun q => by rw [tz q] at hx; cases hx
        rw [if_neg e0] at nd'
        exact nd'.2.2 x hx x (rowsIn s row hs hg) rfl
      · have : s = s' := by
          have pw := List.pairwise_filterMap.mp nd'.2.1
          have l1 := (List.getElem?_eq_some_iff.mp hs).1
          have l2 := (List.getElem?_eq_some_iff.mp h2).1
          have g1 := (List.getElem?_eq_some_iff.mp hs).2
          have g2 := (List.getElem?_eq_some_iff.mp h2).2
          rcases Nat.lt_trichotomy s s' with q | q | q
          · exfalso
            have := List.pairwise_iff_getElem.mp pw s s' l1 l2 q
            rw [g1, g2] at this
            exact this x hg x h3 rfl
          · exact q
          · exfalso
            have := List.pairwise_iff_getElem.mp pw s' s l2 l1 q
            rw [g1, g2] at this
            exact this x h3 x hg rfl
        omega
    omega
theorem given_by {c : Code} (w : Whole c) (once : (Cm03.given c).Nodup) {j r x : Nat} (hj : j < c.blocks.length) (hr : r ≤ (Cm03.blockAt c j).rows.length) :
    Cm03.givenBy c (Cm01.without (Cm03.graphOf c) 0) j r x = true ↔ x ∈ givenAt c j ++ ((Cm03.blockAt c j).rows.take r).flatMap fun r => r.gives.toList := by
  have memAt : x ∈ givenAt c j ↔ x < c.args ∨ x ∈ (Cm03.blockAt c j).takes ∨ ∃ o, o < c.blocks.length ∧ o ≠ j ∧ j ∉ bfs c (some o) ∧ x ∈ Cm03.givenIn (Cm03.blockAt c o) := by
    unfold givenAt
    rw [List.mem_append, List.mem_append, List.mem_range, List.mem_flatMap, or_assoc]
    refine or_congr Iff.rfl (or_congr Iff.rfl ⟨?_, ?_⟩)
    · rintro ⟨o, h1, h2⟩
      split at h2
      · rename_i q
        rw [Bool.and_eq_true] at q
        exact ⟨o, List.mem_range.mp h1, by simpa using q.1, by simpa using q.2, h2⟩
      · cases h2
    · rintro ⟨o, h1, h2, h3, h4⟩
      exact ⟨o, List.mem_range.mpr h1, by rw [if_pos (by simp [h2, h3])]; exact h4⟩
  rw [List.mem_append, memAt, mem_givesTake]
  constructor
  · intro h
    rcases givenBy_true w hj h with ⟨d, h1, h2, h3⟩ | q | q | q
    · rcases h1.2 with q | q
      · exact .inl (.inl q.2)
      · exact .inl (.inr (.inr ⟨d, h1.1, h2, (dom_bfs w).mpr h3, q⟩))
    · exact .inl (.inl q.2)
    · exact .inl (.inr (.inl q))
    · obtain ⟨s, row, a, b, e⟩ := q
      exact .inr ⟨s, row, a, b, e⟩
  · intro h
    have uniq := (given_parts w once).2
    have fin : ∀ o, GivenIn c x o → (o = j → Ahead c x j r) → (o ≠ j → Dom (Cm03.graphOf c).es o j) → Cm03.givenBy c (Cm01.without (Cm03.graphOf c) 0) j r x = true := by
      intro o ho h1 h2
      obtain ⟨⟨i, p⟩, hq⟩ := placeOf_ex ho
      have pl := placeOf_some w.one hq
      have e : i = o := uniq i o x pl.lt ho.1 ((mem_gives w pl.lt).mpr pl.given) ((mem_gives w ho.1).mpr ho)
      unfold Cm03.givenBy
      rw [hq]
      simp only
      split
      · rename_i q
        subst q
        exact decide_eq_true (place_ahead w once pl hr (h1 e.symm))
      · rename_i q
        exact (passed_iff inside w.one pl.lt).mpr (e ▸ h2 (fun z => q (e.trans z)))
    rcases h with (q | q | ⟨o, h1, h2, h3, h4⟩) | ⟨s, row, a, b, e⟩
    · exact fin 0 ⟨w.one, .inl ⟨rfl, q⟩⟩ (fun e => .inl ⟨e.symm, q⟩) fun _ => Dom.zero
    · exact fin j ⟨hj, .inr (mem_givenIn.mpr (.inl q))⟩ (fun _ => .inr (.inl q)) fun z => absurd rfl z
    · exact fin o ⟨h1, .inr h4⟩ (fun e => absurd e h2) fun _ => (dom_bfs w).mp h3
    · exact fin j ⟨hj, .inr (mem_givenIn.mpr (.inr ⟨s, row, b, e⟩))⟩ (fun _ => .inr (.inr ⟨s, row, a, b, e⟩)) fun z => absurd rfl z
theorem uses_given {c : Code} (w : Whole c) (once : (Cm03.given c).Nodup) {j : Nat} (hj : j < c.blocks.length) : usesGiven c j = true ↔ Cm03.usesFair c (Cm01.without (Cm03.graphOf c) 0) j = true := by
  unfold usesGiven
  rw [usesGo_iff, usesFair_iff]
  constructor
  · rintro ⟨h1, h2⟩
    refine ⟨fun r row q x hx => (given_by w once hj (Nat.le_of_lt (List.getElem?_eq_some_iff.mp q).1)).mpr (h1 r row q x hx), fun x hx => (given_by w once hj (Nat.le_refl _)).mpr ?_⟩
    rw [List.take_length]
    exact h2 x hx
  · rintro ⟨h1, h2⟩
    refine ⟨fun r row q x hx => (given_by w once hj (Nat.le_of_lt (List.getElem?_eq_some_iff.mp q).1)).mp (h1 r row q x hx), fun x hx => ?_⟩
    have := (given_by w once hj (Nat.le_refl _)).mp (h2 x hx)
    rwa [List.take_length] at this
/-- **fairness, as the program looks for it** -/
theorem fair_prog {c : Code} (w : Whole c) (plain : ∀ b ∈ c.blocks, ∀ r ∈ b.rows, Cm03.isCopy r = false) :
    Cm03.isFair c = true ↔ (Cm03.given c).Nodup ∧ (bfs c none).length = c.blocks.length ∧ ∀ j, j < c.blocks.length → usesGiven c j = true := by
  rw [fair_iff w.one]
  constructor
  · intro f
    exact ⟨f.once, (reached_bfs w).mpr f.reached, fun j hj => (uses_given w f.once hj).mpr (usesFair_iff.mpr ⟨f.rows j hj, f.ends j hj⟩)⟩
  · rintro ⟨h1, h2, h3⟩
    exact ⟨h1, (reached_bfs w).mp h2, plain, fun j hj => (usesFair_iff.mp ((uses_given w h1 hj).mp (h3 j hj))).1, fun j hj => (usesFair_iff.mp ((uses_given w h1 hj).mp (h3 j hj))).2⟩
end VS
/-! Whether code is whole, and fair (fairness.py). -/
namespace VS
open PySem L2 Evl CmBase
section
variable {P : Program} {w : World} {K : PySem.W.Frag} {mg : Str → Option Value} {base : Heap} {H H0 H' H1 : Hp} {σ : L2.St} {c a bl l : Addr} {cd : CmBase.Code} {b : CmBase.Block} {bs : List Addr} {xs ys : List V} {s : Cm03.St} {Y : Lay}
/-- a pair taken apart -/
theorem g_two {i j : Nat} {v1 v2 : V} {Q : L2.St → Hp → Prop} (h : SqT K H a [v1, v2]) (k : Q ((σ.set i (some v1)).set j (some v2)) H) : gTup K 2 (gCons (gName i) (gCons (gName j) gNil)) (.ref a) σ H Q := ⟨a, [v1, v2], rfl, h, rfl, v1, [v2], rfl, v2, [], rfl, rfl, k⟩
/-! ### all_among -/
def sp_all_among (K : PySem.W.Frag) : Sp := fun vs H Q _ => ∃ (a b : Addr) (us gs : List Nat), vs = [.ref a, .ref b] ∧ SqL K H a (natsV us) ∧ SqL K H b (natsV gs) ∧ us.length ≤ 1000 ∧ RetV (.bl (us.all gs.contains)) H Q
theorem pure_all_among (vs : List V) (H : Hp) (Q : VK) (E : XK) (h : sp_all_among K vs H Q E) : t_all_among K { nx := fun _ H' => Q .non H', rt := Q } (start N_all_among vs) H := by
  obtain ⟨a, b, us, gs, rfl, ha, hb, hz, k⟩ := h
  refine s_ret (ev_cbL (el_comp (fun _ => true) (onInt fun n => .bl (gs.contains n.toNat)) (ev_var rfl) ha (by rw [natsV_length]; omega) (fun _ => rfl) (fun _ _ _ _ => et_yes) (fun x hx H1 e _ => ?_)) fun p H1 e h1 => ?_) k
  · obtain ⟨n, hn, rfl⟩ := List.mem_map.mp hx
    exact ev_op (ev_var rfl) (ev_var rfl) (rv_inN (ex_l e hb))
  · rw [filter_yes] at h1
    have e1 : (natsV us).map (onInt fun n => .bl (gs.contains n.toNat)) = (us.map gs.contains).map V.bl := by
      unfold natsV
      rw [List.map_map, List.map_map]
      exact List.map_congr_left fun n _ => by show V.bl (gs.contains (n : Int).toNat) = _; rw [Int.toNat_natCast]; rfl
    rw [e1] at h1
    have := rc_all (K := K) h1
    rwa [all_id] at this
theorem D_all_among (T : Tx K mg) : Df P w K mg base 1 (He.ga K "all_among") ["used", "given"] (sp_all_among K) := ok_all_among T (fun vs H Q E h => by obtain ⟨a, b, us, gs, rfl, _⟩ := h; rfl) pure_all_among
theorem spv_all_among {p q : Addr} {us gs : List Nat} (ha : SqL K H p (natsV us)) (hb : SqL K H q (natsV gs)) (hz : us.length ≤ 1000) : SpV (sp_all_among K) [.ref p, .ref q] H (.bl (us.all gs.contains)) := fun H1 e Q k E => ⟨p, q, us, gs, rfl, ex_l e ha, ex_l e hb, hz, k⟩
/-! ### ways_fit, is_whole -/
def waysFit (cd : CmBase.Code) (e : CmBase.End) : Bool := (waysOf e).all fun wy => decide (wy.1 < cd.blocks.length) && decide (wy.2.length = (takesOf cd wy.1).length)
theorem takesOf_at {i : Nat} (hi : i < cd.blocks.length) : takesOf cd i = (Cm03.blockAt cd i).takes := by
  unfold takesOf
  rw [at_blockAt hi]
theorem waysFit_eq {e : CmBase.End} (h : EndOk e) : waysFit cd e = ((e.targets.all fun t => decide (1 ≤ t) && decide (t < cd.blocks.length)) && Cm03.fits cd e) := by
  have one := h.to
  cases e with
  | jump t as =>
    have := (one t (by simp [CmBase.End.targets])).1
    simp [waysFit, waysOf, CmBase.End.targets, Cm03.fits, this]
    rfl
  | fork x t as u bs =>
    have h1 := (one t (by simp [CmBase.End.targets])).1
    have h2 := (one u (by simp [CmBase.End.targets])).1
    simp only [waysFit, waysOf, CmBase.End.targets, Cm03.fits, List.all_cons, List.all_nil, Bool.and_true, decide_eq_true h1, decide_eq_true h2, Bool.true_and]
    have e1 : (as.length == (takesOf cd t).length) = decide (as.length = (takesOf cd t).length) := rfl
    have e2 : (bs.length == (takesOf cd u).length) = decide (bs.length = (takesOf cd u).length) := rfl
    rw [e1, e2]
    cases decide (t < cd.blocks.length) <;> cases decide (u < cd.blocks.length) <;> cases decide (as.length = (takesOf cd t).length) <;> cases decide (bs.length = (takesOf cd u).length) <;> rfl
  | give x => rfl
def sp_ways_fit (K : PySem.W.Frag) : Sp := fun vs H Q _ => ∃ (c a : Addr) (cd : CmBase.Code) (bl : Addr) (bs : List Addr) (b : CmBase.Block), vs = [.ref c, .ref a] ∧ CAt K H c cd bl bs ∧ BAt K H a b ∧ RetV (.bl (waysFit cd b.last)) H Q
theorem pure_ways_fit (T : Tx K mg) (vs : List V) (H : Hp) (Q : VK) (E : XK) (h : sp_ways_fit K vs H Q E) : t_ways_fit K (sp_ways K) { nx := fun _ H' => Q .non H', rt := Q } (start N_ways_fit vs) H := by
  obtain ⟨c, a, cd, bl, bs, b, rfl, hc, hb, k⟩ := h
  obtain ⟨ev, hev, eev⟩ := hb.end_ T
  refine q_forEN (en_call (ea_cons (eev (Ex.refl H) (ev_var rfl)) ea_nil) (spn_ways hev)) (fun p ws i σ' H' => (∃ w1 w2, σ' = [some (.ref c), some (.ref a), w1, w2]) ∧ Ex H H' ∧ H' p = some (.lst ws) ∧ WaysL b.last ws H' ∧ ((waysOf b.last).take i).all (fun wy => decide (wy.1 < cd.blocks.length) && decide (wy.2.length = (takesOf cd wy.1).length)) = true)
    (fun p ws H1 hn e1 hp hws => ⟨⟨_, _, rfl⟩, e1, hp, hws, by rw [List.take_zero]; rfl⟩) (fun p ws i σ' H' _ q => sq_of q.2.2.1) (fun p ws i x σ' H' hx q => ?_) (fun p ws σ' H' q => ?_)
  · obtain ⟨⟨w1, w2, rfl⟩, e, hp, hws, hall⟩ := q
    obtain ⟨wy, hwy, ta, tq, rfl, hta, htq⟩ := hws.at_ hx
    have hcc := hc.ex e
    refine g_two (st_of hta) ?_
    show tIfS _ _ _ _ _ H'
    have t1 : EvT (tTest (tOp rGe (tVar 2) (tCB (rLenS K) (tCons (tFld K (tVar 0) "blocks") tNil)))) [some (.ref c), some (.ref a), some (.int (wy.1 : Int)), some (.ref tq)] H' (decide ((cd.blocks.length : Int) ≤ (wy.1 : Int))) := et_test (ev_op (ev_var rfl) (ev_many T hcc (ev_var rfl)) rv_I0)
    by_cases lt : wy.1 < cd.blocks.length
    · obtain ⟨ba, hba, hbb⟩ := hcc.at_ lt
      obtain ⟨tk, htk, etk⟩ := hbb.taken T
      have l1 : Ev (tCB (rLenS K) (tCons (tVar 3) tNil)) [some (.ref c), some (.ref a), some (.int (wy.1 : Int)), some (.ref tq)] H' (.int (wy.2.length : Int)) := by
        have := ev_lenT (K := K) (ev_var (σ := [some (.ref c), some (.ref a), some (.int (wy.1 : Int)), some (.ref tq)]) (H := H') (i := 3) rfl) (st_of htq)
        rwa [natsV_length] at this
      have l2 : Ev (tCB (rLenS K) (tCons (tFld K (tOp (rIxL K) (tFld K (tVar 0) "blocks") (tVar 2)) "taken") tNil)) [some (.ref c), some (.ref a), some (.int (wy.1 : Int)), some (.ref tq)] H' (.int ((takesOf cd wy.1).length : Int)) := by
        have := ev_lenT (K := K) (etk (Ex.refl H') (ev_block (σ := [some (.ref c), some (.ref a), some (.int (wy.1 : Int)), some (.ref tq)]) T hcc (ev_var (i := 0) rfl) (ev_var (i := 2) rfl) hba)) (st_of htk)
        rwa [natsV_length, ← takesOf_at lt] at this
      refine s_when (et_or t1 fun _ => et_test (ev_op l1 l2 rv_neI)) (fun hb H2 e3 => ?_) (fun hb H2 e3 => ?_)
      · refine s_ret ev_c fun H3 e4 => ?_
        have : waysFit cd b.last = false := by
          unfold waysFit
          refine List.all_eq_false.mpr ⟨wy, List.mem_of_getElem? hwy, ?_⟩
          rw [Bool.or_eq_true] at hb
          rcases hb with z | z
          · have := of_decide_eq_true z
            omega
          · intro q
            rw [Bool.and_eq_true] at q
            have := of_decide_eq_true q.2
            rw [this] at z
            simp at z
        have kk := k H3 ((e.trans e3).trans e4)
        rw [this] at kk
        exact kk
      · refine ⟨⟨_, _, rfl⟩, e.trans e3, e3 _ _ hp, hws.ex e3, ?_⟩
        rw [take_next hwy, List.all_append, hall]
        rw [Bool.or_eq_false_iff] at hb
        have z : wy.2.length = (takesOf cd wy.1).length := by
          have := hb.2
          simp at this
          omega
        simp [lt, z]
    · refine s_when (b := true) (et_is (et_or t1 (b := true) fun z => ?_) (by rw [decide_eq_true (by omega)]; rfl)) (fun hb H2 e3 => ?_) (fun hb => by cases hb)
      · have := of_decide_eq_false z
        omega
      · refine s_ret ev_c fun H3 e4 => ?_
        have : waysFit cd b.last = false := by
          unfold waysFit
          refine List.all_eq_false.mpr ⟨wy, List.mem_of_getElem? hwy, ?_⟩
          simp [lt]
        have kk := k H3 ((e.trans e3).trans e4)
        rw [this] at kk
        exact kk
  · obtain ⟨⟨w1, w2, rfl⟩, e, hp, hws, hall⟩ := q
    rw [hws.1, List.take_length] at hall
    refine s_ret ev_c fun H3 e4 => ?_
    have kk := k H3 (e.trans e4)
    rw [show waysFit cd b.last = true from hall] at kk
    exact kk
theorem D_ways_fit (T : Tx K mg) : Df P w K mg base 2 (He.ga K "ways_fit") ["code", "block"] (sp_ways_fit K) := ok_ways_fit T (D_ways T) (fun vs H Q E h => by obtain ⟨a, b, d, e, f, g, rfl, _⟩ := h; rfl) (pure_ways_fit T)
theorem spv_ways_fit (hc : CAt K H c cd bl bs) (hb : BAt K H a b) : SpV (sp_ways_fit K) [.ref c, .ref a] H (.bl (waysFit cd b.last)) := fun H1 e Q k E => ⟨c, a, cd, bl, bs, b, rfl, hc.ex e, hb.ex e, k⟩
def sp_is_whole (K : PySem.W.Frag) : Sp := fun vs H Q _ => ∃ (c : Addr) (s : Cm03.St) (Y : Lay), vs = [.ref c] ∧ CodeAt K H c s Y ∧ StOk s ∧ RetV (.bl (s.opened.isNone && Cm03.isWhole s.code)) H Q
theorem pure_is_whole (T : Tx K mg) (vs : List V) (H : Hp) (Q : VK) (E : XK) (h : sp_is_whole K vs H Q E) : t_is_whole K (sp_Code_open_block K) (sp_ways_fit K) { nx := fun _ H' => Q .non H', rt := Q } (start N_is_whole vs) H := by
  obtain ⟨c, s, Y, rfl, hc, ok, k⟩ := h
  obtain ⟨dx, ho⟩ := hc.obj
  have no : ∀ b H1, Ex H H1 → (s.opened.isNone && Cm03.isWhole s.code) = b → tRet (tC (.bl b)) { nx := fun _ H' => Q .non H', rt := Q } (start N_is_whole [.ref c]) H1 := fun b H1 e1 hb => s_ret ev_c fun H2 e2 => by
    have := k H2 (e1.trans e2)
    rwa [hb] at this
  have eb : Ev (tCB (rLenS K) (tCons (tFld K (tVar 0) "blocks") tNil)) (start N_is_whole [.ref c]) H (.int ((blks s).length : Int)) := by
    have := ev_len (K := K) (ev_fld (σ := start N_is_whole [.ref c]) (ev_var (i := 0) rfl) ho T.cls_Code T.noat_Code_blocks cF_blocks) (sq_of hc.lst)
    rwa [List.length_map, hc.lenB] at this
  have z0 : s.opened = none → (blks s).length = s.code.blocks.length := fun q => by rw [blks_closed q, List.length_map]
  cases q : s.opened with
  | some o =>
    obtain ⟨ts, rl⟩ := o
    have hl : (blks s).length = s.code.blocks.length + 1 := by rw [blks_opened q, List.length_append, List.length_map]; rfl
    obtain ⟨bs, ba, e1, _⟩ : ∃ bs ba, Y.bs = bs ++ [ba] ∧ bs.length = s.code.blocks.length := snoc_of (hc.lenB.trans hl)
    have em := ev_meth (C := He.ga K "Code") (m := "open_block") (E := E0) (ev_var (σ := start N_is_whole [.ref c]) (i := 0) rfl) ho (cF_no (by decide +kernel) (by decide +kernel)) ea_nil (spv_open_some hc q e1)
    refine q_when (b := true) (et_is (et_or (et_test (ev_op eb ev_c rv_eqI)) fun _ => et_test (ev_op em ev_c rv_notN)) (by rw [decide_eq_false (show ¬ ((blks s).length : Int) = 0 by omega)]; rfl)) (fun _ H1 e1 => no false H1 e1 (by rw [q]; rfl)) (fun z => by cases z)
  | none =>
    have hcc := hc.cat q
    have em := ev_meth (C := He.ga K "Code") (m := "open_block") (E := E0) (ev_var (σ := start N_is_whole [.ref c]) (i := 0) rfl) ho (cF_no (by decide +kernel) (by decide +kernel)) ea_nil (spv_open_none hc q)
    by_cases one : 1 ≤ s.code.blocks.length
    · refine q_when (b := false) (et_is (et_or (et_test (ev_op eb ev_c rv_eqI)) fun _ => et_test (ev_op em ev_c rv_notN)) (by rw [decide_eq_false (show ¬ ((blks s).length : Int) = 0 by rw [z0 q]; omega)]; rfl)) (fun z => by cases z) fun _ H1 e1 => ?_
      have hc1 := hcc.ex e1
      obtain ⟨a0, h0, hb0⟩ := hc1.at_ (i := 0) (by omega)
      obtain ⟨tk, htk, etk⟩ := hb0.taken T
      have l2 : Ev (tCB (rLenS K) (tCons (tFld K (tOp (rIxL K) (tFld K (tVar 0) "blocks") (tC (.int 0))) "taken") tNil)) (start N_is_whole [.ref c]) H1 (.int ((Cm03.blockAt s.code 0).takes.length : Int)) := by
        have := ev_lenT (K := K) (etk (Ex.refl H1) (ev_block (σ := start N_is_whole [.ref c]) (ta := tVar 0) (ti := tC (.int 0)) (i := 0) T hc1 (ev_var rfl) ev_c h0)) (st_of htk)
        rwa [natsV_length] at this
      refine q_when (et_test (ev_op l2 ev_c rv_I0)) (fun hb H2 e2 => ?_) (fun hb H2 e2 => ?_)
      · have := of_decide_eq_true hb
        refine no false H2 (e1.trans e2) ?_
        unfold Cm03.isWhole
        have : (Cm03.blockAt s.code 0).takes.isEmpty = false := by
          cases z : (Cm03.blockAt s.code 0).takes with
          | nil => rw [z] at this; simp at this
          | cons a l => rfl
        rw [this]
        simp
      · have hz := of_decide_eq_false hb
        have hc2 := hc1.ex e2
        refine s_ret (v := .bl (s.opened.isNone && Cm03.isWhole s.code)) (ev_is (v := .bl (s.code.blocks.all fun b => waysFit s.code b.last)) (ev_cbL (el_lcL (fun _ => true) (fun i => .bl (waysFit s.code (Cm03.blockAt s.code i).last)) (ev_blocks T hc2 (ev_var rfl)) (sq_of hc2.lst) (by rw [List.length_map, hc2.len]; have := ok.len; omega) (fun _ => rfl) (fun _ _ _ _ _ => et_yes) (fun i x H3 e3 hx _ => ?_)) fun p H3 e3 h3 => ?_) ?_) fun H3 e3 => k H3 ((e1.trans e2).trans e3)
        · obtain ⟨a, b, rfl, hb, _, hab⟩ := hc2.mem hx
          rw [blockAt_of hb]
          exact ev_call (ea_cons (ev_var rfl) (ea_cons (ev_var rfl) ea_nil)) (spv_ways_fit (hc2.ex e3) (hab.ex e3))
        · have e4 : Evl.given (Y.bs.map V.ref).length (fun _ => true) (fun i => V.bl (waysFit s.code (Cm03.blockAt s.code i).last)) = (s.code.blocks.map fun b => waysFit s.code b.last).map V.bl := by
            unfold Evl.given
            rw [filter_yes, List.length_map, hcc.len, List.map_map]
            refine List.ext_getElem? fun i => ?_
            rw [List.getElem?_map, List.getElem?_map]
            by_cases hi : i < s.code.blocks.length
            · rw [List.getElem?_range hi, at_blockAt hi]
              rfl
            · rw [List.getElem?_eq_none (by rw [List.length_range]; omega), List.getElem?_eq_none (by omega)]
              rfl
          rw [e4] at h3
          have := rc_all (K := K) h3
          rwa [all_id] at this
        · rw [q]
          unfold Cm03.isWhole
          have z1 : (Cm03.blockAt s.code 0).takes.isEmpty = true := by
            cases z : (Cm03.blockAt s.code 0).takes with
            | nil => rfl
            | cons a l => rw [z] at hz; simp at hz
          rw [z1, decide_eq_true one]
          refine congrArg V.bl ?_
          simp only [Option.isNone_none, Bool.true_and]
          refine List.all_congr_mem fun b hb => ?_
          exact waysFit_eq (ok.blocks b hb).2
    · refine q_when (b := true) (et_is (et_or (b := false) (et_test (ev_op eb ev_c rv_eqI)) fun z => ?_) (by rw [decide_eq_true (show ((blks s).length : Int) = 0 by rw [z0 q]; omega)]; rfl)) (fun _ H1 e1 => no false H1 e1 ?_) (fun z => by cases z)
      · have := of_decide_eq_false z
        rw [z0 q] at this
        omega
      · unfold Cm03.isWhole
        rw [decide_eq_false one]
        simp
where
  List.all_congr_mem {α : Type} {l : List α} {f g : α → Bool} (h : ∀ x ∈ l, f x = g x) : l.all f = l.all g := by
    induction l with
    | nil => rfl
    | cons a l ih => rw [List.all_cons, List.all_cons, h a (by simp), ih fun x hx => h x (List.mem_cons_of_mem _ hx)]
theorem D_is_whole (T : Tx K mg) : Df P w K mg base 3 (He.ga K "is_whole") ["code"] (sp_is_whole K) := ok_is_whole T (D_Code_open_block T) (D_ways_fit T) (fun vs H Q E h => by obtain ⟨a, b, d, rfl, _⟩ := h; rfl) (pure_is_whole T)
theorem spv_is_whole (hc : CodeAt K H c s Y) (ok : StOk s) : SpV (sp_is_whole K) [.ref c] H (.bl (s.opened.isNone && Cm03.isWhole s.code)) := fun H1 e Q k E => ⟨c, s, Y, rfl, hc.ex e, ok, k⟩
end
end VS
/-! The search, and whether code is fair (fairness.py). -/
namespace VS
open PySem L2 Evl CmBase
def loV : Option Nat → V
  | none => .non
  | some d => .int (d : Int)
section
variable {P : Program} {w : World} {K : PySem.W.Frag} {mg : Str → Option Value} {base : Heap} {H H0 H' H1 : Hp} {σ : L2.St} {c a bl l : Addr} {cd : CmBase.Code} {b : CmBase.Block} {bs : List Addr} {xs ys : List V} {ta tb : TE}
theorem lo_bad (lo : Option Nat) (t : Nat) : decide (V.int (t : Int) = loV lo) = badOf lo t := by
  cases lo with
  | none => rfl
  | some d =>
    rw [bad_some]
    by_cases h : t = d
    · subst h
      simp [loV]
    · have : ¬ V.int (t : Int) = loV (some d) := fun e => h (by have := V.int.inj e; omega)
      rw [decide_eq_false this]
      simpa using h
theorem lo_scal (lo : Option Nat) (t : Int) : scal (.int t) (loV lo) = true := by cases lo <;> rfl
theorem lo_scal' (lo : Option Nat) (t : Int) : scal (loV lo) (.int t) = true := by cases lo <;> rfl
theorem WaysL.but {e : CmBase.End} {ws : List V} (x : But H H' l) (h : WaysL e ws H) : WaysL e ws H' := ⟨h.1, fun i y wy hy hw => by
  obtain ⟨a, q, h1, h2, h3⟩ := h.2 i y wy hy hw
  exact ⟨a, q, h1, x.tup h2, x.tup h3⟩⟩
theorem but_list {xs ys : List V} (h : H l = some (.lst xs)) : But H (upd H l (.lst ys)) l := ⟨fun a o ha ne => by rw [upd_ne ne]; exact ha, fun zs z => by rw [h] at z; cases z⟩
theorem addAll_snoc (lo : Option Nat) (f ts : List Nat) (t : Nat) : addAll lo f (ts ++ [t]) = addT lo (addAll lo f ts) t := by
  unfold addAll
  rw [List.foldl_append]
  rfl
/-! ### reached -/
def sp_reached (K : PySem.W.Frag) : Sp := fun vs H Q _ => ∃ (c : Addr) (lo : Option Nat) (cd : CmBase.Code) (bl : Addr) (bs : List Addr), vs = [.ref c, loV lo] ∧ CAt K H c cd bl bs ∧ cd.blocks.length ≤ 10 ∧ Whole cd ∧ RetL (natsV (bfs cd lo)) H Q
theorem pure_reached (T : Tx K mg) (vs : List V) (H : Hp) (Q : VK) (E : XK) (h : sp_reached K vs H Q E) : t_reached K (sp_ways K) { nx := fun _ H' => Q .non H', rt := Q } (start N_reached vs) H := by
  obtain ⟨c, lo, cd, bl, bs, rfl, hc, h10, wh, k⟩ := h
  have first : EvL (tIf (tTest (tOp rEq (tVar 1) (tC (.int 0)))) (tLst tNil) (tLst (tCons (tC (.int 0)) tNil))) (start N_reached [.ref c, loV lo]) H (natsV (bfs0 lo)) := by
    refine el_if (et_test (ev_op (ev_var rfl) ev_c (rv_eq (lo_scal' lo 0)))) (fun hb => ?_) (fun hb => ?_)
    · have : lo = some 0 := by
        have e := of_decide_eq_true hb
        cases lo with
        | none => cases e
        | some d => exact congrArg some (by have := V.int.inj e; omega)
      rw [show bfs0 lo = [] from if_pos this]
      exact el_lst ea_nil (show 0 ≤ 100000 by decide)
    · have : lo ≠ some 0 := fun e => by
        subst e
        exact of_decide_eq_false hb rfl
      rw [show bfs0 lo = [0] from if_neg this]
      exact el_lst (ea_cons ev_c ea_nil) (show 1 ≤ 100000 by decide)
  refine q_asgL first fun l H1 hn e1 hl => q_asg ev_c fun H2 e2 => ?_
  refine q_while (fun m σ' H' => ∃ (f : List Nat) (i : Nat), (∃ w1 w2, σ' = [some (.ref c), some (loV lo), some (.ref l), some (.int (i : Int)), w1, w2]) ∧ Bf cd lo f i ∧ bfsGo cd lo m f i = bfs cd lo ∧ cd.blocks.length + 1 ≤ m + i ∧ Gr H l (natsV f) H') (cd.blocks.length + 1)
    ⟨bfs0 lo, 0, ⟨_, _, rfl⟩, bf_begin wh lo, rfl, by omega, hn, e1.trans e2, e2 _ _ hl⟩ fun m σ' H' hW => ?_
  obtain ⟨f, i, ⟨w1, w2, rfl⟩, bf, hgo, hm, g⟩ := hW
  have hcc := hc.ex g.ex
  have elen : Ev (tCB (rLenS K) (tCons (tVar 2) tNil)) [some (.ref c), some (loV lo), some (.ref l), some (.int (i : Int)), w1, w2] H' (.int (f.length : Int)) := by
    have := ev_len (K := K) (ev_var (σ := [some (.ref c), some (loV lo), some (.ref l), some (.int (i : Int)), w1, w2]) (H := H') (i := 2) rfl) (sq_of g.at_)
    rwa [natsV_length] at this
  refine ⟨decide ((i : Int) < (f.length : Int)), et_test (ev_op (ev_var rfl) elen rv_I0), fun hb H3 e3 => ?_, fun hb H3 e3 => ?_⟩
  · have lt : i < f.length := by have := of_decide_eq_true hb; omega
    have hv := List.getElem?_eq_getElem lt
    generalize f[i] = v at hv
    have vl := bf.lt v (List.mem_of_getElem? hv)
    have g3 := g.step e3
    have hc3 := hc.ex g3.ex
    obtain ⟨va, hva, hvb⟩ := hc3.at_ vl
    obtain ⟨ev, hev, eev⟩ := hvb.end_ T
    obtain ⟨m', rfl⟩ : ∃ m', m = m' + 1 := ⟨m - 1, by have := bf.len; omega⟩
    have hgo2 : bfsGo cd lo m' (addAll lo f (Cm03.blockAt cd v).last.targets) (i + 1) = bfs cd lo := by
      rw [← hgo]
      show _ = match f[i]? with
        | none => f
        | some v => bfsGo cd lo m' (addAll lo f (Cm03.blockAt cd v).last.targets) (i + 1)
      rw [hv]
    have bf2 := bf.step wh hv
    refine ⟨fun σ' H' => ∃ w1 w2, σ' = [some (.ref c), some (loV lo), some (.ref l), some (.int ((i + 1 : Nat) : Int)), w1, w2] ∧ Gr H l (natsV (addAll lo f (Cm03.blockAt cd v).last.targets)) H', fun σ2 H2 hN => ?_, ?_⟩
    · obtain ⟨w1, w2, rfl, g2⟩ := hN
      exact ⟨m', by omega, _, i + 1, ⟨_, _, rfl⟩, bf2, hgo2, by omega, g2⟩
    · have eix : Ev (tOp (rIxL K) (tVar 2) (tVar 3)) [some (.ref c), some (loV lo), some (.ref l), some (.int (i : Int)), w1, w2] H3 (.int (v : Int)) := ev_op (ev_var rfl) (ev_var rfl) (rv_ixL (sq_of g3.at_) (at_nat (nats_at hv)))
      refine q_forEN (en_call (ea_cons (eev (Ex.refl H3) (ev_block T hc3 (ev_var rfl) eix hva)) ea_nil) (spn_ways hev)) (fun p ws n σ' H' => (∃ w1 w2, σ' = [some (.ref c), some (loV lo), some (.ref l), some (.int (i : Int)), w1, w2]) ∧ p ≠ l ∧ H' p = some (.lst ws) ∧ WaysL (Cm03.blockAt cd v).last ws H' ∧ Gr H l (natsV (addAll lo f (((waysOf (Cm03.blockAt cd v).last).take n).map (·.1)))) H')
        (fun p ws H4 hn4 e4 hp hws => ⟨⟨_, _, rfl⟩, (ne_of_none g3.at_ hn4).symm, hp, hws, g3.step e4⟩) (fun p ws n σ' H' _ q => sq_of q.2.2.1) (fun p ws n x σ' H' hx q => ?_) (fun p ws σ' H' q => ?_)
      · obtain ⟨⟨w1, w2, rfl⟩, npl, hp, hws, g4⟩ := q
        obtain ⟨wy, hwy, ta, tq, rfl, hta, htq⟩ := hws.at_ hx
        refine g_two (st_of hta) ?_
        show tIfS _ _ _ _ _ H'
        have nx : addAll lo f (((waysOf (Cm03.blockAt cd v).last).take (n + 1)).map (·.1)) = addT lo (addAll lo f (((waysOf (Cm03.blockAt cd v).last).take n).map (·.1))) wy.1 := by
          rw [take_next hwy, List.map_append]
          exact addAll_snoc _ _ _ _
        have test : EvT (tAnd (tTest (tOp rNe (tVar 4) (tVar 1))) (tTest (tOp (rIn K true) (tVar 4) (tVar 2)))) [some (.ref c), some (loV lo), some (.ref l), some (.int (i : Int)), some (.int (wy.1 : Int)), some (.ref tq)] H' (!badOf lo wy.1 && !(addAll lo f (((waysOf (Cm03.blockAt cd v).last).take n).map (·.1))).contains wy.1) :=
          et_and (et_is (et_test (ev_op (ev_var rfl) (ev_var rfl) (rv_ne (lo_scal lo _)))) (by rw [lo_bad])) fun _ => et_test (ev_op (ev_var rfl) (ev_var rfl) (rv_niN (sq_of g4.at_)))
        have small : (addAll lo f (((waysOf (Cm03.blockAt cd v).last).take n).map (·.1))).length ≤ 1000 := by
          have A := added lo (((waysOf (Cm03.blockAt cd v).last).take n).map (·.1)) f
          have := List.Nodup.length_le_of_subset (A.nd bf.nd) (l₂ := List.range cd.blocks.length) fun x hx => by
            rcases A.from_ x hx with z | z
            · exact List.mem_range.mpr (bf.lt x z)
            · obtain ⟨wy', h1, h2⟩ := List.mem_map.mp z.1
              have : x ∈ (Cm03.blockAt cd v).last.targets := by
                rw [← waysOf_targets]
                exact List.mem_map.mpr ⟨wy', List.mem_of_mem_take h1, h2⟩
              exact List.mem_range.mpr (wh.to v vl x this).2
          rw [List.length_range] at this
          omega
        refine s_when test (fun hb H5 e5 => ?_) (fun hb H5 e5 => ?_)
        · refine s_app (e5 _ _ g4.at_) (ev_var rfl) (ev_var rfl) (by rw [natsV_length]; omega) fun H6 e6 => ?_
          have e56 := e5.trans e6
          refine ⟨⟨_, _, rfl⟩, npl, ?_, (hws.ex e56).but (but_list (e56 _ _ g4.at_)), ?_⟩
          · rw [upd_ne npl]
            exact e56 _ _ hp
          · rw [nx]
            unfold addT
            rw [if_pos hb, natsV_append]
            exact g4.put e56
        · refine ⟨⟨_, _, rfl⟩, npl, e5 _ _ hp, hws.ex e5, ?_⟩
          rw [nx]
          unfold addT
          rw [if_neg (by rw [hb]; decide)]
          exact g4.step e5
      · obtain ⟨⟨w1, w2, rfl⟩, npl, hp, hws, g4⟩ := q
        rw [hws.1, List.take_length, waysOf_targets] at g4
        exact s_aug (a := (i : Int)) (b := 1) rfl ev_c fun H5 e5 => ⟨_, _, rfl, g4.step e5⟩
  · have ge : f.length ≤ i := by have := of_decide_eq_false hb; omega
    have e0 : bfsGo cd lo m f i = f := by
      cases m with
      | zero => rfl
      | succ m =>
        show (match f[i]? with
          | none => f
          | some v => bfsGo cd lo m (addAll lo f (Cm03.blockAt cd v).last.targets) (i + 1)) = f
        rw [List.getElem?_eq_none ge]
    rw [e0] at hgo
    rw [hgo] at g
    exact s_ret (ev_var rfl) fun H4 e4 => (g.step (e3.trans e4)).ret k
theorem D_reached (T : Tx K mg) : Df P w K mg base 2 (He.ga K "reached") ["code", "left_out"] (sp_reached K) := ok_reached T (D_ways T) (fun vs H Q E h => by obtain ⟨a, b, d, e, f, rfl, _⟩ := h; rfl) (pure_reached T)
theorem spl_reached (hc : CAt K H c cd bl bs) (h10 : cd.blocks.length ≤ 10) (wh : Whole cd) (lo : Option Nat) : SpL (sp_reached K) [.ref c, loV lo] H (natsV (bfs cd lo)) := fun H1 e Q k E => ⟨c, lo, cd, bl, bs, rfl, hc.ex e, h10, wh, k⟩
/-! ### given_at_begin -/
def sp_given_at_begin (K : PySem.W.Frag) : Sp := fun vs H Q _ => ∃ (c : Addr) (j : Nat) (cd : CmBase.Code) (bl : Addr) (bs : List Addr), vs = [.ref c, .int (j : Int)] ∧ CAt K H c cd bl bs ∧ COk cd ∧ Whole cd ∧ j < cd.blocks.length ∧ RetL (natsV (givenAt cd j)) H Q
theorem pure_given_at_begin (T : Tx K mg) (vs : List V) (H : Hp) (Q : VK) (E : XK) (h : sp_given_at_begin K vs H Q E) : t_given_at_begin K (sp_given_in_block K) (sp_reached K) { nx := fun _ H' => Q .non H', rt := Q } (start N_given_at_begin vs) H := by
  obtain ⟨c, j, cd, bl, bs, rfl, hc, ok, wh, hj, k⟩ := h
  obtain ⟨ja, hja, hjb⟩ := hc.at_ hj
  obtain ⟨tk, htk, etk⟩ := hjb.taken T
  have bj := ok.body _ (List.mem_of_getElem? (at_blockAt hj))
  have f8 := bj.few
  have a6 := ok.args
  refine q_asgL (el_is (el_cat (el_range (ev_words T hc (ev_var rfl)) (by omega)) (el_listT (etk (Ex.refl H) (ev_block T hc (ev_var rfl) (ev_var rfl) hja)) (st_of htk)) (by rw [natsV_length, natsV_length, List.length_range]; omega)) (natsV_append _ _).symm) fun l H1 hn e1 hl => ?_
  let more : Nat → List Nat := fun o => if (!(o == j) && !(bfs cd (some o)).contains j) = true then Cm03.givenIn (Cm03.blockAt cd o) else []
  have mlen : ∀ o, o < cd.blocks.length → (more o).length ≤ 20 := fun o ho => by
    show (if _ then _ else _ : List Nat).length ≤ 20
    split
    · exact givenIn_len (ok.body _ (List.mem_of_getElem? (at_blockAt ho)))
    · exact Nat.zero_le _
  have sm : ∀ i, i ≤ cd.blocks.length → ((List.range i).flatMap more).length ≤ 200 := fun i hi => by
    have := flat_len (f := more) (m := 20) (l := List.range i) fun o ho => mlen o (by have := List.mem_range.mp ho; omega)
    rw [List.length_range] at this
    have := ok.len
    have : i * 20 ≤ 10 * 20 := Nat.mul_le_mul_right _ (by omega)
    omega
  refine q_forR1 (ea_cons (ev_many T (hc.ex e1) (ev_var rfl)) ea_nil) ⟨by omega, by have := ok.len; omega⟩ (fun i σ' H' => (∃ w1, σ' = [some (.ref c), some (.int (j : Int)), some (.ref l), w1]) ∧ Gr H l (natsV (List.range cd.args ++ (Cm03.blockAt cd j).takes ++ (List.range i).flatMap more)) H')
    (fun H2 e2 => ⟨⟨_, rfl⟩, hn, e1.trans e2, by simpa using e2 _ _ hl⟩) (fun i σ' H' hi q => ?_) (fun σ' H' q => ?_)
  · obtain ⟨⟨w1, rfl⟩, g⟩ := q
    have hi : i < cd.blocks.length := by omega
    have hcc := hc.ex g.ex
    have test : EvT (tAnd (tTest (tOp rNe (tVar 3) (tVar 1))) (tTest (tOp (rIn K true) (tVar 1) (tCall (sp_reached K) [] E0 (tCons (tVar 0) (tCons (tVar 3) tNil)))))) [some (.ref c), some (.int (j : Int)), some (.ref l), some (.int (i : Int))] H' (!(i == j) && !(bfs cd (some i)).contains j) := by
      refine et_and (et_is (et_test (ev_op (ev_var rfl) (ev_var rfl) rv_neI)) ?_) fun _ => et_test (ev_opL (ev_var rfl) (el_call (ea_cons (ev_var rfl) (ea_cons (ev_var rfl) ea_nil)) (spl_reached hcc ok.len wh (some i))) fun p H2 hp e2 => rv_niN (sq_of hp))
      refine congrArg (!·) ?_
      by_cases e : i = j
      · subst e; simp
      · rw [decide_eq_false (by omega)]
        simpa using e
    have nx : (List.range (i + 1)).flatMap more = (List.range i).flatMap more ++ more i := by rw [List.range_succ, List.flatMap_append, List.flatMap_singleton]
    refine s_when test (fun hb H2 e2 => ?_) (fun hb H2 e2 => ⟨⟨_, rfl⟩, ?_⟩)
    · obtain ⟨ia, hia, hib⟩ := (hcc.ex e2).at_ hi
      have bi := ok.body _ (List.mem_of_getElem? (at_blockAt hi))
      have hmore : more i = Cm03.givenIn (Cm03.blockAt cd i) := if_pos hb
      refine s_ext (e2 _ _ g.at_) (ev_var rfl) (el_call (ea_cons (ev_block T (hcc.ex e2) (ev_var rfl) (ev_var rfl) hia) ea_nil) (spl_given_in_block hib bi)) ?_ fun H3 e3 => ⟨⟨_, rfl⟩, ?_⟩
      · have := sm i (by omega)
        have := givenIn_len bi
        rw [natsV_length, natsV_length, List.length_append, List.length_append, List.length_range]
        omega
      · rw [nx, hmore, ← List.append_assoc, natsV_append _ (Cm03.givenIn _)]
        exact g.put (e2.trans e3)
    · have hmore : more i = [] := if_neg (by rw [hb]; decide)
      rw [nx, hmore, List.append_nil]
      exact g.step e2
  · obtain ⟨⟨w1, rfl⟩, g⟩ := q
    rw [Int.toNat_natCast] at g
    exact s_ret (ev_var rfl) fun H4 e4 => (g.step e4).ret k
theorem D_given_at_begin (T : Tx K mg) : Df P w K mg base 3 (He.ga K "given_at_begin") ["code", "number"] (sp_given_at_begin K) := ok_given_at_begin T (D_given_in_block T) (D_reached T) (fun vs H Q E h => by obtain ⟨a, b, d, e, f, rfl, _⟩ := h; rfl) (pure_given_at_begin T)
theorem spl_given_at_begin (hc : CAt K H c cd bl bs) (ok : COk cd) (wh : Whole cd) {j : Nat} (hj : j < cd.blocks.length) : SpL (sp_given_at_begin K) [.ref c, .int (j : Int)] H (natsV (givenAt cd j)) := fun H1 e Q k E => ⟨c, j, cd, bl, bs, rfl, hc.ex e, ok, wh, hj, k⟩
theorem givenAt_len (ok : COk cd) {j : Nat} (hj : j < cd.blocks.length) : (givenAt cd j).length ≤ 300 := by
  unfold givenAt
  have := flat_len (f := fun o => if (!(o == j) && !(bfs cd (some o)).contains j) = true then Cm03.givenIn (Cm03.blockAt cd o) else []) (m := 20) (l := List.range cd.blocks.length) fun o ho => by
    show (if _ then _ else _ : List Nat).length ≤ 20
    split
    · exact givenIn_len (ok.body _ (List.mem_of_getElem? (at_blockAt (List.mem_range.mp ho))))
    · exact Nat.zero_le _
  rw [List.length_range] at this
  rw [List.length_append, List.length_append, List.length_range]
  have := ok.len
  have := ok.args
  have := (ok.body _ (List.mem_of_getElem? (at_blockAt hj))).few
  have : cd.blocks.length * 20 ≤ 10 * 20 := Nat.mul_le_mul_right _ (by omega)
  omega
/-! ### uses_are_given -/
def sp_uses_are_given (K : PySem.W.Frag) : Sp := fun vs H Q _ => ∃ (c : Addr) (j : Nat) (cd : CmBase.Code) (bl : Addr) (bs : List Addr), vs = [.ref c, .int (j : Int)] ∧ CAt K H c cd bl bs ∧ COk cd ∧ Whole cd ∧ j < cd.blocks.length ∧ RetV (.bl (usesGiven cd j)) H Q
theorem uses_len (r : Row) : r.uses.length ≤ 2 := by cases r <;> simp [Row.uses]
/-- all_among of a new list and a list that stands -/
theorem ev_among {us gs : List Nat} {q : Addr} (h : EvL ta σ H (natsV us)) (hb : Ev tb σ H (.ref q)) (hq : H q = some (.lst (natsV gs))) (hz : us.length ≤ 1000) : Ev (tCall (sp_all_among K) [] E0 (tCons ta (tCons tb tNil))) σ H (.bl (us.all gs.contains)) :=
  ev_callP (ap_cons (fun v H1 H2 e ⟨p, h1, h2⟩ => ⟨p, h1, e _ _ h2⟩) (EvL.p h) (VS.EvA.p (ea_cons hb ea_nil))) fun vs H1 e1 hP => by
    obtain ⟨w, l, rfl, ⟨p, rfl, hp⟩, rfl⟩ := hP
    exact spv_all_among (sq_of hp) (sq_of (e1 _ _ hq)) hz
theorem pure_uses_are_given (T : Tx K mg) (vs : List V) (H : Hp) (Q : VK) (E : XK) (h : sp_uses_are_given K vs H Q E) : t_uses_are_given K (sp_all_among K) (sp_given_at_begin K) (sp_given_by_row K) (sp_used_by_end K) (sp_used_by_row K) { nx := fun _ H' => Q .non H', rt := Q } (start N_uses_are_given vs) H := by
  obtain ⟨c, j, cd, bl, bs, rfl, hc, ok, wh, hj, k⟩ := h
  obtain ⟨ja, hja, hjb⟩ := hc.at_ hj
  have bj := ok.body _ (List.mem_of_getElem? (at_blockAt hj))
  have lj := ok.last _ (List.mem_of_getElem? (at_blockAt hj))
  refine q_asg (ev_block T hc (ev_var rfl) (ev_var rfl) hja) fun H1 e1 => ?_
  refine q_asgL (el_call (ea_cons (ev_var rfl) (ea_cons (ev_var rfl) ea_nil)) (spl_given_at_begin (hc.ex e1) ok wh hj)) fun l H2 hn e2 hl => ?_
  obtain ⟨rl, vs, hrl, hrows, erl⟩ := hjb.rows T
  obtain ⟨ev, hev, eev⟩ := hjb.end_ T
  have e12 := e1.trans e2
  have gl : ∀ i, (((Cm03.blockAt cd j).rows.take i).flatMap fun r => r.gives.toList).length ≤ 12 := fun i => by
    have := gives_len ((Cm03.blockAt cd j).rows.take i)
    have := List.length_take_le' i (Cm03.blockAt cd j).rows
    have := bj.len
    omega
  refine q_forLn (erl e12 (ev_var rfl)) (sq_of (e12 _ _ hrl)) (fun i σ' H' => (∃ w1, σ' = [some (.ref c), some (.int (j : Int)), some (.ref ja), some (.ref l), w1]) ∧ Gr H l (natsV (givenAt cd j ++ ((Cm03.blockAt cd j).rows.take i).flatMap fun r => r.gives.toList)) H' ∧
      usesGo ((Cm03.blockAt cd j).rows.drop i) (givenAt cd j ++ ((Cm03.blockAt cd j).rows.take i).flatMap fun r => r.gives.toList) (Cm03.blockAt cd j).last = usesGiven cd j)
    (fun H3 e3 => ⟨⟨_, rfl⟩, ⟨fresh_back e1 hn, e12.trans e3, by rw [List.take_zero]; simpa using e3 _ _ hl⟩, by rw [List.take_zero, List.drop_zero]; simp [usesGiven]⟩) (fun i σ' H' _ q => sq_of (q.2.1.ex _ _ hrl)) (fun i x σ' H' hx q => ?_) (fun σ' H' q => ?_)
  · obtain ⟨⟨w1, rfl⟩, g, hu⟩ := q
    obtain ⟨r, ra, hr, rfl, hra⟩ := hrows.at_ hx
    have plain := (bj.rows r (List.mem_of_getElem? hr)).plain
    have hra' := g.ex _ _ hra
    have hi := (List.getElem?_eq_some_iff.mp hr).1
    rw [List.drop_eq_getElem_cons hi, show (Cm03.blockAt cd j).rows[i] = r from (List.getElem?_eq_some_iff.mp hr).2] at hu
    have hu : (r.uses.all (givenAt cd j ++ ((Cm03.blockAt cd j).rows.take i).flatMap fun r => r.gives.toList).contains && usesGo ((Cm03.blockAt cd j).rows.drop (i + 1)) ((givenAt cd j ++ ((Cm03.blockAt cd j).rows.take i).flatMap fun r => r.gives.toList) ++ r.gives.toList) (Cm03.blockAt cd j).last) = usesGiven cd j := hu
    refine q_when (et_not (et_B (ev_among (el_call (dvs := []) (ea_cons (ev_var rfl) ea_nil) (spl_used_by_row hra' plain)) (ev_var rfl) g.at_ (by have := uses_len r; omega)))) (fun hb H3 e3 => ?_) (fun hb H3 e3 => ?_)
    · refine s_ret ev_c fun H4 e4 => ?_
      have z : r.uses.all (givenAt cd j ++ ((Cm03.blockAt cd j).rows.take i).flatMap fun r => r.gives.toList).contains = false := by simpa using hb
      rw [z] at hu
      have kk := k H4 ((g.ex.trans e3).trans e4)
      rw [← hu] at kk
      exact kk
    · have z : r.uses.all (givenAt cd j ++ ((Cm03.blockAt cd j).rows.take i).flatMap fun r => r.gives.toList).contains = true := by simpa using hb
      rw [z, Bool.true_and] at hu
      have e5 : givenAt cd j ++ ((Cm03.blockAt cd j).rows.take (i + 1)).flatMap (fun r => r.gives.toList) = (givenAt cd j ++ ((Cm03.blockAt cd j).rows.take i).flatMap fun r => r.gives.toList) ++ r.gives.toList := by rw [take_next hr, List.flatMap_append, List.flatMap_singleton, List.append_assoc]
      refine s_ext (e3 _ _ g.at_) (ev_var rfl) (el_call (dvs := []) (ea_cons (ev_var rfl) ea_nil) (spl_given_by_row (e3 _ _ hra') plain)) ?_ fun H4 e4 => ⟨⟨_, rfl⟩, ?_, by rw [e5]; exact hu⟩
      · have := givenAt_len ok hj
        have := gl i
        have : r.gives.toList.length ≤ 1 := by cases r.gives <;> simp
        rw [natsV_length, natsV_length, List.length_append]
        omega
      · rw [e5, natsV_append _ r.gives.toList]
        exact g.put (e3.trans e4)
  · obtain ⟨⟨w1, rfl⟩, g, hu⟩ := q
    rw [hrows.len, List.take_length] at g
    rw [hrows.len, List.take_length, List.drop_length] at hu
    have hu : (Cm03.blockAt cd j).last.uses.all (givenAt cd j ++ (Cm03.blockAt cd j).rows.flatMap fun r => r.gives.toList).contains = usesGiven cd j := hu
    have f17 := lj.few
    refine s_ret (ev_among (el_call (dvs := []) (ea_cons (eev g.ex (ev_var rfl)) ea_nil) (spl_used_by_end (hev.ex g.ex) (by omega))) (ev_var rfl) g.at_ (by omega)) fun H3 e3 => ?_
    rw [hu]
    exact k H3 (g.ex.trans e3)
theorem D_uses_are_given (T : Tx K mg) : Df P w K mg base 4 (He.ga K "uses_are_given") ["code", "number"] (sp_uses_are_given K) := ok_uses_are_given T (D_all_among T) (D_given_at_begin T) (D_given_by_row T) (D_used_by_end T) (D_used_by_row T) (fun vs H Q E h => by obtain ⟨a, b, d, e, f, rfl, _⟩ := h; rfl) (pure_uses_are_given T)
theorem spv_uses_are_given (hc : CAt K H c cd bl bs) (ok : COk cd) (wh : Whole cd) {j : Nat} (hj : j < cd.blocks.length) : SpV (sp_uses_are_given K) [.ref c, .int (j : Int)] H (.bl (usesGiven cd j)) := fun H1 e Q k E => ⟨c, j, cd, bl, bs, rfl, hc.ex e, ok, wh, hj, k⟩
/-! ### is_fair -/
def sp_is_fair (K : PySem.W.Frag) : Sp := fun vs H Q _ => ∃ (c : Addr) (cd : CmBase.Code) (bl : Addr) (bs : List Addr), vs = [.ref c] ∧ CAt K H c cd bl bs ∧ COk cd ∧ Whole cd ∧ RetV (.bl (Cm03.isFair cd)) H Q
theorem given_len (ok : COk cd) : (Cm03.given cd).length ≤ 300 := by
  unfold Cm03.given
  have := flat_len (f := Cm03.givenIn) (m := 20) (l := cd.blocks) fun b hb => givenIn_len (ok.body b hb)
  rw [List.length_append, List.length_range]
  have := ok.args
  have := ok.len
  have : cd.blocks.length * 20 ≤ 10 * 20 := Nat.mul_le_mul_right _ (by omega)
  omega
theorem pure_is_fair (T : Tx K mg) (vs : List V) (H : Hp) (Q : VK) (E : XK) (h : sp_is_fair K vs H Q E) : t_is_fair K (sp_given_in_code K) (sp_reached K) (sp_uses_are_given K) { nx := fun _ H' => Q .non H', rt := Q } (start N_is_fair vs) H := by
  obtain ⟨c, cd, bl, bs, rfl, hc, ok, wh, k⟩ := h
  have plain : ∀ b ∈ cd.blocks, ∀ r ∈ b.rows, Cm03.isCopy r = false := fun b hb r hr => ((ok.body b hb).rows r hr).plain
  have fp := fair_prog wh plain
  have no : ∀ {σ : L2.St} (bb : Bool) H1, Ex H H1 → Cm03.isFair cd = bb → tRet (tC (.bl bb)) { nx := fun _ H' => Q .non H', rt := Q } σ H1 := fun bb H1 e1 hb => s_ret ev_c fun H2 e2 => by
    have := k H2 (e1.trans e2)
    rwa [hb] at this
  have notFair : ¬ ((Cm03.given cd).Nodup ∧ (bfs cd none).length = cd.blocks.length ∧ ∀ j, j < cd.blocks.length → usesGiven cd j = true) → Cm03.isFair cd = false := fun h => by
    cases q : Cm03.isFair cd with
    | false => rfl
    | true => exact absurd (fp.mp q) h
  refine q_asgL (el_call (ea_cons (ev_var rfl) ea_nil) (spl_given_in_code hc ok)) fun l H1 hn e1 hl => ?_
  have g300 := given_len ok
  have test : EvT (tTest (tOp rNe (tLenSetZ K (tVar 1)) (tCB (rLenS K) (tCons (tVar 1) tNil)))) [some (.ref c), some (.ref l), none] H1 (!decide ((Cm03.given cd).Nodup)) := by
    have el : Ev (tCB (rLenS K) (tCons (tVar 1) tNil)) [some (.ref c), some (.ref l), none] H1 (.int ((Cm03.given cd).length : Int)) := by
      have := ev_len (K := K) (ev_var (σ := [some (.ref c), some (.ref l), none]) (H := H1) (i := 1) rfl) (sq_of hl)
      rwa [natsV_length] at this
    refine et_test (ev_opP (fun v _ _ _ h => h) (ev_lenSet (ev_var rfl) (sq_of hl) (by omega)) (Ev.p el) fun a b H2 e2 ha hb => ?_)
    obtain ⟨n, rfl, h1, h2⟩ := ha
    subst hb
    have := rv_neI (H := H2) (i := (n : Int)) (j := ((Cm03.given cd).length : Int))
    have e : decide ((n : Int) = ((Cm03.given cd).length : Int)) = decide ((Cm03.given cd).Nodup) := decide_eq_decide.mpr ⟨fun q => h1.mp (by omega), fun q => by rw [h1.mpr q]⟩
    rwa [e] at this
  refine q_when test (fun hb H2 e2 => no false H2 (e1.trans e2) (notFair fun q => ?_)) (fun hb H2 e2 => ?_)
  · rw [decide_eq_true q.1] at hb
    cases hb
  have once : (Cm03.given cd).Nodup := by
    have : decide ((Cm03.given cd).Nodup) = true := by simpa using hb
    exact of_decide_eq_true this
  have hc2 := hc.ex (e1.trans e2)
  have el2 : Ev (tCB (rLenS K) (tCons (tCall (sp_reached K) [] E0 (tCons (tVar 0) (tCons (tC .non) tNil))) tNil)) [some (.ref c), some (.ref l), none] H2 (.int ((bfs cd none).length : Int)) := by
    have := ev_lenN (K := K) (el_call (E := E0) (dvs := []) (ea_cons (ev_var (σ := [some (.ref c), some (.ref l), none]) (H := H2) (i := 0) rfl) (ea_cons ev_c ea_nil)) (spl_reached hc2 ok.len wh none))
    rwa [natsV_length] at this
  refine q_when (et_test (ev_op el2 (ev_many T hc2 (ev_var rfl)) rv_neI)) (fun hb H3 e3 => no false H3 ((e1.trans e2).trans e3) (notFair fun q => ?_)) (fun hb H3 e3 => ?_)
  · rw [q.2.1] at hb
    simp at hb
  have rch : (bfs cd none).length = cd.blocks.length := by
    have : decide (((bfs cd none).length : Int) = (cd.blocks.length : Int)) = true := by simpa using hb
    have := of_decide_eq_true this
    omega
  have hc3 := hc2.ex e3
  have res : Cm03.isFair cd = (List.range cd.blocks.length).all fun j => usesGiven cd j := by
    rw [Bool.eq_iff_iff, fp, List.all_eq_true]
    exact ⟨fun q j hj => q.2.2 j (List.mem_range.mp hj), fun q => ⟨once, rch, fun j hj => q j (List.mem_range.mpr hj)⟩⟩
  refine s_ret (v := .bl (Cm03.isFair cd)) (ev_is (v := .bl ((List.range cd.blocks.length).all fun j => usesGiven cd j)) (ev_cbL (el_lcR1 (n := (cd.blocks.length : Int)) (fun _ => true) (fun i => .bl (usesGiven cd i)) (ea_cons (ev_many T hc3 (ev_var rfl)) ea_nil) ⟨by omega, by have := ok.len; omega⟩ (fun _ => rfl) (fun _ _ _ _ => et_yes) (fun i H4 e4 hi _ => ?_)) fun p H4 e4 h4 => ?_) (by rw [res])) fun H4 e4 => k H4 (((e1.trans e2).trans e3).trans e4)
  · exact ev_call (ea_cons (ev_var rfl) (ea_cons (ev_var rfl) ea_nil)) (spv_uses_are_given (hc3.ex e4) ok wh (by omega))
  · unfold Evl.given at h4
    rw [filter_yes, Int.toNat_natCast] at h4
    have e5 : (List.range cd.blocks.length).map (fun i => V.bl (usesGiven cd i)) = ((List.range cd.blocks.length).map fun i => usesGiven cd i).map V.bl := by rw [List.map_map]; rfl
    rw [e5] at h4
    have := rc_all (K := K) h4
    rwa [all_id] at this
theorem D_is_fair (T : Tx K mg) : Df P w K mg base 5 (He.ga K "is_fair") ["code"] (sp_is_fair K) := ok_is_fair T (D_given_in_code T) (D_reached T) (D_uses_are_given T) (fun vs H Q E h => by obtain ⟨a, b, d, e, rfl, _⟩ := h; rfl) (pure_is_fair T)
theorem spv_is_fair (hc : CAt K H c cd bl bs) (ok : COk cd) (wh : Whole cd) : SpV (sp_is_fair K) [.ref c] H (.bl (Cm03.isFair cd)) := fun H1 e Q k E => ⟨c, cd, bl, bs, rfl, hc.ex e, ok, wh, k⟩
end
end VS
/-! Runs (running.py). -/
namespace VS
open PySem L2 Evl CmBase
section
variable {P : Program} {w : World} {K : PySem.W.Frag} {mg : Str → Option Value} {base : Heap} {H H0 H' H1 : Hp} {σ : L2.St} {c a bl l : Addr} {cd : CmBase.Code} {b : CmBase.Block} {bs : List Addr} {xs ys : List V} {ta tb tl ti te : TE} {t : TT} {v : V} {D : Ends} {tz tu tw : TS}
/-! ### combined -/
def madeV (o : Op) (a b : Nat) : V := match o.make a b with
  | none => .non
  | some v => .int (v : Int)
def sp_combined (K : PySem.W.Frag) : Sp := fun vs H Q _ => ∃ (o : Op) (a b : Nat), vs = [.int (o.num : Int), .int (a : Int), .int (b : Int)] ∧ a < W ∧ b < W ∧ RetV (madeV o a b) H Q
theorem skip_op {n m : Int} (hv : σ[0]? = some (some (.int n))) (ne : decide (n = m) = false) (k : ∀ H1, Ex H H1 → tz D σ H1) : tSeq (tIfS (tTest (tOp rEq (tVar 0) (tC (.int m)))) tu tNext) tz D σ H :=
  q_when (et_test (ev_op (ev_var hv) ev_c rv_eqI)) (fun z => by rw [ne] at z; cases z) fun _ => k
theorem hit_op {n m : Int} (hv : σ[0]? = some (some (.int n))) (eq : decide (n = m) = true) (k : ∀ H1, Ex H H1 → tu { D with nx := tz D } σ H1) : tSeq (tIfS (tTest (tOp rEq (tVar 0) (tC (.int m)))) tu tNext) tz D σ H :=
  q_when (et_test (ev_op (ev_var hv) ev_c rv_eqI)) (fun _ => k) fun z => by rw [eq] at z; cases z
theorem fmodW (x : Int) : x.fmod 4294967296 = x % 4294967296 := Int.fmod_eq_emod_of_nonneg x (by decide)
theorem fmod32 (b : Nat) : (b : Int).fmod 32 = ((b % 32 : Nat) : Int) := by rw [Int.fmod_eq_emod_of_nonneg (b : Int) (by decide)]; rfl
theorem pure_combined (vs : List V) (H : Hp) (Q : VK) (E : XK) (h : sp_combined K vs H Q E) : t_combined K { nx := fun _ H' => Q .non H', rt := Q } (start N_combined vs) H := by
  obtain ⟨o, a, b, rfl, ha, hb, k⟩ := h
  have ha : a < 4294967296 := ha
  have hb : b < 4294967296 := hb
  have modw : ∀ {te : TE} {σ : L2.St} {H : Hp} {i : Int} {n : Nat}, Ev te σ H (.int i) → i % 4294967296 = ((n : Nat) : Int) → Ev (tOp rModN te (tC (.int 4294967296))) σ H (.int (n : Int)) := fun h e => ev_is (ev_op h ev_c (rv_I (by decide))) (by show V.int (Int.fmod _ _) = _; rw [fmodW, e])
  have m32 : ∀ {H : Hp}, Ev (tOp rModN (tVar 2) (tC (.int 32))) (start N_combined [.int (o.num : Int), .int (a : Int), .int (b : Int)]) H (.int ((b % 32 : Nat) : Int)) := ev_is (ev_op (ev_var rfl) ev_c (rv_I (by decide))) (by show V.int (Int.fmod _ _) = _; rw [fmod32])
  have b32 : b % 32 < 32 := Nat.mod_lt _ (by decide)
  have p2 : (2 : Int) ^ (b % 32) = ((2 ^ (b % 32) : Nat) : Int) := by rw [Int.natCast_pow]; rfl
  cases o with
  | add => exact hit_op rfl rfl fun H1 e1 => s_ret (modw (n := (a + b) % 4294967296) (ev_op (ev_var rfl) (ev_var rfl) rv_I0) (by omega)) fun H2 e2 => k H2 (e1.trans e2)
  | sub => exact skip_op rfl rfl fun H1 e1 => hit_op rfl rfl fun H2 e2 => s_ret (modw (n := (a + (4294967296 - b % 4294967296)) % 4294967296) (ev_op (ev_var rfl) (ev_var rfl) rv_I0) (by omega)) fun H3 e3 => k H3 ((e1.trans e2).trans e3)
  | mul =>
    refine skip_op rfl rfl fun H1 e1 => skip_op rfl rfl fun H2 e2 => hit_op rfl rfl fun H3 e3 => s_ret (modw (n := (a * b) % 4294967296) (ev_op (ev_var rfl) (ev_var rfl) (rv_I (Or.inl ⟨by omega, by omega⟩))) ?_) fun H4 e4 => k H4 (((e1.trans e2).trans e3).trans e4)
    rw [← Int.natCast_mul]
    rfl
  | and =>
    exact skip_op rfl rfl fun H1 e1 => skip_op rfl rfl fun H2 e2 => skip_op rfl rfl fun H3 e3 => hit_op rfl rfl fun H4 e4 => s_ret (v := madeV .and a b) (ev_is (ev_op (ev_var rfl) (ev_var rfl) rv_I0) (by
      rw [PyProof.Rows.bitAnd_pp (Int.natCast_nonneg a) (Int.natCast_nonneg b), Int.toNat_natCast, Int.toNat_natCast]; rfl)) fun H5 e5 => k H5 ((((e1.trans e2).trans e3).trans e4).trans e5)
  | or =>
    exact skip_op rfl rfl fun H1 e1 => skip_op rfl rfl fun H2 e2 => skip_op rfl rfl fun H3 e3 => skip_op rfl rfl fun H4 e4 => hit_op rfl rfl fun H5 e5 => s_ret (v := madeV .or a b) (ev_is (ev_op (ev_var rfl) (ev_var rfl) rv_I0) (by
      rw [Bits.bitOr_pp (Int.natCast_nonneg a) (Int.natCast_nonneg b), Int.toNat_natCast, Int.toNat_natCast]; rfl)) fun H6 e6 => k H6 (((((e1.trans e2).trans e3).trans e4).trans e5).trans e6)
  | xor =>
    exact skip_op rfl rfl fun H1 e1 => skip_op rfl rfl fun H2 e2 => skip_op rfl rfl fun H3 e3 => skip_op rfl rfl fun H4 e4 => skip_op rfl rfl fun H5 e5 => hit_op rfl rfl fun H6 e6 => s_ret (v := madeV .xor a b) (ev_is (ev_op (ev_var rfl) (ev_var rfl) rv_I0) (by
      rw [Bits.bitXor_pp (Int.natCast_nonneg a) (Int.natCast_nonneg b), Int.toNat_natCast, Int.toNat_natCast]; rfl)) fun H7 e7 => k H7 ((((((e1.trans e2).trans e3).trans e4).trans e5).trans e6).trans e7)
  | shl =>
    refine skip_op rfl rfl fun H1 e1 => skip_op rfl rfl fun H2 e2 => skip_op rfl rfl fun H3 e3 => skip_op rfl rfl fun H4 e4 => skip_op rfl rfl fun H5 e5 => skip_op rfl rfl fun H6 e6 => hit_op rfl rfl fun H7 e7 => s_ret (modw (n := (a * 2 ^ (b % 32)) % 4294967296) (ev_op (ev_var rfl) m32 (rv_I ⟨by omega, by omega, by omega⟩)) ?_) fun H8 e8 => k H8 (((((((e1.trans e2).trans e3).trans e4).trans e5).trans e6).trans e7).trans e8)
    rw [Int.toNat_natCast, p2, ← Int.natCast_mul]
    rfl
  | shr =>
    refine skip_op rfl rfl fun H1 e1 => skip_op rfl rfl fun H2 e2 => skip_op rfl rfl fun H3 e3 => skip_op rfl rfl fun H4 e4 => skip_op rfl rfl fun H5 e5 => skip_op rfl rfl fun H6 e6 => skip_op rfl rfl fun H7 e7 => hit_op rfl rfl fun H8 e8 => s_ret (v := madeV .shr a b) (ev_is (ev_op (ev_var rfl) m32 (rv_I (Int.natCast_nonneg _))) ?_) fun H9 e9 => k H9 ((((((((e1.trans e2).trans e3).trans e4).trans e5).trans e6).trans e7).trans e8).trans e9)
    rw [Int.toNat_natCast, p2]
    rfl
  | below =>
    refine skip_op rfl rfl fun H1 e1 => skip_op rfl rfl fun H2 e2 => skip_op rfl rfl fun H3 e3 => skip_op rfl rfl fun H4 e4 => skip_op rfl rfl fun H5 e5 => skip_op rfl rfl fun H6 e6 => skip_op rfl rfl fun H7 e7 => skip_op rfl rfl fun H8 e8 => hit_op rfl rfl fun H9 e9 => s_ret (v := madeV .below a b) (ev_if (et_test (ev_op (ev_var rfl) (ev_var rfl) rv_I0)) (fun z => ev_is ev_c ?_) (fun z => ev_is ev_c ?_)) fun Ha ea => k Ha (((((((((e1.trans e2).trans e3).trans e4).trans e5).trans e6).trans e7).trans e8).trans e9).trans ea)
    · have : a < b := by have := of_decide_eq_true z; omega
      simp [madeV, Op.make, this]
    · have : ¬ a < b := by have := of_decide_eq_false z; omega
      simp [madeV, Op.make, this]
  | same =>
    refine skip_op rfl rfl fun H1 e1 => skip_op rfl rfl fun H2 e2 => skip_op rfl rfl fun H3 e3 => skip_op rfl rfl fun H4 e4 => skip_op rfl rfl fun H5 e5 => skip_op rfl rfl fun H6 e6 => skip_op rfl rfl fun H7 e7 => skip_op rfl rfl fun H8 e8 => skip_op rfl rfl fun H9 e9 => hit_op rfl rfl fun Ha ea => s_ret (v := madeV .same a b) (ev_if (et_test (ev_op (ev_var rfl) (ev_var rfl) rv_eqI)) (fun z => ev_is ev_c ?_) (fun z => ev_is ev_c ?_)) fun Hb eb => k Hb ((((((((((e1.trans e2).trans e3).trans e4).trans e5).trans e6).trans e7).trans e8).trans e9).trans ea).trans eb)
    · have : a = b := by have := of_decide_eq_true z; omega
      simp [madeV, Op.make, this]
    · have : ¬ a = b := by have := of_decide_eq_false z; omega
      simp [madeV, Op.make, this]
  | div =>
    refine skip_op rfl rfl fun H1 e1 => skip_op rfl rfl fun H2 e2 => skip_op rfl rfl fun H3 e3 => skip_op rfl rfl fun H4 e4 => skip_op rfl rfl fun H5 e5 => skip_op rfl rfl fun H6 e6 => skip_op rfl rfl fun H7 e7 => skip_op rfl rfl fun H8 e8 => skip_op rfl rfl fun H9 e9 => skip_op rfl rfl fun Ha ea => s_ret (v := madeV .div a b) (ev_if (et_test (ev_op (ev_var rfl) ev_c rv_eqI)) (fun z => ev_is ev_c ?_) (fun z => ev_is (ev_op (ev_var rfl) (ev_var rfl) (rv_I ⟨?_, ?_⟩)) ?_)) fun Hb eb => k Hb ((((((((((e1.trans e2).trans e3).trans e4).trans e5).trans e6).trans e7).trans e8).trans e9).trans ea).trans eb)
    · have : b = 0 := by have := of_decide_eq_true z; omega
      simp [madeV, Op.make, this]
    · have := of_decide_eq_false z
      exact this
    · omega
    · have : ¬ b = 0 := by have := of_decide_eq_false z; omega
      have e : (a : Int).fdiv (b : Int) = ((a / b : Nat) : Int) := by rw [Int.fdiv_eq_ediv_of_nonneg _ (Int.natCast_nonneg b)]; rfl
      rw [e]
      simp [madeV, Op.make, this]
theorem D_combined (T : Tx K mg) : Df P w K mg base 1 (He.ga K "combined") ["operation", "first", "second"] (sp_combined K) := ok_combined T (fun vs H Q E h => by obtain ⟨a, b, d, rfl, _⟩ := h; rfl) pure_combined
theorem spv_combined {o : Op} {x y : Nat} (hx : x < W) (hy : y < W) : SpV (sp_combined K) [.int (o.num : Int), .int (x : Int), .int (y : Int)] H (madeV o x y) := fun H1 e Q k E => ⟨o, x, y, rfl, hx, hy, k⟩
/-! ### what the values hold -/
def heldV (e : CmBase.Env) : List V := (List.range 40).map fun x => .int (look e x : Int)
theorem held_len (e : CmBase.Env) : (heldV e).length = 40 := by unfold heldV; rw [List.length_map, List.length_range]
theorem held_at {e : CmBase.Env} {x : Nat} (hx : x < 40) : (heldV e)[x]? = some (.int (look e x : Int)) := by
  unfold heldV
  rw [List.getElem?_map, List.getElem?_range hx]
  rfl
theorem held_put {e : CmBase.Env} {x v : Nat} (hx : x < 40) : (heldV e).set x (.int (v : Int)) = heldV (put e x v) := by
  refine List.ext_getElem? fun i => ?_
  by_cases hi : i < 40
  · rw [held_at hi, look_put]
    by_cases ix : i = x
    · subst ix
      rw [List.getElem?_set_self (by rw [held_len]; exact hx), if_pos rfl]
    · rw [List.getElem?_set_ne (fun q => ix q.symm), held_at hi, if_neg ix]
  · rw [List.getElem?_eq_none (by rw [List.length_set, held_len]; omega), List.getElem?_eq_none (by rw [held_len]; omega)]
theorem ev_held {e : CmBase.Env} {x : Nat} {hl : Addr} (hx : x < 40) (ha : Ev ta σ H (.ref hl)) (hh : H hl = some (.lst (heldV e))) (hi : Ev ti σ H (.int (x : Int))) : Ev (tOp (rIxL K) ta ti) σ H (.int (look e x : Int)) := ev_op ha hi (rv_ixL (sq_of hh) (at_nat (held_at hx)))
/-! ### run_rows -/
/-- what stands in Hb stands on, and the two lists are new to it -/
structure Und (Hb : Hp) (hl sl : Addr) (e : CmBase.Env) (said : List Nat) (H : Hp) : Prop where
  ex : Ex Hb H
  nh : Hb hl = none
  ns : Hb sl = none
  ne : hl ≠ sl
  held : H hl = some (.lst (heldV e))
  said_ : H sl = some (.lst (natsV said))
  words : Words e
variable {Hb : Hp} {hl sl : Addr} {e : CmBase.Env} {said : List Nat}
theorem Und.step (u : Und Hb hl sl e said H) (x : Ex H H') : Und Hb hl sl e said H' := ⟨u.ex.trans x, u.nh, u.ns, u.ne, x _ _ u.held, x _ _ u.said_, u.words⟩
theorem Und.put (u : Und Hb hl sl e said H) (x : Ex H H1) {e' : CmBase.Env} (w : Words e') : Und Hb hl sl e' said (upd H1 hl (.lst (heldV e'))) := ⟨Ex.mut (u.ex.trans x) u.nh, u.nh, u.ns, u.ne, upd_same, by rw [upd_ne u.ne.symm]; exact x _ _ u.said_, w⟩
theorem Und.say (u : Und Hb hl sl e said H) (x : Ex H H1) {said' : List Nat} : Und Hb hl sl e said' (upd H1 sl (.lst (natsV said'))) := ⟨Ex.mut (u.ex.trans x) u.ns, u.nh, u.ns, u.ne, by rw [upd_ne u.ne]; exact x _ _ u.held, upd_same, u.words⟩
def sp_run_rows (K : PySem.W.Frag) : Sp := fun vs H Q _ => ∃ (Hb : Hp) (rl hl sl : Addr) (rvs : List V) (rows : List Row) (e : CmBase.Env) (said : List Nat), vs = [.ref rl, .ref hl, .ref sl] ∧ Hb rl = some (.lst rvs) ∧ RowsAt Hb rvs rows ∧ (∀ r ∈ rows, RowOk r) ∧ Und Hb hl sl e said H ∧ said.length + rows.length ≤ 90000 ∧
  ∀ H', Und Hb hl sl (doRows rows e).1 (said ++ (doRows rows e).2.1) H' → Q (.bl (doRows rows e).2.2) H'
theorem pure_run_rows (vs : List V) (H : Hp) (Q : VK) (E : XK) (h : sp_run_rows K vs H Q E) : t_run_rows K (sp_combined K) { nx := fun _ H' => Q .non H', rt := Q } (start N_run_rows vs) H := by
  obtain ⟨Hb, rl, hl, sl, rvs, rows, e, said, rfl, hrl, hrows, ok, u, hz, k⟩ := h
  refine q_forLn (ev_var rfl) (sq_of (u.ex _ _ hrl)) (fun i σ' H' => (∃ w3 w4, σ' = [some (.ref rl), some (.ref hl), some (.ref sl), w3, w4]) ∧ ∃ (e' : CmBase.Env) (sd : List Nat), Und Hb hl sl e' (said ++ sd) H' ∧ sd.length ≤ i ∧ doRows rows e = ((doRows (rows.drop i) e').1, sd ++ (doRows (rows.drop i) e').2.1, (doRows (rows.drop i) e').2.2))
    (fun H1 e1 => ⟨⟨_, _, rfl⟩, e, [], by rw [List.append_nil]; exact u.step e1, Nat.le_refl _, by rw [List.drop_zero]; rfl⟩) (fun i σ' H' _ q => by obtain ⟨_, e', sd, u', _⟩ := q; exact sq_of (u'.ex _ _ hrl)) (fun i x σ' H' hx q => ?_) (fun σ' H' q => ?_)
  · obtain ⟨⟨w3, w4, rfl⟩, e', sd, u', hsd, hdo⟩ := q
    obtain ⟨r, ra, hr, rfl, hra⟩ := hrows.at_ hx
    have rok := ok r (List.mem_of_getElem? hr)
    have hi := (List.getElem?_eq_some_iff.mp hr).1
    rw [List.drop_eq_getElem_cons hi, (List.getElem?_eq_some_iff.mp hr).2] at hdo
    have hra' := u'.ex _ _ hra
    show tIfS _ _ _ _ _ _
    cases r with
    | copy x b => have := rok.plain; cases this
    | num x n =>
      have hx40 := rok.gives x rfl
      have hn : n < W := rok.word x n rfl
      refine s_if (et_ixT (n := 0) (ev_var rfl) hra' rfl) (fun _ H2 e2 => ?_) (fun z => by cases z)
      refine s_setL ((u'.step e2).held) (ev_ixT (i := 2) (v := .int (n : Int)) (ev_var rfl) (e2 _ _ hra') rfl) (ev_var rfl) (ev_ixT (i := 1) (v := .int (x : Int)) (ev_var rfl) (e2 _ _ hra') rfl) (by rw [held_len]; exact hx40) fun H3 e3 => ⟨⟨_, _, rfl⟩, put e' x n, sd, ?_, by omega, hdo⟩
      rw [held_put hx40]
      exact u'.put (e2.trans e3) (u'.words.put hn)
    | say x =>
      have hx40 := rok.uses x (by simp [Row.uses])
      refine s_if (et_ixT (n := 3) (ev_var rfl) hra' rfl) (fun z => by cases z) fun _ H2 e2 => ?_
      refine s_if (et_ixT (n := 3) (ev_var rfl) (e2 _ _ hra') rfl) (fun z => by cases z) fun _ H3 e3 => ?_
      have u3 := u'.step (e2.trans e3)
      refine s_app u3.said_ (ev_var rfl) (ev_held hx40 (ev_var rfl) u3.held (ev_ixT (i := 1) (v := .int (x : Int)) (ev_var rfl) ((e2.trans e3) _ _ hra') rfl)) (by rw [natsV_length, List.length_append]; omega) fun H4 e4 => ⟨⟨_, _, rfl⟩, e', sd ++ [look e' x], ?_, by rw [List.length_append]; simp; omega, ?_⟩
      · have := u'.say ((e2.trans e3).trans e4) (said' := said ++ (sd ++ [look e' x]))
        rw [← List.append_assoc, natsV_append (said ++ sd)] at this
        rw [← List.append_assoc]
        exact this
      · rw [hdo]
        show (_, sd ++ (look e' x :: _), _) = _
        simp
        exact ⟨rfl, rfl⟩
    | two x o p d =>
      have hx40 := rok.gives x rfl
      have hp40 := rok.uses p (by simp [Row.uses])
      have hd40 := rok.uses d (by simp [Row.uses])
      refine s_if (et_ixT (n := 2) (ev_var rfl) hra' rfl) (fun z => by cases z) fun _ H2 e2 => ?_
      refine s_if (et_ixT (n := 2) (ev_var rfl) (e2 _ _ hra') rfl) (fun _ H3 e3 => ?_) (fun z => by cases z)
      have u3 := u'.step (e2.trans e3)
      have ra3 := (e2.trans e3) _ _ hra'
      have ix : ∀ {i : Int} {v : V} {H4 : Hp} {w4 : Option V}, Ex H3 H4 → atI (rowV (.two x o p d)) i = some v → Ev (tOp (rIxT K) (tVar 3) (tC (.int i))) [some (.ref rl), some (.ref hl), some (.ref sl), some (.ref ra), w4] H4 v := fun e4 h => ev_ixT (ev_var rfl) (e4 _ _ ra3) h
      refine q_asg (ev_call (dvs := []) (ea_cons (ix (i := 2) (Ex.refl H3) rfl) (ea_cons (ev_held hp40 (ev_var rfl) u3.held (ix (i := 3) (Ex.refl H3) rfl)) (ea_cons (ev_held hd40 (ev_var rfl) u3.held (ix (i := 4) (Ex.refl H3) rfl)) ea_nil))) (spv_combined (u'.words p) (u'.words d))) fun H4 e4 => ?_
      cases hm : o.make (look e' p) (look e' d) with
      | none =>
        have mv : madeV o (look e' p) (look e' d) = .non := by unfold madeV; rw [hm]
        rw [mv]
        refine q_when (b := true) (et_is (et_test (ev_op (ev_var (v := .non) rfl) ev_c rv_isN)) rfl) (fun _ H5 e5 => s_ret ev_c fun H6 e6 => ?_) (fun z => by cases z)
        have fin : doRows (.two x o p d :: rows.drop (i + 1)) e' = (e', [], false) := by show (match o.make (look e' p) (look e' d) with | none => (e', [], false) | some v => doRows (rows.drop (i + 1)) (put e' x v)) = _; rw [hm]
        rw [fin] at hdo
        have kk := k H6
        rw [hdo] at kk
        refine kk ?_
        rw [List.append_nil]
        exact u'.step ((((e2.trans e3).trans e4).trans e5).trans e6)
      | some n =>
        have mv : madeV o (look e' p) (look e' d) = .int (n : Int) := by unfold madeV; rw [hm]
        rw [mv]
        have hn : n < W := make_lt (u'.words p) (u'.words d) hm
        refine q_when (b := false) (et_is (et_test (ev_op (ev_var (v := .int (n : Int)) rfl) ev_c rv_isN)) rfl) (fun z => by cases z) fun _ H5 e5 => ?_
        have e25 := ((e2.trans e3).trans e4).trans e5
        refine s_setL ((u'.step e25).held) (ev_var (v := .int (n : Int)) rfl) (ev_var rfl) (ix (i := 1) (v := .int (x : Int)) (e4.trans e5) rfl) (by rw [held_len]; exact hx40) fun H6 e6 => ⟨⟨_, _, rfl⟩, put e' x n, sd, ?_, by omega, ?_⟩
        · rw [held_put hx40]
          exact u'.put (e25.trans e6) (u'.words.put hn)
        · rw [hdo]
          have fin : doRows (.two x o p d :: rows.drop (i + 1)) e' = doRows (rows.drop (i + 1)) (put e' x n) := by show (match o.make (look e' p) (look e' d) with | none => (e', [], false) | some v => doRows (rows.drop (i + 1)) (put e' x v)) = _; rw [hm]
          rw [fin]
  · obtain ⟨⟨w3, w4, rfl⟩, e', sd, u', hsd, hdo⟩ := q
    rw [hrows.len, List.drop_length] at hdo
    refine s_ret ev_c fun H3 e3 => ?_
    have kk := k H3
    rw [hdo] at kk
    refine kk ?_
    show Und Hb hl sl e' (said ++ (sd ++ [])) H3
    rw [List.append_nil]
    exact u'.step e3
theorem D_run_rows (T : Tx K mg) : Df P w K mg base 2 (He.ga K "run_rows") ["rows", "held", "said"] (sp_run_rows K) := ok_run_rows T (D_combined T) (fun vs H Q E h => by obtain ⟨a, b, d, e, f, g, i, j, rfl, _⟩ := h; rfl) pure_run_rows
end
end VS
/-! Runs: ends, blocks, the whole (running.py). -/
namespace VS
open PySem L2 Evl CmBase
section
variable {P : Program} {w : World} {K : PySem.W.Frag} {mg : Str → Option Value} {base : Heap} {H H0 H' H1 : Hp} {σ : L2.St} {c a bl l : Addr} {cd : CmBase.Code} {b : CmBase.Block} {bs : List Addr} {xs ys : List V} {ta tb tl ti te : TE} {t : TT} {v : V} {D : Ends} {tz tu tw : TS} {Hb : Hp} {hl sl : Addr} {e : CmBase.Env} {said : List Nat}
/-- a comprehension over a tuple of numbers that gives values -/
theorem el_lcTup {p : Addr} {l : List Nat} {j : Nat} {vs : List Nat} (f : Nat → V) (h : Ev tl σ H (.ref p)) (hx : SqT K H p (natsV l)) (hz : l.length ≤ 40000) (hw : ∀ x, wipe ((wipe σ vs).set j (some x)) vs = wipe σ vs)
    (he : ∀ n ∈ l, ∀ H1, Ex H H1 → Ev te ((wipe σ vs).set j (some (.int (n : Int)))) H1 (f n)) : EvL (tLc (iTup K tl) (gName j) tYes te vs) σ H (l.map f) := fun H0 e Q q =>
  h H0 e _ fun H1 e1 => ⟨p, rfl, ⟨_, ex_t (e.trans e1) hx⟩, fun Dl hD =>
    lc_tup (xs := natsV l) (fun i H' => H1 Dl = none ∧ Ex H1 H' ∧ H' Dl = some (.lst ((l.take i).map f))) ⟨hD, Ex.new hD, upd_same⟩ (fun i H' _ p => ex_t ((e.trans e1).trans p.2.1) hx) (fun i x H' hi p => ⟨hw x, by
      obtain ⟨p1, p2, p3⟩ := p
      show te _ H' _
      have hi2 : i < l.length := by have := (List.getElem?_eq_some_iff.mp hi).1; rwa [natsV_length] at this
      have hn := List.getElem?_eq_getElem hi2
      have : x = .int (l[i] : Int) := by
        have := nats_at hn
        rw [hi] at this
        exact Option.some.inj this
      subst this
      refine he _ (List.mem_of_getElem? hn) H' ((e.trans e1).trans p2) H' (Ex.refl H') _ fun H4 e4 => ⟨_, e4 _ _ p3, sz_lt (by rw [List.length_map]; have := List.length_take_le' i l; omega), p1, Ex.mut (p2.trans e4) p1, ?_⟩
      rw [take_next hn, List.map_append]
      exact upd_same⟩)
      (fun H' p => q Dl H' (fresh_back e1 p.1) (e1.trans p.2.1) (by
        have := p.2.2
        rw [natsV_length, List.take_length] at this
        exact this))⟩
/-! ### calls that change things -/
theorem s_retCall {sp : Sp} {tA : TA} {vs : List V} {E : XK} (h : EvA tA σ H vs) (k : ∀ H1, Ex H H1 → sp vs H1 D.rt E) : tRet (tCall sp [] E tA) D σ H := h H (Ex.refl H) _ fun H1 e => by
  rw [List.append_nil]
  exact k H1 e
theorem q_asgCall {sp : Sp} {tA : TA} {vs : List V} {E : XK} {i : Nat} (h : EvA tA σ H vs) (k : ∀ H1, Ex H H1 → sp vs H1 (fun v H2 => tz D (σ.set i (some v)) H2) E) : tSeq (tAsg (tCall sp [] E tA) (gName i)) tz D σ H := h H (Ex.refl H) _ fun H1 e => by
  rw [List.append_nil]
  exact k H1 e
theorem s_asgCall {sp : Sp} {tA : TA} {vs : List V} {E : XK} {i : Nat} (h : EvA tA σ H vs) (k : ∀ H1, Ex H H1 → sp vs H1 (fun v H2 => D.nx (σ.set i (some v)) H2) E) : tAsg (tCall sp [] E tA) (gName i) D σ H := h H (Ex.refl H) _ fun H1 e => by
  rw [List.append_nil]
  exact k H1 e
theorem q_unlessCall {sp : Sp} {tA : TA} {vs : List V} {E : XK} (h : EvA tA σ H vs) (k : ∀ H1, Ex H H1 → sp vs H1 (fun v H2 => ∃ b, v = .bl b ∧ if (!b) = true then tu { D with nx := tz D } σ H2 else tz D σ H2) E) : tSeq (tIfS (tNot (tB (tCall sp [] E tA))) tu tNext) tz D σ H := h H (Ex.refl H) _ fun H1 e => by
  rw [List.append_nil]
  exact k H1 e
theorem q_forZipTL {g : TG} {tA : TA} {p q : Addr} (h : EvA tA σ H [.ref p, .ref q]) (hx : SqT K H p xs) (hy : SqL K H q ys) (hl : xs.length = ys.length) (Pv : Nat → L2.St → Hp → Prop) (h0 : ∀ H1, Ex H H1 → Pv 0 σ H1) (hq : ∀ i σ H, Pv i σ H → SqT K H p xs ∧ SqL K H q ys)
    (step : ∀ i x y σ H T, xs[i]? = some x → ys[i]? = some y → H T = none → Pv i σ H → g (.ref T) σ (upd H T (.tup [x, y])) fun σ2 H2 => tu { D with nx := Pv (i + 1), ct := Pv (i + 1), bk := tz D } σ2 H2) (hd : ∀ σ H, Pv xs.length σ H → tz D σ H) : tSeq (tFor (iZipTL K tA) g tu) tz D σ H :=
  h H (Ex.refl H) _ fun H1 e => ⟨p, q, xs, ys, rfl, ex_t e hx, ex_l e hy, for_zipTL (D := { D with nx := tz D }) hl Pv (h0 H1 e) hq step hd⟩
/-! ### hand_over -/
theorem puts_snoc : ∀ {xs vs : List Nat} {e : CmBase.Env} {x v : Nat}, xs.length = vs.length → puts e (xs ++ [x]) (vs ++ [v]) = put (puts e xs vs) x v
  | [], [], _, _, _, _ => rfl
  | a :: xs, b :: vs, e, x, v, h => by
    show puts (put e a b) (xs ++ [x]) (vs ++ [v]) = put (puts (put e a b) xs vs) x v
    exact puts_snoc (by simpa using h)
/-- the list of blocks, as it lies -/
structure BsAt (K : PySem.W.Frag) (H : Hp) (bl : Addr) (bs : List Addr) (cd : CmBase.Code) : Prop where
  lst : H bl = some (.lst (bs.map V.ref))
  len : bs.length = cd.blocks.length
  blk : ∀ (i : Nat) (b : CmBase.Block), cd.blocks[i]? = some b → ∃ a, bs[i]? = some a ∧ BAt K H a b
theorem CAt.toBs (h : CAt K H c cd bl bs) : BsAt K H bl bs cd := ⟨h.lst, h.len, h.blk⟩
theorem BsAt.ex (e : Ex H H') (h : BsAt K H bl bs cd) : BsAt K H' bl bs cd := ⟨e _ _ h.lst, h.len, fun i b hb => by obtain ⟨a, q1, q2⟩ := h.blk i b hb; exact ⟨a, q1, q2.ex e⟩⟩
theorem BsAt.at_ (h : BsAt K H bl bs cd) {i : Nat} (hi : i < cd.blocks.length) : ∃ a, bs[i]? = some a ∧ BAt K H a (Cm03.blockAt cd i) := h.blk i _ (at_blockAt hi)
theorem ev_bsAt (h : BsAt K H bl bs cd) (ha : Ev ta σ H (.ref bl)) {i : Nat} (hi : Ev ti σ H (.int (i : Int))) {a : Addr} (hb : bs[i]? = some a) : Ev (tOp (rIxL K) ta ti) σ H (.ref a) :=
  ev_op ha hi (rv_ixL (sq_of h.lst) (at_nat (by rw [List.getElem?_map, hb]; rfl)))
def sp_hand_over (K : PySem.W.Frag) : Sp := fun vs H Q _ => ∃ (Hb : Hp) (bl : Addr) (bs : List Addr) (cd : CmBase.Code) (tt : Nat) (hq hl sl : Addr) (as : List Nat) (e : CmBase.Env) (said : List Nat), vs = [.ref bl, .int (tt : Int), .ref hq, .ref hl] ∧ BsAt K Hb bl bs cd ∧ tt < cd.blocks.length ∧ Hb hq = some (.tup (natsV as)) ∧ (∀ x ∈ as, x < 40) ∧ (∀ x ∈ takesOf cd tt, x < 40) ∧ as.length = (takesOf cd tt).length ∧ as.length ≤ 1000 ∧ Und Hb hl sl e said H ∧
  ∀ H', Und Hb hl sl (hand e (takesOf cd tt) as) said H' → Q (.int (tt : Int)) H'
theorem pure_hand_over (T : Tx K mg) (vs : List V) (H : Hp) (Q : VK) (E : XK) (h : sp_hand_over K vs H Q E) : t_hand_over K { nx := fun _ H' => Q .non H', rt := Q } (start N_hand_over vs) H := by
  obtain ⟨Hb, bl, bs, cd, tt, hq, hl, sl, as, e, said, rfl, hbs, htt, hhq, has, htk, hlen, hz, u, k⟩ := h
  refine q_asgL (el_lcTup (K := K) (l := as) (fun n => .int (look e n : Int)) (ev_var rfl) (st_of (u.ex _ _ hhq)) (by omega) (fun _ => rfl) fun n hn H1 e1 => ev_held (has n hn) (ev_var rfl) (e1 _ _ u.held) (ev_var rfl)) fun wl H1 hwn e1 hwl => ?_
  obtain ⟨ba, hba, hbb⟩ := hbs.at_ htt
  obtain ⟨tk, htk1, etk⟩ := hbb.taken T
  rw [← takesOf_at htt] at htk1
  have hb1 : Ex Hb H1 := u.ex.trans e1
  have src : EvA (tCons (tFld K (tOp (rIxL K) (tVar 0) (tVar 1)) "taken") (tCons (tVar 4) tNil)) [some (.ref bl), some (.int (tt : Int)), some (.ref hq), some (.ref hl), some (.ref wl), none, none] H1 [.ref tk, .ref wl] := ea_cons (etk hb1 (ev_bsAt (hbs.ex hb1) (ev_var rfl) (ev_var rfl) hba)) (ea_cons (ev_var rfl) ea_nil)
  have wne : wl ≠ hl := (ne_of_none u.held hwn).symm
  have wlen : (natsV (takesOf cd tt)).length = (as.map fun n => V.int (look e n : Int)).length := by rw [natsV_length, List.length_map, hlen]
  refine q_forZipTL src (st_of (hb1 _ _ htk1)) (sq_of hwl) wlen (fun i σ' H' => (∃ w5 w6, σ' = [some (.ref bl), some (.int (tt : Int)), some (.ref hq), some (.ref hl), some (.ref wl), w5, w6]) ∧ H' wl = some (.lst (as.map fun n => .int (look e n : Int))) ∧ Und Hb hl sl (puts e ((takesOf cd tt).take i) ((as.map (look e)).take i)) said H')
    (fun H2 e2 => ⟨⟨_, _, rfl⟩, e2 _ _ hwl, u.step (e1.trans e2)⟩) (fun i σ' H' q => ⟨st_of (q.2.2.ex _ _ htk1), sq_of q.2.1⟩) (fun i x y σ' H' Tp hx hy hT q => ?_) (fun σ' H' q => ?_)
  · obtain ⟨⟨w5, w6, rfl⟩, hwl', u'⟩ := q
    have eT : Ex H' (upd H' Tp (.tup [x, y])) := Ex.new hT
    have hi : i < (takesOf cd tt).length := by have := (List.getElem?_eq_some_iff.mp hx).1; rwa [natsV_length] at this
    have hn := List.getElem?_eq_getElem hi
    have hxe : x = .int ((takesOf cd tt)[i] : Int) := by
      have := nats_at hn
      rw [hx] at this
      exact Option.some.inj this
    have hi2 : i < as.length := by omega
    have hm := List.getElem?_eq_getElem hi2
    have hye : y = .int (look e as[i] : Int) := by
      rw [List.getElem?_map, hm] at hy
      exact (Option.some.inj hy).symm
    have hx40 : (takesOf cd tt)[i] < 40 := htk _ (List.getElem_mem hi)
    subst hxe
    subst hye
    refine g_two (st_of upd_same) ?_
    have uT := u'.step eT
    refine s_setL uT.held (ev_var (v := .int (look e as[i] : Int)) rfl) (ev_var rfl) (ev_var rfl) (by rw [held_len]; exact hx40) fun H3 e3 => ⟨⟨_, _, rfl⟩, ?_, ?_⟩
    · rw [upd_ne wne]
      exact e3 _ _ (eT _ _ hwl')
    · rw [held_put hx40, take_next hn, take_next (show (as.map (look e))[i]? = some (look e as[i]) by rw [List.getElem?_map, hm]; rfl), puts_snoc (by rw [List.length_take, List.length_take, List.length_map]; omega)]
      exact uT.put e3 (u'.words.put (u.words _))
  · obtain ⟨⟨w5, w6, rfl⟩, hwl', u'⟩ := q
    rw [natsV_length, List.take_length, List.take_of_length_le (by rw [List.length_map]; omega)] at u'
    exact s_ret (ev_var rfl) fun H3 e3 => k H3 (u'.step e3)
theorem D_hand_over (T : Tx K mg) : Df P w K mg base 1 (He.ga K "hand_over") ["blocks", "t", "handed", "held"] (sp_hand_over K) := ok_hand_over T (fun vs H Q E h => by obtain ⟨a, b, d, e, f, g, i, j, m, n, o, rfl, _⟩ := h; rfl) (pure_hand_over T)
/-! ### run_end -/
/-- where an end that isn't a give leads, and what's held then -/
def nextOf (cd : CmBase.Code) (e : CmBase.Env) : CmBase.End → Nat × CmBase.Env
  | .jump t as => (t, hand e (takesOf cd t) as)
  | .fork v t as u bs => if look e v = 0 then (u, hand e (takesOf cd u) bs) else (t, hand e (takesOf cd t) as)
  | .give _ => (0, e)
def sp_run_end (K : PySem.W.Frag) : Sp := fun vs H Q _ => ∃ (Hb : Hp) (bl : Addr) (bs : List Addr) (cd : CmBase.Code) (ev : V) (en : CmBase.End) (hl sl : Addr) (e : CmBase.Env) (said : List Nat), vs = [.ref bl, ev, .ref hl] ∧ BsAt K Hb bl bs cd ∧ EndAt Hb ev (some en) ∧ EndOk en ∧ (∀ v, en ≠ .give v) ∧ (∀ wy ∈ waysOf en, wy.1 < cd.blocks.length ∧ wy.2.length = (takesOf cd wy.1).length) ∧ (∀ t x, x ∈ takesOf cd t → x < 40) ∧ Und Hb hl sl e said H ∧
  ∀ H', Und Hb hl sl (nextOf cd e en).2 said H' → Q (.int ((nextOf cd e en).1 : Int)) H'
theorem pure_run_end (T : Tx K mg) (vs : List V) (H : Hp) (Q : VK) (E : XK) (h : sp_run_end K vs H Q E) : t_run_end K (sp_hand_over K) { nx := fun _ H' => Q .non H', rt := Q } (start N_run_end vs) H := by
  obtain ⟨Hb, bl, bs, cd, ev, en, hl, sl, e, said, rfl, hbs, hev, ok, ng, hw, htk, u, k⟩ := h
  have f17 := ok.few
  have go : ∀ {σ : L2.St} {H1 : Hp} {ti tq : TE} {tt : Nat} {hq : Addr} {as : List Nat}, Ex H H1 → σ[0]? = some (some (.ref bl)) → σ[2]? = some (some (.ref hl)) → Ev ti σ H1 (.int (tt : Int)) → Ev tq σ H1 (.ref hq) → Hb hq = some (.tup (natsV as)) → (∀ x ∈ as, x < 40) → as.length ≤ 1000 → tt < cd.blocks.length → as.length = (takesOf cd tt).length → (∀ H', Und Hb hl sl (hand e (takesOf cd tt) as) said H' → Q (.int (tt : Int)) H') →
      tRet (tCall (sp_hand_over K) [] E0 (tCons (tVar 0) (tCons ti (tCons tq (tCons (tVar 2) tNil))))) { nx := fun _ H' => Q .non H', rt := Q } σ H1 := by
    intro σ H1 ti tq tt hq as e1 s0 s2 h1 h2 h3 h4 h5 h6 h7 h8
    refine s_retCall (ea_cons (ev_var s0) (ea_cons h1 (ea_cons h2 (ea_cons (ev_var s2) ea_nil)))) fun H2 e2 => ?_
    exact ⟨Hb, bl, bs, cd, tt, hq, hl, sl, as, e, said, rfl, hbs, h6, h3, h4, htk tt, h7, h5, u.step (e1.trans e2), h8⟩
  cases en with
  | give x => exact absurd rfl (ng x)
  | jump t as =>
    obtain ⟨ea, p, rfl, hea, hp⟩ := hev
    have hea' := u.ex _ _ hea
    have wy := hw (t, as) (by simp [waysOf])
    refine q_when (b := false) (et_and (b := true) (et_ixT (n := 0) (ev_var rfl) hea' rfl) fun z => by cases z) (fun z => by cases z) fun _ H1 e1 => ?_
    refine q_when (et_ixT (n := 0) (ev_var rfl) (e1 _ _ hea') rfl) (fun z => by cases z) fun _ H2 e2 => ?_
    have ea2 := e2 _ _ (e1 _ _ hea')
    have l17 : as.length ≤ 17 := f17
    exact go (e1.trans e2) rfl rfl (ev_ixT (i := 1) (v := .int (t : Int)) (ev_var rfl) ea2 rfl) (ev_ixT (i := 2) (v := .ref p) (ev_var rfl) ea2 rfl) hp (fun x hx => ok.uses x hx) (by omega) wy.1 wy.2 k
  | fork x t as uu bss =>
    obtain ⟨ea, p, q, rfl, hea, hp, hq⟩ := hev
    have hea' := u.ex _ _ hea
    have w1 := hw (t, as) (by simp [waysOf])
    have w2 := hw (uu, bss) (by simp [waysOf])
    have x40 : x < 40 := ok.uses x (by simp [CmBase.End.uses])
    have lens : as.length + bss.length ≤ 17 := by
      have : (CmBase.End.fork x t as uu bss).uses.length = as.length + bss.length + 1 := by simp [CmBase.End.uses]
      omega
    have a40 : ∀ y ∈ as, y < 40 := fun y hy => ok.uses y (by simp [CmBase.End.uses, hy])
    have b40 : ∀ y ∈ bss, y < 40 := fun y hy => ok.uses y (by simp [CmBase.End.uses, hy])
    refine q_when (et_and (et_ixT (n := 1) (ev_var rfl) hea' rfl) fun _ => et_test (ev_op (ev_held x40 (ev_var rfl) u.held (ev_ixT (i := 1) (v := .int (x : Int)) (ev_var rfl) hea' rfl)) ev_c rv_neI)) (fun hb H1 e1 => ?_) (fun hb H1 e1 => ?_)
    · have nz : ¬ look e x = 0 := by
        intro z
        rw [z] at hb
        cases hb
      have k2 : ∀ H', Und Hb hl sl (hand e (takesOf cd t) as) said H' → Q (.int (t : Int)) H' := by
        have := k
        simp only [nextOf, if_neg nz] at this
        exact this
      have ea2 := e1 _ _ hea'
      exact go e1 rfl rfl (ev_ixT (i := 2) (v := .int (t : Int)) (ev_var rfl) ea2 rfl) (ev_ixT (i := 3) (v := .ref p) (ev_var rfl) ea2 rfl) hp a40 (by omega) w1.1 w1.2 k2
    · have z : look e x = 0 := by
        have : (true && !decide ((look e x : Int) = 0)) = false := hb
        simp at this
        omega
      have k2 : ∀ H', Und Hb hl sl (hand e (takesOf cd uu) bss) said H' → Q (.int (uu : Int)) H' := by
        have := k
        simp only [nextOf, if_pos z] at this
        exact this
      refine q_when (et_ixT (n := 1) (ev_var rfl) (e1 _ _ hea') rfl) (fun _ H2 e2 => ?_) (fun z => by cases z)
      have ea2 := e2 _ _ (e1 _ _ hea')
      exact go (e1.trans e2) rfl rfl (ev_ixT (i := 4) (v := .int (uu : Int)) (ev_var rfl) ea2 rfl) (ev_ixT (i := 5) (v := .ref q) (ev_var rfl) ea2 rfl) hq b40 (by omega) w2.1 w2.2 k2
theorem D_run_end (T : Tx K mg) : Df P w K mg base 2 (He.ga K "run_end") ["blocks", "end", "held"] (sp_run_end K) := ok_run_end T (D_hand_over T) (fun vs H Q E h => by obtain ⟨a, b, d, e, f, g, i, j, m, n, rfl, _⟩ := h; rfl) (pure_run_end T)
end
end VS
/-! Which values are live (living.py). -/
namespace VS
open PySem L2 Evl CmBase
/-! ### sorted sets are the specification's lists -/
theorem srt_filter {l : List Nat} {f : Nat → Bool} (h : ∀ x, x < 40 → (x ∈ l ↔ f x = true)) : srt l = (List.range 40).filter f := by
  unfold srt
  refine List.filter_congr fun x hx => ?_
  rw [Bool.eq_iff_iff, List.contains_iff_mem]
  exact h x (List.mem_range.mp hx)
theorem srt_atEnd {ls : List (List Nat)} {e : CmBase.End} : srt (e.uses ++ e.targets.flatMap fun t => ls.getD t []) = Cm06.atEnd ls e := srt_filter fun x _ => by
  rw [List.mem_append, List.mem_flatMap, Bool.or_eq_true, List.contains_iff_mem, List.any_eq_true]
  exact or_congr Iff.rfl ⟨fun ⟨t, h1, h2⟩ => ⟨t, h1, List.contains_iff_mem.mpr h2⟩, fun ⟨t, h1, h2⟩ => ⟨t, h1, List.contains_iff_mem.mp h2⟩⟩
theorem srt_ahead {r : Row} {s : List Nat} : srt ((s.filter fun x => !r.gives.toList.contains x) ++ r.uses) = Cm06.ahead r s := srt_filter fun x _ => by
  rw [List.mem_append, List.mem_filter, Bool.or_eq_true, Bool.and_eq_true, List.contains_iff_mem, List.contains_iff_mem]
  have : (!r.gives.toList.contains x) = !(r.gives == some x) := by
    cases g : r.gives with
    | none => rfl
    | some y =>
      by_cases e : y = x
      · subst e; simp
      · have : ¬ x = y := fun q => e q.symm
        simp [e, this]
  rw [this]
  exact Or.comm
theorem srt_both {l m : List Nat} : srt (l ++ m) = Cm06.both l m := srt_filter fun x _ => by
  rw [List.mem_append, Bool.or_eq_true, List.contains_iff_mem, List.contains_iff_mem]
/-- bounds of lists of values -/
def LOk (ls : List (List Nat)) : Prop := ∀ l ∈ ls, l.length ≤ 40 ∧ ∀ x ∈ l, x < 40
theorem srt_len (l : List Nat) : (srt l).length ≤ 40 := by
  unfold srt
  have := List.length_filter_le (fun x => l.contains x) (List.range 40)
  rwa [List.length_range] at this
theorem names_ok (f : Nat → Bool) : (Cm06.names.filter f).length ≤ 40 ∧ ∀ x ∈ Cm06.names.filter f, x < 40 := by
  refine ⟨?_, fun x hx => List.mem_range.mp (List.mem_filter.mp hx).1⟩
  have := List.length_filter_le f Cm06.names
  have e : Cm06.names.length = 40 := by decide
  omega
theorem aheadAll_ok {s : List Nat} (hs : s.length ≤ 40 ∧ ∀ x ∈ s, x < 40) : ∀ rows : List Row, (Cm06.aheadAll rows s).length ≤ 40 ∧ ∀ x ∈ Cm06.aheadAll rows s, x < 40
  | [] => hs
  | r :: l => by
    show (Cm06.ahead r (Cm06.aheadAll l s)).length ≤ 40 ∧ ∀ x ∈ Cm06.ahead r (Cm06.aheadAll l s), x < 40
    exact names_ok _
theorem getD_ok {ls : List (List Nat)} (h : LOk ls) (t : Nat) : (ls.getD t []).length ≤ 40 ∧ ∀ x ∈ ls.getD t [], x < 40 := by
  rw [List.getD_eq_getElem?_getD]
  cases q : ls[t]? with
  | none => exact ⟨Nat.zero_le _, fun x hx => by cases hx⟩
  | some l => exact h l (List.mem_of_getElem? q)
theorem liveRounds_ok (c : CmBase.Code) : ∀ k, LOk (Cm06.liveRounds c k)
  | 0 => fun l hl => by
    obtain ⟨b, _, e⟩ := List.mem_map.mp hl
    rw [← e]
    exact ⟨Nat.zero_le _, fun x hx => by cases hx⟩
  | k + 1 => fun l hl => by
    obtain ⟨b, _, e⟩ := List.mem_map.mp hl
    have h := aheadAll_ok (names_ok _ : (Cm06.atEnd (Cm06.liveRounds c k) b.last).length ≤ 40 ∧ _) b.rows
    rw [← e]
    exact ⟨Nat.le_trans (List.length_filter_le _ _) h.1, fun x hx => h.2 x (List.mem_filter.mp hx).1⟩
/-! ### lists of lists, as they lie -/
def LsV (ls : List (List Nat)) : V → Hp → Prop := ListV ls.length fun i => NumsV (ls.getD i [])
def LssV (lss : List (List (List Nat))) : V → Hp → Prop := ListV lss.length fun i => LsV (lss.getD i [])
theorem ls_mono (ls : List (List Nat)) : Mono (LsV ls) := list_mono fun i => nums_mono _
theorem lss_mono (lss : List (List (List Nat))) : Mono (LssV lss) := list_mono fun i => ls_mono _
def onB (f : Int → Bool) : V → Bool
  | .int n => f n
  | _ => false
section
variable {P : Program} {w : World} {K : PySem.W.Frag} {mg : Str → Option Value} {base : Heap} {H H0 H' H1 : Hp} {σ : L2.St} {c a bl l : Addr} {cd : CmBase.Code} {b : CmBase.Block} {bs : List Addr} {xs ys : List V} {ta tb tl ti te : TE} {t : TT} {g : TG} {v : V} {ls : List (List Nat)} {vs : List Nat}
theorem ListV.at_ {n : Nat} {R : Nat → V → Hp → Prop} (h : ListV n R v H) {i : Nat} (hi : i < n) : ∃ w, R i w H ∧ ∀ {ta ti : TE} {σ : L2.St} {H' : Hp}, Ex H H' → Ev ta σ H' v → Ev ti σ H' (.int (i : Int)) → Ev (tOp (rIxL K) ta ti) σ H' w := by
  obtain ⟨a, ws, rfl, h1, h2, h3⟩ := h
  have hx := List.getElem?_eq_getElem (h2 ▸ hi : i < ws.length)
  exact ⟨_, h3 i _ hx, fun e ea ei => ev_op ea ei (rv_ixL (sq_of (e _ _ h1)) (at_nat hx))⟩
theorem ListV.seq {n : Nat} {R : Nat → V → Hp → Prop} (h : ListV n R v H) : ∃ a ws, v = .ref a ∧ H a = some (.lst ws) ∧ ws.length = n ∧ ∀ i w, ws[i]? = some w → R i w H := h
/-- a comprehension's source, told by a word -/
theorem el_src {R : V → Hp → Prop} {zs : List V} (h : EvP tl σ H R) (k : ∀ v H1, Ex H H1 → R v H1 → EvL (tLc (iList K (tC v)) g t te vs) σ H1 zs) : EvL (tLc (iList K tl) g t te vs) σ H zs := fun H0 e Q q =>
  h H0 e _ fun v H1 e1 hR => k v H1 (e.trans e1) hR H1 (Ex.refl H1) Q fun p H2 hn e2 hp => q p H2 (fresh_back e1 hn) (e1.trans e2) hp
theorem ef_src {R : V → Hp → Prop} {S : V → Hp → Prop} (h : EvP tl σ H R) (k : ∀ v H1, Ex H H1 → R v H1 → EvF (tLc (iList K (tC v)) g t te vs) σ H1 S) : EvF (tLc (iList K tl) g t te vs) σ H S := fun H0 e Q q =>
  h H0 e _ fun v H1 e1 hR => k v H1 (e.trans e1) hR H1 (Ex.refl H1) Q fun p H2 e2 f => q p H2 (e1.trans e2) (f.back e1)
/-- an operation whose first operand is told by a word -/
theorem ep_op1 {R S : V → Hp → Prop} {r : R2} {y : V} (h : EvP ta σ H R) (hb : ∀ H1, Ex H H1 → Ev tb σ H1 y) (hr : ∀ x H1, Ex H H1 → R x H1 → ∃ z, S z H1 ∧ RV r x y H1 z) (m : Mono S) (mr : Mono R) : EvP (tOp r ta tb) σ H S := fun H0 e Q q =>
  h H0 e _ fun x H1 e1 hR => hb H1 (e.trans e1) H1 (Ex.refl H1) _ fun H2 e2 => by
    obtain ⟨z, hz, hrv⟩ := hr x H2 ((e.trans e1).trans e2) (mr x H1 H2 e2 hR)
    exact hrv H2 (Ex.refl H2) Q fun H3 e3 => q z H3 ((e1.trans e2).trans e3) (m z H2 H3 e3 hz)
/-- x = [e], e a new list -/
theorem q_lst1 {D : Ends} {tz : TS} {i : Nat} (h : EvL te σ H xs) (k : ∀ q p H1, H q = none → H p = none → q ≠ p → Ex H H1 → H1 q = some (.lst xs) → H1 p = some (.lst [.ref q]) → tz D (σ.set i (some (.ref p))) H1) : tSeq (tAsg (tLst (tCons te tNil)) (gName i)) tz D σ H :=
  h H (Ex.refl H) _ fun q H1 hq e1 h1 => ⟨sz_of (show 1 ≤ 100000 by decide), fun p hp => k q p _ hq (fresh_back e1 hp) (ne_of_none h1 hp) (e1.trans (Ex.new hp)) (Ex.new hp _ _ h1) upd_same⟩
/-- for x in reversed(a list) -/
theorem q_forRev {D : Ends} {tz tu : TS} {j : Nat} (h : Ev tl σ H (.ref a)) (hx : SqL K H a xs) (Pv : Nat → L2.St → Hp → Prop) (h0 : ∀ H1, Ex H H1 → Pv 0 σ H1) (hq : ∀ i σ' H', Pv i σ' H' → SqL K H' a xs)
    (hs : ∀ (i : Nat) (x : V) σ' H', i < xs.length → xs[xs.length - 1 - i]? = some x → Pv i σ' H' → tu { D with nx := Pv (i + 1), ct := Pv (i + 1), bk := tz D } (σ'.set j (some x)) H') (hd : ∀ σ' H', Pv xs.length σ' H' → tz D σ' H') : tSeq (tFor (iRev K (tCons tl tNil)) (gName j) tu) tz D σ H :=
  h H (Ex.refl H) _ fun H1 e => ⟨a, xs, rfl, ex_l e hx, RT.for_Itv (D := { D with nx := tz D }) Pv (h0 H1 e) hq hs hd⟩
/-! ### live_at_end -/
def sp_live_at_end (K : PySem.W.Frag) : Sp := fun vs H Q _ => ∃ (ev v : V) (e : CmBase.End) (ls : List (List Nat)), vs = [ev, v] ∧ EndAt H ev (some e) ∧ EndOk e ∧ LsV ls v H ∧ LOk ls ∧ (∀ t ∈ e.targets, t < ls.length) ∧ RetL (natsV (Cm06.atEnd ls e)) H Q
theorem targets_len (e : CmBase.End) : e.targets.length ≤ 2 := by cases e <;> simp [CmBase.End.targets]
theorem pure_live_at_end (vs : List V) (H : Hp) (Q : VK) (E : XK) (h : sp_live_at_end K vs H Q E) : t_live_at_end K (sp_used_by_end K) (sp_ways K) { nx := fun _ H' => Q .non H', rt := Q } (start N_live_at_end vs) H := by
  obtain ⟨ev, v, e, ls, rfl, hev, ok, hls, lok, ht, k⟩ := h
  have f17 := ok.few
  refine q_asgL (el_call (ea_cons (ev_var rfl) ea_nil) (spl_used_by_end hev (by omega))) fun l H1 hn e1 hl => ?_
  refine q_forEN (en_call (ea_cons (ev_var rfl) ea_nil) (spn_ways (hev.ex e1))) (fun p ws i σ' H' => (∃ w1 w2, σ' = [some ev, some v, some (.ref l), w1, w2]) ∧ p ≠ l ∧ H' p = some (.lst ws) ∧ WaysL e ws H' ∧ Gr H l (natsV (e.uses ++ (((waysOf e).take i).map (·.1)).flatMap fun t => ls.getD t [])) H')
    (fun p ws H2 hn2 e2 hp hws => ⟨⟨_, _, rfl⟩, (ne_of_none hl hn2).symm, hp, hws, hn, e1.trans e2, by simpa using e2 _ _ hl⟩) (fun p ws i σ' H' _ q => sq_of q.2.2.1) (fun p ws i x σ' H' hx q => ?_) (fun p ws σ' H' q => ?_)
  · obtain ⟨⟨w1, w2, rfl⟩, npl, hp, hws, g⟩ := q
    obtain ⟨wy, hwy, ta, tq, rfl, hta, htq⟩ := hws.at_ hx
    have wt : wy.1 ∈ e.targets := by rw [← waysOf_targets]; exact List.mem_map.mpr ⟨wy, List.mem_of_getElem? hwy, rfl⟩
    obtain ⟨w, ⟨cl, rfl, hcl⟩, ix⟩ := (ls_mono ls v H H' g.ex hls).at_ (K := K) (ht _ wt)
    refine g_two (st_of hta) ?_
    refine s_extV g.at_ (ev_var rfl) (ix (Ex.refl H') (ev_var rfl) (ev_var rfl)) hcl ?_ fun H2 e2 => ⟨⟨_, _, rfl⟩, npl, ?_, (hws.ex e2).but (but_list (e2 _ _ g.at_)), ?_⟩
    · have h1 := flat_len (f := fun t => ls.getD t []) (m := 40) (l := ((waysOf e).take i).map (·.1)) fun t _ => (getD_ok lok t).1
      have h2 := (getD_ok lok wy.1).1
      have h3 : (((waysOf e).take i).map (·.1)).length ≤ 2 := by
        rw [List.length_map]
        have := List.length_take_le' i (waysOf e)
        have := targets_len e
        rw [← waysOf_targets, List.length_map] at this
        omega
      have : (((waysOf e).take i).map (·.1)).length * 40 ≤ 2 * 40 := Nat.mul_le_mul_right _ h3
      rw [natsV_length, natsV_length, List.length_append]
      omega
    · rw [upd_ne npl]
      exact e2 _ _ hp
    · rw [take_next hwy, List.map_append, List.flatMap_append, ← List.append_assoc, natsV_append _ (List.flatMap _ (List.map _ [wy]))]
      have : (List.map (·.1) [wy]).flatMap (fun t => ls.getD t []) = ls.getD wy.1 [] := by simp
      rw [this]
      exact g.put e2
  · obtain ⟨⟨w1, w2, rfl⟩, npl, hp, hws, g⟩ := q
    rw [hws.1, List.take_length, waysOf_targets] at g
    refine s_retL (el_is (el_sortSetV (ev_var rfl) (sq_of g.at_) ?_ ?_) (by rw [srt_atEnd])) (k.pre g.ex)
    · have h1 := flat_len (f := fun t => ls.getD t []) (m := 40) (l := e.targets) fun t _ => (getD_ok lok t).1
      have := targets_len e
      have : e.targets.length * 40 ≤ 2 * 40 := Nat.mul_le_mul_right _ this
      rw [List.length_append]
      omega
    · intro x hx
      rcases List.mem_append.mp hx with q | q
      · exact ok.uses x q
      · obtain ⟨t, _, h2⟩ := List.mem_flatMap.mp q
        exact (getD_ok lok t).2 x h2
theorem D_live_at_end (T : Tx K mg) : Df P w K mg base 2 (He.ga K "live_at_end") ["end", "coming"] (sp_live_at_end K) := ok_live_at_end T (D_used_by_end T) (D_ways T) (fun vs H Q E h => by obtain ⟨a, b, d, e, rfl, _⟩ := h; rfl) pure_live_at_end
theorem spl_live_at_end {ev v : V} {e : CmBase.End} (hev : EndAt H ev (some e)) (ok : EndOk e) (hls : LsV ls v H) (lok : LOk ls) (ht : ∀ t ∈ e.targets, t < ls.length) : SpL (sp_live_at_end K) [ev, v] H (natsV (Cm06.atEnd ls e)) := fun H1 ex Q q E => ⟨ev, v, e, ls, rfl, hev.ex ex, ok, ls_mono ls v H H1 ex hls, lok, ht, q⟩
/-! ### live_in_block -/
/-- what's live at each place of a block -/
def placesOf (b : CmBase.Block) (ls : List (List Nat)) : List (List Nat) := (List.range (b.rows.length + 1)).map fun r => Cm06.aheadAll (b.rows.drop r) (Cm06.atEnd ls b.last)
theorem places_len (b : CmBase.Block) (ls : List (List Nat)) : (placesOf b ls).length = b.rows.length + 1 := by unfold placesOf; rw [List.length_map, List.length_range]
theorem places_at {i : Nat} (hi : i ≤ b.rows.length) : (placesOf b ls).getD i [] = Cm06.aheadAll (b.rows.drop i) (Cm06.atEnd ls b.last) := by
  unfold placesOf
  rw [List.getD_eq_getElem?_getD, List.getElem?_map, List.getElem?_range (by omega)]
  rfl
def sp_live_in_block (K : PySem.W.Frag) : Sp := fun vs H Q _ => ∃ (a : Addr) (v : V) (b : CmBase.Block) (ls : List (List Nat)), vs = [.ref a, v] ∧ BAt K H a b ∧ BodyOk b.takes b.rows ∧ EndOk b.last ∧ LsV ls v H ∧ LOk ls ∧ (∀ t ∈ b.last.targets, t < ls.length) ∧ RetF (LsV (placesOf b ls)) H Q
theorem pure_live_in_block (T : Tx K mg) (vs : List V) (H : Hp) (Q : VK) (E : XK) (h : sp_live_in_block K vs H Q E) : t_live_in_block K (sp_given_by_row K) (sp_live_at_end K) (sp_used_by_row K) { nx := fun _ H' => Q .non H', rt := Q } (start N_live_in_block vs) H := by
  obtain ⟨a, v, b, ls, rfl, hb, ok, ol, hls, lok, ht, k⟩ := h
  obtain ⟨rl, vs, hrl, hrows, erl⟩ := hb.rows T
  obtain ⟨ev, hev, eev⟩ := hb.end_ T
  let A : Nat → List Nat := fun k => Cm06.aheadAll (b.rows.drop (b.rows.length - k)) (Cm06.atEnd ls b.last)
  have aok : ∀ k, (A k).length ≤ 40 ∧ ∀ x ∈ A k, x < 40 := fun k => aheadAll_ok (names_ok _) _
  have A0 : A 0 = Cm06.atEnd ls b.last := by show Cm06.aheadAll (b.rows.drop (b.rows.length - 0)) _ = _; rw [Nat.sub_zero, List.drop_length]; rfl
  refine q_lst1 (el_call (dvs := []) (ea_cons (eev (Ex.refl H) (ev_var rfl)) (ea_cons (ev_var rfl) ea_nil)) (spl_live_at_end hev ol hls lok ht)) fun q0 p H1 hq0 hp0 nqp e1 h1 hp1 => ?_
  have vl := hrows.len
  refine q_forRev (erl e1 (ev_var rfl)) (sq_of (e1 _ _ hrl)) (fun i σ' H' => (∃ w3 w4 w5 w6, σ' = [some (.ref a), some v, some (.ref p), w3, w4, w5, w6]) ∧ Ex H H' ∧ ∃ ws, H' p = some (.lst ws) ∧ ws.length = i + 1 ∧ Fr (fun a => H a = none ∧ a ≠ p) H' fun H3 => ∀ (k : Nat) (w : V), ws[k]? = some w → NumsV (A k) w H3)
    (fun H2 e2 => ⟨⟨_, _, _, _, rfl⟩, e1.trans e2, [.ref q0], e2 _ _ hp1, rfl, ?_⟩) (fun i σ' H' q => sq_of (q.2.1 _ _ hrl)) (fun i x σ' H' hi hx q => ?_) (fun σ' H' q => ?_)
  · refine (Fr.one (N := fun a => H a = none ∧ a ≠ p) ⟨hq0, nqp⟩ (e2 _ _ h1)).weak fun H3 h3 k w hw => ?_
    cases k with
    | zero =>
      cases hw
      rw [A0]
      exact ⟨q0, rfl, h3⟩
    | succ k => simp at hw
  · obtain ⟨⟨w3, w4, w5, w6, rfl⟩, e, ws, hp, hwl, fr⟩ := q
    obtain ⟨r, ra, hr, rfl, hra⟩ := hrows.at_ hx
    have plain := (ok.rows r (List.mem_of_getElem? hr)).plain
    have rok := ok.rows r (List.mem_of_getElem? hr)
    obtain ⟨ws', wl, rfl, hl'⟩ := snoc_of hwl
    obtain ⟨q, rfl, hq⟩ := fr.here i wl (by rw [List.getElem?_append_right (by omega), hl', Nat.sub_self]; rfl)
    refine q_asgL (el_call (dvs := []) (ea_cons (ev_var rfl) ea_nil) (spl_given_by_row (e _ _ hra) plain)) fun gp H2 hgn e2 hgp => ?_
    have hp2 := e2 _ _ hp
    refine q_asgL (xs := natsV ((A i).filter fun x => !r.gives.toList.contains x)) (el_is (el_comp (K := K) (a := q) (xs := natsV (A i)) (fun x => onB (fun n => !r.gives.toList.contains n.toNat) x) id (ev_op (ev_var rfl) (ev_un ev_c ru_neg) (rv_ixL (sq_of hp2) (atI_last _ _))) (sq_of (e2 _ _ hq)) (by rw [natsV_length]; have := (aok i).1; omega) (fun _ => rfl) (fun x hx H3 e3 => ?_) (fun x hx H3 e3 _ => ev_var rfl)) ?_) fun sp H3 hsn e3 hsp => ?_
    · obtain ⟨n, _, rfl⟩ := List.mem_map.mp hx
      exact et_test (ev_op (ev_var rfl) (ev_var rfl) (rv_niN (sq_of (e3 _ _ hgp))))
    · rw [List.map_id, natsV_filter]
      rfl
    · have e23 := e2.trans e3
      have hA : A (i + 1) = Cm06.ahead r (A i) := by
        show Cm06.aheadAll (b.rows.drop (b.rows.length - (i + 1))) _ = Cm06.ahead r (Cm06.aheadAll (b.rows.drop (b.rows.length - i)) _)
        have hj : b.rows.length - (i + 1) < b.rows.length := by omega
        have hr2 : b.rows[b.rows.length - (i + 1)]? = some r := by rw [show b.rows.length - (i + 1) = vs.length - 1 - i by omega]; exact hr
        rw [List.drop_eq_getElem_cons hj, (List.getElem?_eq_some_iff.mp hr2).2, show b.rows.length - (i + 1) + 1 = b.rows.length - i by omega]
        rfl
      have small : ((A i).filter fun x => !r.gives.toList.contains x).length ≤ 40 := Nat.le_trans (List.length_filter_le _ _) (aok i).1
      have us := uses_len r
      have te : EvL (tSortSetZ K (tOp rCat (tVar 5) (tCall (sp_used_by_row K) [] E0 (tCons (tVar 3) tNil)))) [some (.ref a), some v, some (.ref p), some (.ref ra), some (.ref gp), some (.ref sp), w6] H3 (natsV (A (i + 1))) := by
        rw [hA, ← srt_ahead]
        refine el_sortSet (el_is (el_catV (ev_var rfl) hsp (el_call (dvs := []) (ea_cons (ev_var rfl) ea_nil) (spl_used_by_row (e3 _ _ (e2 _ _ (e _ _ hra))) plain)) ?_) (natsV_append _ _).symm) ?_ ?_
        · rw [natsV_length, natsV_length]
          omega
        · rw [List.length_append]
          omega
        · intro x hx
          rcases List.mem_append.mp hx with z | z
          · exact (aok i).2 x (List.mem_filter.mp z).1
          · exact rok.uses x z
      refine s_appF (e3 _ _ hp2) (ev_var rfl) (EvL.nums te) (by rw [List.length_append, hl']; have := ok.len; simp; omega) fun y H4 e4 f4 => ⟨⟨_, _, _, _, rfl⟩, ?_, _, upd_same, by rw [List.length_append, hwl]; rfl, ?_⟩
      · exact Ex.mut ((e.trans e23).trans e4) hp0
      · have nw : ∀ a, New H3 a → H a = none ∧ a ≠ p := fun a z => ⟨fresh_back (e.trans e23) z, fun z2 => by subst z2; have := e3 _ _ hp2; rw [show H3 a = none from z] at this; cases this⟩
        have fy := (f4.sub nw).upd (p := p) (o := .lst ((ws' ++ [V.ref q]) ++ [y])) fun z => z.2 rfl
        have fo := ((fr.ex e23).ex e4).upd (p := p) (o := .lst ((ws' ++ [V.ref q]) ++ [y])) fun z => z.2 rfl
        refine (fo.both fy).weak fun H5 hh k w hw => ?_
        rcases Nat.lt_trichotomy k (ws' ++ [V.ref q]).length with z | z | z
        · rw [List.getElem?_append_left z] at hw
          exact hh.1 k w hw
        · rw [z, List.getElem?_append_right (Nat.le_refl _), Nat.sub_self] at hw
          cases hw
          rw [z, hwl]
          exact hh.2
        · rw [List.getElem?_eq_none (by rw [List.length_append]; simp at z ⊢; omega)] at hw
          cases hw
  · obtain ⟨⟨w3, w4, w5, w6, rfl⟩, e, ws, hp, hwl, fr⟩ := q
    refine s_retL (el_rev (K := K) (ev_var rfl) (sq_of hp)) fun q H2 hn e2 hq => k (.ref q) H2 (e.trans e2) ?_
    refine ((Fr.one (N := New H) (fresh_back e hn) hq).both ((fr.ex e2).sub fun a z => z.1)).weak fun H3 hh => ⟨q, ws.reverse, rfl, hh.1, ?_, fun i w hw => ?_⟩
    · rw [List.length_reverse, hwl, places_len, vl]
    · have hi : i < ws.length := by have := (List.getElem?_eq_some_iff.mp hw).1; rwa [List.length_reverse] at this
      rw [List.getElem?_reverse hi] at hw
      have := hh.2 _ w hw
      show NumsV ((placesOf b ls).getD i []) w H3
      rw [places_at (by omega)]
      have e0 : b.rows.length - (ws.length - 1 - i) = i := by omega
      have e1 : A (ws.length - 1 - i) = Cm06.aheadAll (b.rows.drop i) (Cm06.atEnd ls b.last) := by
        show Cm06.aheadAll (b.rows.drop (b.rows.length - (ws.length - 1 - i))) _ = _
        rw [e0]
      rw [e1] at this
      exact this
theorem D_live_in_block (T : Tx K mg) : Df P w K mg base 3 (He.ga K "live_in_block") ["block", "coming"] (sp_live_in_block K) := ok_live_in_block T (D_given_by_row T) (D_live_at_end T) (D_used_by_row T) (fun vs H Q E h => by obtain ⟨a, b, d, e, rfl, _⟩ := h; rfl) (pure_live_in_block T)
theorem spf_live_in_block (hb : BAt K H a b) (ok : BodyOk b.takes b.rows) (ol : EndOk b.last) (hls : LsV ls v H) (lok : LOk ls) (ht : ∀ t ∈ b.last.targets, t < ls.length) : SpF (sp_live_in_block K) [.ref a, v] H (LsV (placesOf b ls)) := fun H1 e Q k E => ⟨a, v, b, ls, rfl, hb.ex e, ok, ol, ls_mono ls v H H1 e hls, lok, ht, k⟩
/-! ### come_in_to -/
def comeIn (b : CmBase.Block) (ls : List (List Nat)) : List Nat := (Cm06.aheadAll b.rows (Cm06.atEnd ls b.last)).filter fun x => !b.takes.contains x
def sp_come_in_to (K : PySem.W.Frag) : Sp := fun vs H Q _ => ∃ (a : Addr) (v : V) (b : CmBase.Block) (ls : List (List Nat)), vs = [.ref a, v] ∧ BAt K H a b ∧ BodyOk b.takes b.rows ∧ EndOk b.last ∧ LsV ls v H ∧ LOk ls ∧ (∀ t ∈ b.last.targets, t < ls.length) ∧ RetL (natsV (comeIn b ls)) H Q
theorem pure_come_in_to (T : Tx K mg) (vs : List V) (H : Hp) (Q : VK) (E : XK) (h : sp_come_in_to K vs H Q E) : t_come_in_to K (sp_live_in_block K) { nx := fun _ H' => Q .non H', rt := Q } (start N_come_in_to vs) H := by
  obtain ⟨a, v, b, ls, rfl, hb, ok, ol, hls, lok, ht, k⟩ := h
  obtain ⟨tk, htk, etk⟩ := hb.taken T
  have lenb : (Cm06.aheadAll b.rows (Cm06.atEnd ls b.last)).length ≤ 40 := (aheadAll_ok (names_ok _) b.rows).1
  refine s_retL (el_is (xs := ((natsV (Cm06.aheadAll b.rows (Cm06.atEnd ls b.last))).filter (fun x => onB (fun n => !b.takes.contains n.toNat) x)).map id) (el_src (ep_op1 (S := NumsV (Cm06.aheadAll b.rows (Cm06.atEnd ls b.last))) (y := .int 0) (EvF.p (ef_call (dvs := []) (ea_cons (ev_var rfl) (ea_cons (ev_var rfl) ea_nil)) (spf_live_in_block hb ok ol hls lok ht))) (fun _ _ => ev_c) (fun x H1 e1 hx => ?_) (nums_mono _) (ls_mono _)) fun x H1 e1 hx => ?_) ?_) k
  · obtain ⟨p, ws, rfl, h1, h2, h3⟩ := hx
    have hx := List.getElem?_eq_getElem (show 0 < ws.length by rw [h2, places_len]; omega)
    have : NumsV ((placesOf b ls).getD 0 []) _ H1 := h3 0 _ hx
    rw [places_at (Nat.zero_le _), List.drop_zero] at this
    exact ⟨_, this, rv_ixL (sq_of h1) (at_nat (i := 0) hx)⟩
  · obtain ⟨p, rfl, hp⟩ := hx
    refine el_comp (K := K) (a := p) (xs := natsV (Cm06.aheadAll b.rows (Cm06.atEnd ls b.last))) (fun x => onB (fun n => !b.takes.contains n.toNat) x) id ev_c (sq_of hp) (by rw [natsV_length]; omega) (fun _ => rfl) (fun x hx H3 e3 => ?_) (fun x hx H3 e3 _ => ev_var rfl)
    obtain ⟨n, _, rfl⟩ := List.mem_map.mp hx
    exact et_test (ev_op (ev_var rfl) (etk (e1.trans e3) (ev_var rfl)) (rv_niTN (st_of ((e1.trans e3) _ _ htk))))
  · rw [List.map_id, natsV_filter]
    rfl
theorem D_come_in_to (T : Tx K mg) : Df P w K mg base 4 (He.ga K "come_in_to") ["block", "coming"] (sp_come_in_to K) := ok_come_in_to T (D_live_in_block T) (fun vs H Q E h => by obtain ⟨a, b, d, e, rfl, _⟩ := h; rfl) (pure_come_in_to T)
theorem spl_come_in_to (hb : BAt K H a b) (ok : BodyOk b.takes b.rows) (ol : EndOk b.last) (hls : LsV ls v H) (lok : LOk ls) (ht : ∀ t ∈ b.last.targets, t < ls.length) : SpL (sp_come_in_to K) [.ref a, v] H (natsV (comeIn b ls)) := fun H1 e Q k E => ⟨a, v, b, ls, rfl, hb.ex e, ok, ol, ls_mono ls v H H1 e hls, lok, ht, k⟩
end
end VS
/-! What comes in live, what's live, what's there (living.py). -/
namespace VS
open PySem L2 Evl CmBase
/-! ### lists of lists compared -/
def numsD (l : List Nat) : PyData := .list (l.map fun (n : Nat) => .int (n : Int))
def lsD (ls : List (List Nat)) : PyData := .list (ls.map numsD)
theorem eqvAll_nums : ∀ l m : List Nat, PyData.eqvAll (l.map fun (n : Nat) => .int (n : Int)) (m.map fun (n : Nat) => .int (n : Int)) = decide (l = m)
  | [], [] => rfl
  | [], b :: m => rfl
  | a :: l, [] => rfl
  | a :: l, b :: m => by
    show (((a : Int) == (b : Int)) && PyData.eqvAll (l.map fun (n : Nat) => .int (n : Int)) (m.map fun (n : Nat) => .int (n : Int))) = decide (a :: l = b :: m)
    rw [eqvAll_nums l m]
    by_cases h1 : a = b <;> by_cases h2 : l = m
    · subst h1; subst h2; simp
    · subst h1; simp [h2]
    · have : ¬ (a : Int) = b := by omega
      simp [h1, this]
    · have : ¬ (a : Int) = b := by omega
      simp [h1, this]
theorem eqvAll_ls : ∀ l m : List (List Nat), PyData.eqvAll (l.map numsD) (m.map numsD) = decide (l = m)
  | [], [] => rfl
  | [], b :: m => rfl
  | a :: l, [] => rfl
  | a :: l, b :: m => by
    show (PyData.eqvAll (a.map fun (n : Nat) => .int (n : Int)) (b.map fun (n : Nat) => .int (n : Int)) && PyData.eqvAll (l.map numsD) (m.map numsD)) = decide (a :: l = b :: m)
    rw [eqvAll_ls l m, eqvAll_nums]
    by_cases h1 : a = b <;> by_cases h2 : l = m <;> simp [h1, h2]
theorem eqv_ls (l m : List (List Nat)) : PyData.eqv (lsD l) (lsD m) = decide (l = m) := eqvAll_ls l m
theorem lay_nums : ∀ l : List Nat, PyData.canLayAll0 (l.map fun (n : Nat) => .int (n : Int)) = true
  | [] => rfl
  | a :: l => by
    show (true && PyData.canLayAll0 (l.map fun (n : Nat) => .int (n : Int))) = true
    rw [lay_nums l]
    rfl
theorem lay_ls : ∀ l : List (List Nat), PyData.canLayAll0 (l.map numsD) = true
  | [] => rfl
  | a :: l => by
    show (PyData.canLayAll0 (a.map fun (n : Nat) => .int (n : Int)) && PyData.canLayAll0 (l.map numsD)) = true
    rw [lay_ls l, lay_nums]
    rfl
theorem dep_nums : ∀ l : List Nat, PyData.depthAll (l.map fun (n : Nat) => .int (n : Int)) = 0
  | [] => rfl
  | a :: l => by
    show max 0 (PyData.depthAll (l.map fun (n : Nat) => .int (n : Int))) = 0
    rw [dep_nums l]
    rfl
theorem dep_ls : ∀ l : List (List Nat), PyData.depthAll (l.map numsD) ≤ 1
  | [] => Nat.zero_le _
  | a :: l => by
    show max (PyData.depthAll (a.map fun (n : Nat) => .int (n : Int)) + 1) (PyData.depthAll (l.map numsD)) ≤ 1
    rw [dep_nums]
    have := dep_ls l
    omega
theorem shaped_ls (l : List (List Nat)) : SeqAt.shaped (lsD l) = true := by
  unfold SeqAt.shaped
  rw [Bool.and_eq_true]
  refine ⟨lay_ls l, decide_eq_true ?_⟩
  show PyData.depthAll (l.map numsD) + 1 ≤ 64
  have := dep_ls l
  omega
section
variable {P : Program} {w : World} {K : PySem.W.Frag} {mg : Str → Option Value} {base : Heap} {H H0 H' H1 : Hp} {σ : L2.St} {c a bl l : Addr} {cd : CmBase.Code} {b : CmBase.Block} {bs : List Addr} {xs ys : List V} {ta tb tl ti te : TE} {t : TT} {g : TG} {v : V} {ls : List (List Nat)} {vs : List Nat}
theorem dp_nums : ∀ l : List Nat, DpAll K H (natsV l) (l.map fun (n : Nat) => .int (n : Int))
  | [] => .nil
  | a :: l => .cons (.int _) (dp_nums l)
theorem dpAll_of : ∀ {ws : List V} {ls : List (List Nat)}, ws.length = ls.length → (∀ i w, ws[i]? = some w → NumsV (ls.getD i []) w H) → DpAll K H ws (ls.map numsD)
  | [], [], _, _ => .nil
  | w :: ws, l :: ls, h, k => by
    obtain ⟨a, rfl, ha⟩ := k 0 w rfl
    exact .cons (.lst (sq_of ha) (dp_nums l)) (dpAll_of (by simpa using h) fun i w hw => k (i + 1) w hw)
theorem LsV.dp (h : LsV ls v H) : Dp K H v (lsD ls) := by
  obtain ⟨a, ws, rfl, h1, h2, h3⟩ := h
  exact .lst (sq_of h1) (dpAll_of h2 h3)
theorem rv_neLs {u : V} {ms : List (List Nat)} (h : LsV ls v H) (h' : LsV ms u H) : RV (rNeD K) v u H (.bl (!decide (ls = ms))) := fun H1 e Q q => by
  refine ⟨lsD ls, lsD ms, (ls_mono ls v H H1 e h).dp, (ls_mono ms u H H1 e h').dp, shaped_ls ls, shaped_ls ms, ?_⟩
  rw [eqv_ls]
  exact q H1 (Ex.refl H1)
/-! ### coming_in -/
theorem round_len (c : CmBase.Code) (k : Nat) : (Cm06.liveRounds c k).length = c.blocks.length := liveRounds_len c k
theorem round_at {c : CmBase.Code} {k i : Nat} (hi : i < c.blocks.length) : (Cm06.liveRounds c (k + 1)).getD i [] = comeIn (Cm03.blockAt c i) (Cm06.liveRounds c k) := by
  show (Cm06.liveRound c (Cm06.liveRounds c k)).getD i [] = _
  unfold Cm06.liveRound
  rw [List.getD_eq_getElem?_getD, List.getElem?_map, at_blockAt hi]
  rfl
theorem rounds_stay {c : CmBase.Code} {k : Nat} (h : Cm06.liveRounds c (k + 1) = Cm06.liveRounds c k) : ∀ j, Cm06.liveRounds c (k + j) = Cm06.liveRounds c k
  | 0 => rfl
  | j + 1 => by
    show Cm06.liveRound c (Cm06.liveRounds c (k + j)) = _
    rw [rounds_stay h j]
    exact h
theorem rounds_sorted (c : CmBase.Code) (k i : Nat) : (Cm06.liveRounds c k).getD i [] = (List.range 40).filter fun x => decide (x ∈ (Cm06.liveRounds c k).getD i []) := by
  rw [List.getD_eq_getElem?_getD]
  cases q : (Cm06.liveRounds c k)[i]? with
  | none => exact (List.filter_eq_nil_iff.mpr fun x _ => by simp).symm
  | some l =>
    have hm := List.mem_of_getElem? q
    cases k with
    | zero =>
      obtain ⟨b, _, e⟩ := List.mem_map.mp hm
      rw [← e]
      exact (List.filter_eq_nil_iff.mpr fun x _ => by simp).symm
    | succ k =>
      obtain ⟨b, _, e⟩ := List.mem_map.mp hm
      have h1 : ∀ rows : List Row, Cm06.aheadAll rows (Cm06.atEnd (Cm06.liveRounds c k) b.last) = (List.range 40).filter fun x => decide (x ∈ Cm06.aheadAll rows (Cm06.atEnd (Cm06.liveRounds c k) b.last)) := fun rows => by
        cases rows with
        | nil => exact filter_self
        | cons r rows => exact ahead_sorted
      rw [← e]
      show (Cm06.aheadAll b.rows (Cm06.atEnd (Cm06.liveRounds c k) b.last)).filter _ = (List.range 40).filter fun x => decide (x ∈ (Cm06.aheadAll b.rows (Cm06.atEnd (Cm06.liveRounds c k) b.last)).filter _)
      conv => lhs; rw [h1]
      rw [List.filter_filter]
      refine List.filter_congr fun x _ => ?_
      rw [Bool.eq_iff_iff, Bool.and_eq_true, decide_eq_true_iff, decide_eq_true_iff, List.mem_filter]
      exact And.comm
theorem rounds_rest (c : CmBase.Code) : Cm06.liveRounds c (c.blocks.length + 1) = Cm06.liveRounds c c.blocks.length := by
  refine List.ext_getElem? fun i => ?_
  by_cases hi : i < c.blocks.length
  · have l1 : i < (Cm06.liveRounds c (c.blocks.length + 1)).length := by rw [round_len]; exact hi
    have l2 : i < (Cm06.liveRounds c c.blocks.length).length := by rw [round_len]; exact hi
    have e : (Cm06.liveRounds c (c.blocks.length + 1)).getD i [] = (Cm06.liveRounds c c.blocks.length).getD i [] := range_filter_ext (rounds_sorted c _ i) (rounds_sorted c _ i) fun x => in_rest
    rw [List.getD_eq_getElem?_getD, List.getD_eq_getElem?_getD, List.getElem?_eq_getElem l1, List.getElem?_eq_getElem l2] at e
    rw [List.getElem?_eq_getElem l1, List.getElem?_eq_getElem l2]
    exact congrArg some e
  · rw [List.getElem?_eq_none (by rw [round_len]; omega), List.getElem?_eq_none (by rw [round_len]; omega)]
theorem rounds_lives {c : CmBase.Code} {k : Nat} (h : Cm06.liveRounds c (k + 1) = Cm06.liveRounds c k) : Cm06.liveRounds c k = Cm06.lives c := by
  rcases Nat.le_total k c.blocks.length with q | q
  · have := rounds_stay h (c.blocks.length - k)
    rw [show k + (c.blocks.length - k) = c.blocks.length by omega] at this
    exact this.symm
  · have := rounds_stay (rounds_rest c) (k - c.blocks.length)
    rw [show c.blocks.length + (k - c.blocks.length) = k by omega] at this
    exact this
/-- an ending of code that's whole leads to a block -/
theorem Whole.lt (wh : Whole cd) {i : Nat} (hb : cd.blocks[i]? = some b) : ∀ t ∈ b.last.targets, t < cd.blocks.length := fun t ht => (wh.to i (List.getElem?_eq_some_iff.mp hb).1 t (by rw [blockAt_of hb]; exact ht)).2
def sp_coming_in (K : PySem.W.Frag) : Sp := fun vs H Q _ => ∃ (c : Addr) (cd : CmBase.Code) (bl : Addr) (bs : List Addr), vs = [.ref c] ∧ CAt K H c cd bl bs ∧ COk cd ∧ Whole cd ∧ ∀ v H2, Ex H H2 → LsV (Cm06.lives cd) v H2 → Q v H2
theorem ls_empty (c : CmBase.Code) {v : V} (h : ListV c.blocks.length (fun _ => NumsV []) v H) : LsV (Cm06.liveRounds c 0) v H := by
  obtain ⟨a, ws, h1, h2, h3, h4⟩ := h
  refine ⟨a, ws, h1, h2, by rw [round_len]; exact h3, fun i w hw => ?_⟩
  have : (Cm06.liveRounds c 0).getD i [] = [] := by
    show (c.blocks.map fun _ => []).getD i [] = []
    rw [List.getD_eq_getElem?_getD, List.getElem?_map]
    cases c.blocks[i]? <;> rfl
  show NumsV ((Cm06.liveRounds c 0).getD i []) w H
  rw [this]
  exact h4 i w hw
theorem pure_coming_in (T : Tx K mg) (vs : List V) (H : Hp) (Q : VK) (E : XK) (h : sp_coming_in K vs H Q E) : t_coming_in K (sp_come_in_to K) { nx := fun _ H' => Q .non H', rt := Q } (start N_coming_in vs) H := by
  obtain ⟨c, cd, bl, bs, rfl, hc, ok, wh, k⟩ := h
  refine q_asgL (el_lst ea_nil (show 0 ≤ 100000 by decide)) fun p0 H1 hn1 e1 hp0 => ?_
  have hc1 := hc.ex e1
  have lb : (bs.map V.ref).length ≤ 40000 := by rw [List.length_map, hc.len]; have := ok.len; omega
  refine q_asgF (ef_comp (R := fun _ => NumsV []) (ev_blocks T hc1 (ev_var rfl)) (sq_of hc1.lst) lb (fun _ => rfl) fun i x H2 e2 hx => EvL.nums (el_lst ea_nil (show 0 ≤ 100000 by decide))) fun v0 H2 e2 f2 => ?_
  have h0 := f2.here
  rw [List.length_map, hc.len] at h0
  have b0 : LsV [] (.ref p0) H2 := ⟨p0, [], rfl, e2 _ _ hp0, rfl, fun i w hw => by simp at hw⟩
  refine q_while (fun m σ' H' => ∃ (k : Nat) (bv cv : V) (before : List (List Nat)), (∃ w, σ' = [some (.ref c), some bv, some cv, w]) ∧ Ex H H' ∧ LsV before bv H' ∧ LsV (Cm06.liveRounds cd k) cv H' ∧ ((k = 0 ∧ before = []) ∨ ∃ k', k = k' + 1 ∧ before = Cm06.liveRounds cd k') ∧ m = cd.blocks.length + 2 - k ∧ k ≤ cd.blocks.length + 1) (cd.blocks.length + 2)
    ⟨0, .ref p0, v0, [], ⟨_, rfl⟩, e1.trans e2, b0, ls_empty cd h0, .inl ⟨rfl, rfl⟩, rfl, Nat.zero_le _⟩ fun m σ' H' hW => ?_
  obtain ⟨kk, bv, cv, before, ⟨w, rfl⟩, e, hbv, hcv, hbef, hm, hk⟩ := hW
  refine ⟨!decide (Cm06.liveRounds cd kk = before), et_test (ev_op (ev_var rfl) (ev_var rfl) (rv_neLs hcv hbv)), fun hb H3 e3 => ?_, fun hb H3 e3 => ?_⟩
  · have ne : Cm06.liveRounds cd kk ≠ before := fun q => by rw [decide_eq_true q] at hb; cases hb
    have hk2 : kk ≤ cd.blocks.length := by
      rcases hbef with ⟨z, _⟩ | ⟨k', z1, z2⟩
      · omega
      · refine Nat.le_of_not_lt fun q => ne ?_
        have : k' = cd.blocks.length := by omega
        rw [z1, z2, this]
        exact rounds_rest cd
    have hc3 := hc.ex (e.trans e3)
    have hcv3 := ls_mono _ cv H' H3 e3 hcv
    refine ⟨fun σ' H' => ∃ (w : Option V) (nv : V), σ' = [some (.ref c), some cv, some nv, w] ∧ Ex H H' ∧ LsV (Cm06.liveRounds cd kk) cv H' ∧ LsV (Cm06.liveRounds cd (kk + 1)) nv H', fun σ2 H2 hN => ?_, ?_⟩
    · obtain ⟨w, nv, rfl, e4, h4, h5⟩ := hN
      exact ⟨cd.blocks.length + 2 - (kk + 1), by omega, kk + 1, cv, nv, _, ⟨_, rfl⟩, e4, h4, h5, .inr ⟨kk, rfl, rfl⟩, rfl, by omega⟩
    · refine q_asg (ev_var rfl) fun H4 e4 => ?_
      have hc4 := hc3.ex e4
      refine s_asgF (ef_comp (R := fun i => NumsV ((Cm06.liveRounds cd (kk + 1)).getD i [])) (ev_blocks T hc4 (ev_var rfl)) (sq_of hc4.lst) lb (fun _ => rfl) fun i x H5 e5 hx => ?_) fun nv H5 e5 f5 => ⟨_, nv, rfl, ((e.trans e3).trans e4).trans e5, ls_mono _ cv H3 H5 (e4.trans e5) hcv3, ?_⟩
      · obtain ⟨a, b, rfl, hb, _, hab⟩ := hc4.mem hx
        have hi := (List.getElem?_eq_some_iff.mp hb).1
        have hm := List.mem_of_getElem? hb
        rw [round_at hi, blockAt_of hb]
        exact EvL.nums (el_call (dvs := []) (ea_cons (ev_var rfl) (ea_cons (ev_var rfl) ea_nil)) (spl_come_in_to (hab.ex e5) (ok.body b hm) (ok.last b hm) (ls_mono _ cv H3 H5 (e4.trans e5) hcv3) (liveRounds_ok cd kk) (by rw [round_len]; exact wh.lt hb)))
      · have := f5.here
        rw [List.length_map, hc.len] at this
        unfold LsV
        rw [round_len]
        exact this
  · have eq : Cm06.liveRounds cd kk = before := by
      have : decide (Cm06.liveRounds cd kk = before) = true := by simpa using hb
      exact of_decide_eq_true this
    have fin : Cm06.liveRounds cd kk = Cm06.lives cd := by
      rcases hbef with ⟨z1, z2⟩ | ⟨k', z1, z2⟩
      · exfalso
        have q := congrArg List.length eq
        rw [round_len, z2] at q
        have := wh.one
        have : cd.blocks.length = 0 := q
        omega
      · subst z1
        rw [z2] at eq
        rw [eq]
        exact rounds_lives eq
    rw [fin] at hcv
    exact s_ret (ev_var rfl) fun H4 e4 => k cv H4 ((e.trans e3).trans e4) (ls_mono _ cv H' H4 (e3.trans e4) hcv)
theorem D_coming_in (T : Tx K mg) : Df P w K mg base 5 (He.ga K "coming_in") ["code"] (sp_coming_in K) := ok_coming_in T (D_come_in_to T) (fun vs H Q E h => by obtain ⟨a, b, d, e, rfl, _⟩ := h; rfl) (pure_coming_in T)
theorem spp_coming_in (hc : CAt K H c cd bl bs) (ok : COk cd) (wh : Whole cd) : SpP (sp_coming_in K) [.ref c] H (LsV (Cm06.lives cd)) := fun H1 e Q k E => ⟨c, cd, bl, bs, rfl, hc.ex e, ok, wh, fun v H2 e2 h2 => k v H2 e2 h2⟩
/-! ### live_in_code -/
def liveC (cd : CmBase.Code) : List (List (List Nat)) := cd.blocks.map fun b => placesOf b (Cm06.lives cd)
theorem liveC_at {i : Nat} (hb : cd.blocks[i]? = some b) : (liveC cd).getD i [] = placesOf b (Cm06.lives cd) := by
  unfold liveC
  rw [List.getD_eq_getElem?_getD, List.getElem?_map, hb]
  rfl
theorem lives_ok (cd : CmBase.Code) : LOk (Cm06.lives cd) := liveRounds_ok cd _
theorem lives_len (cd : CmBase.Code) : (Cm06.lives cd).length = cd.blocks.length := round_len cd _
def sp_live_in_code (K : PySem.W.Frag) : Sp := fun vs H Q _ => ∃ (c : Addr) (cd : CmBase.Code) (bl : Addr) (bs : List Addr), vs = [.ref c] ∧ CAt K H c cd bl bs ∧ COk cd ∧ Whole cd ∧ RetF (LssV (liveC cd)) H Q
theorem pure_live_in_code (T : Tx K mg) (vs : List V) (H : Hp) (Q : VK) (E : XK) (h : sp_live_in_code K vs H Q E) : t_live_in_code K (sp_coming_in K) (sp_live_in_block K) { nx := fun _ H' => Q .non H', rt := Q } (start N_live_in_code vs) H := by
  obtain ⟨c, cd, bl, bs, rfl, hc, ok, wh, k⟩ := h
  refine q_asgP (ep_call (dvs := []) (ea_cons (ev_var rfl) ea_nil) (spp_coming_in hc ok wh)) fun cv H1 e1 hcv => ?_
  have hc1 := hc.ex e1
  have lb : (bs.map V.ref).length ≤ 40000 := by rw [List.length_map, hc.len]; have := ok.len; omega
  refine s_retF (EvF.weak (ef_comp (R := fun i => LsV ((liveC cd).getD i [])) (ev_blocks T hc1 (ev_var rfl)) (sq_of hc1.lst) lb (fun _ => rfl) fun i x H2 e2 hx => ?_) fun v H' hv => ?_) (k.pre e1)
  · obtain ⟨a, b, rfl, hb, _, hab⟩ := hc1.mem hx
    have hm := List.mem_of_getElem? hb
    rw [liveC_at hb]
    exact ef_call (dvs := []) (ea_cons (ev_var rfl) (ea_cons (ev_var rfl) ea_nil)) (spf_live_in_block (hab.ex e2) (ok.body b hm) (ok.last b hm) (ls_mono _ cv H1 H2 e2 hcv) (lives_ok cd) (by rw [lives_len]; exact wh.lt hb))
  · unfold LssV
    rw [show (liveC cd).length = (bs.map V.ref).length by unfold liveC; rw [List.length_map, List.length_map, hc.len]]
    exact hv
theorem D_live_in_code (T : Tx K mg) : Df P w K mg base 6 (He.ga K "live_in_code") ["code"] (sp_live_in_code K) := ok_live_in_code T (D_coming_in T) (D_live_in_block T) (fun vs H Q E h => by obtain ⟨a, b, d, e, rfl, _⟩ := h; rfl) (pure_live_in_code T)
theorem spf_live_in_code (hc : CAt K H c cd bl bs) (ok : COk cd) (wh : Whole cd) : SpF (sp_live_in_code K) [.ref c] H (LssV (liveC cd)) := fun H1 e Q k E => ⟨c, cd, bl, bs, rfl, hc.ex e, ok, wh, k⟩
end
end VS
/-! What's there at the points of code (living.py). -/
namespace VS
open PySem L2 Evl CmBase
/-- a list of things that lie apart -/
def ListN (n : Nat) (R : Nat → V → Hp → Prop) : V → Hp → Prop := fun v H => ∃ a vs, v = .ref a ∧ H a = some (.lst vs) ∧ vs.length = n ∧ (∀ i w, vs[i]? = some w → R i w H) ∧ vs.Nodup
theorem ListN.l {n : Nat} {R : Nat → V → Hp → Prop} {v : V} {H : Hp} (h : ListN n R v H) : ListV n R v H := by
  obtain ⟨a, vs, h1, h2, h3, h4, _⟩ := h
  exact ⟨a, vs, h1, h2, h3, h4⟩
/-- it's a place, and something is there -/
def Refs (R : V → Hp → Prop) : Prop := ∀ v H, R v H → ∃ p, v = .ref p ∧ H p ≠ none
theorem refs_nums (l : List Nat) : Refs (NumsV l) := fun v H ⟨a, h1, h2⟩ => ⟨a, h1, by rw [h2]; simp⟩
theorem refs_list {n : Nat} {R : Nat → V → Hp → Prop} : Refs (ListV n R) := fun v H ⟨a, vs, h1, h2, _⟩ => ⟨a, h1, by rw [h2]; simp⟩
section
variable {P : Program} {w : World} {K : PySem.W.Frag} {mg : Str → Option Value} {base : Heap} {H H0 H' H1 : Hp} {σ : L2.St} {c a bl l : Addr} {cd : CmBase.Code} {b : CmBase.Block} {bs : List Addr} {xs ys : List V} {ta tb tl ti te : TE} {t : TT} {g : TG} {v : V} {ls : List (List Nat)} {vs : List Nat} {D : Ends} {tz tu : TS}
/-! ### comprehensions over zip -/
def tAc (vs : List V) : TA := fun _ H Q => Q vs H
theorem ef_srcZ {tA : TA} {R : List V → Hp → Prop} {S : V → Hp → Prop} (h : EvAP tA σ H R) (k : ∀ ws H1, Ex H H1 → R ws H1 → EvF (tLc (iZip K (tAc ws)) g t te vs) σ H1 S) : EvF (tLc (iZip K tA) g t te vs) σ H S := fun H0 e Q q =>
  h H0 e _ fun ws H1 e1 hR => k ws H1 (e.trans e1) hR H1 (Ex.refl H1) Q fun p H2 e2 f => q p H2 (e1.trans e2) (f.back e1)
def Cn (H : Hp) (R : Nat → V → Hp → Prop) (Dl : Addr) (i : Nat) (H' : Hp) : Prop := H Dl = none ∧ Ex H H' ∧ ∃ acc : List V, H' Dl = some (.lst acc) ∧ acc.length = i ∧ (Fr (fun a => H a = none ∧ a ≠ Dl) H' fun H3 => ∀ k w, acc[k]? = some w → R k w H3) ∧ acc.Nodup
theorem cn_begin {R : Nat → V → Hp → Prop} {Dl : Addr} (hD : H Dl = none) : Cn H R Dl 0 (upd H Dl (.lst [])) := ⟨hD, Ex.new hD, [], upd_same, rfl, (Fr.const (p := True) trivial).weak fun _ _ k w h => by simp at h, List.nodup_nil⟩
theorem Cn.ex {R : Nat → V → Hp → Prop} {Dl : Addr} {i : Nat} (h : Cn H R Dl i H') (e : Ex H' H1) : Cn H R Dl i H1 := by
  obtain ⟨p1, p2, acc, p3, p4, p5, p6⟩ := h
  exact ⟨p1, p2.trans e, acc, e _ _ p3, p4, p5.ex e, p6⟩
theorem cn_turn {R : Nat → V → Hp → Prop} {Dl : Addr} {i : Nat} {σ2 : L2.St} (p : Cn H R Dl i H') (hi : i < 50000) (hr : ∀ k, Refs (R k)) (he : EvF te σ2 H (R i)) :
    te σ2 H' fun y H4 => ∃ acc, H4 Dl = some (.lst acc) ∧ acc.length < sizeLine ∧ Cn H R Dl (i + 1) (upd H4 Dl (.lst (acc ++ [y]))) := by
  obtain ⟨p1, p2, acc, p3, p4, p5, p6⟩ := p
  refine he H' p2 _ fun w H4 e4 f => ⟨acc, e4 _ _ p3, sz_lt (by omega), p1, Ex.mut (p2.trans e4) p1, acc ++ [w], upd_same, by rw [List.length_append, p4]; rfl, ?_, ?_⟩
  · have nw : ∀ a, New H' a → H a = none ∧ a ≠ Dl := fun a q => ⟨fresh_back p2 q, fun e => by rw [e] at q; rw [show H' Dl = none from q] at p3; cases p3⟩
    have f1 : Fr (fun a => H a = none ∧ a ≠ Dl) (upd H4 Dl (.lst (acc ++ [w]))) (R i w) := (f.sub nw).upd fun q => q.2 rfl
    have f2 := ((p5.ex e4).upd (p := Dl) (o := .lst (acc ++ [w])) fun q => q.2 rfl).both f1
    refine f2.weak fun H3 hh k w' hw => ?_
    rcases Nat.lt_trichotomy k acc.length with q | q | q
    · rw [List.getElem?_append_left q] at hw
      exact hh.1 k w' hw
    · rw [q, List.getElem?_append_right (Nat.le_refl _), Nat.sub_self] at hw
      cases hw
      rw [q, p4]
      exact hh.2
    · rw [List.getElem?_eq_none (by rw [List.length_append]; simp; omega)] at hw
      cases hw
  · refine List.nodup_append.mpr ⟨p6, by simp, fun x hx y hy e => ?_⟩
    have : y = w := by simpa using hy
    subst this
    subst e
    obtain ⟨q, rfl, _⟩ := hr i x H4 f.here
    have new : H' q = none := f.new fun H3 h3 => by
      obtain ⟨q', e', n'⟩ := hr i _ H3 h3
      cases e'
      exact n'
    obtain ⟨k, hk⟩ := List.mem_iff_getElem?.mp hx
    obtain ⟨q', e', n'⟩ := hr k _ H' (p5.here k _ hk)
    cases e'
    exact n' new
theorem cn_end {R : Nat → V → Hp → Prop} {Dl : Addr} {n : Nat} (p : Cn H R Dl n H') : Fr (New H) H' (ListN n R (.ref Dl)) := by
  obtain ⟨p1, p2, acc, p3, p4, p5, p6⟩ := p
  refine ((Fr.one (N := New H) p1 p3).both (p5.sub fun a q => q.1)).weak fun H3 hh => ⟨Dl, acc, rfl, hh.1, p4, hh.2, p6⟩
theorem ef_zip {R : Nat → V → Hp → Prop} {p q : Addr} {i j : Nat} (hx : H p = some (.lst xs)) (hy : H q = some (.lst ys)) (hl : xs.length = ys.length) (hz : xs.length ≤ 40000) (hw : ∀ x y, wipe (((wipe σ vs).set i (some x)).set j (some y)) vs = wipe σ vs) (hr : ∀ k, Refs (R k))
    (he : ∀ (k : Nat) (x y : V) H1, Ex H H1 → xs[k]? = some x → ys[k]? = some y → EvF te (((wipe σ vs).set i (some x)).set j (some y)) H1 (R k)) : EvF (tLc (iZip K (tAc [.ref p, .ref q])) (gTup K 2 (gCons (gName i) (gCons (gName j) gNil))) tYes te vs) σ H (ListN xs.length R) := fun H0 e Q k =>
  ⟨p, q, xs, ys, rfl, sq_of (e _ _ hx), sq_of (e _ _ hy), fun Dl hD => by
    refine ⟨fun i m H' => m = xs.length - i ∧ i ≤ xs.length ∧ Cn H0 R Dl i H', ⟨xs.length, rfl, Nat.zero_le _, cn_begin hD⟩, ?_⟩
    rintro n m H' ⟨rfl, hn, cn⟩
    have hx' : SqL K H' p xs := sq_of (cn.2.1 _ _ (e _ _ hx))
    have hy' : SqL K H' q ys := sq_of (cn.2.1 _ _ (e _ _ hy))
    by_cases lt : n < xs.length
    · have ex := List.getElem?_eq_getElem lt
      have ey := List.getElem?_eq_getElem (hl ▸ lt)
      refine .inr ⟨⟨xs, ys, _, _, hx', hy', ex, ey⟩, Cn H0 R Dl (n + 1), fun H2 z => ⟨xs.length - (n + 1), by omega, rfl, lt, z⟩, fun v H2 ⟨T, x, y, e1, e2, e3, e4, e5⟩ => ?_⟩
      subst e1
      subst e3
      have cn2 := cn.ex (Ex.new (o := .tup [x, y]) e2)
      refine g_two (st_of upd_same) ⟨hw x y, ?_⟩
      show te _ _ _
      exact cn_turn cn2 (by omega) hr (he n x y H0 e (e4 xs hx') (e5 ys hy'))
    · have e0 : n = xs.length := by omega
      subst e0
      exact .inl ⟨⟨xs, ys, hx', hy', .inl (Nat.le_refl _)⟩, k _ H' cn.2.1 (cn_end cn)⟩⟩
/-! ### loops over enumerate -/
theorem for_enum {p : Addr} (Pv : Nat → L2.St → Hp → Prop) (h0 : Pv 0 σ H) (hq : ∀ i σ H, Pv i σ H → SqL K H p xs)
    (step : ∀ (i : Nat) (x : V) σ H T, xs[i]? = some x → H T = none → Pv i σ H → g (.ref T) σ (upd H T (.tup [.int (i : Int), x])) fun σ2 H2 => tu { D with nx := Pv (i + 1), ct := Pv (i + 1), bk := D.nx } σ2 H2) (hd : ∀ σ H, Pv xs.length σ H → D.nx σ H) :
    ∃ W : Nat → Nat → L2.St → Hp → Prop, (∃ m, W 0 m σ H) ∧ ∀ i m σ H, W i m σ H →
      ((Ite K p).stop i H ∧ D.nx σ H) ∨ ((Ite K p).go i H ∧ ∃ N : L2.St → Hp → Prop, (∀ σ' H', N σ' H' → ∃ m', m' < m ∧ W (i + 1) m' σ' H') ∧ ∀ v H', (Ite K p).yld i H v H' → g v σ H' fun σ2 H2 => tu { D with nx := N, ct := N, bk := D.nx } σ2 H2) := by
  refine ⟨fun i m σ H => m = xs.length - i ∧ i ≤ xs.length ∧ Pv i σ H, ⟨xs.length, rfl, Nat.zero_le _, h0⟩, ?_⟩
  rintro i m σ H ⟨rfl, hi, pv⟩
  have hx := hq i σ H pv
  by_cases lt : i < xs.length
  · refine .inr ⟨⟨xs, _, hx, List.getElem?_eq_getElem lt⟩, Pv (i + 1), fun σ' H' q => ⟨xs.length - (i + 1), by omega, rfl, lt, q⟩, fun v H' ⟨T, x, e1, e2, e3, e4⟩ => ?_⟩
    subst e1
    subst e3
    exact step i x σ H T (e4 xs hx) e2 pv
  · have e : i = xs.length := by omega
    subst e
    exact .inl ⟨⟨xs, hx, Nat.le_refl _⟩, hd σ H pv⟩
/-! ### there_in_block -/
def givenPts (b : CmBase.Block) : List (List Nat) := b.takes :: b.rows.map fun r => r.gives.toList
/-- the lists, point by point, of a block -/
def therePts (pl gp : List (List Nat)) : List (List Nat) := (List.range pl.length).map fun i => srt (pl.getD i [] ++ gp.getD i [])
theorem there_len (pl gp : List (List Nat)) : (therePts pl gp).length = pl.length := by unfold therePts; rw [List.length_map, List.length_range]
theorem there_at {pl gp : List (List Nat)} {i : Nat} (hi : i < pl.length) : (therePts pl gp).getD i [] = srt (pl.getD i [] ++ gp.getD i []) := by
  unfold therePts
  rw [List.getD_eq_getElem?_getD, List.getElem?_map, List.getElem?_range hi]
  rfl
/-- what stands in the list, told by name -/
theorem Fr.list {N : Addr → Prop} {n : Nat} {R : Nat → V → Hp → Prop} (f : Fr N H (ListV n R v)) : ∃ p ws, v = .ref p ∧ H p = some (.lst ws) ∧ ws.length = n ∧ N p ∧ Fr N H fun H' => H' p = some (.lst ws) ∧ ∀ i w, ws[i]? = some w → R i w H' := by
  obtain ⟨p, ws, rfl, h1, h2, h3⟩ := f.here
  have np : N p := f.new fun H' ⟨a, vs, e, h, _⟩ => by cases e; rw [h]; simp
  refine ⟨p, ws, rfl, h1, h2, np, ((Fr.one np h1).both f).weak fun H' ⟨q1, a, vs, e, q2, q3, q4⟩ => ⟨q1, ?_⟩⟩
  cases e
  rw [q1] at q2
  cases q2
  exact q4
theorem Fr.listN {N : Addr → Prop} {n : Nat} {R : Nat → V → Hp → Prop} (f : Fr N H (ListN n R v)) : ∃ p ws, v = .ref p ∧ H p = some (.lst ws) ∧ ws.length = n ∧ ws.Nodup ∧ N p ∧ Fr N H fun H' => H' p = some (.lst ws) ∧ ∀ i w, ws[i]? = some w → R i w H' := by
  obtain ⟨p, ws, rfl, h1, h2, h3, h4⟩ := f.here
  obtain ⟨p', ws', e, h1', h2', np, f'⟩ := (f.weak fun H' h => h.l).list
  cases e
  rw [h1] at h1'
  cases h1'
  exact ⟨p, ws, rfl, h1, h2, h4, np, f'⟩
theorem ef_cat {n m : Nat} {R S : Nat → V → Hp → Prop} (ha : EvF ta σ H (ListV n R)) (hb : EvF tb σ H (ListV m S)) (hz : n + m ≤ 100000) : EvF (tOp rCat ta tb) σ H (ListV (n + m) fun i => if i < n then R i else S (i - n)) := fun H1 e Q q =>
  ha H1 e _ fun v H2 e2 f2 => hb H2 (e.trans e2) _ fun u H3 e3 f3 => by
    obtain ⟨p, ws, rfl, h1, h2, _, f2⟩ := f2.list
    obtain ⟨p', ws', rfl, h1', h2', _, f3⟩ := f3.list
    refine ⟨p, p', ws, ws', rfl, rfl, e3 _ _ h1, h1', sz_of (by omega), fun r hr => q _ _ ((e2.trans e3).trans (Ex.new hr)) ?_⟩
    have g2 := (f2.ex e3).ex (Ex.new (o := .lst (ws ++ ws')) hr)
    have g3 := (f3.back e2).ex (Ex.new (o := .lst (ws ++ ws')) hr)
    refine ((Fr.one (N := New H1) (fresh_back (e2.trans e3) hr) (upd_same (H := H3) (a := r) (o := .lst (ws ++ ws')))).both (g2.both g3)).weak fun H4 hh => ⟨r, ws ++ ws', rfl, hh.1, by rw [List.length_append]; omega, fun i x hx => ?_⟩
    by_cases hi : i < n
    · rw [List.getElem?_append_left (by omega)] at hx
      show (if i < n then R i else S (i - n)) x H4
      rw [if_pos hi]
      exact hh.2.1.2 i x hx
    · rw [List.getElem?_append_right (by omega), h2] at hx
      show (if i < n then R i else S (i - n)) x H4
      rw [if_neg hi]
      exact hh.2.2.2 _ x hx
def sp_there_in_block (K : PySem.W.Frag) : Sp := fun vs H Q _ => ∃ (a : Addr) (v : V) (b : CmBase.Block) (pl : List (List Nat)), vs = [.ref a, v] ∧ BAt K H a b ∧ BodyOk b.takes b.rows ∧ LsV pl v H ∧ LOk pl ∧ pl.length = b.rows.length + 1 ∧ RetF (LsV (therePts pl (givenPts b))) H Q
theorem pure_there_in_block (T : Tx K mg) (vs : List V) (H : Hp) (Q : VK) (E : XK) (h : sp_there_in_block K vs H Q E) : t_there_in_block K (sp_given_by_row K) { nx := fun _ H' => Q .non H', rt := Q } (start N_there_in_block vs) H := by
  obtain ⟨a, v, b, pl, rfl, hb, ok, hpl, lok, hlen, k⟩ := h
  obtain ⟨tk, htk, etk⟩ := hb.taken T
  obtain ⟨rl, vs, hrl, hrows, erl⟩ := hb.rows T
  have vl := hrows.len
  have l12 := ok.len
  have gl : (givenPts b).length = b.rows.length + 1 := by unfold givenPts; rw [List.length_cons, List.length_map]
  have gat : ∀ i r, b.rows[i]? = some r → (givenPts b).getD (i + 1) [] = r.gives.toList := fun i r hr => by
    unfold givenPts
    rw [List.getD_eq_getElem?_getD, List.getElem?_cons_succ, List.getElem?_map, hr]
    rfl
  refine q_asgF (EvF.weak (ef_cat (ef_lst1 (EvL.nums (el_listT (K := K) (etk (Ex.refl H) (ev_var rfl)) (st_of htk)))) (ef_comp (R := fun i => NumsV ((givenPts b).getD (i + 1) [])) (erl (Ex.refl H) (ev_var rfl)) (sq_of hrl) (by omega) (fun _ => rfl) fun i x H2 e2 hx => ?_) (by omega)) (R' := LsV (givenPts b)) fun u H2 hu => ?_) fun gv H1 e1 f1 => ?_
  · obtain ⟨r, ra, hr, rfl, hra⟩ := hrows.at_ hx
    rw [gat i r hr]
    exact EvL.nums (el_call (dvs := []) (ea_cons (ev_var rfl) ea_nil) (spl_given_by_row (e2 _ _ hra) (ok.rows r (List.mem_of_getElem? hr)).plain))
  · obtain ⟨p, ws, rfl, h1, h2, h3⟩ := hu
    refine ⟨p, ws, rfl, h1, by rw [h2, gl]; omega, fun i x hx => ?_⟩
    have := h3 i x hx
    cases i with
    | zero =>
      rw [if_pos (by omega)] at this
      exact this
    | succ i =>
      rw [if_neg (by omega)] at this
      exact this
  · obtain ⟨pp, pws, rfl, hp1, hp2, hp3⟩ := ls_mono _ _ _ _ e1 hpl
    obtain ⟨gq, gws, rfl, hg1, hg2, hg3⟩ := f1.here
    have gok : ∀ i, ((givenPts b).getD i []).length ≤ 8 ∧ ∀ x ∈ (givenPts b).getD i [], x < 40 := fun i => by
      cases i with
      | zero => exact ⟨ok.few, ok.takes⟩
      | succ i =>
        cases q : b.rows[i]? with
        | none =>
          have : (givenPts b).getD (i + 1) [] = [] := by
            unfold givenPts
            rw [List.getD_eq_getElem?_getD, List.getElem?_cons_succ, List.getElem?_map, q]
            rfl
          rw [this]
          exact ⟨Nat.zero_le _, fun x hx => by cases hx⟩
        | some r =>
          rw [gat i r q]
          refine ⟨by cases r.gives <;> simp, fun x hx => ?_⟩
          exact (ok.rows r (List.mem_of_getElem? q)).gives x (by simpa using hx)
    refine s_retF (EvF.weak (R := ListN pws.length fun i => NumsV ((therePts pl (givenPts b)).getD i [])) (ef_srcZ (VS.EvA.p (ea_cons (ev_var rfl) (ea_cons (ev_var rfl) ea_nil))) fun ws H2 e2 hw => ?_) fun u H2 hu => ?_) (k.pre e1)
    · subst hw
      refine ef_zip (e2 _ _ hp1) (e2 _ _ hg1) (by rw [hp2, hg2, gl, hlen]) (by rw [hp2, hlen]; omega) (fun _ _ => rfl) (fun k => refs_nums _) fun i x y H3 e3 hx hy => ?_
      obtain ⟨xa, rfl, hxa⟩ := hp3 i x hx
      obtain ⟨ya, rfl, hya⟩ := hg3 i y hy
      have li : i < pl.length := by rw [← hp2]; exact (List.getElem?_eq_some_iff.mp hx).1
      have o1 := getD_ok lok i
      have o2 := gok i
      rw [there_at li]
      refine EvL.nums (el_sortSet (el_is (el_catVV (ev_var rfl) ((e2.trans e3) _ _ hxa) (ev_var rfl) ((e2.trans e3) _ _ hya) ?_) (natsV_append _ _).symm) ?_ ?_)
      · rw [natsV_length, natsV_length]
        omega
      · rw [List.length_append]
        omega
      · intro z hz
        rcases List.mem_append.mp hz with q | q
        · exact o1.2 z q
        · exact o2.2 z q
    · have := hu.l
      rw [hp2] at this
      unfold LsV
      rw [there_len]
      exact this
theorem D_there_in_block (T : Tx K mg) : Df P w K mg base 2 (He.ga K "there_in_block") ["block", "places"] (sp_there_in_block K) := ok_there_in_block T (D_given_by_row T) (fun vs H Q E h => by obtain ⟨a, b, d, e, rfl, _⟩ := h; rfl) (pure_there_in_block T)
theorem spf_there_in_block {pl : List (List Nat)} (hb : BAt K H a b) (ok : BodyOk b.takes b.rows) (hpl : LsV pl v H) (lok : LOk pl) (hl : pl.length = b.rows.length + 1) : SpF (sp_there_in_block K) [.ref a, v] H (LsV (therePts pl (givenPts b))) := fun H1 e Q k E => ⟨a, v, b, pl, rfl, hb.ex e, ok, ls_mono pl v H H1 e hpl, lok, hl, k⟩
/-! ### there_in_code -/
/-- what's there at each point of each block, as the specification says -/
def thereC (cd : CmBase.Code) : List (List (List Nat)) := (List.range cd.blocks.length).map fun i => (List.range ((Cm03.blockAt cd i).rows.length + 1)).map fun p => Cm06.thereAt cd (Cm06.lives cd) i p
theorem thereC_at {i : Nat} (hi : i < cd.blocks.length) : (thereC cd).getD i [] = (List.range ((Cm03.blockAt cd i).rows.length + 1)).map fun p => Cm06.thereAt cd (Cm06.lives cd) i p := by
  unfold thereC
  rw [List.getD_eq_getElem?_getD, List.getElem?_map, List.getElem?_range hi]
  rfl
theorem thereC_pt {i p : Nat} (hi : i < cd.blocks.length) (hp : p ≤ (Cm03.blockAt cd i).rows.length) : ((thereC cd).getD i []).getD p [] = Cm06.thereAt cd (Cm06.lives cd) i p := by
  rw [thereC_at hi, List.getD_eq_getElem?_getD, List.getElem?_map, List.getElem?_range (by omega)]
  rfl
theorem lives_at {i : Nat} (hi : i < cd.blocks.length) : (Cm06.lives cd).getD i [] = comeIn (Cm03.blockAt cd i) (Cm06.lives cd) := by
  have : Cm06.lives cd = Cm06.liveRounds cd (cd.blocks.length + 1) := (rounds_rest cd).symm
  conv => lhs; rw [this]
  exact round_at hi
theorem there_zero {i : Nat} (hi : i < cd.blocks.length) : Cm06.both ((Cm06.lives cd).getD i []) (Cm03.blockAt cd i).takes = srt (Cm06.aheadAll (Cm03.blockAt cd i).rows (Cm06.atEnd (Cm06.lives cd) (Cm03.blockAt cd i).last) ++ (Cm03.blockAt cd i).takes) := by
  rw [← srt_both, lives_at hi]
  unfold srt
  refine List.filter_congr fun x _ => ?_
  rw [Bool.eq_iff_iff, List.contains_iff_mem, List.contains_iff_mem, List.mem_append, List.mem_append]
  unfold comeIn
  rw [List.mem_filter]
  by_cases h : x ∈ (Cm03.blockAt cd i).takes <;> simp [h]
theorem srt_both' {l p q : List Nat} (h : ∀ x, x < 40 → (x ∈ l ↔ x ∈ p ∨ x ∈ q)) : srt l = Cm06.both p q := srt_filter fun x hx => by
  rw [Bool.or_eq_true, List.contains_iff_mem, List.contains_iff_mem]
  exact h x hx
/-- the program's points, but for what's handed to the code -/
theorem pts_at {i p : Nat} (hi : i < cd.blocks.length) (hp : p ≤ (Cm03.blockAt cd i).rows.length) (h0 : ¬ (i = 0 ∧ p = 0)) : (therePts (placesOf (Cm03.blockAt cd i) (Cm06.lives cd)) (givenPts (Cm03.blockAt cd i))).getD p [] = Cm06.thereAt cd (Cm06.lives cd) i p := by
  rw [there_at (by rw [places_len]; omega), places_at hp]
  cases p with
  | zero =>
    have i0 : i ≠ 0 := fun e => h0 ⟨e, rfl⟩
    show srt (Cm06.aheadAll ((Cm03.blockAt cd i).rows.drop 0) _ ++ (Cm03.blockAt cd i).takes) = Cm06.atBegin cd (Cm06.lives cd) i
    rw [List.drop_zero, ← there_zero hi]
    unfold Cm06.atBegin
    rw [if_neg i0]
    have : Cm06.both ((Cm06.lives cd).getD i []) (Cm06.both (Cm03.blockAt cd i).takes []) = Cm06.both ((Cm06.lives cd).getD i []) (Cm03.blockAt cd i).takes := by
      rw [← srt_both (l := (Cm06.lives cd).getD i []) (m := Cm06.both (Cm03.blockAt cd i).takes [])]
      refine srt_both' fun x hx => ?_
      rw [List.mem_append, both_mem]
      simp [hx]
    exact this.symm
  | succ r =>
    show _ = Cm06.both (Cm06.liveAt cd (Cm06.lives cd) i (r + 1)) (((Cm03.blockAt cd i).rows[r]?.bind Row.gives).toList)
    rw [srt_both]
    have hr := List.getElem?_eq_getElem (show r < (Cm03.blockAt cd i).rows.length by omega)
    have e1 : (givenPts (Cm03.blockAt cd i)).getD (r + 1) [] = (((Cm03.blockAt cd i).rows[r]?.bind Row.gives).toList) := by
      unfold givenPts
      rw [List.getD_eq_getElem?_getD, List.getElem?_cons_succ, List.getElem?_map, hr]
      rfl
    rw [e1]
    rfl
theorem pts_zero (hi : 0 < cd.blocks.length) : srt ((therePts (placesOf (Cm03.blockAt cd 0) (Cm06.lives cd)) (givenPts (Cm03.blockAt cd 0))).getD 0 [] ++ List.range cd.args) = Cm06.thereAt cd (Cm06.lives cd) 0 0 := by
  rw [there_at (by rw [places_len]; omega), places_at (Nat.zero_le _), List.drop_zero]
  show srt (srt (_ ++ (Cm03.blockAt cd 0).takes) ++ _) = Cm06.both ((Cm06.lives cd).getD 0 []) (Cm06.both (Cm03.blockAt cd 0).takes (List.range cd.args))
  rw [← there_zero hi]
  refine srt_both' fun x hx => ?_
  rw [List.mem_append, both_mem, both_mem]
  simp only [hx, true_and]
  exact or_assoc
end
end VS
/-! What's there in code; how many at the most; together (living.py). -/
namespace VS
open PySem L2 Evl CmBase
section
variable {P : Program} {w : World} {K : PySem.W.Frag} {mg : Str → Option Value} {base : Heap} {H H0 H' H1 : Hp} {σ : L2.St} {c a bl l : Addr} {cd : CmBase.Code} {b : CmBase.Block} {bs : List Addr} {xs ys : List V} {ta tb tl ti te : TE} {t : TT} {g : TG} {v : V} {ls : List (List Nat)} {vs : List Nat} {D : Ends} {tz tu : TS}
/-- xs[j] = e, e a new list -/
theorem q_setLL {l : Addr} {zs : List V} {j : Nat} (hl : H l = some (.lst xs)) (h : EvL te σ H zs) (ho : Ev ta σ H (.ref l)) (hi : Ev tb σ H (.int (j : Int))) (hj : j < xs.length) (k : ∀ p H1, H p = none → Ex H H1 → H1 p = some (.lst zs) → tz D σ (upd H1 l (.lst (xs.set j (.ref p))))) :
    tSeq (tAsg te (gSub ta tb rSetL)) tz D σ H := h H (Ex.refl H) _ fun p H1 hn e1 hp => ho H1 e1 _ fun H2 e2 => hi H2 (e1.trans e2) _ fun H3 e3 =>
  ⟨l, xs, (j : Int), j, rfl, rfl, ((e1.trans e2).trans e3) l _ hl, ixN_nat hj, k p H3 hn ((e1.trans e2).trans e3) (e3 _ _ (e2 _ _ hp))⟩
theorem nats_ref {l : List Nat} {p : Addr} {i : Nat} (h : (natsV l)[i]? = some (.ref p)) : False := by
  unfold natsV at h
  rw [List.getElem?_map] at h
  cases q : l[i]? with
  | none => rw [q] at h; cases h
  | some n => rw [q] at h; cases h
def sp_there_in_code (K : PySem.W.Frag) : Sp := fun vs H Q _ => ∃ (c : Addr) (cd : CmBase.Code) (bl : Addr) (bs : List Addr), vs = [.ref c] ∧ CAt K H c cd bl bs ∧ COk cd ∧ Whole cd ∧ ∀ v H2, Ex H H2 → LssV (thereC cd) v H2 → Q v H2
theorem places_ok (b : CmBase.Block) (ls : List (List Nat)) : LOk (placesOf b ls) := fun l hl => by
  obtain ⟨r, _, e⟩ := List.mem_map.mp hl
  rw [← e]
  exact aheadAll_ok (names_ok _) _
theorem pure_there_in_code (T : Tx K mg) (vs : List V) (H : Hp) (Q : VK) (E : XK) (h : sp_there_in_code K vs H Q E) : t_there_in_code K (sp_live_in_code K) (sp_there_in_block K) { nx := fun _ H' => Q .non H', rt := Q } (start N_there_in_code vs) H := by
  obtain ⟨c, cd, bl, bs, rfl, hc, ok, wh, k⟩ := h
  have one := wh.one
  have l10 := ok.len
  let pt : Nat → List (List Nat) := fun i => therePts (placesOf (Cm03.blockAt cd i) (Cm06.lives cd)) (givenPts (Cm03.blockAt cd i))
  refine q_asgF (R := ListN cd.blocks.length fun i => LsV (pt i)) (ef_srcZ (ap_cons (P := fun v _ => v = .ref bl) (fun v _ _ _ h => h) (Ev.p (ev_blocks T hc (ev_var rfl))) (ap_cons (lss_mono (liveC cd)) (EvF.p (ef_call (dvs := []) (ea_cons (ev_var rfl) ea_nil) (spf_live_in_code hc ok wh))) ap_nil)) fun ws H1 e1 hw => ?_) fun pv H1 e1 f1 => ?_
  · obtain ⟨v1, r1, rfl, rfl, v2, r2, rfl, ⟨lp, lws, rfl, hl1, hl2, hl3⟩, rfl⟩ := hw
    have hc1 := hc.ex e1
    have ll : lws.length = cd.blocks.length := by rw [hl2]; unfold liveC; rw [List.length_map]
    have := ef_zip (K := K) (σ := start N_there_in_code [.ref c]) (vs := [2, 3]) (i := 2) (j := 3) (te := tCall (sp_there_in_block K) [] E0 (tCons (tVar 2) (tCons (tVar 3) tNil))) (R := fun i => LsV (pt i)) (xs := bs.map V.ref) hc1.lst hl1 (by rw [List.length_map, hc.len, ll]) (by rw [List.length_map, hc.len]; omega) (fun _ _ => rfl) (fun k => refs_list) fun i x y H2 e2 hx hy => by
      obtain ⟨ba, b, rfl, hb, _, hab⟩ := hc1.mem hx
      have hm := List.mem_of_getElem? hb
      have hy2 : LsV ((liveC cd).getD i []) y H1 := hl3 i y hy
      rw [liveC_at hb] at hy2
      show EvF _ _ _ (LsV (therePts (placesOf (Cm03.blockAt cd i) (Cm06.lives cd)) (givenPts (Cm03.blockAt cd i))))
      rw [blockAt_of hb]
      exact ef_call (dvs := []) (ea_cons (ev_var rfl) (ea_cons (ev_var rfl) ea_nil)) (spf_there_in_block (hab.ex e2) (ok.body b hm) (ls_mono _ y H1 H2 e2 hy2) (places_ok _ _) (places_len _ _))
    rw [List.length_map, hc.len] at this
    exact this
  · obtain ⟨pa, pws, rfl, hp1, hp2, hnd, pan, f2⟩ := f1.listN
    have h0 := List.getElem?_eq_getElem (show 0 < pws.length by omega)
    generalize pws[0] = w0 at h0
    obtain ⟨q0, qws, rfl, hq1, hq2, q0n, f3⟩ := ((f2.weak fun H' h => h.2 0 w0 h0) : Fr (New H) H1 (LsV (pt 0) w0)).list
    have ql : qws.length = (Cm03.blockAt cd 0).rows.length + 1 := by rw [hq2, there_len, places_len]
    have g0 := List.getElem?_eq_getElem (show 0 < qws.length by omega)
    generalize qws[0] = y0 at g0
    obtain ⟨z0, rfl, hz1⟩ : NumsV ((pt 0).getD 0 []) y0 H1 := f3.here.2 0 y0 g0
    have ixa : ∀ {H' : Hp}, Ex H1 H' → Ev (tOp (rIxL K) (tVar 1) (tC (.int 0))) ((start N_there_in_code [.ref c]).set 1 (some (.ref pa))) H' (.ref q0) := fun e => ev_op (ev_var rfl) ev_c (rv_ixL (sq_of (e _ _ hp1)) (at_nat (i := 0) h0))
    have lpt : ((pt 0).getD 0 []).length ≤ 40 ∧ ∀ x ∈ (pt 0).getD 0 [], x < 40 := by
      show ((therePts _ _).getD 0 []).length ≤ 40 ∧ ∀ x ∈ (therePts _ _).getD 0 [], x < 40
      rw [there_at (by rw [places_len]; omega)]
      exact ⟨srt_len _, fun x hx => (mem_srt.mp hx).1⟩
    have a6 := ok.args
    have rhs : EvL (tSortSetZ K (tOp rCat (tOp (rIxL K) (tOp (rIxL K) (tVar 1) (tC (.int 0))) (tC (.int 0))) (tLstRg (tRg1 (tFld K (tVar 0) "words"))))) ((start N_there_in_code [.ref c]).set 1 (some (.ref pa))) H1 (natsV (Cm06.thereAt cd (Cm06.lives cd) 0 0)) := by
      rw [← pts_zero (by omega)]
      refine el_sortSet (el_is (el_catV (ev_op (ixa (Ex.refl H1)) ev_c (rv_ixL (sq_of hq1) (at_nat (i := 0) g0))) hz1 (el_range (ev_words T (hc.ex e1) (ev_var rfl)) (by omega)) ?_) (natsV_append _ _).symm) ?_ ?_
      · rw [natsV_length, natsV_length, List.length_range]
        omega
      · rw [List.length_append, List.length_range]
        have : ((pt 0).getD 0 []).length ≤ 40 := lpt.1
        show ((pt 0).getD 0 []).length + cd.args ≤ 4000
        omega
      · intro x hx
        rcases List.mem_append.mp hx with z | z
        · exact lpt.2 x z
        · have := List.mem_range.mp z
          omega
    refine q_setLL (j := 0) hq1 rhs (ixa (Ex.refl H1)) ev_c (show 0 < qws.length by omega) fun p H2 hpn e2 hp => ?_
    -- the levels lie apart
    have inner : ∀ {a : Addr} {l : List Nat}, H2 a = some (.lst (natsV l)) → a ≠ q0 := fun {a l} ha e => by
      subst e
      rw [e2 _ _ hq1] at ha
      cases ha
      exact nats_ref (g0)
    have npa : pa ≠ q0 := fun e => by
      subst e
      rw [hp1] at hq1
      cases hq1
      rw [h0] at g0
      cases g0
      rw [hp1] at hz1
      cases hz1
      exact nats_ref h0
    refine s_ret (ev_var rfl) fun H3 e3 => k _ H3 ((Ex.mut (e1.trans e2) q0n).trans e3) ?_
    refine lss_mono _ _ _ H3 e3 ⟨pa, pws, rfl, ?_, ?_, fun i x hx => ?_⟩
    · rw [upd_ne npa]
      exact e2 _ _ hp1
    · unfold thereC
      rw [hp2, List.length_map, List.length_range]
    · have hi : i < cd.blocks.length := by rw [← hp2]; exact (List.getElem?_eq_some_iff.mp hx).1
      show LsV ((thereC cd).getD i []) x _
      have tl : ((thereC cd).getD i []).length = (Cm03.blockAt cd i).rows.length + 1 := by rw [thereC_at hi, List.length_map, List.length_range]
      by_cases i0 : i = 0
      · subst i0
        rw [h0] at hx
        cases hx
        refine ⟨q0, qws.set 0 (.ref p), rfl, upd_same, by rw [List.length_set, ql, tl], fun j y hy => ?_⟩
        show NumsV (((thereC cd).getD 0 []).getD j []) y _
        have hj : j < qws.length := by have := (List.getElem?_eq_some_iff.mp hy).1; rwa [List.length_set] at this
        rw [thereC_pt hi (by omega)]
        by_cases j0 : j = 0
        · subst j0
          rw [List.getElem?_set_self (by omega)] at hy
          cases hy
          refine ⟨p, rfl, ?_⟩
          rw [upd_ne (inner hp)]
          exact hp
        · rw [List.getElem?_set_ne (fun e => j0 e.symm)] at hy
          obtain ⟨ya, rfl, hya⟩ : NumsV ((pt 0).getD j []) y H1 := f3.here.2 j y hy
          rw [← pts_at hi (by omega) (fun z => j0 z.2)]
          refine ⟨ya, rfl, ?_⟩
          rw [upd_ne (inner (e2 _ _ hya))]
          exact e2 _ _ hya
      · obtain ⟨xa, xws, rfl, hx1, hx2, hx3⟩ : LsV (pt i) x H1 := f2.here.2 i x hx
        have nx : xa ≠ q0 := fun e => by
          subst e
          exact i0 ((List.getElem?_inj (List.getElem?_eq_some_iff.mp hx).1 hnd).mp (hx.trans h0.symm))
        refine ⟨xa, xws, rfl, ?_, by rw [hx2, tl, there_len, places_len], fun j y hy => ?_⟩
        · rw [upd_ne nx]
          exact e2 _ _ hx1
        · have hj : j < xws.length := (List.getElem?_eq_some_iff.mp hy).1
          rw [hx2, there_len, places_len] at hj
          show NumsV (((thereC cd).getD i []).getD j []) y _
          rw [thereC_pt hi (by omega), ← pts_at hi (by omega) (fun z => i0 z.1)]
          obtain ⟨ya, rfl, hya⟩ : NumsV ((pt i).getD j []) y H1 := hx3 j y hy
          refine ⟨ya, rfl, ?_⟩
          rw [upd_ne (inner (e2 _ _ hya))]
          exact e2 _ _ hya
theorem D_there_in_code (T : Tx K mg) : Df P w K mg base 7 (He.ga K "there_in_code") ["code"] (sp_there_in_code K) := ok_there_in_code T (D_live_in_code T) (D_there_in_block T) (fun vs H Q E h => by obtain ⟨a, b, d, e, rfl, _⟩ := h; rfl) (pure_there_in_code T)
theorem spp_there_in_code (hc : CAt K H c cd bl bs) (ok : COk cd) (wh : Whole cd) : SpP (sp_there_in_code K) [.ref c] H (LssV (thereC cd)) := fun H1 e Q k E => ⟨c, cd, bl, bs, rfl, hc.ex e, ok, wh, fun v H2 e2 h2 => k v H2 e2 h2⟩
theorem s_forEnum {p : Addr} (h : Ev tl σ H (.ref p)) (hx : SqL K H p xs) (Pv : Nat → L2.St → Hp → Prop) (h0 : ∀ H1, Ex H H1 → Pv 0 σ H1) (hq : ∀ i σ H, Pv i σ H → SqL K H p xs)
    (step : ∀ (i : Nat) (x : V) σ H T, xs[i]? = some x → H T = none → Pv i σ H → g (.ref T) σ (upd H T (.tup [.int (i : Int), x])) fun σ2 H2 => tu { D with nx := Pv (i + 1), ct := Pv (i + 1), bk := D.nx } σ2 H2) (hd : ∀ σ H, Pv xs.length σ H → D.nx σ H) : tFor (iEnum K (tCons tl tNil)) g tu D σ H :=
  h H (Ex.refl H) _ fun H1 e => ⟨p, xs, rfl, ex_l e hx, for_enum Pv (h0 H1 e) hq step hd⟩
/-! ### most_there -/
/-- the fullest so far -/
def fuller (cd : CmBase.Code) (m : Nat × (Nat × Nat)) (q : Nat × Nat) : Nat × (Nat × Nat) := if m.1 < (Cm06.thereAt cd (Cm06.lives cd) q.1 q.2).length then ((Cm06.thereAt cd (Cm06.lives cd) q.1 q.2).length, q) else m
def ptsOf (cd : CmBase.Code) (i n : Nat) : List (Nat × Nat) := (List.range n).map fun p => (i, p)
def mostV (m : Nat × (Nat × Nat)) : List V := [.int (m.1 : Int), .int (m.2.1 : Int), .int (m.2.2 : Int)]
theorem ptsOf_succ (i n : Nat) : ptsOf cd i (n + 1) = ptsOf cd i n ++ [(i, n)] := by unfold ptsOf; rw [List.range_succ, List.map_append]; rfl
def sp_most_there (K : PySem.W.Frag) : Sp := fun vs H Q _ => ∃ (c : Addr) (cd : CmBase.Code) (bl : Addr) (bs : List Addr), vs = [.ref c] ∧ CAt K H c cd bl bs ∧ COk cd ∧ Whole cd ∧ RetL (mostV ((Cm06.points cd).foldl (fuller cd) (0, (0, 0)))) H Q
theorem pure_most_there (T : Tx K mg) (vs : List V) (H : Hp) (Q : VK) (E : XK) (h : sp_most_there K vs H Q E) : t_most_there K (sp_there_in_code K) { nx := fun _ H' => Q .non H', rt := Q } (start N_most_there vs) H := by
  obtain ⟨c, cd, bl, bs, rfl, hc, ok, wh, k⟩ := h
  refine q_asgL (el_lst (ea_cons ev_c (ea_cons ev_c (ea_cons ev_c ea_nil))) (show 3 ≤ 100000 by decide)) fun pm0 H1 hn1 e1 hpm0 => ?_
  refine (ep_call (dvs := []) (ea_cons (ev_var rfl) ea_nil) (spp_there_in_code (hc.ex e1) ok wh)) H1 (Ex.refl H1) _ fun tv H2 e2 htv => ?_
  obtain ⟨tp, tws, rfl, ht1, ht2, ht3⟩ := htv
  have tlen : tws.length = cd.blocks.length := by rw [ht2]; unfold thereC; rw [List.length_map, List.length_range]
  let acc : Nat → Nat × (Nat × Nat) := fun i => ((List.range i).flatMap fun i => ptsOf cd i ((Cm03.blockAt cd i).rows.length + 1)).foldl (fuller cd) (0, (0, 0))
  refine ⟨tp, tws, rfl, sq_of ht1, for_enum (fun i σ' H' => Ex H2 H' ∧ ∃ pm w2 w3 w4 w5, σ' = [some (.ref c), some (.ref pm), w2, w3, w4, w5] ∧ H' pm = some (.lst (mostV (acc i))) ∧ H pm = none) ⟨Ex.refl H2, pm0, _, _, _, _, rfl, e2 _ _ hpm0, hn1⟩ (fun i σ' H' q => sq_of (q.1 _ _ ht1)) (fun i x σ' H' T hx hT q => ?_) (fun σ' H' q => ?_)⟩
  · obtain ⟨e3, pm, w2, w3, w4, w5, rfl, hpm, pmN⟩ := q
    have eT : Ex H' (upd H' T (.tup [.int (i : Int), x])) := Ex.new hT
    have hi : i < cd.blocks.length := by rw [← tlen]; exact (List.getElem?_eq_some_iff.mp hx).1
    obtain ⟨xp, xws, rfl, hx1, hx2, hx3⟩ : LsV ((thereC cd).getD i []) x H2 := ht3 i x hx
    have xl : xws.length = (Cm03.blockAt cd i).rows.length + 1 := by rw [hx2, thereC_at hi, List.length_map, List.length_range]
    refine g_two (st_of upd_same) ?_
    have e24 : Ex H2 (upd H' T (.tup [.int (i : Int), .ref xp])) := e3.trans eT
    refine s_forEnum (ev_var rfl) (sq_of (e24 _ _ hx1)) (fun j σ' H' => Ex H2 H' ∧ ∃ pm w4 w5, σ' = [some (.ref c), some (.ref pm), some (.int (i : Int)), some (.ref xp), w4, w5] ∧ H' pm = some (.lst (mostV ((ptsOf cd i j).foldl (fuller cd) (acc i)))) ∧ H pm = none) (fun H4 e4 => ⟨e24.trans e4, pm, _, _, rfl, e4 _ _ (eT _ _ hpm), pmN⟩) (fun j σ' H' q => sq_of (q.1 _ _ hx1)) (fun j y σ' H' T' hy hT' q => ?_) (fun σ' H' q => ?_)
    · obtain ⟨e5, pm, w4, w5, rfl, hpm, pmN⟩ := q
      have eT' : Ex H' (upd H' T' (.tup [.int (j : Int), y])) := Ex.new hT'
      have hj : j ≤ (Cm03.blockAt cd i).rows.length := by have := (List.getElem?_eq_some_iff.mp hy).1; omega
      obtain ⟨yp, rfl, hyp⟩ : NumsV (((thereC cd).getD i []).getD j []) y H2 := hx3 j y hy
      rw [thereC_pt hi hj] at hyp
      refine g_two (st_of upd_same) ?_
      show tIfS _ _ _ _ _ _
      have hyp' := eT' _ _ (e5 _ _ hyp)
      have hpm' := eT' _ _ hpm
      have lenv : ∀ H3, Ex (upd H' T' (.tup [.int (j : Int), .ref yp])) H3 → Ev (tCB (rLenS K) (tCons (tVar 5) tNil)) [some (.ref c), some (.ref pm), some (.int (i : Int)), some (.ref xp), some (.int (j : Int)), some (.ref yp)] H3 (.int ((Cm06.thereAt cd (Cm06.lives cd) i j).length : Int)) := fun H3 e3 => by
        have := ev_len (K := K) (ev_var (σ := [some (.ref c), some (.ref pm), some (.int (i : Int)), some (.ref xp), some (.int (j : Int)), some (.ref yp)]) (H := H3) (i := 5) rfl) (sq_of (e3 _ _ hyp'))
        rwa [natsV_length] at this
      have nx : ∀ m0, (ptsOf cd i (j + 1)).foldl (fuller cd) m0 = fuller cd ((ptsOf cd i j).foldl (fuller cd) m0) (i, j) := fun m0 => by rw [ptsOf_succ, List.foldl_append]; rfl
      generalize hm : (ptsOf cd i j).foldl (fuller cd) (acc i) = m at hpm' hpm nx
      have ix0 : Ev (tOp (rIxL K) (tVar 1) (tC (.int 0))) [some (.ref c), some (.ref pm), some (.int (i : Int)), some (.ref xp), some (.int (j : Int)), some (.ref yp)] (upd H' T' (.tup [.int (j : Int), .ref yp])) (.int (m.1 : Int)) := ev_op (ev_var rfl) ev_c (rv_ixL (sq_of hpm') (at_nat (i := 0) rfl))
      refine s_when (b := decide ((m.1 : Int) < ((Cm06.thereAt cd (Cm06.lives cd) i j).length : Int))) (et_test (ev_op (lenv _ (Ex.refl _)) ix0 rv_I0)) (fun hb H6 e6 => ?_) (fun hb H6 e6 => ?_)
      · have lt : m.1 < (Cm06.thereAt cd (Cm06.lives cd) i j).length := by have := of_decide_eq_true hb; omega
        refine s_asgL (el_lst (ea_cons (lenv H6 e6) (ea_cons (ev_var rfl) (ea_cons (ev_var rfl) ea_nil))) (show 3 ≤ 100000 by decide)) fun np H7 hnp e7 hnp1 => ⟨((e5.trans eT').trans e6).trans e7, np, _, _, rfl, ?_, fresh_back ((((e1.trans e2).trans e5).trans eT').trans e6) hnp⟩
        rw [nx, hm]
        unfold fuller
        rw [if_pos lt]
        exact hnp1
      · have ge : ¬ m.1 < (Cm06.thereAt cd (Cm06.lives cd) i j).length := by have := of_decide_eq_false hb; omega
        refine ⟨(e5.trans eT').trans e6, pm, _, _, rfl, ?_, pmN⟩
        rw [nx, hm]
        unfold fuller
        rw [if_neg ge]
        exact e6 _ _ hpm'
    · obtain ⟨e5, pm, w4, w5, rfl, hpm, pmN⟩ := q
      refine ⟨e5, pm, _, _, _, _, rfl, ?_, pmN⟩
      rw [xl] at hpm
      have : acc (i + 1) = (ptsOf cd i ((Cm03.blockAt cd i).rows.length + 1)).foldl (fuller cd) (acc i) := by
        show (List.flatMap _ (List.range (i + 1))).foldl _ _ = _
        rw [List.range_succ, List.flatMap_append, List.flatMap_singleton, List.foldl_append]
      rw [this]
      exact hpm
  · obtain ⟨e3, pm, w2, w3, w4, w5, rfl, hpm, pmN⟩ := q
    refine s_ret (D := { nx := fun _ H' => Q .non H', rt := Q }) (ev_var (i := 1) rfl) fun H4 e4 => k pm H4 pmN (((e1.trans e2).trans e3).trans e4) ?_
    rw [tlen] at hpm
    exact e4 _ _ hpm
theorem D_most_there (T : Tx K mg) : Df P w K mg base 8 (He.ga K "most_there") ["code"] (sp_most_there K) := ok_most_there T (D_there_in_code T) (fun vs H Q E h => by obtain ⟨a, b, d, e, rfl, _⟩ := h; rfl) (pure_most_there T)
/-- what the fold finds is the specification's -/
theorem fold_fuller (cd : CmBase.Code) : ∀ (l : List (Nat × Nat)) (m : Nat × (Nat × Nat)), (m.1 = (Cm06.thereAt cd (Cm06.lives cd) m.2.1 m.2.2).length ∨ (m = (0, (0, 0)) ∧ ((0, 0) ∈ l ∨ (Cm06.thereAt cd (Cm06.lives cd) 0 0).length = 0))) →
    (l.foldl (fuller cd) m).1 = (Cm06.thereAt cd (Cm06.lives cd) (l.foldl (fuller cd) m).2.1 (l.foldl (fuller cd) m).2.2).length
  | [], m, h => by
    rcases h with h | ⟨rfl, h | h⟩
    · exact h
    · cases h
    · exact h.symm
  | q :: l, m, h => by
    refine fold_fuller cd l (fuller cd m q) ?_
    unfold fuller
    by_cases lt : m.1 < (Cm06.thereAt cd (Cm06.lives cd) q.1 q.2).length
    · rw [if_pos lt]
      exact .inl rfl
    · rw [if_neg lt]
      rcases h with h | ⟨rfl, h | h⟩
      · exact .inl h
      · refine .inr ⟨rfl, ?_⟩
        rcases List.mem_cons.mp h with e | e
        · refine .inr ?_
          rw [← e] at lt
          have : ¬ 0 < (Cm06.thereAt cd (Cm06.lives cd) 0 0).length := lt
          omega
        · exact .inl e
      · exact .inr ⟨rfl, .inr h⟩
theorem most_spec (wh : Whole cd) : mostV ((Cm06.points cd).foldl (fuller cd) (0, (0, 0))) = natsV [Cm06.most cd (Cm06.lives cd), (Cm06.fullest cd (Cm06.lives cd)).1, (Cm06.fullest cd (Cm06.lives cd)).2] := by
  have e : Cm06.fullest cd (Cm06.lives cd) = ((Cm06.points cd).foldl (fuller cd) (0, (0, 0))).2 := rfl
  have h0 : (0, 0) ∈ Cm06.points cd := List.mem_flatMap.mpr ⟨0, List.mem_range.mpr wh.one, List.mem_map.mpr ⟨0, List.mem_range.mpr (by omega), rfl⟩⟩
  have := fold_fuller cd (Cm06.points cd) (0, (0, 0)) (.inr ⟨rfl, .inl h0⟩)
  unfold Cm06.most
  simp only
  rw [e, ← this]
  rfl
theorem spl_most (hc : CAt K H c cd bl bs) (ok : COk cd) (wh : Whole cd) : SpL (sp_most_there K) [.ref c] H (natsV [Cm06.most cd (Cm06.lives cd), (Cm06.fullest cd (Cm06.lives cd)).1, (Cm06.fullest cd (Cm06.lives cd)).2]) := fun H1 e Q k E => ⟨c, cd, bl, bs, rfl, hc.ex e, ok, wh, fun p H2 hn e2 h2 => k p H2 hn e2 (by rw [most_spec wh] at h2; exact h2)⟩
/-! ### are_together -/
def sp_are_together (K : PySem.W.Frag) : Sp := fun vs H Q _ => ∃ (c : Addr) (x y : Nat) (cd : CmBase.Code) (bl : Addr) (bs : List Addr), vs = [.ref c, .int (x : Int), .int (y : Int)] ∧ CAt K H c cd bl bs ∧ COk cd ∧ Whole cd ∧ RetV (.bl (Cm06.together cd (Cm06.lives cd) x y)) H Q
def tog1 (cd : CmBase.Code) (x y i : Nat) : Bool := (List.range ((Cm03.blockAt cd i).rows.length + 1)).any fun p => (Cm06.thereAt cd (Cm06.lives cd) i p).contains x && (Cm06.thereAt cd (Cm06.lives cd) i p).contains y
theorem tog_eq (cd : CmBase.Code) (x y : Nat) : Cm06.together cd (Cm06.lives cd) x y = (List.range cd.blocks.length).any (tog1 cd x y) := by
  unfold Cm06.together Cm06.points
  rw [List.any_flatMap]
  unfold tog1
  simp only [List.any_map]
  rfl
theorem pure_are_together (T : Tx K mg) (vs : List V) (H : Hp) (Q : VK) (E : XK) (h : sp_are_together K vs H Q E) : t_are_together K (sp_there_in_code K) { nx := fun _ H' => Q .non H', rt := Q } (start N_are_together vs) H := by
  obtain ⟨c, x, y, cd, bl, bs, rfl, hc, ok, wh, k⟩ := h
  refine (ep_call (dvs := []) (ea_cons (ev_var rfl) ea_nil) (spp_there_in_code hc ok wh)) H (Ex.refl H) _ fun tv H2 e2 htv => ?_
  obtain ⟨tp, tws, rfl, ht1, ht2, ht3⟩ := htv
  have tlen : tws.length = cd.blocks.length := by rw [ht2]; unfold thereC; rw [List.length_map, List.length_range]
  refine ⟨tp, rfl, ⟨tws, sq_of ht1⟩, for_list (fun i σ' H' => Ex H2 H' ∧ (∃ w3 w4, σ' = [some (.ref c), some (.int (x : Int)), some (.int (y : Int)), w3, w4]) ∧ (List.range i).any (tog1 cd x y) = false) ⟨Ex.refl H2, ⟨_, _, rfl⟩, rfl⟩ (fun i σ' H' _ q => sq_of (q.1 _ _ ht1)) (fun i v σ' H' hv q => ?_) (fun σ' H' q => ?_)⟩
  · obtain ⟨e3, ⟨w3, w4, rfl⟩, hno⟩ := q
    have hi : i < cd.blocks.length := by rw [← tlen]; exact (List.getElem?_eq_some_iff.mp hv).1
    obtain ⟨xp, xws, rfl, hx1, hx2, hx3⟩ : LsV ((thereC cd).getD i []) v H2 := ht3 i v hv
    have xl : xws.length = (Cm03.blockAt cd i).rows.length + 1 := by rw [hx2, thereC_at hi, List.length_map, List.length_range]
    have l12 := (ok.body _ (List.mem_of_getElem? (at_blockAt hi))).len
    show tIfS _ _ _ _ _ _
    have test : EvT (tB (tCB (rAny K) (tCons (tLc (iList K (tVar 3)) (gName 4) tYes (tAndV (tOp (rIn K false) (tVar 1) (tVar 4)) (tOp (rIn K false) (tVar 2) (tVar 4))) [4]) tNil))) [some (.ref c), some (.int (x : Int)), some (.int (y : Int)), some (.ref xp), w4] H' (tog1 cd x y i) := by
      refine et_B (ev_cbL (el_lcL (fun _ => true) (fun p => .bl ((Cm06.thereAt cd (Cm06.lives cd) i p).contains x && (Cm06.thereAt cd (Cm06.lives cd) i p).contains y)) (ev_var rfl) (sq_of (e3 _ _ hx1)) (by omega) (fun _ => rfl) (fun _ _ _ _ _ => et_yes) fun p u H4 e4 hu _ => ?_) fun q H4 e4 h4 => ?_)
      · have hp : p ≤ (Cm03.blockAt cd i).rows.length := by have := (List.getElem?_eq_some_iff.mp hu).1; omega
        obtain ⟨ua, rfl, hua⟩ : NumsV (((thereC cd).getD i []).getD p []) u H2 := hx3 p u hu
        rw [thereC_pt hi hp] at hua
        have hua' := e4 _ _ (e3 _ _ hua)
        exact ev_andV (ev_op (ev_var rfl) (ev_var rfl) (rv_inN (sq_of hua'))) fun _ => ev_op (ev_var rfl) (ev_var rfl) (rv_inN (sq_of hua'))
      · unfold Evl.given at h4
        rw [filter_yes, xl] at h4
        have e5 : (List.range ((Cm03.blockAt cd i).rows.length + 1)).map (fun p => V.bl ((Cm06.thereAt cd (Cm06.lives cd) i p).contains x && (Cm06.thereAt cd (Cm06.lives cd) i p).contains y)) = ((List.range ((Cm03.blockAt cd i).rows.length + 1)).map fun p => ((Cm06.thereAt cd (Cm06.lives cd) i p).contains x && (Cm06.thereAt cd (Cm06.lives cd) i p).contains y)).map V.bl := by rw [List.map_map]; rfl
        rw [e5] at h4
        have := rc_any (K := K) h4
        rw [List.any_map] at this
        exact this
    have nx : (List.range (i + 1)).any (tog1 cd x y) = tog1 cd x y i := by rw [List.range_succ, List.any_append, hno]; simp
    refine s_when test (fun hb H4 e4 => ?_) (fun hb H4 e4 => ⟨e3.trans e4, ⟨_, _, rfl⟩, by rw [nx]; exact hb⟩)
    refine s_ret ev_c fun H5 e5 => ?_
    have kk := k H5 (((e2.trans e3).trans e4).trans e5)
    have : Cm06.together cd (Cm06.lives cd) x y = true := by
      rw [tog_eq, List.any_eq_true]
      exact ⟨i, List.mem_range.mpr hi, hb⟩
    rw [this] at kk
    exact kk
  · obtain ⟨e3, ⟨w3, w4, rfl⟩, hno⟩ := q
    rw [tlen] at hno
    refine s_ret (D := { nx := fun _ H' => Q .non H', rt := Q }) (σ := [some (.ref c), some (.int (x : Int)), some (.int (y : Int)), w3, w4]) (te := tC (.bl false)) ev_c fun H5 e5 => ?_
    have kk := k H5 ((e2.trans e3).trans e5)
    rw [tog_eq, hno] at kk
    exact kk
theorem D_are_together (T : Tx K mg) : Df P w K mg base 8 (He.ga K "are_together") ["code", "x", "y"] (sp_are_together K) := ok_are_together T (D_there_in_code T) (fun vs H Q E h => by obtain ⟨a, b, d, e, f, g, rfl, _⟩ := h; rfl) (pure_are_together T)
theorem spv_are_together (hc : CAt K H c cd bl bs) (ok : COk cd) (wh : Whole cd) (x y : Nat) : SpV (sp_are_together K) [.ref c, .int (x : Int), .int (y : Int)] H (.bl (Cm06.together cd (Cm06.lives cd) x y)) := fun H1 e Q k E => ⟨c, x, y, cd, bl, bs, rfl, hc.ex e, ok, wh, k⟩
end
end VS
/-! Registers: the dict, the least free one, placing (placing.py). -/
namespace VS
open PySem L2 Evl CmBase
/-- the dict's content: values and registers, in the order in which they were put -/
def kvs (gs : Cm06.Given) : List (Key × V) := gs.reverse.map fun q => (Sum.inl (q.1 : Int), V.int (q.2 : Int))
def keys (gs : Cm06.Given) : List Nat := gs.map (·.1)
theorem kvs_cons (x s : Nat) (gs : Cm06.Given) : kvs ((x, s) :: gs) = kvs gs ++ [(Sum.inl (x : Int), V.int (s : Int))] := by
  unfold kvs
  rw [List.reverse_cons, List.map_append]
  rfl
theorem valV_no {gs : Cm06.Given} {x : Nat} (h : x ∉ keys gs) : valV (kvs gs) (Sum.inl (x : Int) : Key) = none := by
  induction gs with
  | nil => rfl
  | cons q gs ih =>
    have h1 : x ∉ keys gs := fun z => h (List.mem_cons_of_mem _ z)
    have h2 : ¬ x = q.1 := fun z => h (by rw [z]; exact List.mem_cons_self ..)
    have ih := ih h1
    obtain ⟨y, s⟩ := q
    rw [kvs_cons]
    unfold valV at ih ⊢
    rw [List.find?_append]
    cases q : (kvs gs).find? (fun kv => decide (kv.1 = (Sum.inl (x : Int) : Key))) with
    | some z => rw [q] at ih; cases ih
    | none =>
      have : ¬ (Sum.inl (y : Int) : Key) = Sum.inl (x : Int) := fun z => h2 (by have := Sum.inl.inj z; show x = y; omega)
      simp [this]
theorem valV_yes {gs : Cm06.Given} {x : Nat} (nd : (keys gs).Nodup) (h : x ∈ keys gs) : valV (kvs gs) (Sum.inl (x : Int) : Key) = some (.int (Cm06.regIn gs x : Int)) := by
  induction gs with
  | nil => cases h
  | cons q gs ih =>
    obtain ⟨y, s⟩ := q
    have nd' : y ∉ keys gs ∧ (keys gs).Nodup := List.nodup_cons.mp nd
    rw [kvs_cons, valV_snoc _ _ _ _ (valV_no nd'.1), regIn_cons]
    by_cases e : x = y
    · subst e
      rw [if_pos rfl, if_pos rfl]
    · have : ¬ (Sum.inl (x : Int) : Key) = Sum.inl (y : Int) := fun z => e (by have := Sum.inl.inj z; omega)
      rw [if_neg this, if_neg fun z => e z.symm]
      refine ih nd'.2 ?_
      rcases List.mem_cons.mp h with z | z
      · exact absurd z e
      · exact z
theorem kvs_len (gs : Cm06.Given) : (kvs gs).length = gs.length := by unfold kvs; rw [List.length_map, List.length_reverse]
/-- the dict at p; all else stands as it stood in Hb -/
structure Sl (Hb : Hp) (p : Addr) (gs : Cm06.Given) (H : Hp) : Prop where
  ex : Ex Hb H
  new : Hb p = none
  at_ : H p = some (.dK (kvs gs))
  nd : (keys gs).Nodup
section
variable {P : Program} {w : World} {K : PySem.W.Frag} {mg : Str → Option Value} {base : Heap} {H H0 H' H1 : Hp} {σ : L2.St} {c a bl l p : Addr} {cd : CmBase.Code} {b : CmBase.Block} {bs : List Addr} {xs ys : List V} {ta tb tl ti te : TE} {t : TT} {v : V} {D : Ends} {tz tu tw : TS} {Hb : Hp} {gs : Cm06.Given}
theorem Sl.step (s : Sl Hb p gs H) (e : Ex H H') : Sl Hb p gs H' := ⟨s.ex.trans e, s.new, e _ _ s.at_, s.nd⟩
theorem Sl.put (s : Sl Hb p gs H) (e : Ex H H1) {x k : Nat} (hx : x ∉ keys gs) : Sl Hb p ((x, k) :: gs) (upd H1 p (.dK (kvs ((x, k) :: gs)))) := ⟨Ex.mut (s.ex.trans e) s.new, s.new, upd_same, List.nodup_cons.mpr ⟨hx, s.nd⟩⟩
/-- d[x] -/
theorem ev_dget {x : Nat} (ha : Ev ta σ H (.ref p)) (hp : H p = some (.dK (kvs gs))) (nd : (keys gs).Nodup) (hx : x ∈ keys gs) (hi : Ev ti σ H (.int (x : Int))) : Ev (tDGet ta ti) σ H (.int (Cm06.regIn gs x : Int)) := fun H1 e Q q =>
  ha H1 e _ fun H2 e2 => hi H2 (e.trans e2) _ fun H3 e3 => ⟨p, _, rfl, .inl ⟨kvs gs, Sum.inl (x : Int), .inl (((e.trans e2).trans e3) _ _ hp), rfl, (valV_yes nd hx).symm⟩, q H3 (e2.trans e3)⟩
/-- d[x] = e -/
theorem s_dput {x k : Nat} (hp : H p = some (.dK (kvs gs))) (h : Ev te σ H (.int (k : Int))) (ha : Ev ta σ H (.ref p)) (hi : Ev ti σ H (.int (x : Int))) (hx : x ∉ keys gs) (few : gs.length < 100000) (kk : ∀ H1, Ex H H1 → D.nx σ (upd H1 p (.dK (kvs ((x, k) :: gs))))) : sDPut ta ti te D σ H :=
  h H (Ex.refl H) _ fun H1 e1 => ha H1 e1 _ fun H2 e2 => hi H2 (e1.trans e2) _ fun H3 e3 => ⟨p, _, rfl, .inl ⟨kvs gs, Sum.inl (x : Int), ((e1.trans e2).trans e3) _ _ hp, rfl, sz_lt (by rw [kvs_len]; exact few), rfl⟩, by
    rw [putK_new _ (valV_no hx), ← kvs_cons]
    exact kk H3 ((e1.trans e2).trans e3)⟩
theorem q_dput {x k : Nat} (hp : H p = some (.dK (kvs gs))) (h : Ev te σ H (.int (k : Int))) (ha : Ev ta σ H (.ref p)) (hi : Ev ti σ H (.int (x : Int))) (hx : x ∉ keys gs) (few : gs.length < 100000) (kk : ∀ H1, Ex H H1 → tz D σ (upd H1 p (.dK (kvs ((x, k) :: gs))))) : tSeq (sDPut ta ti te) tz D σ H := s_dput (D := { D with nx := tz D }) hp h ha hi hx few kk
/-! ### least_free -/
def sp_least_free (K : PySem.W.Frag) : Sp := fun vs H Q _ => ∃ (p o : Addr) (gs : Cm06.Given) (others : List Nat), vs = [.ref p, .ref o] ∧ H p = some (.dK (kvs gs)) ∧ (keys gs).Nodup ∧ SqL K H o (natsV others) ∧ (∀ y ∈ others, y ∈ keys gs) ∧ others.length ≤ 1000 ∧ RetV (.int (Cm06.free (others.map (Cm06.regIn gs)) : Int)) H Q
theorem pure_least_free (vs : List V) (H : Hp) (Q : VK) (E : XK) (h : sp_least_free K vs H Q E) : t_least_free K { nx := fun _ H' => Q .non H', rt := Q } (start N_least_free vs) H := by
  obtain ⟨p, o, gs, others, rfl, hp, nd, ho, hin, hz, k⟩ := h
  refine q_asgL (xs := natsV (others.map (Cm06.regIn gs))) (el_is (el_comp (fun _ => true) (onInt fun n => .int (Cm06.regIn gs n.toNat : Int)) (ev_var rfl) ho (by rw [natsV_length]; omega) (fun _ => rfl) (fun _ _ _ _ => et_yes) (fun x hx H1 e _ => ?_)) ?_) fun u H1 hn e1 hu => ?_
  · obtain ⟨n, hn, rfl⟩ := List.mem_map.mp hx
    exact ev_dget (ev_var rfl) (e _ _ hp) nd (hin n hn) (ev_var rfl)
  · rw [filter_yes]
    unfold natsV
    rw [List.map_map, List.map_map]
    refine List.map_congr_left fun n _ => ?_
    show V.int (Cm06.regIn gs (n : Int).toNat : Int) = V.int (Cm06.regIn gs n : Int)
    rw [Int.toNat_natCast]
  · obtain ⟨f1, f2⟩ := free_spec (others.map (Cm06.regIn gs))
    generalize hf : Cm06.free (others.map (Cm06.regIn gs)) = fr at f1 f2 k
    refine q_asg ev_c fun H2 e2 => ?_
    refine q_while (fun m σ' H' => ∃ i, i ≤ fr ∧ m = fr - i ∧ Ex H2 H' ∧ ∃ w, σ' = [some (.ref p), some (.ref o), some (.ref u), w, some (.int (i : Int))]) fr ⟨0, Nat.zero_le _, by omega, Ex.refl H2, _, rfl⟩ fun m σ' H' hW => ?_
    obtain ⟨i, hi, hm, e3, w, rfl⟩ := hW
    refine ⟨(others.map (Cm06.regIn gs)).contains i, et_test (ev_op (ev_var rfl) (ev_var rfl) (rv_inN (sq_of (e3 _ _ (e2 _ _ hu))))), fun hb H3 e4 => ?_, fun hb H3 e4 => ?_⟩
    · have lt : i < fr := by
        have hmem := List.contains_iff_mem.mp hb
        rcases Nat.lt_or_ge i fr with q | q
        · exact q
        · have : i = fr := by omega
          subst this
          exact absurd hmem f1
      exact ⟨fun σ' H' => ∃ w, Ex H2 H' ∧ σ' = [some (.ref p), some (.ref o), some (.ref u), w, some (.int ((i + 1 : Nat) : Int))], fun σ2 H2 ⟨w, q1, q2⟩ => ⟨fr - (i + 1), by omega, i + 1, lt, rfl, q1, w, q2⟩, s_aug (a := (i : Int)) (b := 1) rfl ev_c fun H5 e5 => ⟨_, (e3.trans e4).trans e5, rfl⟩⟩
    · have eq : i = fr := by
        rcases Nat.lt_or_ge i fr with q | q
        · have := List.contains_iff_mem.mpr (f2 i q)
          rw [this] at hb
          cases hb
        · omega
      subst eq
      exact s_ret (ev_var rfl) fun H5 e5 => k H5 ((((e1.trans e2).trans e3).trans e4).trans e5)
theorem D_least_free (T : Tx K mg) : Df P w K mg base 1 (He.ga K "least_free") ["slots", "others"] (sp_least_free K) := ok_least_free T (fun vs H Q E h => by obtain ⟨a, b, d, e, rfl, _⟩ := h; rfl) pure_least_free
theorem spv_least_free {o : Addr} {others : List Nat} (hp : H p = some (.dK (kvs gs))) (nd : (keys gs).Nodup) (ho : SqL K H o (natsV others)) (hin : ∀ y ∈ others, y ∈ keys gs) (hz : others.length ≤ 1000) : SpV (sp_least_free K) [.ref p, .ref o] H (.int (Cm06.free (others.map (Cm06.regIn gs)) : Int)) := fun H1 e Q k E => ⟨p, o, gs, others, rfl, e _ _ hp, nd, ex_l e ho, hin, hz, k⟩
/-! ### place_one_by_one -/
theorem keys_giveE (gs : Cm06.Given) (e : Evt) : keys (giveE gs e) = e.1 :: keys gs := rfl
theorem okEvs_keys {gs : Cm06.Given} {e : Evt} {r : List Evt} (h : OkEvs (· ∈ keys gs) (e :: r)) : OkEvs (· ∈ keys (giveE gs e)) r := (okEvs_congr fun y => by rw [keys_giveE, List.mem_cons]; exact Or.comm).mp h.2.2
theorem fold_len (E : List Evt) (gs : Cm06.Given) : (E.foldl giveE gs).length = gs.length + E.length := by
  induction E generalizing gs with
  | nil => rfl
  | cons e r ih =>
    rw [List.foldl_cons, ih]
    show gs.length + 1 + r.length = gs.length + (r.length + 1)
    omega
theorem free_same {x : Nat} {others : List Nat} {f : Nat → Nat} (h : x ∉ others) : Cm06.free ((others.filter fun z => !(z == x)).map f) = Cm06.free (others.map f) := by
  have : others.filter (fun z => !(z == x)) = others := List.filter_eq_self.mpr fun y hy => by
    have : y ≠ x := fun e => h (e ▸ hy)
    simpa using this
  rw [this]
def sp_place_one_by_one (K : PySem.W.Frag) : Sp := fun vs H Q _ => ∃ (Hb : Hp) (p vl ol : Addr) (gs : Cm06.Given) (values others : List Nat), vs = [.ref p, .ref vl, .ref ol] ∧ Sl Hb p gs H ∧ Hb vl = some (.lst (natsV values)) ∧ Hb ol = some (.lst (natsV others)) ∧ (values ≠ [] → ∀ y ∈ others, y ∈ keys gs) ∧ OkEvs (· ∈ keys gs) (takenEvs others values) ∧ gs.length + values.length ≤ 500 ∧ others.length ≤ 500 ∧
  ∀ H', Sl Hb p ((takenEvs others values).foldl giveE gs) H' → Q .non H'
theorem pure_place_one_by_one (vs : List V) (H : Hp) (Q : VK) (E : XK) (h : sp_place_one_by_one K vs H Q E) : t_place_one_by_one K (sp_least_free K) { nx := fun _ H' => Q .non H', rt := Q } (start N_place_one_by_one vs) H := by
  obtain ⟨Hb, p, vl, ol, gs, values, others, rfl, s, hv, ho, hin, ok, hz, hz2, k⟩ := h
  refine q_asgL (el_list (K := K) (ev_var rfl) (sq_of (s.ex _ _ ho))) fun tl H1 hn e1 htl => ?_
  have tp : tl ≠ p := (ne_of_none s.at_ hn).symm
  have tn : Hb tl = none := fresh_back s.ex hn
  refine s_forLn (ev_var rfl) (sq_of (e1 _ _ (s.ex _ _ hv))) (fun i σ' H' => (∃ w, σ' = [some (.ref p), some (.ref vl), some (.ref ol), some (.ref tl), w]) ∧ ∃ g, Sl Hb p g H' ∧ H' tl = some (.lst (natsV (others ++ values.take i))) ∧ OkEvs (· ∈ keys g) (takenEvs (others ++ values.take i) (values.drop i)) ∧ (values ≠ [] → ∀ y ∈ others ++ values.take i, y ∈ keys g) ∧ (takenEvs (others ++ values.take i) (values.drop i)).foldl giveE g = (takenEvs others values).foldl giveE gs ∧ g.length ≤ gs.length + i)
    (fun H2 e2 => ⟨⟨_, rfl⟩, gs, s.step (e1.trans e2), by rw [List.take_zero, List.append_nil]; exact e2 _ _ htl, by rw [List.take_zero, List.append_nil, List.drop_zero]; exact ok, by rw [List.take_zero, List.append_nil]; exact hin, by rw [List.take_zero, List.append_nil, List.drop_zero], Nat.le_refl _⟩) (fun i σ' H' _ q => by obtain ⟨_, g, sg, _⟩ := q; exact sq_of (sg.ex _ _ hv)) (fun i x σ' H' hx q => ?_) (fun σ' H' q => ?_)
  · obtain ⟨⟨w, rfl⟩, g, sg, htl', okg, hing0, hfold, hgl⟩ := q
    have hi : i < values.length := by have := (List.getElem?_eq_some_iff.mp hx).1; rwa [natsV_length] at this
    have hing := hing0 (fun z => by rw [z] at hi; exact Nat.not_lt_zero _ hi)
    have hval := List.getElem?_eq_getElem hi
    have hxe : x = .int (values[i] : Int) := by
      have := nats_at hval
      rw [hx] at this
      exact Option.some.inj this
    subst hxe
    rw [List.drop_eq_getElem_cons hi] at okg hfold
    generalize values[i] = xv at okg hfold hval
    have unseen : xv ∉ keys g := okg.1
    have notin : xv ∉ others ++ values.take i := fun z => unseen (hing xv z)
    have small : (others ++ values.take i).length ≤ 1000 := by
      rw [List.length_append]
      have := List.length_take_le' i values
      omega
    refine q_dput (x := xv) sg.at_ (ev_call (dvs := []) (ea_cons (ev_var rfl) (ea_cons (ev_var rfl) ea_nil)) (spv_least_free sg.at_ sg.nd (sq_of htl') hing small)) (ev_var rfl) (ev_var rfl) unseen (by omega) fun H2 e2 => ?_
    have sg2 := sg.put (k := Cm06.free ((others ++ values.take i).map (Cm06.regIn g))) e2 unseen
    have ge : giveE g (xv, others ++ values.take i) = (xv, Cm06.free ((others ++ values.take i).map (Cm06.regIn g))) :: g := by
      show (xv, Cm06.free (((others ++ values.take i).filter fun z => !(z == xv)).map (Cm06.regIn g))) :: g = _
      rw [free_same notin]
    have htl2 : (upd H2 p (.dK (kvs ((xv, Cm06.free ((others ++ values.take i).map (Cm06.regIn g))) :: g)))) tl = some (.lst (natsV (others ++ values.take i))) := by
      rw [upd_ne tp]
      exact e2 _ _ htl'
    refine s_app htl2 (ev_var rfl) (ev_var rfl) (by rw [natsV_length]; omega) fun H3 e3 => ⟨⟨_, rfl⟩, (xv, Cm06.free ((others ++ values.take i).map (Cm06.regIn g))) :: g, ?_, ?_, ?_, ?_, ?_, ?_⟩
    · have sg3 := sg2.step e3
      exact ⟨Ex.mut sg3.ex tn, sg3.new, by rw [upd_ne tp.symm]; exact sg3.at_, sg3.nd⟩
    · rw [take_next hval, ← List.append_assoc, natsV_append _ [xv]]
      exact upd_same
    · rw [take_next hval, ← List.append_assoc, ← ge]
      exact okEvs_keys okg
    · rw [take_next hval, ← List.append_assoc]
      intro _ y hy
      rcases List.mem_append.mp hy with z | z
      · exact List.mem_cons_of_mem _ (hing y z)
      · have : y = xv := by simpa using z
        rw [this]
        exact List.mem_cons_self ..
    · rw [take_next hval, ← List.append_assoc, ← ge]
      exact hfold
    · show g.length + 1 ≤ gs.length + (i + 1)
      omega
  · obtain ⟨⟨w, rfl⟩, g, sg, htl', okg, hing, hfold, hgl⟩ := q
    rw [natsV_length, List.drop_length] at hfold
    have : g = (takenEvs others values).foldl giveE gs := hfold
    rw [this] at sg
    exact k H' sg
theorem D_place_one_by_one (T : Tx K mg) : Df P w K mg base 2 (He.ga K "place_one_by_one") ["slots", "values", "others"] (sp_place_one_by_one K) := ok_place_one_by_one T (D_least_free T) (fun vs H Q E h => by obtain ⟨a, b, d, e, f, g, i, rfl, _⟩ := h; rfl) pure_place_one_by_one
/-! ### place_rows -/
def sp_place_rows (K : PySem.W.Frag) : Sp := fun vs H Q _ => ∃ (Hb : Hp) (p rl : Addr) (pv : V) (gs : Cm06.Given) (rvs : List V) (cd : CmBase.Code) (i : Nat), vs = [.ref p, .ref rl, pv] ∧ Sl Hb p gs H ∧ Hb rl = some (.lst rvs) ∧ RowsAt Hb rvs (Cm03.blockAt cd i).rows ∧ (∀ r ∈ (Cm03.blockAt cd i).rows, RowOk r) ∧ (Cm03.blockAt cd i).rows.length ≤ 12 ∧ LsV (placesOf (Cm03.blockAt cd i) (Cm06.lives cd)) pv Hb ∧ OkEvs (· ∈ keys gs) (rowEvs cd i 0 (Cm03.blockAt cd i).rows) ∧ gs.length ≤ 900 ∧
  ∀ H', Sl Hb p ((rowEvs cd i 0 (Cm03.blockAt cd i).rows).foldl giveE gs) H' → Q .non H'
theorem pure_place_rows (vs : List V) (H : Hp) (Q : VK) (E : XK) (h : sp_place_rows K vs H Q E) : t_place_rows K (sp_given_by_row K) (sp_least_free K) { nx := fun _ H' => Q .non H', rt := Q } (start N_place_rows vs) H := by
  obtain ⟨Hb, p, rl, pv, gs, rvs, cd, ib, rfl, s, hrl, hrows, rok, r12, hpv, ok, hz, k⟩ := h
  generalize hrr : (Cm03.blockAt cd ib).rows = rows at *
  refine s_forEnum (ev_var rfl) (sq_of (s.ex _ _ hrl)) (fun r σ' H' => (∃ w3 w4 w5 w6, σ' = [some (.ref p), some (.ref rl), some pv, w3, w4, w5, w6]) ∧ ∃ g, Sl Hb p g H' ∧ OkEvs (· ∈ keys g) (rowEvs cd ib r (rows.drop r)) ∧ (rowEvs cd ib r (rows.drop r)).foldl giveE g = (rowEvs cd ib 0 rows).foldl giveE gs ∧ g.length ≤ gs.length + r)
    (fun H1 e1 => ⟨⟨_, _, _, _, rfl⟩, gs, s.step e1, by rw [List.drop_zero]; exact ok, by rw [List.drop_zero], Nat.le_refl _⟩) (fun r σ' H' q => by obtain ⟨_, g, sg, _⟩ := q; exact sq_of (sg.ex _ _ hrl)) (fun r x σ' H' Tp hx hT q => ?_) (fun σ' H' q => ?_)
  · obtain ⟨⟨w3, w4, w5, w6, rfl⟩, g, sg, okg, hfold, hgl⟩ := q
    have eT : Ex H' (upd H' Tp (.tup [.int (r : Int), x])) := Ex.new hT
    obtain ⟨row, ra, hr, rfl, hra⟩ := hrows.at_ hx
    have ri := (List.getElem?_eq_some_iff.mp hr).1
    rw [List.drop_eq_getElem_cons ri, (List.getElem?_eq_some_iff.mp hr).2, rowEvs_cons] at okg hfold
    have plain := (rok row (List.mem_of_getElem? hr)).plain
    refine g_two (st_of upd_same) ?_
    have sT := sg.step eT
    have hlen : (natsV row.gives.toList).length = row.gives.toList.length := natsV_length _
    refine s_forEN (EvL.n (el_call (dvs := []) (ea_cons (ev_var rfl) ea_nil) (spl_given_by_row (sT.ex _ _ hra) plain))) (fun lp xs n σ' H' => xs = natsV row.gives.toList ∧ H' lp = some (.lst xs) ∧ lp ≠ p ∧ (∃ w5 w6, σ' = [some (.ref p), some (.ref rl), some pv, some (.int (r : Int)), some (.ref ra), w5, w6]) ∧ ((n = 0 ∧ Sl Hb p g H') ∨ (n = row.gives.toList.length ∧ Sl Hb p ((rowEv cd ib r row).foldl giveE g) H')))
      (fun lp xs H1 hn e1 hlp hxs => ⟨hxs, hlp, (ne_of_none sT.at_ hn).symm, ⟨_, _, rfl⟩, .inl ⟨rfl, sT.step e1⟩⟩) (fun lp xs n σ' H' _ q => sq_of q.2.1) (fun lp xs n y σ' H2 hy q => ?_) (fun lp xs σ' H2 q => ?_)
    · obtain ⟨hxs, hlp, nlp, ⟨w5, w6, rfl⟩, hsl⟩ := q
      subst hxs
      cases hg : row.gives with
      | none =>
        rw [hg] at hy
        simp [natsV] at hy
      | some xv =>
        rw [hg] at hy
        have n0 : n = 0 := by
          have := (List.getElem?_eq_some_iff.mp hy).1
          simpa [natsV] using this
        subst n0
        have hyx : y = .int (xv : Int) := by
          have : (natsV (some xv).toList)[0]? = some (V.int (xv : Int)) := rfl
          rw [this] at hy
          exact (Option.some.inj hy).symm
        subst hyx
        rw [hg] at hlp hsl hlen
        have sl2 : Sl Hb p g H2 := by
          rcases hsl with ⟨_, z⟩ | ⟨z, _⟩
          · exact z
          · simp at z
        have re : rowEv cd ib r row = [(xv, Cm06.liveAt cd (Cm06.lives cd) ib (r + 1))] := by unfold rowEv; rw [hg]
        rw [re] at okg
        have unseen : xv ∉ keys g := okg.1
        have seen : ∀ y ∈ Cm06.liveAt cd (Cm06.lives cd) ib (r + 1), y ≠ xv → y ∈ keys g := okg.2.1
        obtain ⟨ow, ⟨oa, rfl, hoa⟩, ix⟩ := (ls_mono _ pv Hb H2 sl2.ex hpv).at_ (K := K) (i := r + 1) (by rw [places_len, hrr]; omega)
        rw [places_at (by rw [hrr]; omega)] at hoa
        have hoa : H2 oa = some (.lst (natsV (Cm06.liveAt cd (Cm06.lives cd) ib (r + 1)))) := hoa
        have lok : (Cm06.liveAt cd (Cm06.lives cd) ib (r + 1)).length ≤ 40 := (aheadAll_ok (names_ok _) _).1
        have idx : Ev (tOp rAdd (tVar 3) (tC (.int 1))) [some (.ref p), some (.ref rl), some pv, some (.int (r : Int)), some (.ref ra), some (.int (xv : Int)), w6] H2 (.int ((r + 1 : Nat) : Int)) := ev_op (ev_var rfl) ev_c rv_I0
        have oth : EvL (tLc (iList K (tOp (rIxL K) (tVar 2) (tOp rAdd (tVar 3) (tC (.int 1))))) (gName 6) (tTest (tOp rNe (tVar 6) (tVar 5))) (tVar 6) [6]) [some (.ref p), some (.ref rl), some pv, some (.int (r : Int)), some (.ref ra), some (.int (xv : Int)), w6] H2 (natsV ((Cm06.liveAt cd (Cm06.lives cd) ib (r + 1)).filter fun z => !(z == xv))) := by
          refine el_is (el_comp (K := K) (a := oa) (xs := natsV (Cm06.liveAt cd (Cm06.lives cd) ib (r + 1))) (fun x => onB (fun n => !decide (n = (xv : Int))) x) id (ix (Ex.refl H2) (ev_var rfl) idx) (sq_of hoa) (by rw [natsV_length]; omega) (fun _ => rfl) (fun x hx H3 e3 => ?_) (fun x hx H3 e3 _ => ev_var rfl)) ?_
          · obtain ⟨n, _, rfl⟩ := List.mem_map.mp hx
            exact et_test (ev_op (ev_var rfl) (ev_var rfl) rv_neI)
          · rw [List.map_id, natsV_filter]
            refine congrArg natsV (List.filter_congr fun z _ => ?_)
            show (!decide ((z : Int) = (xv : Int))) = !(z == xv)
            refine congrArg (!·) ?_
            by_cases e : z = xv
            · subst e; simp
            · rw [decide_eq_false (by omega)]
              simpa using e
        have call : Ev (tCall (sp_least_free K) [] E0 (tCons (tVar 0) (tCons (tLc (iList K (tOp (rIxL K) (tVar 2) (tOp rAdd (tVar 3) (tC (.int 1))))) (gName 6) (tTest (tOp rNe (tVar 6) (tVar 5))) (tVar 6) [6]) tNil))) [some (.ref p), some (.ref rl), some pv, some (.int (r : Int)), some (.ref ra), some (.int (xv : Int)), w6] H2 (.int (Cm06.free (((Cm06.liveAt cd (Cm06.lives cd) ib (r + 1)).filter fun z => !(z == xv)).map (Cm06.regIn g)) : Int)) := by
          refine ev_callP (ap_cons (P := fun v _ => v = .ref p) (fun v _ _ _ h => h) (Ev.p (ev_var rfl)) (ap_cons (fun v H1 H2 e ⟨q, h1, h2⟩ => ⟨q, h1, e _ _ h2⟩) (EvL.p oth) ap_nil)) fun vs H3 e3 hP => ?_
          obtain ⟨v1, l1, rfl, rfl, v2, l2, rfl, ⟨q, rfl, hq⟩, rfl⟩ := hP
          refine spv_least_free (e3 _ _ sl2.at_) sl2.nd (sq_of hq) (fun y hy => ?_) ?_
          · obtain ⟨h1, h2⟩ := List.mem_filter.mp hy
            exact seen y h1 (by simpa using h2)
          · have := List.length_filter_le (fun z => !(z == xv)) (Cm06.liveAt cd (Cm06.lives cd) ib (r + 1))
            omega
        refine s_dput (x := xv) sl2.at_ call (ev_var rfl) (ev_var rfl) unseen (by omega) fun H3 e3 => ⟨rfl, ?_, nlp, ⟨_, _, rfl⟩, .inr ⟨rfl, ?_⟩⟩
        · rw [upd_ne nlp]
          exact e3 _ _ hlp
        · rw [re]
          exact sl2.put e3 unseen
    · obtain ⟨hxs, hlp, nlp, ⟨w5, w6, rfl⟩, hsl⟩ := q
      subst hxs
      have fin : Sl Hb p ((rowEv cd ib r row).foldl giveE g) H2 := by
        rcases hsl with ⟨z, q⟩ | ⟨_, q⟩
        · have : row.gives = none := by
            cases hg : row.gives with
            | none => rfl
            | some y => rw [hg] at z; simp [natsV] at z
          have re : rowEv cd ib r row = [] := by unfold rowEv; rw [this]
          rw [re]
          exact q
        · exact q
      refine ⟨⟨_, _, _, _, rfl⟩, _, fin, ?_, ?_, ?_⟩
      · have := (okEvs_append.mp okg).2
        refine (okEvs_congr fun y => ?_).mp this
        unfold rowEv
        cases hg : row.gives with
        | none => simp
        | some x =>
          show (y ∈ keys g ∨ y ∈ [x]) ↔ y ∈ x :: keys g
          rw [List.mem_cons]
          simp only [List.mem_cons, List.not_mem_nil, or_false]
          exact Or.comm
      · rw [← hfold, List.foldl_append]
      · rw [fold_len]
        have : (rowEv cd ib r row).length ≤ 1 := by unfold rowEv; cases row.gives <;> simp
        omega
  · obtain ⟨⟨w3, w4, w5, w6, rfl⟩, g, sg, okg, hfold, hgl⟩ := q
    rw [hrows.len, List.drop_length] at hfold
    have : g = (rowEvs cd ib 0 rows).foldl giveE gs := hfold
    rw [this] at sg
    exact k H' sg
theorem D_place_rows (T : Tx K mg) : Df P w K mg base 2 (He.ga K "place_rows") ["slots", "rows", "places"] (sp_place_rows K) := ok_place_rows T (D_given_by_row T) (D_least_free T) (fun vs H Q E h => by obtain ⟨a, b, d, e, f, g, i, j, rfl, _⟩ := h; rfl) pure_place_rows
end
end VS
/-! Runs: blocks, the whole (running.py). -/
namespace VS
open PySem L2 Evl CmBase
section
variable {P : Program} {w : World} {K : PySem.W.Frag} {mg : Str → Option Value} {base : Heap} {H H0 H' H1 : Hp} {σ : L2.St} {c a bl l : Addr} {cd : CmBase.Code} {b : CmBase.Block} {bs : List Addr} {xs ys : List V} {ta tb tl ti te : TE} {t : TT} {v : V} {D : Ends} {tz tu tw : TS} {Hb : Hp} {hl sl : Addr} {e : CmBase.Env} {said : List Nat}
def Fits (cd : CmBase.Code) : Prop := ∀ b ∈ cd.blocks, ∀ wy ∈ waysOf b.last, wy.1 < cd.blocks.length ∧ wy.2.length = (takesOf cd wy.1).length
theorem Whole.fits (wh : Whole cd) (ok : COk cd) : Fits cd := fun b hb wy hwy => by
  obtain ⟨i, hi⟩ := List.mem_iff_getElem?.mp hb
  have li := (List.getElem?_eq_some_iff.mp hi).1
  have e := blockAt_of hi
  have f := wh.fit i li
  have t := wh.to i li
  rw [e] at f t
  have : waysFit cd b.last = true := by
    rw [waysFit_eq (ok.last b hb), f, Bool.and_true, List.all_eq_true]
    intro x hx
    have := t x hx
    simp [this]
  have := List.all_eq_true.mp this wy hwy
  rw [Bool.and_eq_true] at this
  exact ⟨of_decide_eq_true this.1, of_decide_eq_true this.2⟩
def standsV : How → List Nat
  | .gave v => [0, v]
  | .failed => [1]
  | .on => [2]
theorem runFrom_give {n k x : Nat} (hb : cd.blocks[k]? = some b) (hr : (doRows b.rows e).2.2 = true) (hl : b.last = .give x) : runFrom cd (n + 1) k e = ((doRows b.rows e).2.1, .gave (look (doRows b.rows e).1 x)) := by
  unfold runFrom
  rw [hb]
  simp only
  rw [hr, hl]
  rfl
theorem runFrom_fail {n k : Nat} (hb : cd.blocks[k]? = some b) (hr : (doRows b.rows e).2.2 = false) : runFrom cd (n + 1) k e = ((doRows b.rows e).2.1, .failed) := by
  unfold runFrom
  rw [hb]
  simp only
  rw [hr]
  rfl
theorem runFrom_next {n k : Nat} (hb : cd.blocks[k]? = some b) (hr : (doRows b.rows e).2.2 = true) (ng : ∀ v, b.last ≠ .give v) :
    runFrom cd (n + 1) k e = ((doRows b.rows e).2.1 ++ (runFrom cd n (nextOf cd (doRows b.rows e).1 b.last).1 (nextOf cd (doRows b.rows e).1 b.last).2).1, (runFrom cd n (nextOf cd (doRows b.rows e).1 b.last).1 (nextOf cd (doRows b.rows e).1 b.last).2).2) := by
  rw [runFrom]
  rw [hb]
  simp only
  rw [hr]
  cases hl : b.last with
  | give x => exact absurd hl (ng x)
  | jump t as => rfl
  | fork v t as u bss =>
    simp only [nextOf]
    by_cases z : look (doRows b.rows e).1 v = 0
    · simp [z]
    · simp [z]
theorem doRows_len : ∀ (rows : List Row) (e : CmBase.Env), (doRows rows e).2.1.length ≤ rows.length
  | [], e => Nat.zero_le _
  | .num x k :: l, e => Nat.le_succ_of_le (doRows_len l _)
  | .copy x a :: l, e => Nat.le_succ_of_le (doRows_len l _)
  | .two x o a b :: l, e => by
    show (match o.make (look e a) (look e b) with | none => (e, [], false) | some v => doRows l (put e x v)).2.1.length ≤ l.length + 1
    cases o.make (look e a) (look e b) with
    | none => exact Nat.zero_le _
    | some v => exact Nat.le_succ_of_le (doRows_len l _)
  | .say a :: l, e => Nat.succ_le_succ (doRows_len l e)
theorem nextOf_lt (hw : ∀ wy ∈ waysOf b.last, wy.1 < cd.blocks.length ∧ wy.2.length = (takesOf cd wy.1).length) (ng : ∀ v, b.last ≠ .give v) : (nextOf cd e b.last).1 < cd.blocks.length := by
  cases hl : b.last with
  | give x => exact absurd hl (ng x)
  | jump t as => rw [hl] at hw; exact (hw (t, as) (by simp [waysOf])).1
  | fork v t as u bss =>
    rw [hl] at hw
    simp only [nextOf]
    split
    · exact (hw (u, bss) (by simp [waysOf])).1
    · exact (hw (t, as) (by simp [waysOf])).1
def sp_run_blocks (K : PySem.W.Frag) : Sp := fun vs H Q _ => ∃ (Hb : Hp) (bl : Addr) (bs : List Addr) (cd : CmBase.Code) (n : Nat) (hl sl : Addr) (e : CmBase.Env), vs = [.ref bl, .int (n : Int), .ref hl, .ref sl] ∧ BsAt K Hb bl bs cd ∧ COk cd ∧ Fits cd ∧ 1 ≤ cd.blocks.length ∧ n ≤ 500 ∧ Und Hb hl sl e [] H ∧
  ∀ p e' H', Und Hb hl sl e' (runFrom cd n 0 e).1 H' → H' p = some (.lst (natsV (standsV (runFrom cd n 0 e).2))) → (runFrom cd n 0 e).1.length ≤ 6000 → Q (.ref p) H'
theorem pure_run_blocks (T : Tx K mg) (vs : List V) (H : Hp) (Q : VK) (E : XK) (h : sp_run_blocks K vs H Q E) : t_run_blocks K (sp_run_end K) (sp_run_rows K) { nx := fun _ H' => Q .non H', rt := Q } (start N_run_blocks vs) H := by
  obtain ⟨Hb, bl, bs, cd, n, hl, sl, e, rfl, hbs, ok, fit, one, hn, u, k⟩ := h
  refine q_asg ev_c fun H1 e1 => ?_
  refine q_forR1 (n := (n : Int)) (ea_cons (ev_var rfl) ea_nil) ⟨by omega, by omega⟩ (fun i σ' H' => ∃ (kk : Nat) (e' : CmBase.Env) (sd : List Nat), (∃ w5 w6, σ' = [some (.ref bl), some (.int (n : Int)), some (.ref hl), some (.ref sl), some (.int (kk : Int)), w5, w6]) ∧ Und Hb hl sl e' sd H' ∧ kk < cd.blocks.length ∧ sd.length ≤ 12 * i ∧ runFrom cd n 0 e = (sd ++ (runFrom cd (n - i) kk e').1, (runFrom cd (n - i) kk e').2))
    (fun H2 e2 => ⟨0, e, [], ⟨_, _, rfl⟩, u.step (e1.trans e2), by omega, Nat.zero_le _, rfl⟩) (fun i σ' H' hi q => ?_) (fun σ' H' q => ?_)
  · obtain ⟨kk, e', sd, ⟨w5, w6, rfl⟩, u', hkk, hsd, hrun⟩ := q
    have hi : i < n := by omega
    have hblk := at_blockAt hkk
    generalize Cm03.blockAt cd kk = b at hblk
    have hm := List.mem_of_getElem? hblk
    have bok := ok.body b hm
    have lok := ok.last b hm
    obtain ⟨ba, hba, hbb⟩ := hbs.blk kk b hblk
    obtain ⟨rl, rvs, hrl, hrows, erl⟩ := hbb.rows T
    obtain ⟨ev, hev, eev⟩ := hbb.end_ T
    obtain ⟨m, hm2⟩ : ∃ m, n - i = m + 1 := ⟨n - i - 1, by omega⟩
    rw [hm2] at hrun
    have lrows := doRows_len b.rows e'
    have l12 := bok.len
    refine q_asg (ev_bsAt (hbs.ex u'.ex) (ev_var rfl) (ev_var rfl) hba) fun H2 e2 => ?_
    have u2 := u'.step e2
    refine q_unlessCall (ea_cons (erl u2.ex (ev_var rfl)) (ea_cons (ev_var rfl) (ea_cons (ev_var rfl) ea_nil))) fun H3 e3 => ?_
    refine ⟨Hb, rl, hl, sl, rvs, b.rows, e', sd, rfl, hrl, hrows, bok.rows, u2.step e3, by omega, fun H4 u4 => ⟨_, rfl, ?_⟩⟩
    cases hr : (doRows b.rows e').2.2 with
    | false =>
      rw [if_pos (show (!false) = true from rfl)]
      refine s_retL (xs := natsV [1]) (el_lst (ea_cons ev_c ea_nil) (show 1 ≤ 100000 by decide)) fun p H5 hpn e5 hp => ?_
      have fin := runFrom_fail (n := m) hblk hr
      rw [fin] at hrun
      have kk2 := k p (doRows b.rows e').1 H5
      rw [hrun] at kk2
      exact kk2 (u4.step e5) hp (by rw [List.length_append]; show sd.length + (doRows b.rows e').2.1.length ≤ 6000; omega)
    | true =>
      rw [if_neg (show ¬ (!true) = true by decide)]
      cases hlst : b.last with
      | give x =>
        have x40 : x < 40 := lok.uses x (by rw [hlst]; simp [CmBase.End.uses])
        rw [hlst] at hev
        obtain ⟨ea, rfl, hea⟩ := hev
        have hea4 := u4.ex _ _ hea
        refine q_when (et_ixT (n := 2) (eev u4.ex (ev_var rfl)) hea4 rfl) (fun _ H5 e5 => ?_) (fun z => by cases z)
        have u5 := u4.step e5
        refine s_retL (xs := natsV [0, look (doRows b.rows e').1 x]) (el_lst (ea_cons ev_c (ea_cons (ev_held x40 (ev_var rfl) u5.held (ev_ixT (i := 1) (v := .int (x : Int)) (eev u5.ex (ev_var rfl)) (e5 _ _ hea4) rfl)) ea_nil)) (show 2 ≤ 100000 by decide)) fun p H6 hpn e6 hp => ?_
        have fin := runFrom_give (n := m) hblk hr hlst
        rw [fin] at hrun
        have kk2 := k p (doRows b.rows e').1 H6
        rw [hrun] at kk2
        exact kk2 (u5.step e6) hp (by rw [List.length_append]; show sd.length + (doRows b.rows e').2.1.length ≤ 6000; omega)
      | _ =>
        all_goals
          have ng : ∀ v, b.last ≠ .give v := fun v z => by rw [hlst] at z; cases z
          have fin := runFrom_next (n := m) hblk hr ng
          rw [fin] at hrun
          have test : EvT (tTest (tOp rEq (tOp (rIxT K) (tFld K (tVar 6) "end") (tC (.int 0))) (tC (.int 2)))) [some (.ref bl), some (.int (n : Int)), some (.ref hl), some (.ref sl), some (.int (kk : Int)), some (.int (i : Int)), some (.ref ba)] H4 false := by
            have hev2 := hev
            rw [hlst] at hev2
            first
              | (obtain ⟨ea, p, rfl, hea, _⟩ := hev2
                 exact et_ixT (n := 0) (eev u4.ex (ev_var rfl)) (u4.ex _ _ hea) rfl)
              | (obtain ⟨ea, p, q, rfl, hea, _⟩ := hev2
                 exact et_ixT (n := 1) (eev u4.ex (ev_var rfl)) (u4.ex _ _ hea) rfl)
          refine q_when test (fun z => by cases z) fun _ H5 e5 => ?_
          have u5 := u4.step e5
          refine s_asgCall (ea_cons (ev_var rfl) (ea_cons (eev u5.ex (ev_var rfl)) (ea_cons (ev_var rfl) ea_nil))) fun H6 e6 => ?_
          refine ⟨Hb, bl, bs, cd, ev, b.last, hl, sl, _, _, rfl, hbs, hev, lok, ng, fit b hm, fun t x hx => ?_, u5.step e6, fun H7 u7 => ⟨_, _, _, ⟨_, _, rfl⟩, u7, nextOf_lt (fit b hm) ng, by rw [List.length_append]; omega, ?_⟩⟩
          · by_cases ht : t < cd.blocks.length
            · rw [takesOf_at ht] at hx
              exact (ok.body _ (List.mem_of_getElem? (at_blockAt ht))).takes x hx
            · unfold takesOf at hx
              rw [List.getElem?_eq_none (by omega)] at hx
              cases hx
          · rw [hrun, show n - (i + 1) = m by omega, List.append_assoc]
  · obtain ⟨kk, e', sd, ⟨w5, w6, rfl⟩, u', hkk, hsd, hrun⟩ := q
    rw [Int.toNat_natCast] at hsd hrun
    rw [Nat.sub_self] at hrun
    refine s_retL (xs := natsV [2]) (el_lst (ea_cons ev_c ea_nil) (show 1 ≤ 100000 by decide)) fun p H5 hpn e5 hp => ?_
    have kk2 := k p e' H5
    rw [hrun] at kk2
    refine kk2 ?_ hp (by rw [List.length_append]; show sd.length + 0 ≤ 6000; omega)
    show Und Hb hl sl e' (sd ++ []) H5
    rw [List.append_nil]
    exact u'.step e5
theorem D_run_blocks (T : Tx K mg) : Df P w K mg base 3 (He.ga K "run_blocks") ["blocks", "n", "held", "said"] (sp_run_blocks K) := ok_run_blocks T (D_run_end T) (D_run_rows T) (fun vs H Q E h => by obtain ⟨a, b, d, e, f, g, i, j, rfl, _⟩ := h; rfl) (pure_run_blocks T)
/-! ### run -/
theorem held_args {l : List Nat} (h : l.length ≤ 40) : natsV l ++ (List.replicate (40 - l.length) [V.int 0]).flatten = heldV l := by
  refine List.ext_getElem? fun i => ?_
  have fl : (List.replicate (40 - l.length) [V.int 0]).flatten = List.replicate (40 - l.length) (V.int 0) := by
    generalize 40 - l.length = n
    induction n with
    | zero => rfl
    | succ n ih =>
      rw [List.replicate_succ, List.flatten_cons, ih, List.replicate_succ]
      rfl
  rw [fl]
  by_cases hi : i < 40
  · rw [held_at hi]
    by_cases hl : i < l.length
    · rw [List.getElem?_append_left (by rw [natsV_length]; exact hl)]
      have := nats_at (List.getElem?_eq_getElem hl)
      rw [this]
      unfold look
      rw [List.getD_eq_getElem?_getD, List.getElem?_eq_getElem hl]
      rfl
    · rw [List.getElem?_append_right (by rw [natsV_length]; omega), natsV_length, List.getElem?_replicate, if_pos (by omega)]
      unfold look
      rw [List.getD_eq_getElem?_getD, List.getElem?_eq_none (by omega)]
      rfl
  · rw [List.getElem?_eq_none (by rw [List.length_append, natsV_length, List.length_replicate]; omega), List.getElem?_eq_none (by rw [held_len]; omega)]
def sp_run (K : PySem.W.Frag) : Sp := fun vs H Q _ => ∃ (c : Addr) (cd : CmBase.Code) (bl : Addr) (bs : List Addr) (n : Nat) (wl : Addr) (l : List Nat), vs = [.ref c, .int (n : Int), .ref wl] ∧ CAt K H c cd bl bs ∧ COk cd ∧ Fits cd ∧ 1 ≤ cd.blocks.length ∧ n ≤ 500 ∧ H wl = some (.lst (natsV l)) ∧ l.length ≤ 10 ∧ Words l ∧ RetL (natsV (ranNums (CmBase.run cd n l))) H Q
theorem ran_stands (r : List Nat × How) : ranNums r = counted r.1 ++ standsV r.2 := by
  obtain ⟨a, h⟩ := r
  cases h <;> rfl
theorem pure_run (T : Tx K mg) (vs : List V) (H : Hp) (Q : VK) (E : XK) (h : sp_run K vs H Q E) : t_run K (sp_run_blocks K) { nx := fun _ H' => Q .non H', rt := Q } (start N_run vs) H := by
  obtain ⟨c, cd, bl, bs, n, wl, l, rfl, hc, ok, fit, one, hn, hwl, hl, hw, k⟩ := h
  have elen : Ev (tCB (rLenS K) (tCons (tVar 2) tNil)) (start N_run [.ref c, .int (n : Int), .ref wl]) H (.int (l.length : Int)) := by
    have := ev_len (K := K) (ev_var (σ := start N_run [.ref c, .int (n : Int), .ref wl]) (H := H) (i := 2) rfl) (sq_of hwl)
    rwa [natsV_length] at this
  have ecount : Ev (tOp rSub (tOp rAdd (tC (.int 39)) (tC (.int 1))) (tCB (rLenS K) (tCons (tVar 2) tNil))) (start N_run [.ref c, .int (n : Int), .ref wl]) H (.int ((40 - l.length : Nat) : Int)) := ev_is (ev_op (ev_op ev_c ev_c rv_I0) elen rv_I0) (by show V.int _ = _; congr 1; omega)
  refine q_asgL (el_is (el_catV (ev_var rfl) hwl (el_rep (el_lst (ea_cons ev_c ea_nil) (show 1 ≤ 100000 by decide)) ecount (by simp; omega) (by omega)) (by rw [natsV_length]; simp; omega)) (held_args (by omega))) fun hl' H1 hhn e1 hh => ?_
  refine q_asgL (el_lst ea_nil (show 0 ≤ 100000 by decide)) fun sl H2 hsn e2 hs => ?_
  have hc2 := hc.ex (e1.trans e2)
  refine q_asgCall (ea_cons (ev_blocks T hc2 (ev_var rfl)) (ea_cons (ev_var rfl) (ea_cons (ev_var rfl) (ea_cons (ev_var rfl) ea_nil)))) fun H3 e3 => ?_
  refine ⟨H, bl, bs, cd, n, hl', sl, l, rfl, hc.toBs, ok, fit, one, hn, ⟨(e1.trans e2).trans e3, hhn, fresh_back e1 hsn, ne_of_none hh hsn, e3 _ _ (e2 _ _ hh), e3 _ _ hs, hw⟩, fun p e' H4 u4 hp hlen => ?_⟩
  have elen2 : Ev (tCB (rLenS K) (tCons (tVar 4) tNil)) [some (.ref c), some (.int (n : Int)), some (.ref wl), some (.ref hl'), some (.ref sl), some (.ref p)] H4 (.int ((runFrom cd n 0 l).1.length : Int)) := by
    have := ev_len (K := K) (ev_var (σ := [some (.ref c), some (.int (n : Int)), some (.ref wl), some (.ref hl'), some (.ref sl), some (.ref p)]) (H := H4) (i := 4) rfl) (sq_of u4.said_)
    rwa [natsV_length] at this
  have sv : (natsV (standsV (runFrom cd n 0 l).2)).length ≤ 2 := by rw [natsV_length]; cases (runFrom cd n 0 l).2 <;> simp [standsV]
  refine s_retL (el_is (el_catL (el_catL (el_lst (ea_cons elen2 ea_nil) (show 1 ≤ 100000 by decide)) (ev_var rfl) u4.said_ ?_) (ev_var rfl) hp ?_) ?_) (k.pre u4.ex)
  · rw [natsV_length]
    simp
    omega
  · rw [List.length_append, natsV_length]
    simp
    omega
  · rw [ran_stands, natsV_append]
    rfl
theorem D_run (T : Tx K mg) : Df P w K mg base 4 (He.ga K "run") ["code", "n", "words"] (sp_run K) := ok_run T (D_run_blocks T) (fun vs H Q E h => by obtain ⟨a, b, d, e, f, g, i, rfl, _⟩ := h; rfl) (pure_run T)
theorem spl_run {n : Nat} {wl : Addr} {l : List Nat} (hc : CAt K H c cd bl bs) (ok : COk cd) (fit : Fits cd) (one : 1 ≤ cd.blocks.length) (hn : n ≤ 500) (hwl : H wl = some (.lst (natsV l))) (hl : l.length ≤ 10) (hw : Words l) : SpL (sp_run K) [.ref c, .int (n : Int), .ref wl] H (natsV (ranNums (CmBase.run cd n l))) := fun H1 e Q k E => ⟨c, cd, bl, bs, n, wl, l, rfl, hc.ex e, ok, fit, one, hn, e _ _ hwl, hl, hw, k⟩
end
end VS
/-! Each value's register (placing.py). -/
namespace VS
open PySem L2 Evl CmBase
/-! ### the events in the program's order -/
def restEvs (c : CmBase.Code) (j : Nat) : List Evt := takenEvs ((Cm06.lives c).getD j []) (Cm03.blockAt c j).takes ++ rowEvs c j 0 (Cm03.blockAt c j).rows
def allEvs (c : CmBase.Code) : List Evt := takenEvs [] (List.range c.args) ++ (bfs c none).flatMap (restEvs c)
def regs (c : CmBase.Code) : Cm06.Given := (allEvs c).foldl giveE []
theorem allEvs_eq {c : CmBase.Code} (wh : Whole c) : allEvs c = (bfs c none).flatMap (blockEvs c) := by
  obtain ⟨r, e⟩ := bfs_first wh
  have nd := (bfs_bf wh none).nd
  unfold allEvs
  rw [e] at nd ⊢
  rw [List.flatMap_cons, List.flatMap_cons]
  have n0 : ∀ j ∈ r, j ≠ 0 := fun j hj z => (List.nodup_cons.mp nd).1 (z ▸ hj)
  have h0 : blockEvs c 0 = takenEvs [] (List.range c.args) ++ restEvs c 0 := by
    unfold blockEvs restEvs
    rw [if_pos rfl, wh.zero]
    rfl
  have hr : r.flatMap (restEvs c) = r.flatMap (blockEvs c) := by
    rw [List.flatMap_def, List.flatMap_def]
    refine congrArg _ (List.map_congr_left fun j hj => ?_)
    unfold blockEvs restEvs
    rw [if_neg (n0 j hj)]
  rw [h0, hr, List.append_assoc]
theorem allEvs_ok {c : CmBase.Code} (wh : Whole c) (f : Fair c) : OkEvs (· ∈ keys []) (allEvs c) := by
  rw [allEvs_eq wh]
  have := blocks_ok wh f (fun _ h => h.elim) (bfs_ok wh)
  refine (okEvs_congr fun y => ?_).mp this
  constructor
  · rintro ⟨d, h, _⟩
    exact h.elim
  · intro h
    cases h
theorem keys_fold (E : List Evt) (g : Cm06.Given) (y : Nat) : y ∈ keys (E.foldl giveE g) ↔ y ∈ keys g ∨ y ∈ E.map (·.1) := by
  induction E generalizing g with
  | nil => simp
  | cons e r ih =>
    rw [List.foldl_cons, ih, keys_giveE, List.mem_cons, List.map_cons, List.mem_cons]
    constructor
    · rintro ((h | h) | h)
      · exact .inr (.inl h)
      · exact .inl h
      · exact .inr (.inr h)
    · rintro (h | h | h)
      · exact .inl (.inr h)
      · exact .inl (.inl h)
      · exact .inr h
theorem okEvs_fold {E R : List Evt} {g : Cm06.Given} (h : OkEvs (· ∈ keys g) (E ++ R)) : OkEvs (· ∈ keys (E.foldl giveE g)) R := (okEvs_congr fun y => (keys_fold E g y).symm).mp (okEvs_append.mp h).2
theorem flat_lenE {α β : Type} {f : α → List β} {m : Nat} : ∀ {l : List α}, (∀ x ∈ l, (f x).length ≤ m) → (l.flatMap f).length ≤ l.length * m
  | [], _ => Nat.zero_le _
  | x :: l, h => by
    rw [List.flatMap_cons, List.length_append, List.length_cons, Nat.succ_mul]
    have := flat_lenE (l := l) fun y hy => h y (List.mem_cons_of_mem _ hy)
    have := h x (by simp)
    omega
theorem takenEvs_len (l live : List Nat) : (takenEvs live l).length = l.length := by
  have := congrArg List.length (takenEvs_fst l live)
  rwa [List.length_map] at this
theorem rowEvs_len (c : CmBase.Code) (i r : Nat) (l : List Row) : (rowEvs c i r l).length ≤ l.length := by
  have := congrArg List.length (rowEvs_fst c i l r)
  rw [List.length_map] at this
  rw [this]
  exact List.length_filterMap_le _ _
/-- H without what stands at p -/
def del (H : Hp) (p : Addr) : Hp := fun a => if a = p then none else H a
section
variable {P : Program} {w : World} {K : PySem.W.Frag} {mg : Str → Option Value} {base : Heap} {H H0 H' H1 : Hp} {σ : L2.St} {c a bl l p : Addr} {cd : CmBase.Code} {b : CmBase.Block} {bs : List Addr} {xs ys : List V} {ta tb tl ti te : TE} {t : TT} {v : V} {D : Ends} {tz tu tw : TS} {Hb : Hp} {gs : Cm06.Given}
theorem del_p : del H p p = none := if_pos rfl
theorem del_ne {a : Addr} (h : a ≠ p) : del H p a = H a := if_neg h
theorem del_ex : Ex (del H p) H := fun a o h => by
  by_cases e : a = p
  · subst e
    rw [del_p] at h
    cases h
  · rwa [del_ne e] at h
theorem del_base (e : Ex H0 H) (h : H0 p = none) : Ex H0 (del H p) := fun a o ha => by
  have ne : a ≠ p := fun z => by subst z; rw [h] at ha; cases ha
  rw [del_ne ne]
  exact e a o ha
theorem del_lst {a : Addr} {xs : List V} (hp : H p = some (.dK (kvs gs))) (ha : H a = some (.lst xs)) : del H p a = some (.lst xs) := by
  rw [del_ne fun z => by subst z; rw [hp] at ha; cases ha]
  exact ha
theorem del_ls {ls : List (List Nat)} (hp : H p = some (.dK (kvs gs))) (h : LsV ls v H) : LsV ls v (del H p) := by
  obtain ⟨a, vs, h1, h2, h3, h4⟩ := h
  refine ⟨a, vs, h1, del_lst hp h2, h3, fun i w hw => ?_⟩
  obtain ⟨q, e1, e2⟩ := h4 i w hw
  exact ⟨q, e1, del_lst hp e2⟩
theorem del_lss {ls : List (List (List Nat))} (hp : H p = some (.dK (kvs gs))) (h : LssV ls v H) : LssV ls v (del H p) := by
  obtain ⟨a, vs, h1, h2, h3, h4⟩ := h
  exact ⟨a, vs, h1, del_lst hp h2, h3, fun i w hw => del_ls hp (h4 i w hw)⟩
theorem q_dropCallP {sp : Sp} {tA : TA} {R : List V → Hp → Prop} {E : XK} (h : EvAP tA σ H R) (k : ∀ vs H1, Ex H H1 → R vs H1 → sp vs H1 (fun _ H2 => tz D σ H2) E) : tSeq (tDrop (tCall sp [] E tA)) tz D σ H := h H (Ex.refl H) _ fun vs H1 e hR => by
  rw [List.append_nil]
  exact k vs H1 e hR
theorem s_dropCallP {sp : Sp} {tA : TA} {R : List V → Hp → Prop} {E : XK} (h : EvAP tA σ H R) (k : ∀ vs H1, Ex H H1 → R vs H1 → sp vs H1 (fun _ H2 => D.nx σ H2) E) : tDrop (tCall sp [] E tA) D σ H := h H (Ex.refl H) _ fun vs H1 e hR => by
  rw [List.append_nil]
  exact k vs H1 e hR
theorem st_lst {l : List V} : ∀ (v : V) (H1 H2 : Hp), Ex H1 H2 → (∃ q, v = .ref q ∧ H1 q = some (.lst l)) → ∃ q, v = .ref q ∧ H2 q = some (.lst l) := fun v H1 H2 e ⟨q, h1, h2⟩ => ⟨q, h1, e _ _ h2⟩
/-! ### value_slots -/
def sp_value_slots (K : PySem.W.Frag) : Sp := fun vs H Q _ => ∃ (c : Addr) (cd : CmBase.Code) (bl : Addr) (bs : List Addr), vs = [.ref c] ∧ CAt K H c cd bl bs ∧ COk cd ∧ Whole cd ∧ Fair cd ∧ ∀ p H2, Sl H p (regs cd) H2 → Q (.ref p) H2
theorem pure_value_slots (T : Tx K mg) (vs : List V) (H : Hp) (Q : VK) (E : XK) (h : sp_value_slots K vs H Q E) : t_value_slots K (sp_coming_in K) (sp_live_in_code K) (sp_place_one_by_one K) (sp_place_rows K) (sp_reached K) { nx := fun _ H' => Q .non H', rt := Q } (start N_value_slots vs) H := by
  obtain ⟨c, cd, bl, bs, rfl, hc, ok, wh, fair, k⟩ := h
  have aok := allEvs_ok wh fair
  have a6 := ok.args
  have l10 := ok.len
  intro p hp
  have e1 : Ex H (upd H p (.dK [])) := Ex.new hp
  have s1 : Sl H p [] (upd H p (.dK [])) := ⟨e1, hp, upd_same, List.nodup_nil⟩
  refine q_dropCallP (ap_cons (P := fun v _ => v = .ref p) (fun v _ _ _ h => h) (Ev.p (ev_var rfl)) (ap_cons st_lst (EvL.p (el_range (ev_words T (hc.ex e1) (ev_var rfl)) (by omega))) (ap_cons st_lst (EvL.p (el_lst ea_nil (show 0 ≤ 100000 by decide))) ap_nil))) fun vs H2 e2 hP => ?_
  obtain ⟨v1, l1, rfl, rfl, v2, l2, rfl, ⟨q1, rfl, hq1⟩, v3, l3, rfl, ⟨q2, rfl, hq2⟩, rfl⟩ := hP
  have s2 := s1.step e2
  refine ⟨del H2 p, p, q1, q2, [], List.range cd.args, [], rfl, ⟨del_ex, del_p, s2.at_, List.nodup_nil⟩, del_lst s2.at_ hq1, del_lst s2.at_ hq2, fun _ y hy => (by cases hy), (okEvs_append.mp aok).1, by rw [List.length_range]; show 0 + cd.args ≤ 500; omega, Nat.zero_le _, fun H3 s3 => ?_⟩
  have e3 : Ex H H3 := (del_base s2.ex hp).trans s3.ex
  refine q_asgP (ep_call (dvs := []) (ea_cons (ev_var rfl) ea_nil) (spp_coming_in (hc.ex e3) ok wh)) fun cv H4 e4 hcv => ?_
  refine q_asgF (ef_call (dvs := []) (ea_cons (ev_var rfl) ea_nil) (spf_live_in_code ((hc.ex e3).ex e4) ok wh)) fun lv H5 e5 hlv => ?_
  have hlv := hlv.here
  have e35 := e4.trans e5
  let g : Nat → Cm06.Given := fun i => (takenEvs [] (List.range cd.args) ++ ((bfs cd none).take i).flatMap (restEvs cd)).foldl giveE []
  have rl20 : ∀ j, j < cd.blocks.length → (restEvs cd j).length ≤ 20 := fun j hj => by
    unfold restEvs
    rw [List.length_append, takenEvs_len]
    have := rowEvs_len cd j 0 (Cm03.blockAt cd j).rows
    have := (ok.body _ (List.mem_of_getElem? (at_blockAt hj))).few
    have := (ok.body _ (List.mem_of_getElem? (at_blockAt hj))).len
    omega
  have bf := bfs_bf wh none
  have glen : ∀ i, (g i).length ≤ 206 := fun i => by
    show ((takenEvs [] (List.range cd.args) ++ ((bfs cd none).take i).flatMap (restEvs cd)).foldl giveE []).length ≤ 206
    rw [fold_len, List.length_append, takenEvs_len, List.length_range]
    have h1 := flat_lenE (f := restEvs cd) (m := 20) (l := (bfs cd none).take i) fun j hj => rl20 j (bf.lt j (List.mem_of_mem_take hj))
    have h2 := List.length_take_le' i (bfs cd none)
    have h3 := bf.len
    have : ((bfs cd none).take i).length * 20 ≤ 10 * 20 := Nat.mul_le_mul_right _ (by omega)
    show ([] : Cm06.Given).length + (cd.args + _) ≤ 206
    simp only [List.length_nil]
    omega
  refine q_forEN (EvL.n (el_call (dvs := []) (ea_cons (ev_var rfl) (ea_cons ev_c ea_nil)) (spl_reached (lo := none) ((hc.ex e3).ex e35) l10 wh))) (fun rp xs i σ' H' => xs = natsV (bfs cd none) ∧ (∃ w4 w5, σ' = [some (.ref c), some (.ref p), some cv, some lv, w4, w5]) ∧ H' rp = some (.lst xs) ∧ Sl H p (g i) H' ∧ LsV (Cm06.lives cd) cv H' ∧ LssV (liveC cd) lv H')
    (fun rp xs H6 hn6 e6 hrp hxs => ⟨hxs, ⟨_, _, rfl⟩, hrp, ⟨(e3.trans e35).trans e6, hp, e6 _ _ (e35 _ _ (by have := s3.at_; rw [show g 0 = (takenEvs [] (List.range cd.args)).foldl giveE [] by show (takenEvs [] (List.range cd.args) ++ ((bfs cd none).take 0).flatMap (restEvs cd)).foldl giveE [] = _; rw [List.take_zero, List.flatMap_nil, List.append_nil]]; exact this)), by have := s3.nd; rw [show g 0 = (takenEvs [] (List.range cd.args)).foldl giveE [] by show (takenEvs [] (List.range cd.args) ++ ((bfs cd none).take 0).flatMap (restEvs cd)).foldl giveE [] = _; rw [List.take_zero, List.flatMap_nil, List.append_nil]]; exact this⟩, ls_mono _ cv H4 H6 (e5.trans e6) hcv, lss_mono _ lv H5 H6 e6 hlv⟩)
    (fun rp xs i σ' H' _ q => sq_of q.2.2.1) (fun rp xs i x σ' H' hx q => ?_) (fun rp xs σ' H' q => ?_)
  · obtain ⟨rfl, ⟨w4, w5, rfl⟩, hrp, sg, hcv', hlv'⟩ := q
    have hi : i < (bfs cd none).length := by have := (List.getElem?_eq_some_iff.mp hx).1; rwa [natsV_length] at this
    have hj := List.getElem?_eq_getElem hi
    generalize (bfs cd none)[i] = j at hj
    have hxe : x = .int (j : Int) := by
      have := nats_at hj
      rw [hx] at this
      exact Option.some.inj this
    subst hxe
    have jl := bf.lt j (List.mem_of_getElem? hj)
    obtain ⟨ba, hba, hbb⟩ := hc.at_ jl
    have bok := ok.body _ (List.mem_of_getElem? (at_blockAt jl))
    obtain ⟨tk, htk, etk⟩ := hbb.taken T
    obtain ⟨rl, rvs, hrl, hrows, erl⟩ := hbb.rows T
    have split : allEvs cd = (takenEvs [] (List.range cd.args) ++ ((bfs cd none).take i).flatMap (restEvs cd)) ++ (restEvs cd j ++ ((bfs cd none).drop (i + 1)).flatMap (restEvs cd)) := by
      unfold allEvs
      conv => lhs; rw [← List.take_append_drop i (bfs cd none), List.drop_eq_getElem_cons hi, (List.getElem?_eq_some_iff.mp hj).2]
      simp only [List.flatMap_append, List.flatMap_cons, List.append_assoc]
    have okj : OkEvs (· ∈ keys (g i)) (restEvs cd j) := by
      have := aok
      rw [split] at this
      exact (okEvs_append.mp (okEvs_fold this)).1
    have okT := (okEvs_append.mp okj).1
    have okR : OkEvs (· ∈ keys ((takenEvs ((Cm06.lives cd).getD j []) (Cm03.blockAt cd j).takes).foldl giveE (g i))) (rowEvs cd j 0 (Cm03.blockAt cd j).rows) := okEvs_fold okj
    have gnext : g (i + 1) = (rowEvs cd j 0 (Cm03.blockAt cd j).rows).foldl giveE ((takenEvs ((Cm06.lives cd).getD j []) (Cm03.blockAt cd j).takes).foldl giveE (g i)) := by
      show (takenEvs [] (List.range cd.args) ++ ((bfs cd none).take (i + 1)).flatMap (restEvs cd)).foldl giveE [] = _
      rw [take_next hj, List.flatMap_append, List.flatMap_singleton, ← List.append_assoc, List.foldl_append]
      show (takenEvs ((Cm06.lives cd).getD j []) (Cm03.blockAt cd j).takes ++ rowEvs cd j 0 (Cm03.blockAt cd j).rows).foldl giveE (g i) = _
      rw [List.foldl_append]
    refine q_asg (ev_block T (hc.ex sg.ex) (ev_var rfl) (ev_var rfl) hba) fun H6 e6 => ?_
    have sg6 := sg.step e6
    obtain ⟨cw, ⟨ca, rfl, hca⟩, cix⟩ := (ls_mono _ cv H' H6 e6 hcv').at_ (K := K) (i := j) (by rw [lives_len]; exact jl)
    refine q_dropCallP (ap_cons (P := fun v _ => v = .ref p) (fun v _ _ _ h => h) (Ev.p (ev_var rfl)) (ap_cons st_lst (EvL.p (el_listT (K := K) (etk sg6.ex (ev_var rfl)) (st_of (sg6.ex _ _ htk)))) (ap_cons (P := fun v _ => v = .ref ca) (fun v _ _ _ h => h) (Ev.p (cix (Ex.refl H6) (ev_var rfl) (ev_var rfl))) ap_nil))) fun vs H7 e7 hP => ?_
    obtain ⟨v1, l1, rfl, rfl, v2, l2, rfl, ⟨q1, rfl, hq1⟩, v3, l3, rfl, rfl, rfl⟩ := hP
    have sg7 := sg6.step e7
    have lok := getD_ok (lives_ok cd) j
    have few := bok.few
    have gl := glen i
    refine ⟨del H7 p, p, q1, ca, g i, (Cm03.blockAt cd j).takes, (Cm06.lives cd).getD j [], rfl, ⟨del_ex, del_p, sg7.at_, sg7.nd⟩, del_lst sg7.at_ hq1, del_lst sg7.at_ (e7 _ _ hca), fun hne y hy => ?_, okT, by omega, by omega, fun H8 s8 => ?_⟩
    · cases ht : (Cm03.blockAt cd j).takes with
      | nil => exact absurd ht hne
      | cons x r =>
        rw [ht] at okT
        refine okT.2.1 y hy fun z => ?_
        rw [lives_at jl] at hy
        have := (List.mem_filter.mp hy).2
        rw [z, ht] at this
        simp at this
    · have e68 : Ex (del H6 p) H8 := fun a o h => s8.ex a o (by
        have ne : a ≠ p := fun z => by subst z; rw [del_p] at h; cases h
        rw [del_ne ne] at h ⊢
        exact e7 a o h)
      have eH8 : Ex H H8 := (del_base sg7.ex hp).trans s8.ex
      have hlv8 : LssV (liveC cd) lv H8 := lss_mono _ lv _ H8 e68 (del_lss sg6.at_ (lss_mono _ lv H' H6 e6 hlv'))
      have hcv8 : LsV (Cm06.lives cd) cv H8 := ls_mono _ cv _ H8 e68 (del_ls sg6.at_ (ls_mono _ cv H' H6 e6 hcv'))
      have hrp8 : H8 rp = some (.lst (natsV (bfs cd none))) := e68 _ _ (del_lst sg6.at_ (e6 _ _ hrp))
      obtain ⟨lw, hlw, lix⟩ := hlv8.at_ (K := K) (i := j) (by unfold liveC; rw [List.length_map]; exact jl)
      have hlw : LsV ((liveC cd).getD j []) lw H8 := hlw
      rw [liveC_at (at_blockAt jl)] at hlw
      refine s_dropCallP (VS.EvA.p (ea_cons (ev_var rfl) (ea_cons (erl eH8 (ev_var rfl)) (ea_cons (lix (Ex.refl H8) (ev_var rfl) (ev_var rfl)) ea_nil)))) fun vs H9 e9 hvs => ?_
      subst hvs
      have s9 : H9 p = some (.dK (kvs ((takenEvs ((Cm06.lives cd).getD j []) (Cm03.blockAt cd j).takes).foldl giveE (g i)))) := e9 _ _ s8.at_
      have eH9 : Ex H (del H9 p) := del_base (eH8.trans e9) hp
      refine ⟨del H9 p, p, rl, lw, (takenEvs ((Cm06.lives cd).getD j []) (Cm03.blockAt cd j).takes).foldl giveE (g i), rvs, cd, j, rfl, ⟨del_ex, del_p, s9, s8.nd⟩, eH9 _ _ hrl, hrows.ex eH9, bok.rows, bok.len, del_ls s9 (ls_mono _ lw H8 H9 e9 hlw), okR, by rw [fold_len, takenEvs_len]; omega, fun Ha sa => ?_⟩
      have e8a : ∀ {a : Addr} {xs : List V}, H8 a = some (.lst xs) → Ha a = some (.lst xs) := fun h => sa.ex _ _ (del_lst s9 (e9 _ _ h))
      have e9a : Ex (del H9 p) Ha := sa.ex
      refine ⟨rfl, ⟨_, _, rfl⟩, e8a hrp8, ⟨eH9.trans sa.ex, hp, by rw [gnext]; exact sa.at_, by rw [gnext]; exact sa.nd⟩, ls_mono _ cv _ Ha e9a (del_ls s9 (ls_mono _ cv H8 H9 e9 hcv8)), lss_mono _ lv _ Ha e9a (del_lss s9 (lss_mono _ lv H8 H9 e9 hlv8))⟩
  · obtain ⟨rfl, ⟨w4, w5, rfl⟩, hrp, sg, hcv', hlv'⟩ := q
    rw [natsV_length] at sg
    have fin : g (bfs cd none).length = regs cd := by
      show (takenEvs [] (List.range cd.args) ++ ((bfs cd none).take (bfs cd none).length).flatMap (restEvs cd)).foldl giveE [] = _
      rw [List.take_length]
      rfl
    rw [fin] at sg
    exact s_ret (ev_var rfl) fun H4 e4 => k p H4 (sg.step e4)
theorem D_value_slots (T : Tx K mg) : Df P w K mg base 7 (He.ga K "value_slots") ["code"] (sp_value_slots K) := ok_value_slots T (D_coming_in T) (D_live_in_code T) (D_place_one_by_one T) (D_place_rows T) (D_reached T) (fun vs H Q E h => by obtain ⟨a, b, d, e, rfl, _⟩ := h; rfl) (pure_value_slots T)
end
end VS
/-! The code in registers (placing.py). -/
namespace VS
open PySem L2 Evl CmBase
section
variable {P : Program} {w : World} {K : PySem.W.Frag} {mg : Str → Option Value} {base : Heap} {H H0 H' H1 : Hp} {σ : L2.St} {c a bl l p : Addr} {cd : CmBase.Code} {b : CmBase.Block} {bs : List Addr} {xs ys : List V} {ta tb tl ti te : TE} {t : TT} {v : V} {D : Ends} {tz tu tw : TS} {Hb : Hp} {gs : Cm06.Given}
theorem eu_tupOf (h : EvL te σ H xs) : EvU (tCB (rTupS K) (tCons te tNil)) σ H xs := fun H1 e Q q =>
  h H1 e _ fun p H2 hn e2 hp => ⟨p, xs, rfl, .inl ⟨sq_of hp, fun l hl => q l _ (fresh_back e2 hl) (e2.trans (Ex.new hl)) upd_same⟩⟩
def RetU (xs : List V) (H : Hp) (Q : VK) : Prop := ∀ q H2, H q = none → Ex H H2 → H2 q = some (.tup xs) → Q (.ref q) H2
def SpU (sp : Sp) (vs : List V) (H : Hp) (xs : List V) : Prop := ∀ H1, Ex H H1 → ∀ Q : VK, RetU xs H1 Q → ∀ E : XK, sp vs H1 Q E
theorem eu_call {sp : Sp} {dvs vs : List V} {E : XK} {tA : TA} (h : EvA tA σ H vs) (hs : SpU sp (vs ++ dvs) H xs) : EvU (tCall sp dvs E tA) σ H xs := fun H1 e Q q =>
  h H1 e _ fun H2 e2 => hs H2 (e.trans e2) Q (fun p H3 hp e3 h3 => q p H3 (fresh_back e2 hp) (e2.trans e3) h3) E
/-! ### all_in_slots -/
def sp_all_in_slots (K : PySem.W.Frag) : Sp := fun vs H Q _ => ∃ (t p : Addr) (l : List Nat) (gs : Cm06.Given), vs = [.ref t, .ref p] ∧ H t = some (.tup (natsV l)) ∧ H p = some (.dK (kvs gs)) ∧ (keys gs).Nodup ∧ (∀ x ∈ l, x ∈ keys gs) ∧ l.length ≤ 1000 ∧ RetU (natsV (l.map (Cm06.regIn gs))) H Q
theorem pure_all_in_slots (vs : List V) (H : Hp) (Q : VK) (E : XK) (h : sp_all_in_slots K vs H Q E) : t_all_in_slots K { nx := fun _ H' => Q .non H', rt := Q } (start N_all_in_slots vs) H := by
  obtain ⟨t, p, l, gs, rfl, ht, hp, nd, hin, hz, k⟩ := h
  have : EvL (tLc (iTup K (tVar 0)) (gName 2) tYes (tDGet (tVar 1) (tVar 2)) [2]) (start N_all_in_slots [.ref t, .ref p]) H (natsV (l.map (Cm06.regIn gs))) := by
    refine el_is (el_lcTup (K := K) (l := l) (fun n => .int (Cm06.regIn gs n : Int)) (ev_var rfl) (st_of ht) (by omega) (fun _ => rfl) fun n hn H1 e1 => ev_dget (ev_var rfl) (e1 _ _ hp) nd (hin n hn) (ev_var rfl)) ?_
    unfold natsV
    rw [List.map_map]
    rfl
  exact s_retU (eu_tupOf this) k
theorem D_all_in_slots (T : Tx K mg) : Df P w K mg base 1 (He.ga K "all_in_slots") ["values", "slots"] (sp_all_in_slots K) := ok_all_in_slots T (fun vs H Q E h => by obtain ⟨a, b, d, e, rfl, _⟩ := h; rfl) pure_all_in_slots
theorem spu_all {t : Addr} {l : List Nat} (ht : H t = some (.tup (natsV l))) (hp : H p = some (.dK (kvs gs))) (nd : (keys gs).Nodup) (hin : ∀ x ∈ l, x ∈ keys gs) (hz : l.length ≤ 1000) : SpU (sp_all_in_slots K) [.ref t, .ref p] H (natsV (l.map (Cm06.regIn gs))) := fun H1 e Q k E => ⟨t, p, l, gs, rfl, e _ _ ht, e _ _ hp, nd, hin, hz, k⟩
/-! ### row_in_slots -/
def rowVals (r : Row) : List Nat := r.gives.toList ++ r.uses
def sp_row_in_slots (K : PySem.W.Frag) : Sp := fun vs H Q _ => ∃ (ra p : Addr) (r : Row) (gs : Cm06.Given), vs = [.ref ra, .ref p] ∧ H ra = some (.tup (rowV r)) ∧ Cm03.isCopy r = false ∧ H p = some (.dK (kvs gs)) ∧ (keys gs).Nodup ∧ (∀ x ∈ rowVals r, x ∈ keys gs) ∧ RetU (rowV (Cm06.Row.turned (Cm06.regIn gs) r)) H Q
theorem RetU.pre {Q : VK} (k : RetU xs H Q) (e : Ex H H') : RetU xs H' Q := fun q H2 hn e2 h => k q H2 (fresh_back e hn) (e.trans e2) h
theorem pure_row_in_slots (vs : List V) (H : Hp) (Q : VK) (E : XK) (h : sp_row_in_slots K vs H Q E) : t_row_in_slots K { nx := fun _ H' => Q .non H', rt := Q } (start N_row_in_slots vs) H := by
  obtain ⟨ra, p, r, gs, rfl, hra, plain, hp, nd, hin, k⟩ := h
  have ix : ∀ {H1 : Hp} {i : Int} {v : V}, Ex H H1 → atI (rowV r) i = some v → Ev (tOp (rIxT K) (tVar 0) (tC (.int i))) (start N_row_in_slots [.ref ra, .ref p]) H1 v := fun e1 h => ev_ixT (ev_var rfl) (e1 _ _ hra) h
  have dg : ∀ {H1 : Hp} {i : Int} {x : Nat}, Ex H H1 → atI (rowV r) i = some (.int (x : Int)) → x ∈ rowVals r → Ev (tDGet (tVar 1) (tOp (rIxT K) (tVar 0) (tC (.int i)))) (start N_row_in_slots [.ref ra, .ref p]) H1 (.int (Cm06.regIn gs x : Int)) := fun e1 h hx => ev_dget (ev_var rfl) (e1 _ _ hp) nd (hin _ hx) (ix e1 h)
  cases r with
  | copy x b => cases plain
  | num x n =>
    refine q_when (et_ixT (n := 0) (ev_var rfl) hra rfl) (fun _ H1 e1 => ?_) (fun z => by cases z)
    exact s_retU (eu_tup (ea_cons (ix e1 rfl) (ea_cons (dg (x := x) e1 rfl (by simp [rowVals, Row.gives])) (ea_cons (ix e1 rfl) ea_nil))) (show 3 ≤ 100000 by decide)) (k.pre e1)
  | two x o q d =>
    refine q_when (et_ixT (n := 2) (ev_var rfl) hra rfl) (fun z => by cases z) fun _ H1 e1 => ?_
    refine q_when (et_ixT (n := 2) (ev_var rfl) (e1 _ _ hra) rfl) (fun _ H2 e2 => ?_) (fun z => by cases z)
    have e := e1.trans e2
    exact s_retU (eu_tup (ea_cons (ix e rfl) (ea_cons (dg (x := x) e rfl (by simp [rowVals, Row.gives])) (ea_cons (ix e rfl) (ea_cons (dg (x := q) e rfl (by simp [rowVals, Row.uses])) (ea_cons (dg (x := d) e rfl (by simp [rowVals, Row.uses])) ea_nil))))) (show 5 ≤ 100000 by decide)) (k.pre e)
  | say x =>
    refine q_when (et_ixT (n := 3) (ev_var rfl) hra rfl) (fun z => by cases z) fun _ H1 e1 => ?_
    refine q_when (et_ixT (n := 3) (ev_var rfl) (e1 _ _ hra) rfl) (fun z => by cases z) fun _ H2 e2 => ?_
    have e := e1.trans e2
    exact s_retU (eu_tup (ea_cons (ix e rfl) (ea_cons (dg (x := x) e rfl (by simp [rowVals, Row.uses])) ea_nil)) (show 2 ≤ 100000 by decide)) (k.pre e)
theorem D_row_in_slots (T : Tx K mg) : Df P w K mg base 1 (He.ga K "row_in_slots") ["row", "slots"] (sp_row_in_slots K) := ok_row_in_slots T (fun vs H Q E h => by obtain ⟨a, b, d, e, rfl, _⟩ := h; rfl) pure_row_in_slots
theorem spu_row {ra : Addr} {r : Row} (hra : H ra = some (.tup (rowV r))) (plain : Cm03.isCopy r = false) (hp : H p = some (.dK (kvs gs))) (nd : (keys gs).Nodup) (hin : ∀ x ∈ rowVals r, x ∈ keys gs) : SpU (sp_row_in_slots K) [.ref ra, .ref p] H (rowV (Cm06.Row.turned (Cm06.regIn gs) r)) := fun H1 e Q k E => ⟨ra, p, r, gs, rfl, e _ _ hra, plain, e _ _ hp, nd, hin, k⟩
/-! ### tuples of new things -/
def EvAF (tA : TA) (σ : L2.St) (H : Hp) (R : List V → Hp → Prop) : Prop := ∀ H1, Ex H H1 → ∀ Q : List V → Hp → Prop, (∀ vs H2, Ex H1 H2 → Fr (New H1) H2 (R vs) → Q vs H2) → tA σ H1 Q
theorem af_nil : EvAF tNil σ H fun ws _ => ws = [] := fun H1 _ _ q => q [] H1 (Ex.refl H1) (Fr.const rfl)
theorem af_cons {tr : TA} {R1 : V → Hp → Prop} {R2 : List V → Hp → Prop} (h : EvF te σ H R1) (hr : EvAF tr σ H R2) : EvAF (tCons te tr) σ H fun ws H' => ∃ w l, ws = w :: l ∧ R1 w H' ∧ R2 l H' := fun H1 e Q q =>
  h H1 e _ fun w H2 e2 f1 => hr H2 (e.trans e2) _ fun l H3 e3 f2 => q _ H3 (e2.trans e3) (((f1.ex e3).both (f2.back e2)).weak fun H4 hh => ⟨w, l, rfl, hh.1, hh.2⟩)
theorem af_ev {tr : TA} {R2 : List V → Hp → Prop} (h : Ev te σ H v) (hr : EvAF tr σ H R2) : EvAF (tCons te tr) σ H fun ws H' => ∃ l, ws = v :: l ∧ R2 l H' := fun H1 e Q q =>
  h H1 e _ fun H2 e2 => hr H2 (e.trans e2) _ fun l H3 e3 f2 => q _ H3 (e2.trans e3) ((f2.back e2).weak fun H4 hh => ⟨l, rfl, hh⟩)
theorem ef_tup {tA : TA} {R : List V → Hp → Prop} {n : Nat} (h : EvAF tA σ H R) (hl : ∀ vs H', R vs H' → vs.length = n) (hn : n ≤ 100000) : EvF (tTup tA) σ H fun v H' => ∃ q vs, v = .ref q ∧ H' q = some (.tup vs) ∧ R vs H' := fun H1 e Q q =>
  h H1 e _ fun vs H2 e2 f => ⟨sz_of (by rw [hl vs H2 f.here]; exact hn), fun r hr => q _ _ (e2.trans (Ex.new hr)) (((Fr.one (N := New H1) (fresh_back e2 hr) (upd_same (H := H2) (a := r) (o := .tup vs))).both (f.ex (Ex.new hr))).weak fun H3 hh => ⟨r, vs, rfl, hh.1, hh.2⟩)⟩
/-! ### end_in_slots -/
def sp_end_in_slots (K : PySem.W.Frag) : Sp := fun vs H Q _ => ∃ (ev : V) (p : Addr) (e : CmBase.End) (gs : Cm06.Given), vs = [ev, .ref p] ∧ EndAt H ev (some e) ∧ e.uses.length ≤ 100 ∧ H p = some (.dK (kvs gs)) ∧ (keys gs).Nodup ∧ (∀ x ∈ e.uses, x ∈ keys gs) ∧ RetF (fun v H' => EndAt H' v (some (Cm06.End.turned (Cm06.regIn gs) e))) H Q
theorem pure_end_in_slots (vs : List V) (H : Hp) (Q : VK) (E : XK) (h : sp_end_in_slots K vs H Q E) : t_end_in_slots K (sp_all_in_slots K) { nx := fun _ H' => Q .non H', rt := Q } (start N_end_in_slots vs) H := by
  obtain ⟨ev, p, e, gs, rfl, hev, hz, hp, nd, hin, k⟩ := h
  cases e with
  | jump t as =>
    obtain ⟨a, q, rfl, ha, hq⟩ := hev
    have l1 : as.length ≤ 100 := hz
    refine q_when (et_ixT (n := 0) (ev_var rfl) ha rfl) (fun _ H1 e1 => ?_) (fun z => by cases z)
    refine s_retF (EvF.weak (ef_tup (n := 3) (af_ev (ev_ixT (i := 0) (v := .int 0) (ev_var rfl) (e1 _ _ ha) rfl) (af_ev (ev_ixT (i := 1) (v := .int (t : Int)) (ev_var rfl) (e1 _ _ ha) rfl) (af_cons (EvU.f (eu_call (dvs := []) (ea_cons (ev_ixT (i := 2) (v := .ref q) (ev_var rfl) (e1 _ _ ha) rfl) (ea_cons (ev_var rfl) ea_nil)) (spu_all (e1 _ _ hq) (e1 _ _ hp) nd (fun x hx => hin x hx) (by omega)))) af_nil))) (fun vs H' h => ?_) (by decide)) fun v H' h => ?_) (k.pre e1)
    · obtain ⟨_, rfl, _, rfl, _, _, rfl, _, rfl⟩ := h
      rfl
    · obtain ⟨r, vs, rfl, hr, _, rfl, _, rfl, _, _, rfl, ⟨r2, rfl, hr2⟩, rfl⟩ := h
      exact ⟨r, r2, rfl, hr, hr2⟩
  | fork x t as u bss =>
    obtain ⟨a, q1, q2, rfl, ha, hq1, hq2⟩ := hev
    have l1 : as.length + bss.length ≤ 100 := by
      have : (CmBase.End.fork x t as u bss).uses.length = as.length + bss.length + 1 := by simp [CmBase.End.uses]
      omega
    refine q_when (et_ixT (n := 1) (ev_var rfl) ha rfl) (fun z => by cases z) fun _ H1 e1 => ?_
    refine q_when (et_ixT (n := 1) (ev_var rfl) (e1 _ _ ha) rfl) (fun _ H2 e2 => ?_) (fun z => by cases z)
    have e := e1.trans e2
    have ha2 := e _ _ ha
    refine s_retF (EvF.weak (ef_tup (n := 6) (af_ev (ev_ixT (i := 0) (v := .int 1) (ev_var rfl) ha2 rfl) (af_ev (ev_dget (x := x) (ev_var rfl) (e _ _ hp) nd (hin x (by simp [CmBase.End.uses])) (ev_ixT (i := 1) (v := .int (x : Int)) (ev_var rfl) ha2 rfl)) (af_ev (ev_ixT (i := 2) (v := .int (t : Int)) (ev_var rfl) ha2 rfl) (af_cons (EvU.f (eu_call (dvs := []) (ea_cons (ev_ixT (i := 3) (v := .ref q1) (ev_var rfl) ha2 rfl) (ea_cons (ev_var rfl) ea_nil)) (spu_all (e _ _ hq1) (e _ _ hp) nd (fun y hy => hin y (by simp [CmBase.End.uses, hy])) (by omega)))) (af_ev (ev_ixT (i := 4) (v := .int (u : Int)) (ev_var rfl) ha2 rfl) (af_cons (EvU.f (eu_call (dvs := []) (ea_cons (ev_ixT (i := 5) (v := .ref q2) (ev_var rfl) ha2 rfl) (ea_cons (ev_var rfl) ea_nil)) (spu_all (e _ _ hq2) (e _ _ hp) nd (fun y hy => hin y (by simp [CmBase.End.uses, hy])) (by omega)))) af_nil)))))) (fun vs H' h => ?_) (by decide)) fun v H' h => ?_) (k.pre e)
    · obtain ⟨_, rfl, _, rfl, _, rfl, _, _, rfl, _, _, rfl, _, _, rfl, _, rfl⟩ := h
      rfl
    · obtain ⟨r, vs, rfl, hr, _, rfl, _, rfl, _, rfl, _, _, rfl, ⟨r2, rfl, hr2⟩, _, rfl, _, _, rfl, ⟨r3, rfl, hr3⟩, rfl⟩ := h
      exact ⟨r, r2, r3, rfl, hr, hr2, hr3⟩
  | give x =>
    obtain ⟨a, rfl, ha⟩ := hev
    refine q_when (et_ixT (n := 2) (ev_var rfl) ha rfl) (fun z => by cases z) fun _ H1 e1 => ?_
    refine q_when (et_ixT (n := 2) (ev_var rfl) (e1 _ _ ha) rfl) (fun z => by cases z) fun _ H2 e2 => ?_
    have e := e1.trans e2
    refine s_retF (EvF.weak (EvU.f (eu_tup (ea_cons (ev_ixT (i := 0) (v := .int 2) (ev_var rfl) (e _ _ ha) rfl) (ea_cons (ev_dget (x := x) (ev_var rfl) (e _ _ hp) nd (hin x (by simp [CmBase.End.uses])) (ev_ixT (i := 1) (v := .int (x : Int)) (ev_var rfl) (e _ _ ha) rfl)) ea_nil)) (show 2 ≤ 100000 by decide))) fun v H' h => ?_) (k.pre e)
    obtain ⟨r, rfl, hr⟩ := h
    exact ⟨r, rfl, hr⟩
theorem D_end_in_slots (T : Tx K mg) : Df P w K mg base 2 (He.ga K "end_in_slots") ["end", "slots"] (sp_end_in_slots K) := ok_end_in_slots T (D_all_in_slots T) (fun vs H Q E h => by obtain ⟨a, b, d, e, rfl, _⟩ := h; rfl) pure_end_in_slots
theorem spf_end {ev : V} {e : CmBase.End} (hev : EndAt H ev (some e)) (hz : e.uses.length ≤ 100) (hp : H p = some (.dK (kvs gs))) (nd : (keys gs).Nodup) (hin : ∀ x ∈ e.uses, x ∈ keys gs) : SpF (sp_end_in_slots K) [ev, .ref p] H (fun v H' => EndAt H' v (some (Cm06.End.turned (Cm06.regIn gs) e))) := fun H1 x Q k E => ⟨ev, p, e, gs, rfl, hev.ex x, hz, x _ _ hp, nd, hin, k⟩
/-! ### fields -/
theorem q_sFldF {f : Str} {C dx x : Addr} {fs : List (Str × V)} {R : V → Hp → Prop} (h : EvF te σ H R) (hx : H x = some (.ins C dx fs)) (ha : ∀ H1, Ex H H1 → Ev ta σ H1 (.ref x)) (hc : Cls K C) (hn : NoAttr K C f) (hl : fs.length < 1000) (k : ∀ v H1, Ex H H1 → Fr (New H) H1 (R v) → tz D σ (upd H1 x (.ins C dx (putF f v fs)))) : tSeq (sFld K ta te f) tz D σ H :=
  h H (Ex.refl H) _ fun v H1 e1 f1 => ha H1 e1 H1 (Ex.refl H1) _ fun H2 e2 => ⟨x, C, dx, fs, rfl, e2 _ _ (e1 _ _ hx), hc, hn, hl, k v H2 (e1.trans e2) (f1.ex e2)⟩
theorem q_sFldV {f : Str} {C dx x : Addr} {fs : List (Str × V)} (h : Ev te σ H v) (hx : H x = some (.ins C dx fs)) (ha : ∀ H1, Ex H H1 → Ev ta σ H1 (.ref x)) (hc : Cls K C) (hn : NoAttr K C f) (hl : fs.length < 1000) (k : ∀ H1, Ex H H1 → tz D σ (upd H1 x (.ins C dx (putF f v fs)))) : tSeq (sFld K ta te f) tz D σ H :=
  h H (Ex.refl H) _ fun H1 e1 => ha H1 e1 H1 (Ex.refl H1) _ fun H2 e2 => ⟨x, C, dx, fs, rfl, e2 _ _ (e1 _ _ hx), hc, hn, hl, k H2 (e1.trans e2)⟩
/-! ### block_in_slots -/
def turnB (f : Nat → Nat) (b : CmBase.Block) : CmBase.Block := ⟨b.takes.map f, b.rows.map (Cm06.Row.turned f), Cm06.End.turned f b.last⟩
def blkVals (b : CmBase.Block) : List Nat := b.takes ++ b.rows.flatMap rowVals ++ b.last.uses
def sp_block_in_slots (K : PySem.W.Frag) : Sp := fun vs H Q _ => ∃ (ba p : Addr) (b : CmBase.Block) (gs : Cm06.Given), vs = [.ref ba, .ref p] ∧ BAt K H ba b ∧ BodyOk b.takes b.rows ∧ EndOk b.last ∧ H p = some (.dK (kvs gs)) ∧ (keys gs).Nodup ∧ (∀ x ∈ blkVals b, x ∈ keys gs) ∧ RetF (fun v H' => ∃ a, v = .ref a ∧ BAt K H' a (turnB (Cm06.regIn gs) b)) H Q
theorem bF_put_rows {tk rl rl' : Addr} {ev : V} : putF "rows" (.ref rl') (bF tk rl ev) = bF tk rl' ev := (put_past (by decide +kernel)).trans (congrArg _ put_here)
theorem bF_len {tk rl : Addr} {ev : V} : (bF tk rl ev).length < 1000 := by show 3 < 1000; decide
theorem pure_block_in_slots (T : Tx K mg) (vs : List V) (H : Hp) (Q : VK) (E : XK) (h : sp_block_in_slots K vs H Q E) : t_block_in_slots K (sp_Block_init K) (sp_all_in_slots K) (sp_end_in_slots K) (sp_row_in_slots K) { nx := fun _ H' => Q .non H', rt := Q } (start N_block_in_slots vs) H := by
  obtain ⟨ba, p, b, gs, rfl, hb, bok, lok, hp, nd, hin, k⟩ := h
  obtain ⟨tk, htk, etk⟩ := hb.taken T
  obtain ⟨rl, rvs, hrl, hrows, erl⟩ := hb.rows T
  obtain ⟨ev, hev, eev⟩ := hb.end_ T
  have f8 := bok.few
  have l12 := bok.len
  have l17 := lok.few
  have mk : EvU (tCall (sp_all_in_slots K) [] E0 (tCons (tFld K (tVar 0) "taken") (tCons (tVar 1) tNil))) (start N_block_in_slots [.ref ba, .ref p]) H (natsV (b.takes.map (Cm06.regIn gs))) := eu_call (dvs := []) (ea_cons (etk (Ex.refl H) (ev_var rfl)) (ea_cons (ev_var rfl) ea_nil)) (spu_all htk hp nd (fun x hx => hin x (by simp [blkVals, hx])) (by omega))
  refine mk H (Ex.refl H) _ fun nt H1 hnt e1 hnt1 => ?_
  intro x dx hx hdx ndx
  have eM : Ex H1 (upd (upd H1 dx (.own x)) x (.ins (He.ga K "Block") dx [])) := fun a o h => by rw [upd_ne (ne_of_none h hx), upd_ne (ne_of_none h hdx)]; exact h
  refine ⟨x, dx, nt, b.takes.map (Cm06.regIn gs), rfl, upd_same, by rw [List.length_map]; omega, .inr ⟨eM _ _ hnt1, fun H2 rl0 hrl0 hx2 hrl2 keep => ⟨rfl, ?_⟩⟩⟩
  have e2 : Ex H1 H2 := fun a o h => keep a o (eM a o h) (ne_of_none h hx)
  have e12 : Ex H H2 := e1.trans e2
  have xn : H x = none := fresh_back e1 hx
  -- the rows
  have rcomp : EvF (tLc (iList K (tFld K (tVar 0) "rows")) (gName 3) tYes (tCall (sp_row_in_slots K) [] E0 (tCons (tVar 3) (tCons (tVar 1) tNil))) [3]) [some (.ref ba), some (.ref p), some (.ref x), none] H2 (ListV rvs.length fun i v H' => ∃ q r, v = .ref q ∧ b.rows[i]? = some r ∧ H' q = some (.tup (rowV (Cm06.Row.turned (Cm06.regIn gs) r)))) := by
    refine ef_comp (erl e12 (ev_var rfl)) (sq_of (e12 _ _ hrl)) (by rw [hrows.len]; omega) (fun _ => rfl) fun i y H3 e3 hy => ?_
    obtain ⟨r, ra, hr, rfl, hra⟩ := hrows.at_ hy
    have hm := List.mem_of_getElem? hr
    exact EvF.weak (EvU.f (eu_call (dvs := []) (ea_cons (ev_var rfl) (ea_cons (ev_var rfl) ea_nil)) (spu_row ((e12.trans e3) _ _ hra) (bok.rows r hm).plain ((e12.trans e3) _ _ hp) nd fun y hy => hin y (by simp only [blkVals, List.mem_append, List.mem_flatMap]; exact .inl (.inr ⟨r, hm, hy⟩))))) fun v H' ⟨q, h1, h2⟩ => ⟨q, r, h1, hr, h2⟩
  refine q_sFldF rcomp hx2 (fun _ _ => ev_var rfl) T.cls_Block T.noat_Block_rows bF_len fun rv H3 e3 f3 => ?_
  obtain ⟨nrl, nrv, rfl, hnrl, hnrn, nrlN, f3⟩ := f3.list
  rw [bF_put_rows]
  have xb : H2 x ≠ none := by rw [hx2]; simp
  have nxr : nrl ≠ x := fun z => xb (z ▸ nrlN)
  -- all but the block itself
  have chg : ∀ {H4 : Hp} {o : HO}, Ex H H4 → Ex H (upd H4 x o) := fun e => Ex.mut e xn
  have eA : Ex H (upd H3 x (.ins (He.ga K "Block") dx (bF nt nrl .non))) := chg (e12.trans e3)
  refine q_sFldF (ef_call (dvs := []) (ea_cons (eev eA (ev_var rfl)) (ea_cons (ev_var rfl) ea_nil)) (spf_end (hev.ex eA) (by omega) (eA _ _ hp) nd fun y hy => hin y (by simp [blkVals, hy]))) upd_same (fun _ _ => ev_var rfl) T.cls_Block T.noat_Block_end bF_len fun nv H5 e5 f5 => ?_
  rw [bF_put_end]
  have ntx : nt ≠ x := ne_of_none hnt1 hx
  refine s_ret (ev_var rfl) fun H6 e6 => k (.ref x) H6 ((chg (eA.trans e5)).trans e6) ?_
  -- what is new, and leans on nothing else
  let N : Addr → Prop := fun a => H a = none ∧ a ≠ x
  have g3 : Fr N H3 fun H' => H' nrl = some (.lst nrv) ∧ ∀ (i : Nat) (w : V), nrv[i]? = some w → ∃ (q : Addr) (r : Row), w = .ref q ∧ b.rows[i]? = some r ∧ H' q = some (.tup (rowV (Cm06.Row.turned (Cm06.regIn gs) r))) := f3.sub fun a z => ⟨fresh_back e12 z, fun q => xb (q ▸ z)⟩
  have g5 : Fr N H5 fun H' => EndAt H' nv (some (Cm06.End.turned (Cm06.regIn gs) b.last)) := f5.sub fun a z => ⟨fresh_back eA z, fun q => by rw [q] at z; have := upd_same (H := H3) (a := x) (o := .ins (He.ga K "Block") dx (bF nt nrl .non)); rw [show upd H3 x (.ins (He.ga K "Block") dx (bF nt nrl .non)) x = none from z] at this; cases this⟩
  have gt : Fr N H3 fun H' => H' nt = some (.tup (natsV (b.takes.map (Cm06.regIn gs)))) := Fr.one (N := N) ⟨hnt, ntx⟩ (e3 _ _ (e2 _ _ hnt1))
  have up : ∀ {R : Hp → Prop}, Fr N H3 R → Fr N (upd H5 x (.ins (He.ga K "Block") dx (bF nt nrl nv))) R := fun h => (((h.upd (p := x) (o := .ins (He.ga K "Block") dx (bF nt nrl .non)) fun z => z.2 rfl).ex e5).upd fun z => z.2 rfl)
  have all := (((up gt).both ((up g3).both (g5.upd (p := x) (o := .ins (He.ga K "Block") dx (bF nt nrl nv)) fun z => z.2 rfl))).sub (N' := New H) fun a z => z.1).both (Fr.one (N := New H) xn (upd_same (H := H5) (a := x) (o := .ins (He.ga K "Block") dx (bF nt nrl nv))))
  refine (all.ex e6).weak fun H7 hh => ⟨x, rfl, dx, nt, nrl, nrv, nv, hh.2, hh.1.1, hh.1.2.1.1, ⟨?_, fun i r hr => ?_⟩, hh.1.2.2⟩
  · rw [hnrn, hrows.len]
    exact (List.length_map ..).symm
  · have hr : (b.rows.map (Cm06.Row.turned (Cm06.regIn gs)))[i]? = some r := hr
    rw [List.getElem?_map] at hr
    cases hq : b.rows[i]? with
    | none => rw [hq] at hr; cases hr
    | some r0 =>
      rw [hq] at hr
      cases hr
      have hi : i < nrv.length := by rw [hnrn, hrows.len]; exact (List.getElem?_eq_some_iff.mp hq).1
      obtain ⟨q, r1, e1', e2', e3'⟩ := hh.1.2.1.2 i _ (List.getElem?_eq_getElem hi)
      rw [hq] at e2'
      cases e2'
      exact ⟨q, by rw [List.getElem?_eq_getElem hi, e1'], e3'⟩
theorem D_block_in_slots (T : Tx K mg) : Df P w K mg base 3 (He.ga K "block_in_slots") ["block", "slots"] (sp_block_in_slots K) := ok_block_in_slots T (D_Block_init T) (D_all_in_slots T) (D_end_in_slots T) (D_row_in_slots T) (fun vs H Q E h => by obtain ⟨a, b, d, e, rfl, _⟩ := h; rfl) (pure_block_in_slots T)
theorem spf_block {ba : Addr} (hb : BAt K H ba b) (bok : BodyOk b.takes b.rows) (lok : EndOk b.last) (hp : H p = some (.dK (kvs gs))) (nd : (keys gs).Nodup) (hin : ∀ x ∈ blkVals b, x ∈ keys gs) : SpF (sp_block_in_slots K) [.ref ba, .ref p] H (fun v H' => ∃ a, v = .ref a ∧ BAt K H' a (turnB (Cm06.regIn gs) b)) := fun H1 e Q k E => ⟨ba, p, b, gs, rfl, hb.ex e, bok, lok, e _ _ hp, nd, hin, k⟩
end
end VS
/-! The code in registers: made (placing.py), and what's known of it. -/
namespace VS
open PySem L2 Evl CmBase
section
variable {P : Program} {w : World} {K : PySem.W.Frag} {mg : Str → Option Value} {base : Heap} {H H0 H' H1 : Hp} {σ : L2.St} {c a bl l p : Addr} {cd : CmBase.Code} {b : CmBase.Block} {bs : List Addr} {xs ys : List V} {ta tb tl ti te : TE} {t : TT} {v : V} {D : Ends} {tz tu tw : TS} {Hb : Hp} {gs : Cm06.Given}
theorem q_make0 {C : Addr} {sp : Sp} {E : XK} {i : Nat} (k : ∀ x dx, H x = none → H dx = none → dx ≠ x → sp [.ref x] (upd (upd H dx (.own x)) x (.ins C dx [])) (fun v H2 => v = .non ∧ tz D (σ.set i (some (.ref x))) H2) E) : tSeq (tAsg (tMake C sp [] E tNil) (gName i)) tz D σ H := k
def sp_code_in_slots (K : PySem.W.Frag) : Sp := fun vs H Q _ => ∃ (c p : Addr) (cd : CmBase.Code) (bl : Addr) (bs : List Addr) (gs : Cm06.Given), vs = [.ref c, .ref p] ∧ CAt K H c cd bl bs ∧ COk cd ∧ H p = some (.dK (kvs gs)) ∧ (keys gs).Nodup ∧ (∀ b ∈ cd.blocks, ∀ x ∈ blkVals b, x ∈ keys gs) ∧ ∀ x bl' bs' H2, Ex H H2 → CAt K H2 x (Cm06.renamed cd (Cm06.regIn gs)) bl' bs' → Q (.ref x) H2
theorem cF_len {n : Nat} {bl : Addr} : (cF n bl).length < 1000 := by show 2 < 1000; decide
theorem pure_code_in_slots (T : Tx K mg) (vs : List V) (H : Hp) (Q : VK) (E : XK) (h : sp_code_in_slots K vs H Q E) : t_code_in_slots K (sp_Code_init K) (sp_block_in_slots K) { nx := fun _ H' => Q .non H', rt := Q } (start N_code_in_slots vs) H := by
  obtain ⟨c, p, cd, bl, bs, gs, rfl, hc, ok, hp, nd, hin, k⟩ := h
  have l10 := ok.len
  refine q_make0 fun x dx hx hdx ndx => ?_
  have eM : Ex H (upd (upd H dx (.own x)) x (.ins (He.ga K "Code") dx [])) := fun a o h => by rw [upd_ne (ne_of_none h hx), upd_ne (ne_of_none h hdx)]; exact h
  refine ⟨x, dx, rfl, upd_same, fun H2 Y hY _ keep => ⟨rfl, ?_⟩⟩
  have e2 : Ex H H2 := fun a o h => keep a o (eM a o h) (ne_of_none h hx)
  obtain ⟨dx2, ho⟩ := hY.obj
  refine q_sFldV (ev_words T (hc.ex e2) (ev_var rfl)) ho (fun _ _ => ev_var rfl) T.cls_Code T.noat_Code_words cF_len fun H3 e3 => ?_
  rw [cF_put_words]
  have e4 : Ex H (upd H3 x (.ins (He.ga K "Code") dx2 (cF cd.args Y.bl))) := Ex.mut (e2.trans e3) hx
  have hc4 := hc.ex e4
  refine q_sFldF (R := ListV (bs.map V.ref).length fun i v H' => ∃ b a, cd.blocks[i]? = some b ∧ v = .ref a ∧ BAt K H' a (turnB (Cm06.regIn gs) b)) (ef_comp (ev_blocks T hc4 (ev_var rfl)) (sq_of hc4.lst) (by rw [List.length_map, hc.len]; omega) (fun _ => rfl) fun i y H5 e5 hy => ?_) upd_same (fun _ _ => ev_var rfl) T.cls_Code T.noat_Code_blocks cF_len fun nv H5 e5 f5 => ?_
  · obtain ⟨ba, b, rfl, hb, _, hab⟩ := hc4.mem hy
    have hm := List.mem_of_getElem? hb
    exact EvF.weak (ef_call (dvs := []) (ea_cons (ev_var rfl) (ea_cons (ev_var rfl) ea_nil)) (spf_block (hab.ex e5) (ok.body b hm) (ok.last b hm) (e5 _ _ (e4 _ _ hp)) nd (hin b hm))) fun v H' ⟨a, h1, h2⟩ => ⟨b, a, hb, h1, h2⟩
  · obtain ⟨nbl, nws, rfl, hnbl, hnl, nblN, f5⟩ := f5.list
    rw [cF_put_blocks]
    have xn : ¬ New (upd H3 x (.ins (He.ga K "Code") dx2 (cF cd.args Y.bl))) x := fun z => by
      have := upd_same (H := H3) (a := x) (o := .ins (He.ga K "Code") dx2 (cF cd.args Y.bl))
      rw [show upd H3 x (.ins (He.ga K "Code") dx2 (cF cd.args Y.bl)) x = none from z] at this
      cases this
    have f6 := f5.upd (p := x) (o := .ins (He.ga K "Code") dx2 (cF cd.args nbl)) xn
    refine s_ret (ev_var rfl) fun H6 e6 => ?_
    have f7 := (f6.ex e6).here
    have pick : ∀ i, i < nws.length → ∃ a, nws[i]? = some (.ref a) := fun i hi => by
      obtain ⟨b, a, _, h2, _⟩ := f7.2 i _ (List.getElem?_eq_getElem hi)
      exact ⟨a, by rw [List.getElem?_eq_getElem hi, h2]⟩
    have refs : ∃ nbs : List Addr, nws = nbs.map V.ref := by
      refine ⟨nws.map fun v => match v with | .ref a => a | _ => x, ?_⟩
      rw [List.map_map]
      refine List.ext_getElem? fun i => ?_
      rw [List.getElem?_map]
      by_cases hi : i < nws.length
      · obtain ⟨a, ha⟩ := pick i hi
        rw [ha]
        rfl
      · rw [List.getElem?_eq_none (by omega)]
        rfl
    obtain ⟨nbs, rfl⟩ := refs
    have ln : nbs.length = cd.blocks.length := by rw [List.length_map, List.length_map, hc.len] at hnl; exact hnl
    refine k x nbl nbs H6 ((Ex.mut (e4.trans e5) hx).trans e6) ⟨⟨dx2, e6 _ _ upd_same⟩, f7.1, ?_, fun i b' hb' => ?_⟩
    · rw [ln]
      exact (List.length_map ..).symm
    · have hb' : (cd.blocks.map (turnB (Cm06.regIn gs)))[i]? = some b' := hb'
      rw [List.getElem?_map] at hb'
      cases hq : cd.blocks[i]? with
      | none => rw [hq] at hb'; cases hb'
      | some b0 =>
        rw [hq] at hb'
        cases hb'
        have hi : i < (nbs.map V.ref).length := by rw [List.length_map, ln]; exact (List.getElem?_eq_some_iff.mp hq).1
        obtain ⟨b1, a, q1, q2, q3⟩ := f7.2 i _ (List.getElem?_eq_getElem hi)
        rw [hq] at q1
        cases q1
        refine ⟨a, ?_, q3⟩
        have := List.getElem?_eq_getElem hi
        rw [q2, List.getElem?_map] at this
        cases z : nbs[i]? with
        | none => rw [z] at this; cases this
        | some y =>
          rw [z] at this
          cases this
          rfl
theorem D_code_in_slots (T : Tx K mg) : Df P w K mg base 4 (He.ga K "code_in_slots") ["code", "slots"] (sp_code_in_slots K) := ok_code_in_slots T (D_Code_init T) (D_block_in_slots T) (fun vs H Q E h => by obtain ⟨a, b, d, e, f, g, rfl, _⟩ := h; rfl) (pure_code_in_slots T)
end
/-! ### the program's registers are the specification's -/
theorem bfs_cover {c : CmBase.Code} (wh : Whole c) (f : Fair c) {i : Nat} (hi : i < c.blocks.length) : i ∈ bfs c none := (mem_bfs wh).mpr ⟨fun q => (by cases q), f.reached i hi⟩
theorem regs_reg {c : CmBase.Code} (wh : Whole c) (f : Fair c) {x i : Nat} (hx : GivenIn c x i) : Cm06.regIn (regs c) x = Cm06.regIn (Cm06.registers c) x := by
  rw [← reg_any wh f (bfs_ok wh) (fun i hi => bfs_cover wh f hi) hx]
  unfold regs
  rw [allEvs_eq wh, blocks_fold]
theorem regs_keys {c : CmBase.Code} (wh : Whole c) (f : Fair c) {x : Nat} : x ∈ keys (regs c) ↔ ∃ i, GivenIn c x i := by
  unfold regs
  rw [keys_fold, allEvs_eq wh]
  constructor
  · rintro (h | h)
    · cases h
    · obtain ⟨e, he, rfl⟩ := List.mem_map.mp h
      obtain ⟨j, hj, hm⟩ := List.mem_flatMap.mp he
      have jl := (bfs_bf wh none).lt j hj
      refine ⟨j, (mem_gives wh jl).mp ?_⟩
      rw [← blockEvs_fst]
      exact List.mem_map.mpr ⟨e, hm, rfl⟩
  · rintro ⟨i, hi⟩
    refine .inr ?_
    have := (mem_gives wh hi.1).mpr hi
    rw [← blockEvs_fst] at this
    obtain ⟨e, he, rfl⟩ := List.mem_map.mp this
    exact List.mem_map.mpr ⟨e, List.mem_flatMap.mpr ⟨i, bfs_cover wh f hi.1, he⟩, rfl⟩
theorem vals_given {c : CmBase.Code} (wh : Whole c) (f : Fair c) {b : CmBase.Block} (hb : b ∈ c.blocks) {x : Nat} (hx : x ∈ blkVals b) : ∃ i, GivenIn c x i := by
  obtain ⟨j, hj⟩ := List.mem_iff_getElem?.mp hb
  have jl := (List.getElem?_eq_some_iff.mp hj).1
  have e := blockAt_of hj
  have fromBy : ∀ {r : Nat}, Cm03.givenBy c (Cm01.without (Cm03.graphOf c) 0) j r x = true → ∃ i, GivenIn c x i := fun h => by
    rcases givenBy_true wh jl h with ⟨d, h1, _⟩ | h1
    · exact ⟨d, h1⟩
    · exact ⟨j, h1.given jl⟩
  unfold blkVals at hx
  rcases List.mem_append.mp hx with hx | hx
  · rcases List.mem_append.mp hx with hx | hx
    · exact ⟨j, jl, .inr (mem_givenIn.mpr (.inl (by rw [e]; exact hx)))⟩
    · obtain ⟨r, hr, hx⟩ := List.mem_flatMap.mp hx
      obtain ⟨s, hs⟩ := List.mem_iff_getElem?.mp hr
      rcases List.mem_append.mp hx with hx | hx
      · exact ⟨j, jl, .inr (mem_givenIn.mpr (.inr ⟨s, r, by rw [e]; exact hs, by simpa using hx⟩))⟩
      · exact fromBy (f.rows j jl s r (by rw [e]; exact hs) x hx)
  · exact fromBy (f.ends j jl x (by rw [e]; exact hx))
theorem turned_row {f g : Nat → Nat} {r : Row} (h : ∀ x ∈ rowVals r, f x = g x) : Cm06.Row.turned f r = Cm06.Row.turned g r := by
  cases r with
  | num x k => simp only [Cm06.Row.turned]; rw [h x (by simp [rowVals, Row.gives])]
  | copy x a => simp only [Cm06.Row.turned]; rw [h x (by simp [rowVals, Row.gives]), h a (by simp [rowVals, Row.uses])]
  | two x o a d => simp only [Cm06.Row.turned]; rw [h x (by simp [rowVals, Row.gives]), h a (by simp [rowVals, Row.uses]), h d (by simp [rowVals, Row.uses])]
  | say a => simp only [Cm06.Row.turned]; rw [h a (by simp [rowVals, Row.uses])]
theorem turned_end {f g : Nat → Nat} {e : CmBase.End} (h : ∀ x ∈ e.uses, f x = g x) : Cm06.End.turned f e = Cm06.End.turned g e := by
  cases e with
  | jump t as => simp only [Cm06.End.turned]; rw [List.map_congr_left (l := as) fun x hx => h x hx]
  | fork v t as u bs =>
    simp only [Cm06.End.turned]
    rw [h v (by simp [CmBase.End.uses]), List.map_congr_left (l := as) fun x hx => h x (show x ∈ v :: as ++ bs by simp [hx]), List.map_congr_left (l := bs) fun x hx => h x (show x ∈ v :: as ++ bs by simp [hx])]
  | give v => simp only [Cm06.End.turned]; rw [h v (by simp [CmBase.End.uses])]
theorem renamed_eq {c : CmBase.Code} (wh : Whole c) (f : Fair c) : Cm06.renamed c (Cm06.regIn (regs c)) = Cm06.inRegisters c := by
  show (⟨c.args, c.blocks.map (turnB (Cm06.regIn (regs c)))⟩ : CmBase.Code) = ⟨c.args, c.blocks.map (turnB (Cm06.regIn (Cm06.registers c)))⟩
  refine congrArg _ (List.map_congr_left fun b hb => ?_)
  have same : ∀ x ∈ blkVals b, Cm06.regIn (regs c) x = Cm06.regIn (Cm06.registers c) x := fun x hx => by
    obtain ⟨i, hi⟩ := vals_given wh f hb hx
    exact regs_reg wh f hi
  unfold turnB
  rw [List.map_congr_left fun x hx => same x (by simp [blkVals, hx]), List.map_congr_left (l := b.rows) fun r hr => turned_row fun x hx => same x (by simp only [blkVals, List.mem_append, List.mem_flatMap]; exact .inl (.inr ⟨r, hr, hx⟩)), turned_end fun x hx => same x (by simp [blkVals, hx])]
/-! ### registers are below 40 -/
theorem mem_takenEvs : ∀ {l live : List Nat} {e : Evt}, e ∈ takenEvs live l → ∃ pre suf, l = pre ++ e.1 :: suf ∧ e.2 = live ++ pre
  | [], _, _, h => by cases h
  | x :: l, live, e, h => by
    rcases List.mem_cons.mp h with h | h
    · subst h
      exact ⟨[], l, rfl, (List.append_nil _).symm⟩
    · obtain ⟨pre, suf, h1, h2⟩ := mem_takenEvs h
      exact ⟨x :: pre, suf, by rw [h1]; rfl, by rw [h2, List.append_assoc]; rfl⟩
theorem mem_rowEvs {c : CmBase.Code} {i : Nat} : ∀ {l : List Row} {r : Nat} {e : Evt}, e ∈ rowEvs c i r l → ∃ r', e.2 = Cm06.liveAt c (Cm06.lives c) i r'
  | [], _, _, h => by cases h
  | row :: l, r, e, h => by
    rw [rowEvs_cons] at h
    rcases List.mem_append.mp h with h | h
    · unfold rowEv at h
      cases hg : row.gives with
      | none => rw [hg] at h; cases h
      | some x =>
        rw [hg] at h
        have : e = (x, Cm06.liveAt c (Cm06.lives c) i (r + 1)) := by simpa using h
        exact ⟨r + 1, by rw [this]⟩
    · exact mem_rowEvs h
theorem live_nodup (c : CmBase.Code) (i r : Nat) : (Cm06.liveAt c (Cm06.lives c) i r).Nodup := by
  rw [liveAt_sorted]
  exact (List.nodup_range (n := 40)).filter _
theorem lives_nodup (c : CmBase.Code) (i : Nat) : ((Cm06.lives c).getD i []).Nodup := by
  have := rounds_sorted c c.blocks.length i
  rw [show (Cm06.lives c).getD i [] = (Cm06.liveRounds c c.blocks.length).getD i [] from rfl, this]
  exact (List.nodup_range (n := 40)).filter _
theorem reg_lt {c : CmBase.Code} (wh : Whole c) (f : Fair c) (ok : COk c) {x i : Nat} (hx : GivenIn c x i) : Cm06.regIn (Cm06.registers c) x < 40 := by
  have jl := hx.1
  have x40 : x < 40 := by
    rcases hx.2 with q | q
    · have := ok.args
      omega
    · have bok := ok.body _ (List.mem_of_getElem? (at_blockAt jl))
      rcases mem_givenIn.mp q with z | ⟨s, row, z1, z2⟩
      · exact bok.takes x z
      · exact (bok.rows row (List.mem_of_getElem? z1)).gives x z2
  have hm := (mem_gives wh jl).mpr hx
  rw [← blockEvs_fst] at hm
  obtain ⟨e, he, rfl⟩ := List.mem_map.mp hm
  rw [reg_eq wh f jl e he]
  have good : e.2.Nodup ∧ ∀ y ∈ e.2, y < 40 := by
    unfold blockEvs at he
    rcases List.mem_append.mp he with he | he
    · by_cases i0 : i = 0
      · rw [if_pos i0] at he
        obtain ⟨pre, suf, h1, h2⟩ := mem_takenEvs he
        rw [h2, List.nil_append]
        have nd := List.nodup_range (n := c.args)
        rw [h1] at nd
        refine ⟨(List.nodup_append.mp nd).1, fun y hy => ?_⟩
        have : y ∈ List.range c.args := by rw [h1]; exact List.mem_append_left _ hy
        have := List.mem_range.mp this
        have := ok.args
        omega
      · rw [if_neg i0] at he
        obtain ⟨pre, suf, h1, h2⟩ := mem_takenEvs he
        have tn : (Cm03.blockAt c i).takes.Nodup := by
          have := (given_nodup_parts wh f).1 i jl
          unfold gives at this
          rw [if_neg i0] at this
          exact (List.nodup_append.mp this).1
        have sub : ∀ y ∈ pre, y ∈ (Cm03.blockAt c i).takes := fun y hy => by rw [h1]; exact List.mem_append_left _ hy
        rw [h1] at tn
        rw [h2]
        refine ⟨List.nodup_append.mpr ⟨lives_nodup c i, (List.nodup_append.mp tn).1, fun a ha b hb z => ?_⟩, fun y hy => ?_⟩
        · subst z
          rw [lives_at jl] at ha
          have h3 := (List.mem_filter.mp ha).2
          have h4 := List.contains_iff_mem.mpr (sub a hb)
          rw [h4] at h3
          cases h3
        · rcases List.mem_append.mp hy with q | q
          · exact (getD_ok (lives_ok c) i).2 y q
          · exact (ok.body _ (List.mem_of_getElem? (at_blockAt jl))).takes y (sub y q)
    · obtain ⟨r', h1⟩ := mem_rowEvs he
      rw [h1]
      exact ⟨live_nodup c i r', (aheadAll_ok (names_ok _) _).2⟩
  have fl := free_le ((e.2.filter fun z => !(z == e.1)).map (Cm06.regIn (Cm06.registers c)))
  rw [List.length_map] at fl
  have nd : (e.1 :: e.2.filter fun z => !(z == e.1)).Nodup := List.nodup_cons.mpr ⟨fun q => by
    have := (List.mem_filter.mp q).2
    simp at this, good.1.filter _⟩
  have := List.Nodup.length_le_of_subset nd (l₂ := List.range 40) fun y hy => by
    rcases List.mem_cons.mp hy with q | q
    · exact List.mem_range.mpr (q ▸ x40)
    · exact List.mem_range.mpr (good.2 y (List.mem_filter.mp q).1)
  rw [List.length_range, List.length_cons] at this
  omega
/-! ### bounds of the code in registers -/
theorem inReg_blocks (c : CmBase.Code) : (Cm06.inRegisters c).blocks = c.blocks.map (turnB (Cm06.regIn (Cm06.registers c))) := rfl
theorem inReg_ok {c : CmBase.Code} (wh : Whole c) (f : Fair c) (ok : COk c) : COk (Cm06.inRegisters c) := by
  have r40 : ∀ b ∈ c.blocks, ∀ x ∈ blkVals b, Cm06.regIn (Cm06.registers c) x < 40 := fun b hb x hx => by
    obtain ⟨i, hi⟩ := vals_given wh f hb hx
    exact reg_lt wh f ok hi
  refine ⟨ok.args, by rw [inReg_blocks, List.length_map]; exact ok.len, fun b' hb' => ?_, fun b' hb' => ?_⟩
  · rw [inReg_blocks] at hb'
    obtain ⟨b, hb, rfl⟩ := List.mem_map.mp hb'
    have bok := ok.body b hb
    refine ⟨by show (b.takes.map _).length ≤ 8; rw [List.length_map]; exact bok.few, fun y hy => ?_, by show (b.rows.map _).length ≤ 12; rw [List.length_map]; exact bok.len, fun r' hr' => ?_⟩
    · obtain ⟨x, hx, rfl⟩ := List.mem_map.mp hy
      exact r40 b hb x (by simp [blkVals, hx])
    · obtain ⟨r, hr, rfl⟩ := List.mem_map.mp hr'
      have rv : ∀ x ∈ rowVals r, Cm06.regIn (Cm06.registers c) x < 40 := fun x hx => r40 b hb x (by simp only [blkVals, List.mem_append, List.mem_flatMap]; exact .inl (.inr ⟨r, hr, hx⟩))
      have rok := bok.rows r hr
      cases r with
      | copy x a => have := rok.plain; cases this
      | num x k =>
        refine ⟨rfl, fun y hy => ?_, fun y hy => (by cases hy), fun y k' hy => ?_⟩
        · cases hy
          exact rv x (by simp [rowVals, Row.gives])
        · have hy : Row.num (Cm06.regIn (Cm06.registers c) x) k = .num y k' := hy
          cases hy
          exact rok.word x k rfl
      | two x o a d =>
        refine ⟨rfl, fun y hy => ?_, fun y hy => ?_, fun y k' hy => (by cases hy)⟩
        · cases hy
          exact rv x (by simp [rowVals, Row.gives])
        · have hy : y ∈ [Cm06.regIn (Cm06.registers c) a, Cm06.regIn (Cm06.registers c) d] := hy
          rcases List.mem_cons.mp hy with q | q
          · rw [q]
            exact rv a (by simp [rowVals, Row.uses])
          · have : y = Cm06.regIn (Cm06.registers c) d := by simpa using q
            rw [this]
            exact rv d (by simp [rowVals, Row.uses])
      | say a =>
        refine ⟨rfl, fun y hy => (by cases hy), fun y hy => ?_, fun y k' hy => (by cases hy)⟩
        have : y = Cm06.regIn (Cm06.registers c) a := by simpa [Cm06.Row.turned, Row.uses] using hy
        rw [this]
        exact rv a (by simp [rowVals, Row.uses])
  · rw [inReg_blocks] at hb'
    obtain ⟨b, hb, rfl⟩ := List.mem_map.mp hb'
    have lok := ok.last b hb
    have ev : ∀ x ∈ b.last.uses, Cm06.regIn (Cm06.registers c) x < 40 := fun x hx => r40 b hb x (by simp [blkVals, hx])
    have uses_eq : (Cm06.End.turned (Cm06.regIn (Cm06.registers c)) b.last).uses = b.last.uses.map (Cm06.regIn (Cm06.registers c)) := by cases b.last <;> simp [Cm06.End.turned, CmBase.End.uses]
    have tg_eq : (Cm06.End.turned (Cm06.regIn (Cm06.registers c)) b.last).targets = b.last.targets := by cases b.last <;> rfl
    refine ⟨fun y hy => ?_, ?_, fun t ht => ?_⟩
    · have hy : y ∈ (Cm06.End.turned (Cm06.regIn (Cm06.registers c)) b.last).uses := hy
      rw [uses_eq] at hy
      obtain ⟨x, hx, rfl⟩ := List.mem_map.mp hy
      exact ev x hx
    · show (Cm06.End.turned (Cm06.regIn (Cm06.registers c)) b.last).uses.length ≤ 17
      rw [uses_eq, List.length_map]
      exact lok.few
    · have ht : t ∈ (Cm06.End.turned (Cm06.regIn (Cm06.registers c)) b.last).targets := ht
      rw [tg_eq] at ht
      exact lok.to t ht
theorem takes_reg (c : CmBase.Code) (t : Nat) : (takesOf (Cm06.inRegisters c) t).length = (takesOf c t).length := by
  unfold takesOf
  rw [inReg_blocks, List.getElem?_map]
  cases c.blocks[t]? with
  | none => rfl
  | some b => exact List.length_map ..
theorem inReg_fits {c : CmBase.Code} (h : Fits c) : Fits (Cm06.inRegisters c) := fun b' hb' wy hwy => by
  rw [inReg_blocks] at hb'
  obtain ⟨b, hb, rfl⟩ := List.mem_map.mp hb'
  have ww : ∃ wy0 ∈ waysOf b.last, wy.1 = wy0.1 ∧ wy.2.length = wy0.2.length := by
    have hwy : wy ∈ waysOf (Cm06.End.turned (Cm06.regIn (Cm06.registers c)) b.last) := hwy
    cases hl : b.last with
    | jump t as =>
      rw [hl] at hwy
      have : wy = (t, as.map (Cm06.regIn (Cm06.registers c))) := by simpa [Cm06.End.turned, waysOf] using hwy
      exact ⟨(t, as), by simp [waysOf], by rw [this], by rw [this]; exact List.length_map ..⟩
    | fork v t as u bs =>
      rw [hl] at hwy
      have : wy = (t, as.map (Cm06.regIn (Cm06.registers c))) ∨ wy = (u, bs.map (Cm06.regIn (Cm06.registers c))) := by simpa [Cm06.End.turned, waysOf] using hwy
      rcases this with q | q
      · exact ⟨(t, as), by simp [waysOf], by rw [q], by rw [q]; exact List.length_map ..⟩
      · exact ⟨(u, bs), by simp [waysOf], by rw [q], by rw [q]; exact List.length_map ..⟩
    | give v =>
      rw [hl] at hwy
      cases hwy
  obtain ⟨wy0, h0, h1, h2⟩ := ww
  have := h b hb wy0 h0
  rw [h1, h2, takes_reg, inReg_blocks, List.length_map]
  exact this
end VS
/-! The calls that ask (asking.py). -/
namespace VS
open PySem L2 Evl CmBase
section
variable {P : Program} {w : World} {K : PySem.W.Frag} {mg : Str → Option Value} {base : Heap} {H H0 H' H1 : Hp} {σ : L2.St} {c a bl l p : Addr} {cd : CmBase.Code} {b : CmBase.Block} {bs : List Addr} {xs ys : List V} {ta tb tl ti te : TE} {t : TT} {v : V} {D : Ends} {tz tu tw : TS} {Hb : Hp} {gs : Cm06.Given} {s : Cm03.St} {Y : Lay}
abbrev iV (zs : List Int) : List V := zs.map V.int
theorem iV_ints (l : List Nat) : iV (Cm03.ints l) = natsV l := (natsV_ints l).symm
/-! ### refusal_of_all -/
def sp_refusal_of_all (K : PySem.W.Frag) : Sp := fun vs H Q _ => ∃ (c : Addr) (s : Cm03.St) (Y : Lay), vs = [.ref c] ∧ CodeAt K H c s Y ∧ StOk s ∧ RetV (.int (Cm03.notReady s)) H Q
theorem whole_of (h : (s.opened.isNone && Cm03.isWhole s.code) = true) : s.opened = none ∧ Whole s.code := by
  have := Bool.and_eq_true_iff.mp h
  exact ⟨Option.isNone_iff_eq_none.mp this.1, whole_iff.mp this.2⟩
theorem pure_refusal_of_all (vs : List V) (H : Hp) (Q : VK) (E : XK) (h : sp_refusal_of_all K vs H Q E) : t_refusal_of_all K (sp_is_fair K) (sp_is_whole K) { nx := fun _ H' => Q .non H', rt := Q } (start N_refusal_of_all vs) H := by
  obtain ⟨c, s, Y, rfl, hc, ok, k⟩ := h
  refine q_when (et_not (et_B (ev_call (dvs := []) (ea_cons (ev_var rfl) ea_nil) (spv_is_whole hc ok)))) (fun hb H1 e1 => ?_) (fun hb H1 e1 => ?_)
  · have hb : (s.opened.isNone && Cm03.isWhole s.code) = false := (Bool.not_eq_true' _).mp hb
    refine s_ret ev_c fun H2 e2 => ?_
    have := k H2 (e1.trans e2)
    unfold Cm03.notReady at this
    rw [if_pos hb] at this
    exact this
  · have hb : (s.opened.isNone && Cm03.isWhole s.code) = true := (Bool.not_eq_false' _).mp hb
    obtain ⟨hn, wh⟩ := whole_of hb
    refine q_when (et_not (et_B (ev_call (dvs := []) (ea_cons (ev_var rfl) ea_nil) (spv_is_fair ((hc.ex e1).cat hn) ok.cok wh)))) (fun hf H2 e2 => ?_) (fun hf H2 e2 => ?_)
    · have hf : Cm03.isFair s.code = false := by simpa using hf
      refine s_ret ev_c fun H3 e3 => ?_
      have := k H3 ((e1.trans e2).trans e3)
      unfold Cm03.notReady at this
      rw [if_neg (by rw [hb]; simp), if_pos hf] at this
      exact this
    · have hf : Cm03.isFair s.code = true := by simpa using hf
      refine s_ret ev_c fun H3 e3 => ?_
      have := k H3 ((e1.trans e2).trans e3)
      unfold Cm03.notReady at this
      rw [if_neg (by rw [hb]; simp), if_neg (by rw [hf]; simp)] at this
      exact this
/-! ### ask_run -/
def ranI (cd : CmBase.Code) (n : Nat) (l : List Nat) : List Int := if 500 < n then [-1] else if l.length ≠ cd.args then [-5] else Cm03.ints (ranNums (CmBase.run cd n l))
def sp_ask_run (K : PySem.W.Frag) : Sp := fun vs H Q _ => ∃ (c : Addr) (cd : CmBase.Code) (bl : Addr) (bs : List Addr) (n : Nat) (wl : Addr) (l : List Nat), vs = [.ref c, .int (n : Int), .ref wl] ∧ CAt K H c cd bl bs ∧ COk cd ∧ Fits cd ∧ 1 ≤ cd.blocks.length ∧ H wl = some (.lst (natsV l)) ∧ Words l ∧ RetL (iV (ranI cd n l)) H Q
theorem RetL.to {zs : List V} {Q : VK} (k : RetL xs H Q) (e : xs = zs) : RetL zs H Q := e ▸ k
theorem el_one {i : Int} : EvL (tLst (tCons (tC (.int i)) tNil)) σ H (iV [i]) := el_lst (ea_cons ev_c ea_nil) (show 1 ≤ 100000 by decide)
theorem pure_ask_run (T : Tx K mg) (vs : List V) (H : Hp) (Q : VK) (E : XK) (h : sp_ask_run K vs H Q E) : t_ask_run K (sp_run K) { nx := fun _ H' => Q .non H', rt := Q } (start N_ask_run vs) H := by
  obtain ⟨c, cd, bl, bs, n, wl, l, rfl, hc, ok, fit, one, hwl, hw, k⟩ := h
  unfold ranI at k
  refine q_when (b := decide ((500 : Int) < (n : Int))) (et_test (ev_op (ev_var rfl) ev_c rv_I0)) (fun hb H1 e1 => ?_) (fun hb H1 e1 => ?_)
  · have hb := of_decide_eq_true hb
    rw [if_pos (by omega)] at k
    exact s_retL el_one fun p H2 hn e2 hp => k p H2 (fresh_back e1 hn) (e1.trans e2) hp
  · have hb := of_decide_eq_false hb
    rw [if_neg (by omega)] at k
    have lenE : Ev (tCB (rLenS K) (tCons (tVar 2) tNil)) [some (.ref c), some (.int (n : Int)), some (.ref wl)] H1 (.int (l.length : Int)) := by
      have := ev_len (K := K) (ev_var (σ := [some (.ref c), some (.int (n : Int)), some (.ref wl)]) (H := H1) (i := 2) rfl) (sq_of (e1 _ _ hwl))
      rwa [natsV_length] at this
    refine q_when (et_test (ev_op lenE (ev_words T (hc.ex e1) (ev_var rfl)) rv_neI)) (fun hb2 H2 e2 => ?_) (fun hb2 H2 e2 => ?_)
    · have hb2 : l.length ≠ cd.args := by
        have := hb2
        simp at this
        omega
      rw [if_pos hb2] at k
      exact s_retL el_one fun p H3 hn e3 hp => k p H3 (fresh_back (e1.trans e2) hn) ((e1.trans e2).trans e3) hp
    · have hb2 : l.length = cd.args := by
        have := hb2
        simp at this
        omega
      rw [if_neg (by simpa using hb2)] at k
      have a6 := ok.args
      exact s_retL (el_call (dvs := []) (ea_cons (ev_var rfl) (ea_cons (ev_var rfl) (ea_cons (ev_var rfl) ea_nil))) (spl_run (hc.ex (e1.trans e2)) ok fit one (by omega) ((e1.trans e2) _ _ hwl) (by omega) hw)) fun p H3 hn e3 hp => k p H3 (fresh_back (e1.trans e2) hn) ((e1.trans e2).trans e3) (by rw [iV_ints]; exact hp)
/-! ### is_place -/
def isP (cd : CmBase.Code) (b r : Nat) : Bool := decide (b < cd.blocks.length) && decide (r ≤ (Cm03.blockAt cd b).rows.length)
def sp_is_place (K : PySem.W.Frag) : Sp := fun vs H Q _ => ∃ (c : Addr) (cd : CmBase.Code) (bl : Addr) (bs : List Addr) (b r : Nat), vs = [.ref c, .int (b : Int), .int (r : Int)] ∧ CAt K H c cd bl bs ∧ RetV (.bl (isP cd b r)) H Q
theorem rows_len {ws : List V} {rs : List Row} (h : RowsAt H ws rs) : ws.length = rs.length := h.1
theorem pure_is_place (T : Tx K mg) (vs : List V) (H : Hp) (Q : VK) (E : XK) (h : sp_is_place K vs H Q E) : t_is_place K { nx := fun _ H' => Q .non H', rt := Q } (start N_is_place vs) H := by
  obtain ⟨c, cd, bl, bs, b, r, rfl, hc, k⟩ := h
  have e1 : decide ((b : Int) < (cd.blocks.length : Int)) = decide (b < cd.blocks.length) := decide_eq_decide.mpr (by omega)
  refine s_ret (v := .bl (isP cd b r)) (ev_andV ?_ fun hb => ?_) fun H1 e => k H1 e
  · rw [← e1]
    exact ev_op (ev_var rfl) (ev_many T hc (ev_var rfl)) rv_I0
  · have hb := of_decide_eq_true hb
    obtain ⟨ba, hba, hab⟩ := hc.blk b _ (at_blockAt hb)
    obtain ⟨rl, ws, h1, h2, h3⟩ := hab.rows T
    have e2 : decide ((r : Int) ≤ (ws.length : Int)) = decide (r ≤ (Cm03.blockAt cd b).rows.length) := decide_eq_decide.mpr (by rw [rows_len h2]; omega)
    rw [← e2]
    exact ev_op (ev_var rfl) (ev_len (h3 (Ex.refl H) (ev_block T hc (ev_var rfl) (ev_var rfl) hba)) (sq_of h1)) rv_I0
theorem spv_is_place (hc : CAt K H c cd bl bs) (b r : Nat) : SpV (sp_is_place K) [.ref c, .int (b : Int), .int (r : Int)] H (.bl (isP cd b r)) := fun H1 e Q k E => ⟨c, cd, bl, bs, b, r, rfl, hc.ex e, k⟩
theorem isP_false {i r : Nat} : isP cd i r = false ↔ (cd.blocks.length ≤ i ∨ (Cm03.blockAt cd i).rows.length < r) := by
  unfold isP
  simp
  omega
/-! ### ask_lives, ask_there -/
def livesI (cd : CmBase.Code) (i r : Nat) : List Int := if cd.blocks.length ≤ i ∨ (Cm03.blockAt cd i).rows.length < r then [-2] else Cm03.ints (counted (Cm06.liveAt cd (Cm06.lives cd) i r))
def thereI (cd : CmBase.Code) (i r : Nat) : List Int := if cd.blocks.length ≤ i ∨ (Cm03.blockAt cd i).rows.length < r then [-2] else Cm03.ints (counted (Cm06.thereAt cd (Cm06.lives cd) i r))
def SpQ (f : CmBase.Code → Nat → Nat → List Int) (K : PySem.W.Frag) : Sp := fun vs H Q _ => ∃ (c : Addr) (cd : CmBase.Code) (bl : Addr) (bs : List Addr) (b r : Nat), vs = [.ref c, .int (b : Int), .int (r : Int)] ∧ CAt K H c cd bl bs ∧ COk cd ∧ Whole cd ∧ RetL (iV (f cd b r)) H Q
def sp_ask_lives (K : PySem.W.Frag) : Sp := SpQ livesI K
def sp_ask_there (K : PySem.W.Frag) : Sp := SpQ thereI K
theorem ep_ix2 {lss : List (List (List Nat))} {i r : Nat} {l : List Nat} {tj : TE} (hi : i < lss.length) (hr : r < (lss.getD i []).length) (hl : (lss.getD i []).getD r [] = l) (h : EvP ta σ H (LssV lss)) (h1 : ∀ H', Ex H H' → Ev ti σ H' (.int (i : Int))) (h2 : ∀ H', Ex H H' → Ev tj σ H' (.int (r : Int))) : EvP (tOp (rIxL K) (tOp (rIxL K) ta ti) tj) σ H (NumsV l) := fun H1 e Q q =>
  h H1 e _ fun v H2 e2 hv => h1 H2 (e.trans e2) H2 (Ex.refl H2) _ fun H3 e3 => by
    obtain ⟨p, ws, rfl, a1, a2, a3⟩ := lss_mono lss v H2 H3 e3 hv
    have hi' : i < ws.length := by omega
    have b1 := a3 i _ (List.getElem?_eq_getElem hi')
    refine rv_ixL (sq_of a1) (at_nat (List.getElem?_eq_getElem hi')) H3 (Ex.refl H3) _ fun H4 e4 => ?_
    refine h2 H4 (((e.trans e2).trans e3).trans e4) H4 (Ex.refl H4) _ fun H5 e5 => ?_
    obtain ⟨p2, ws2, b0, b2, b3, b4⟩ := ls_mono _ _ H3 H5 (e4.trans e5) b1
    have hr' : r < ws2.length := by omega
    have d1 := b4 r _ (List.getElem?_eq_getElem hr')
    rw [b0]
    refine rv_ixL (sq_of b2) (at_nat (List.getElem?_eq_getElem hr')) H5 (Ex.refl H5) _ fun H6 e6 => ?_
    have d1 : NumsV ((lss.getD i []).getD r []) _ H5 := d1
    rw [hl] at d1
    obtain ⟨a, d2, d3⟩ := d1
    exact q _ H6 ((((e2.trans e3).trans e4).trans e5).trans e6) ⟨a, d2, e6 _ _ d3⟩
theorem el_counted {l : List Nat} (h : EvP te σ H (NumsV l)) (hz : l.length ≤ 50000) : EvL (tCall (sp_counted K) [] E0 (tCons te tNil)) σ H (natsV (counted l)) :=
  el_callP (ap_cons (fun v H1 H2 e ⟨a, h1, h2⟩ => ⟨a, h1, e _ _ h2⟩) h ap_nil) fun vs H1 e hP => by
    obtain ⟨w, l', rfl, ⟨a, rfl, ha⟩, rfl⟩ := hP
    exact spl_countedL (sq_of ha) hz
theorem len40 {l : List Nat} (h : l.Sublist (List.range 40)) : l.length ≤ 50000 := by
  have := h.length_le
  rw [List.length_range] at this
  omega
theorem RetL.pre {Q : VK} (k : RetL xs H Q) (e : Ex H H') : RetL xs H' Q := fun p H2 hn e2 h => k p H2 (fresh_back e hn) (e.trans e2) h
theorem live_len (cd : CmBase.Code) (i r : Nat) : (Cm06.liveAt cd (Cm06.lives cd) i r).length ≤ 50000 := by
  rw [liveAt_sorted]
  exact len40 (List.filter_sublist ..)
theorem there_len2 (cd : CmBase.Code) (i r : Nat) : (Cm06.thereAt cd (Cm06.lives cd) i r).length ≤ 50000 := by
  rw [thereAt_sorted]
  exact len40 (List.filter_sublist ..)
theorem pure_ask_lives (vs : List V) (H : Hp) (Q : VK) (E : XK) (h : sp_ask_lives K vs H Q E) : t_ask_lives K (sp_counted K) (sp_is_place K) (sp_live_in_code K) { nx := fun _ H' => Q .non H', rt := Q } (start N_ask_lives vs) H := by
  obtain ⟨c, cd, bl, bs, i, r, rfl, hc, ok, wh, k⟩ := h
  unfold livesI at k
  refine q_when (et_not (et_B (ev_call (dvs := []) (ea_cons (ev_var rfl) (ea_cons (ev_var rfl) (ea_cons (ev_var rfl) ea_nil))) (spv_is_place hc i r)))) (fun hb H1 e1 => ?_) (fun hb H1 e1 => ?_)
  · rw [if_pos (isP_false.mp ((Bool.not_eq_true' _).mp hb))] at k
    exact s_retL el_one fun p H2 hn e2 hp => k p H2 (fresh_back e1 hn) (e1.trans e2) hp
  · have hb : ¬ (cd.blocks.length ≤ i ∨ (Cm03.blockAt cd i).rows.length < r) := fun q => by
      rw [isP_false.mpr q] at hb
      cases hb
    rw [if_neg hb, iV_ints] at k
    have hi : i < cd.blocks.length := by omega
    have hr : r ≤ (Cm03.blockAt cd i).rows.length := by omega
    refine s_retL (el_counted (ep_ix2 (i := i) (r := r) (l := Cm06.liveAt cd (Cm06.lives cd) i r) (lss := liveC cd) (by unfold liveC; rw [List.length_map]; exact hi) (by rw [liveC_at (at_blockAt hi), places_len]; omega) (by rw [liveC_at (at_blockAt hi), places_at hr]; rfl) (EvF.p (ef_call (dvs := []) (ea_cons (ev_var rfl) ea_nil) (spf_live_in_code (hc.ex e1) ok wh))) (fun _ _ => ev_var rfl) (fun _ _ => ev_var rfl)) (live_len cd i r)) fun p H2 hn e2 hp => k p H2 (fresh_back e1 hn) (e1.trans e2) hp
theorem pure_ask_there (vs : List V) (H : Hp) (Q : VK) (E : XK) (h : sp_ask_there K vs H Q E) : t_ask_there K (sp_counted K) (sp_is_place K) (sp_there_in_code K) { nx := fun _ H' => Q .non H', rt := Q } (start N_ask_there vs) H := by
  obtain ⟨c, cd, bl, bs, i, r, rfl, hc, ok, wh, k⟩ := h
  unfold thereI at k
  refine q_when (et_not (et_B (ev_call (dvs := []) (ea_cons (ev_var rfl) (ea_cons (ev_var rfl) (ea_cons (ev_var rfl) ea_nil))) (spv_is_place hc i r)))) (fun hb H1 e1 => ?_) (fun hb H1 e1 => ?_)
  · rw [if_pos (isP_false.mp ((Bool.not_eq_true' _).mp hb))] at k
    exact s_retL el_one fun p H2 hn e2 hp => k p H2 (fresh_back e1 hn) (e1.trans e2) hp
  · have hb : ¬ (cd.blocks.length ≤ i ∨ (Cm03.blockAt cd i).rows.length < r) := fun q => by
      rw [isP_false.mpr q] at hb
      cases hb
    rw [if_neg hb, iV_ints] at k
    have hi : i < cd.blocks.length := by omega
    have hr : r ≤ (Cm03.blockAt cd i).rows.length := by omega
    refine s_retL (el_counted (ep_ix2 (i := i) (r := r) (l := Cm06.thereAt cd (Cm06.lives cd) i r) (lss := thereC cd) (by unfold thereC; rw [List.length_map, List.length_range]; exact hi) (by rw [thereC_at hi, List.length_map, List.length_range]; omega) (thereC_pt hi hr) (ep_call (dvs := []) (ea_cons (ev_var rfl) ea_nil) (spp_there_in_code (hc.ex e1) ok wh)) (fun _ _ => ev_var rfl) (fun _ _ => ev_var rfl)) (there_len2 cd i r)) fun p H2 hn e2 hp => k p H2 (fresh_back e1 hn) (e1.trans e2) hp
/-! ### ask_together, ask_most -/
def togI (cd : CmBase.Code) (x y : Nat) : List Int := if (Cm03.given cd).contains x && (Cm03.given cd).contains y then Cm03.ints [(Cm06.together cd (Cm06.lives cd) x y).toNat] else [-2]
def sp_ask_together (K : PySem.W.Frag) : Sp := SpQ togI K
theorem pure_ask_together (vs : List V) (H : Hp) (Q : VK) (E : XK) (h : sp_ask_together K vs H Q E) : t_ask_together K (sp_are_together K) (sp_given_in_code K) { nx := fun _ H' => Q .non H', rt := Q } (start N_ask_together vs) H := by
  obtain ⟨c, cd, bl, bs, x, y, rfl, hc, ok, wh, k⟩ := h
  unfold togI at k
  refine q_asgL (el_call (dvs := []) (ea_cons (ev_var rfl) ea_nil) (spl_given_in_code hc ok)) fun g H1 hn1 e1 hg => ?_
  refine q_when (et_or (et_test (ev_op (ev_var rfl) (ev_var rfl) (rv_niN (sq_of hg)))) fun _ => et_test (ev_op (ev_var rfl) (ev_var rfl) (rv_niN (sq_of hg)))) (fun hb H2 e2 => ?_) (fun hb H2 e2 => ?_)
  · have hb : ((Cm03.given cd).contains x && (Cm03.given cd).contains y) = false := by
      rw [← Bool.not_and] at hb
      exact (Bool.not_eq_true' _).mp hb
    rw [if_neg (by rw [hb]; simp)] at k
    exact s_retL el_one fun p H3 hn e3 hp => k p H3 (fresh_back (e1.trans e2) hn) ((e1.trans e2).trans e3) hp
  · have hb : ((Cm03.given cd).contains x && (Cm03.given cd).contains y) = true := by
      rw [← Bool.not_and] at hb
      exact (Bool.not_eq_false' _).mp hb
    rw [if_pos hb, iV_ints] at k
    refine s_retL (xs := natsV [(Cm06.together cd (Cm06.lives cd) x y).toNat]) (el_lst (ea_cons (ev_if (et_B (ev_call (dvs := []) (ea_cons (ev_var rfl) (ea_cons (ev_var rfl) (ea_cons (ev_var rfl) ea_nil))) (spv_are_together (hc.ex (e1.trans e2)) ok wh x y))) (fun q => ?_) (fun q => ?_)) ea_nil) (show 1 ≤ 100000 by decide)) fun p H3 hn e3 hp => k p H3 (fresh_back (e1.trans e2) hn) ((e1.trans e2).trans e3) hp
    · rw [q]; exact ev_c
    · rw [q]; exact ev_c
def mostI (cd : CmBase.Code) : List Int := Cm03.ints [Cm06.most cd (Cm06.lives cd), (Cm06.fullest cd (Cm06.lives cd)).1, (Cm06.fullest cd (Cm06.lives cd)).2]
def sp_ask_most (K : PySem.W.Frag) : Sp := fun vs H Q _ => ∃ (c : Addr) (cd : CmBase.Code) (bl : Addr) (bs : List Addr), vs = [.ref c] ∧ CAt K H c cd bl bs ∧ COk cd ∧ Whole cd ∧ RetL (iV (mostI cd)) H Q
theorem pure_ask_most (vs : List V) (H : Hp) (Q : VK) (E : XK) (h : sp_ask_most K vs H Q E) : t_ask_most K (sp_most_there K) { nx := fun _ H' => Q .non H', rt := Q } (start N_ask_most vs) H := by
  obtain ⟨c, cd, bl, bs, rfl, hc, ok, wh, k⟩ := h
  unfold mostI at k
  rw [iV_ints] at k
  exact s_retL (el_call (dvs := []) (ea_cons (ev_var rfl) ea_nil) (spl_most hc ok wh)) k
/-! ### in_registers, ask_in_registers, ask_run_in_registers -/
def sp_in_registers (K : PySem.W.Frag) : Sp := fun vs H Q _ => ∃ (c : Addr) (cd : CmBase.Code) (bl : Addr) (bs : List Addr), vs = [.ref c] ∧ CAt K H c cd bl bs ∧ COk cd ∧ Whole cd ∧ Fair cd ∧ ∀ x bl' bs' H2, Ex H H2 → CAt K H2 x (Cm06.inRegisters cd) bl' bs' → Q (.ref x) H2
theorem pure_in_registers (vs : List V) (H : Hp) (Q : VK) (E : XK) (h : sp_in_registers K vs H Q E) : t_in_registers K (sp_code_in_slots K) (sp_value_slots K) { nx := fun _ H' => Q .non H', rt := Q } (start N_in_registers vs) H := by
  obtain ⟨c, cd, bl, bs, rfl, hc, ok, wh, f, k⟩ := h
  refine s_retP (P := fun v H' => ∃ x bl' bs', v = .ref x ∧ CAt K H' x (Cm06.inRegisters cd) bl' bs') (ep_callP (ap_cons (P := fun v _ => v = .ref c) (fun v _ _ _ h => h) (Ev.p (ev_var rfl)) (ap_cons (P := fun v H' => ∃ p, v = .ref p ∧ Ex H H' ∧ H' p = some (.dK (kvs (regs cd))) ∧ (keys (regs cd)).Nodup) (fun v H1 H2 e ⟨p, h1, h2, h3, h4⟩ => ⟨p, h1, h2.trans e, e _ _ h3, h4⟩) (ep_call (dvs := []) (ea_cons (ev_var rfl) ea_nil) ?_) ap_nil)) fun vs H1 e1 hP => ?_) ?_
  · exact fun H1 e1 Q q E => ⟨c, cd, bl, bs, rfl, hc.ex e1, ok, wh, f, fun p H2 sl => q _ H2 sl.ex ⟨p, rfl, e1.trans sl.ex, sl.at_, sl.nd⟩⟩
  · obtain ⟨w, l, rfl, rfl, w2, l2, rfl, ⟨p, rfl, h2, h3, h4⟩, rfl⟩ := hP
    exact fun H2 e2 Q q E => ⟨c, p, cd, bl, bs, regs cd, rfl, hc.ex (e1.trans e2), ok, e2 _ _ h3, h4, fun b hb x hx => (regs_keys wh f).mpr (vals_given wh f hb hx), fun x bl' bs' H3 e3 h => q _ H3 e3 ⟨x, bl', bs', rfl, by rw [← renamed_eq wh f]; exact h⟩⟩
  · rintro v H1 e1 ⟨x, bl', bs', rfl, h⟩
    exact k x bl' bs' H1 e1 h
theorem ep_inReg (hc : CAt K H c cd bl bs) (ok : COk cd) (wh : Whole cd) (f : Fair cd) (ha : Ev ta σ H (.ref c)) : EvP (tCall (sp_in_registers K) [] E0 (tCons ta tNil)) σ H fun v H' => ∃ x bl' bs', v = .ref x ∧ CAt K H' x (Cm06.inRegisters cd) bl' bs' :=
  ep_call (dvs := []) (ea_cons ha ea_nil) fun H1 e1 Q q E => ⟨c, cd, bl, bs, rfl, hc.ex e1, ok, wh, f, fun x bl' bs' H2 e2 h => q _ H2 e2 ⟨x, bl', bs', rfl, h⟩⟩
theorem inReg_mono : ∀ (v : V) (H1 H2 : Hp), Ex H1 H2 → (∃ x bl' bs', v = .ref x ∧ CAt K H1 x cd bl' bs') → ∃ x bl' bs', v = .ref x ∧ CAt K H2 x cd bl' bs' := fun v H1 H2 e ⟨x, bl', bs', h1, h2⟩ => ⟨x, bl', bs', h1, h2.ex e⟩
def sp_ask_in_registers (K : PySem.W.Frag) : Sp := fun vs H Q _ => ∃ (c : Addr) (cd : CmBase.Code) (bl : Addr) (bs : List Addr), vs = [.ref c] ∧ CAt K H c cd bl bs ∧ COk cd ∧ Whole cd ∧ Fair cd ∧ RetL (iV (Cm03.ints (Cm06.inRegisters cd).nums)) H Q
theorem pure_ask_in_registers (vs : List V) (H : Hp) (Q : VK) (E : XK) (h : sp_ask_in_registers K vs H Q E) : t_ask_in_registers K (sp_code_in_numbers K) (sp_in_registers K) { nx := fun _ H' => Q .non H', rt := Q } (start N_ask_in_registers vs) H := by
  obtain ⟨c, cd, bl, bs, rfl, hc, ok, wh, f, k⟩ := h
  rw [iV_ints] at k
  refine s_retL (el_callP (ap_cons inReg_mono (ep_inReg hc ok wh f (ev_var rfl)) ap_nil) fun vs H1 e1 hP => ?_) k
  obtain ⟨w, l, rfl, ⟨x, bl', bs', rfl, h⟩, rfl⟩ := hP
  exact spl_code_in_numbers h (inReg_ok wh f ok)
def sp_ask_run_in_registers (K : PySem.W.Frag) : Sp := fun vs H Q _ => ∃ (c : Addr) (cd : CmBase.Code) (bl : Addr) (bs : List Addr) (n : Nat) (wl : Addr) (l : List Nat), vs = [.ref c, .int (n : Int), .ref wl] ∧ CAt K H c cd bl bs ∧ COk cd ∧ Whole cd ∧ Fair cd ∧ H wl = some (.lst (natsV l)) ∧ Words l ∧ RetL (iV (ranI (Cm06.inRegisters cd) n l)) H Q
theorem pure_ask_run_in_registers (vs : List V) (H : Hp) (Q : VK) (E : XK) (h : sp_ask_run_in_registers K vs H Q E) : t_ask_run_in_registers K (sp_ask_run K) (sp_in_registers K) { nx := fun _ H' => Q .non H', rt := Q } (start N_ask_run_in_registers vs) H := by
  obtain ⟨c, cd, bl, bs, n, wl, l, rfl, hc, ok, wh, f, hwl, hw, k⟩ := h
  refine s_retL (el_callP (ap_cons inReg_mono (ep_inReg hc ok wh f (ev_var rfl)) (VS.EvA.p (ea_cons (ev_var rfl) (ea_cons (ev_var rfl) ea_nil)))) fun vs H1 e1 hP => ?_) k
  obtain ⟨w, l', rfl, ⟨x, bl', bs', rfl, h⟩, rfl⟩ := hP
  exact fun H2 e2 Q q E => ⟨x, _, bl', bs', n, wl, l, rfl, h.ex e2, inReg_ok wh f ok, inReg_fits (wh.fits ok), by rw [inReg_blocks, List.length_map]; exact wh.one, e2 _ _ (e1 _ _ hwl), hw, q⟩
/-! ### ask_registers -/
def regI (cd : CmBase.Code) : List Int := Cm03.ints ((Cm03.values cd).length :: (Cm03.values cd).flatMap fun x => [x, Cm06.regIn (Cm06.registers cd) x])
def sp_ask_registers (K : PySem.W.Frag) : Sp := fun vs H Q _ => ∃ (c : Addr) (cd : CmBase.Code) (bl : Addr) (bs : List Addr), vs = [.ref c] ∧ CAt K H c cd bl bs ∧ COk cd ∧ Whole cd ∧ Fair cd ∧ RetL (iV (regI cd)) H Q
theorem given_lt (ok : COk cd) {x : Nat} (hx : x ∈ Cm03.given cd) : x < 40 := by
  unfold Cm03.given at hx
  rcases List.mem_append.mp hx with h | h
  · have := List.mem_range.mp h
    have := ok.args
    omega
  · obtain ⟨b, hb, h⟩ := List.mem_flatMap.mp h
    have bo := ok.body b hb
    unfold Cm03.givenIn at h
    rcases List.mem_append.mp h with h | h
    · exact bo.takes x h
    · obtain ⟨r, hr, h⟩ := List.mem_filterMap.mp h
      exact (bo.rows r hr).gives x h
theorem mem_given (wh : Whole cd) {x : Nat} : x ∈ Cm03.given cd ↔ ∃ i, GivenIn cd x i := by
  unfold Cm03.given GivenIn
  rw [List.mem_append, List.mem_range, List.mem_flatMap]
  constructor
  · rintro (h | ⟨b, hb, h⟩)
    · exact ⟨0, wh.one, .inl ⟨rfl, h⟩⟩
    · obtain ⟨i, hi⟩ := List.mem_iff_getElem?.mp hb
      exact ⟨i, (List.getElem?_eq_some_iff.mp hi).1, .inr (by rw [blockAt_of hi]; exact h)⟩
  · rintro ⟨i, hi, ⟨_, h⟩ | h⟩
    · exact .inl h
    · exact .inr ⟨_, List.mem_of_getElem? (at_blockAt hi), h⟩
theorem mem_values {x : Nat} : x ∈ Cm03.values cd ↔ x < 40 ∧ x ∈ Cm03.given cd := by
  unfold Cm03.values Cm03.names
  rw [List.mem_filter, List.mem_range]
  simp
theorem values_nodup (cd : CmBase.Code) : (Cm03.values cd).Nodup := (List.nodup_range (n := 40)).filter _
theorem mem_keys (wh : Whole cd) (f : Fair cd) (ok : COk cd) {x : Nat} : x ∈ keys (regs cd) ↔ x ∈ Cm03.values cd := by
  rw [regs_keys wh f, mem_values, ← mem_given wh]
  exact ⟨fun h => ⟨given_lt ok h, h⟩, fun h => h.2⟩
theorem keys_perm (wh : Whole cd) (f : Fair cd) (ok : COk cd) (nd : (keys (regs cd)).Nodup) : (keys (regs cd)).Perm (Cm03.values cd) := (List.perm_ext_iff_of_nodup nd (values_nodup cd)).mpr fun x => mem_keys wh f ok
theorem values_len (cd : CmBase.Code) : (Cm03.values cd).length ≤ 40 := by
  have := List.length_filter_le (fun x => (Cm03.given cd).contains x) (List.range 40)
  rw [List.length_range] at this
  exact this
theorem kvs_keys (gs : Cm06.Given) : (kvs gs).map (·.1) = ((keys gs).reverse.map fun (n : Nat) => (n : Int)).map Sum.inl := by
  unfold kvs keys
  rw [List.map_map, ← List.map_reverse, List.map_map, List.map_map]
  rfl
theorem sorted_values (wh : Whole cd) (f : Fair cd) (ok : COk cd) (nd : (keys (regs cd)).Nodup) {ys : List Int} (hp : ys.Perm ((keys (regs cd)).reverse.map fun (n : Nat) => (n : Int))) (hs : ys.Pairwise (· ≤ ·)) : ys = Cm03.ints (Cm03.values cd) := by
  refine List.Perm.eq_of_pairwise (le := (· ≤ ·)) (fun a b _ _ h1 h2 => by omega) hs ?_ (hp.trans ((((List.reverse_perm _).trans (keys_perm wh f ok nd))).map _))
  unfold Cm03.ints
  rw [List.pairwise_map]
  exact ((List.pairwise_lt_range (n := 40)).filter _).imp fun h => by omega
theorem pure_ask_registers (vs : List V) (H : Hp) (Q : VK) (E : XK) (h : sp_ask_registers K vs H Q E) : t_ask_registers K (sp_value_slots K) { nx := fun _ H' => Q .non H', rt := Q } (start N_ask_registers vs) H := by
  obtain ⟨c, cd, bl, bs, rfl, hc, ok, wh, f, k⟩ := h
  refine q_asgP (P := fun v H' => ∃ p, v = .ref p ∧ H' p = some (.dK (kvs (regs cd))) ∧ (keys (regs cd)).Nodup) (ep_call (dvs := []) (ea_cons (ev_var rfl) ea_nil) fun H1 e1 Q q E => ⟨c, cd, bl, bs, rfl, hc.ex e1, ok, wh, f, fun p H2 sl => q _ H2 sl.ex ⟨p, rfl, sl.at_, sl.nd⟩⟩) fun v H1 e1 hv => ?_
  obtain ⟨p, rfl, hp, nd⟩ := hv
  have kl : (kvs (regs cd)).length = (Cm03.values cd).length := by
    have := (keys_perm wh f ok nd).length_eq
    unfold keys at this
    unfold kvs
    rw [List.length_map] at this
    rw [List.length_map, List.length_reverse]
    exact this
  have v40 := values_len cd
  have lenE : Ev (tCB rLenD (tCons (tVar 1) tNil)) [some (.ref c), some (.ref p), none, none] H1 (.int ((Cm03.values cd).length : Int)) := fun H2 e2 Q q => (ev_var (i := 1) rfl : Ev (tVar 1) [some (.ref c), some (.ref p), none, none] H1 (.ref p)) H2 e2 _ fun H3 e3 => ⟨p, kvs (regs cd), rfl, e3 _ _ (e2 _ _ hp), by rw [kl]; exact q H3 e3⟩
  refine q_asgL (xs := natsV [(Cm03.values cd).length]) (el_lst (ea_cons lenE ea_nil) (show 1 ≤ 100000 by decide)) fun an H2 hn2 e2 han => ?_
  have sortE : EvL (tCB rSortedDI (tCons (tVar 1) tNil)) [some (.ref c), some (.ref p), some (.ref an), none] H2 (natsV (Cm03.values cd)) := fun H3 e3 Q q => (ev_var (i := 1) rfl : Ev (tVar 1) [some (.ref c), some (.ref p), some (.ref an), none] H2 (.ref p)) H3 e3 _ fun H4 e4 => ⟨p, kvs (regs cd), (keys (regs cd)).reverse.map fun (n : Nat) => (n : Int), rfl, Or.inl (e4 _ _ (e3 _ _ (e2 _ _ hp))), kvs_keys (regs cd), by rw [List.length_map, List.length_reverse, (keys_perm wh f ok nd).length_eq]; omega, fun ys r h1 h2 hr => by
    rw [sorted_values wh f ok nd h1 h2]
    exact q r _ (fresh_back e4 hr) (e4.trans (Ex.new hr)) (by rw [← iV_ints]; exact upd_same)⟩
  let acc : Nat → List Nat := fun i => (Cm03.values cd).length :: ((Cm03.values cd).take i).flatMap fun x => [x, Cm06.regIn (Cm06.registers cd) x]
  have accl : ∀ i, (acc i).length ≤ 81 := fun i => by
    show (((Cm03.values cd).take i).flatMap fun x => [x, Cm06.regIn (Cm06.registers cd) x]).length + 1 ≤ 81
    have h2 : ∀ l : List Nat, (l.flatMap fun x => [x, Cm06.regIn (Cm06.registers cd) x]).length = 2 * l.length := fun l => by
      induction l with
      | nil => rfl
      | cons a l ih => rw [List.flatMap_cons, List.length_append, ih, List.length_cons]; simp only [List.length_cons, List.length_nil]; omega
    rw [h2]
    have := List.length_take_le' i (Cm03.values cd)
    omega
  refine q_forNLn sortE (fun q i σ' H' => (∃ w, σ' = [some (.ref c), some (.ref p), some (.ref an), w]) ∧ Gr H1 an (natsV (acc i)) H' ∧ H' q = some (.lst (natsV (Cm03.values cd))) ∧ q ≠ an) (fun q H3 hnq e3 hq => ⟨⟨_, rfl⟩, ⟨hn2, e2.trans e3, e3 _ _ han⟩, hq, fun z => by rw [z, han] at hnq; cases hnq⟩) (fun q i σ' H' _ z => sq_of z.2.2.1) (fun q i x σ' H' hx z => ?_) (fun q σ' H' z => ?_)
  · obtain ⟨⟨w, rfl⟩, g, hq, ne⟩ := z
    obtain ⟨n, hn, rfl⟩ : ∃ n, (Cm03.values cd)[i]? = some n ∧ x = .int (n : Int) := by
      unfold natsV at hx
      rw [List.getElem?_map] at hx
      cases hz : (Cm03.values cd)[i]? with
      | none => rw [hz] at hx; cases hx
      | some n => rw [hz] at hx; cases hx; exact ⟨n, rfl, rfl⟩
    have nk : n ∈ keys (regs cd) := (mem_keys wh f ok).mpr (List.mem_of_getElem? hn)
    obtain ⟨j, hj⟩ := (regs_keys wh f).mp nk
    have hp' := g.ex _ _ hp
    have dE := ev_dget (gs := regs cd) (ta := tVar 1) (ti := tVar 3) (σ := [some (.ref c), some (.ref p), some (.ref an), some (.int (n : Int))]) (H := H') (ev_var rfl) hp' nd nk (ev_var rfl)
    rw [regs_reg wh f hj] at dE
    refine s_ext (ys := natsV [n, Cm06.regIn (Cm06.registers cd) n]) g.at_ (ev_var rfl) (el_lst (ea_cons (ev_var rfl) (ea_cons dE ea_nil)) (show 2 ≤ 100000 by decide)) ?_ fun H4 e4 => ⟨⟨_, rfl⟩, ?_, ?_, ne⟩
    · rw [natsV_length, natsV_length]
      have := accl i
      show _ + 2 ≤ _
      omega
    · have : acc (i + 1) = acc i ++ [n, Cm06.regIn (Cm06.registers cd) n] := by
        show _ :: _ = _ :: _ ++ _
        rw [take_next hn, List.flatMap_append, List.flatMap_singleton]
        rfl
      rw [this, natsV_append]
      exact g.put e4
    · rw [upd_ne ne]
      exact e4 _ _ hq
  · obtain ⟨⟨w, rfl⟩, g, hq, ne⟩ := z
    have ef : acc (natsV (Cm03.values cd)).length = (Cm03.values cd).length :: (Cm03.values cd).flatMap fun x => [x, Cm06.regIn (Cm06.registers cd) x] := by
      show _ :: _ = _
      rw [natsV_length, List.take_length]
    rw [ef] at g
    refine s_ret (ev_var rfl) fun H4 e4 => k an H4 (fresh_back e1 hn2) ((e1.trans g.ex).trans e4) ?_
    unfold regI
    rw [iV_ints]
    exact e4 _ _ g.at_
end
section
variable {P : Program} {w : World} {K : PySem.W.Frag} {mg : Str → Option Value} {base : Heap}
theorem D_refusal_of_all (T : Tx K mg) : Df P w K mg base 6 (He.ga K "refusal_of_all") ["code"] (sp_refusal_of_all K) := ok_refusal_of_all T (D_is_fair T) (D_is_whole T) (fun vs H Q E h => by obtain ⟨a, b, d, rfl, _⟩ := h; rfl) pure_refusal_of_all
theorem D_ask_run (T : Tx K mg) : Df P w K mg base 5 (He.ga K "ask_run") ["code", "n", "words"] (sp_ask_run K) := ok_ask_run T (D_run T) (fun vs H Q E h => by obtain ⟨a, b, d, e, f, g, i, rfl, _⟩ := h; rfl) (pure_ask_run T)
theorem D_is_place (T : Tx K mg) : Df P w K mg base 1 (He.ga K "is_place") ["code", "b", "number"] (sp_is_place K) := ok_is_place T (fun vs H Q E h => by obtain ⟨a, b, d, e, f, g, rfl, _⟩ := h; rfl) (pure_is_place T)
theorem D_ask_lives (T : Tx K mg) : Df P w K mg base 7 (He.ga K "ask_lives") ["code", "b", "r"] (sp_ask_lives K) := ok_ask_lives T (D_counted T) (D_is_place T) (D_live_in_code T) (fun vs H Q E h => by obtain ⟨a, b, d, e, f, g, rfl, _⟩ := h; rfl) pure_ask_lives
theorem D_ask_there (T : Tx K mg) : Df P w K mg base 8 (He.ga K "ask_there") ["code", "b", "p"] (sp_ask_there K) := ok_ask_there T (D_counted T) (D_is_place T) (D_there_in_code T) (fun vs H Q E h => by obtain ⟨a, b, d, e, f, g, rfl, _⟩ := h; rfl) pure_ask_there
theorem D_ask_together (T : Tx K mg) : Df P w K mg base 9 (He.ga K "ask_together") ["code", "x", "y"] (sp_ask_together K) := ok_ask_together T (D_are_together T) (D_given_in_code T) (fun vs H Q E h => by obtain ⟨a, b, d, e, f, g, rfl, _⟩ := h; rfl) pure_ask_together
theorem D_ask_most (T : Tx K mg) : Df P w K mg base 9 (He.ga K "ask_most") ["code"] (sp_ask_most K) := ok_ask_most T (D_most_there T) (fun vs H Q E h => by obtain ⟨a, b, d, e, rfl, _⟩ := h; rfl) pure_ask_most
theorem D_ask_registers (T : Tx K mg) : Df P w K mg base 8 (He.ga K "ask_registers") ["code"] (sp_ask_registers K) := ok_ask_registers T (D_value_slots T) (fun vs H Q E h => by obtain ⟨a, b, d, e, rfl, _⟩ := h; rfl) pure_ask_registers
theorem D_in_registers (T : Tx K mg) : Df P w K mg base 8 (He.ga K "in_registers") ["code"] (sp_in_registers K) := ok_in_registers T (D_code_in_slots T) (D_value_slots T) (fun vs H Q E h => by obtain ⟨a, b, d, e, rfl, _⟩ := h; rfl) pure_in_registers
theorem D_ask_in_registers (T : Tx K mg) : Df P w K mg base 9 (He.ga K "ask_in_registers") ["code"] (sp_ask_in_registers K) := ok_ask_in_registers T (D_code_in_numbers T) (D_in_registers T) (fun vs H Q E h => by obtain ⟨a, b, d, e, rfl, _⟩ := h; rfl) pure_ask_in_registers
theorem D_ask_run_in_registers (T : Tx K mg) : Df P w K mg base 9 (He.ga K "ask_run_in_registers") ["code", "n", "words"] (sp_ask_run_in_registers K) := ok_ask_run_in_registers T (D_ask_run T) (D_in_registers T) (fun vs H Q E h => by obtain ⟨a, b, d, e, f, g, i, rfl, _⟩ := h; rfl) pure_ask_run_in_registers
end
end VS
/-! Promises and their proofs: block, rows, ends. -/
namespace VS
open PySem L2 Evl CmBase
section
variable {P : Program} {w : World} {K : PySem.W.Frag} {mg : Str → Option Value} {base : Heap} {H H' : Hp} {c : Addr} {s : Cm03.St} {Y : Lay}
theorem ev_open_none {σ : L2.St} {i : Nat} (hc : CodeAt K H c s Y) (hσ : σ[i]? = some (some (.ref c))) (h : s.opened = none) : Ev (tMeth (He.ga K "Code") "open_block" (sp_Code_open_block K) [] E0 (tVar i) tNil) σ H .non := by
  obtain ⟨dx, ho⟩ := hc.obj
  exact ev_meth (ev_var hσ) ho (cF_no (by decide +kernel) (by decide +kernel)) ea_nil (spv_open_none hc h)
theorem ev_open_some {σ : L2.St} {i : Nat} (hc : CodeAt K H c s Y) (hσ : σ[i]? = some (some (.ref c))) {ts : List Nat} {l : List Row} {bs : List Addr} {b : Addr} (h : s.opened = some (ts, l)) (hb : Y.bs = bs ++ [b]) : Ev (tMeth (He.ga K "Code") "open_block" (sp_Code_open_block K) [] E0 (tVar i) tNil) σ H (.ref b) := by
  obtain ⟨dx, ho⟩ := hc.obj
  exact ev_meth (ev_var hσ) ho (cF_no (by decide +kernel) (by decide +kernel)) ea_nil (spv_open_some hc h hb)
theorem CodeAt.open_last (hc : CodeAt K H c s Y) {ts : List Nat} {l : List Row} (h : s.opened = some (ts, l)) : ∃ bs b rs r, Y.bs = bs ++ [b] ∧ Y.rs = rs ++ [r] ∧ BkAt K H b r ⟨ts, l, none⟩ := by
  obtain ⟨bs, b, rs, r, e1, e2, _, _, q⟩ := hc.last (blks_opened h)
  exact ⟨bs, b, rs, r, e1, e2, q⟩
theorem CodeAt.ev_blocks (hc : CodeAt K H c s Y) (T : Tx K mg) {σ : L2.St} {i : Nat} (hσ : σ[i]? = some (some (.ref c))) : Ev (tFld K (tVar i) "blocks") σ H (.ref Y.bl) := by
  obtain ⟨dx, ho⟩ := hc.obj
  exact ev_fld (ev_var hσ) ho T.cls_Code T.noat_Code_blocks cF_blocks
theorem et_ne_of {σ : L2.St} {te : TE} {a : Addr} (h : Ev te σ H (.ref a)) : EvT (tTest (tOp rNotN te (tC .non))) σ H true := et_is (et_test (ev_op h ev_c rv_notN)) (by simp)
theorem et_ne_non {σ : L2.St} {te : TE} (h : Ev te σ H .non) : EvT (tTest (tOp rNotN te (tC .non))) σ H false := et_is (et_test (ev_op h ev_c rv_notN)) (by simp)
theorem et_is_of {σ : L2.St} {te : TE} {a : Addr} (h : Ev te σ H (.ref a)) : EvT (tTest (tOp rIsN te (tC .non))) σ H false := et_is (et_test (ev_op h ev_c rv_isN)) (by simp)
theorem et_is_non {σ : L2.St} {te : TE} (h : Ev te σ H .non) : EvT (tTest (tOp rIsN te (tC .non))) σ H true := et_is (et_test (ev_op h ev_c rv_isN)) (by simp)
/-! ### block -/
def sp_Code_block (K : PySem.W.Frag) : Sp := fun vs H Q _ => ∃ (c : Addr) (s : Cm03.St) (Y : Lay) (a : Addr) (ts : List Nat), vs = [.ref c, .ref a] ∧ CodeAt K H c s Y ∧ SqL K H a (natsV ts) ∧ ts.length ≤ 1000 ∧ Post K H Q c Y (Cm03.step s (.block ts))
theorem pure_Code_block (T : Tx K mg) (vs : List V) (H : Hp) (Q : VK) (E : XK) (h : sp_Code_block K vs H Q E) : t_Code_block K (sp_Block_init K) (sp_Code_open_block K) (sp_all_values K) { nx := fun _ H' => Q .non H', rt := Q } (start N_Code_block vs) H := by
  obtain ⟨c, s, Y, a, ts, rfl, hc, hS, hlen, p⟩ := h
  have p : Post K H Q c Y (if s.opened.isSome = true then (s, [-3]) else if ts.all Cm03.isName = false then (s, [-2]) else if 10 ≤ s.code.blocks.length ∨ 8 < ts.length then (s, [-1]) else (⟨s.code, some (ts, [])⟩, Cm03.ints [s.code.blocks.length])) := p
  cases q : s.opened with
  | some z =>
    obtain ⟨bs, b, rs, r, e1, _, _⟩ := hc.open_last (ts := z.1) (l := z.2) q
    rw [q, if_pos (show (some z).isSome = true from rfl)] at p
    refine q_when (et_ne_of (ev_open_some hc rfl q e1)) (fun _ H1 x1 => ?_) fun z => by cases z
    exact s_ret ev_c fun H2 x2 => p.stay hc (x1.trans x2)
  | none =>
    rw [q, if_neg (by simp)] at p
    refine q_when (et_ne_non (ev_open_none hc rfl q)) (fun z => by cases z) fun _ H1 x1 => ?_
    refine q_when (et_not (et_B (ev_call (ea_cons (ev_var rfl) ea_nil) (spv_values hlen (ex_l x1 hS))))) (fun z H2 x2 => ?_) fun z H2 x2 => ?_
    · rw [if_pos (by simpa using z)] at p
      exact s_ret ev_c fun H3 x3 => p.stay hc ((x1.trans x2).trans x3)
    · rw [if_neg (by simpa using z)] at p
      have x12 := x1.trans x2
      have hc2 := hc.ex x12
      have lb : (Y.bs.map V.ref).length = s.code.blocks.length := by rw [List.length_map, hc.lenB, blks_closed q, List.length_map]
      refine q_when (et_or (et_test (ev_op (ev_len (hc2.ev_blocks T rfl) (sq_of hc2.lst)) ev_c rv_I0)) fun _ => et_test (ev_op (ev_len (ev_var rfl) (ex_l x12 hS)) ev_c rv_I0)) (fun z H3 x3 => ?_) fun z H3 x3 => ?_
      · rw [lb, natsV_len, Bool.or_eq_true, decide_eq_true_iff, decide_eq_true_iff] at z
        rw [if_pos (by omega)] at p
        exact s_ret ev_c fun H4 x4 => p.stay hc ((x12.trans x3).trans x4)
      · rw [lb, natsV_len, Bool.or_eq_false_iff, decide_eq_false_iff_not, decide_eq_false_iff_not] at z
        rw [if_neg (by omega)] at p
        have x13 := x12.trans x3
        have hc3 := hc.ex x13
        obtain ⟨dx, ho⟩ := hc3.obj
        refine ⟨_, rfl, c, _, dx, _, _, rfl, ho, T.cls_Code, T.noat_Code_blocks, cF_blocks, .inl ⟨rfl, _, SqL.of hc3.lst⟩, _, rfl, fun b db fb fdb nb => ?_⟩
        have sq0 : SqL K (upd (upd H3 db (.own b)) b (.ins (He.ga K "Block") db [])) a (natsV ts) := by
          refine ex_l (Ex.trans (Ex.new fdb) (Ex.new ?_)) (ex_l x13 hS)
          rw [upd_ne (Ne.symm nb)]
          exact fb
        refine ⟨b, db, a, ts, rfl, upd_same, hlen, .inl ⟨sq0, fun H4 tk rl ftk frl ntr h1 h2 h3 keep => ⟨rfl, ?_⟩⟩⟩
        have x34 : Ex H3 H4 := fun x o e => keep x o (by rw [upd_ne (ne_of_none e fb), upd_ne (ne_of_none e fdb)]; exact e) (ne_of_none e fb)
        have frl3 : H3 rl = none := by
          have n1 : rl ≠ b := fun z => by rw [z, upd_same] at frl; cases frl
          have n2 : rl ≠ db := fun z => by rw [z, upd_ne nb, upd_same] at frl; cases frl
          rw [upd_ne n1, upd_ne n2] at frl
          exact frl
        have hc4 := hc3.ex x34
        refine ⟨Y.bl, _, _, rfl, rfl, hc4.lst, ?_, ?_⟩
        · rw [lb]
          exact Nat.lt_of_lt_of_le (show s.code.blocks.length < 1000 by omega) (by decide)
        · have nbr : b ≠ rl := fun z => by rw [← z, upd_same] at frl; cases frl
          have nB : b ≠ Y.bl := Ne.symm (ne_of_none hc3.lst fb)
          have nR : rl ≠ Y.bl := Ne.symm (ne_of_none hc3.lst frl3)
          have nT : tk ≠ Y.bl := ne_of h2 hc4.lst (by intro z; cases z)
          have hc5 := hc3.push q (H' := upd H4 Y.bl (.lst (Y.bs.map V.ref ++ [.ref b]))) (ts := ts) (b := b) (r := rl) (dx := db) (tk := tk) fb frl3 nbr
            (fun x o e n => by rw [upd_ne n]; exact x34 x o e) upd_same (by rw [upd_ne nB]; exact h1) (by rw [upd_ne nT]; exact h2) (by rw [upd_ne nR]; exact h3)
          have k5 : Kept c H3 Y (upd H4 Y.bl (.lst (Y.bs.map V.ref ++ [.ref b]))) ⟨Y.bl, Y.bs ++ [b], Y.rs ++ [rl]⟩ := by
            refine ⟨fun x o e n => ?_, fun x hx => ?_⟩
            · have : x ≠ Y.bl := fun z => n (z ▸ in_foot_bl)
              rw [upd_ne this]
              exact x34 x o e
            · rcases mem_foot.mp hx with z | z | z | z
              · exact .inl (z ▸ in_foot_c)
              · exact .inl (z ▸ in_foot_bl)
              · rcases List.mem_append.mp z with z | z
                · exact .inl (in_foot_b z)
                · have : x = b := by simpa using z
                  exact .inr (this ▸ fb)
              · rcases List.mem_append.mp z with z | z
                · exact .inl (in_foot_r z)
                · have : x = rl := by simpa using z
                  exact .inr (this ▸ frl3)
          refine s_ret (v := .int (s.code.blocks.length : Int)) (ev_is (ev_op (ev_len (hc5.ev_blocks T rfl) (sq_of hc5.lst)) ev_c rv_I0) ?_) fun H6 x6 => p H6 _ (hc5.ex x6) ?_
          · refine congrArg V.int ?_
            rw [List.map_append, List.length_append, lb]
            show ((s.code.blocks.length + 1 : Nat) : Int) - 1 = _
            omega
          · exact (k5.pre x13).trans (Kept.of_ex x6)
theorem D_Code_block (T : Tx K mg) : Df P w K mg base 3 (He.ma K (He.ga K "Code") "block") ["self", "taken"] (sp_Code_block K) := ok_Code_block T (D_Block_init T) (D_Code_open_block T) (D_all_values T) (fun vs H Q E h => by obtain ⟨a, b, d, e, f, rfl, _⟩ := h; rfl) (pure_Code_block T)
/-! ### rows -/
def sp_Code_put_row (K : PySem.W.Frag) : Sp := fun vs H Q _ => ∃ (c : Addr) (s : Cm03.St) (Y : Lay) (ra ua : Addr) (r : Row), vs = [.ref c, .ref ra, .ref ua] ∧ CodeAt K H c s Y ∧ H ra = some (.tup (rowV r)) ∧ SqL K H ua (natsV (r.gives.toList ++ r.uses)) ∧ Post K H Q c Y (Cm03.rowed s r)
theorem row_few (r : Row) : (r.gives.toList ++ r.uses).length ≤ 1000 := by
  cases r <;> simp [Row.gives, Row.uses]
theorem pure_Code_put_row (T : Tx K mg) (vs : List V) (H : Hp) (Q : VK) (E : XK) (h : sp_Code_put_row K vs H Q E) : t_Code_put_row K (sp_Code_open_block K) (sp_all_values K) { nx := fun _ H' => Q .non H', rt := Q } (start N_Code_put_row vs) H := by
  obtain ⟨c, s, Y, ra, ua, r, rfl, hc, hra, hua, p⟩ := h
  have p : Post K H Q c Y (match s.opened with
    | none => (s, [-3])
    | some (ts, l) => if (r.gives.toList ++ r.uses).all Cm03.isName = false then (s, [-2]) else if 12 ≤ l.length then (s, [-1]) else (⟨s.code, some (ts, l ++ [r])⟩, Cm03.ints [l.length + 1])) := p
  cases q : s.opened with
  | none =>
    rw [q] at p
    refine q_asg (ev_open_none hc rfl q) fun H1 x1 => ?_
    refine q_when (et_is_non (ev_var rfl)) (fun _ H2 x2 => ?_) fun z => by cases z
    exact s_ret ev_c fun H3 x3 => p.stay hc ((x1.trans x2).trans x3)
  | some z =>
    obtain ⟨ts, l⟩ := z
    rw [q] at p
    dsimp only at p
    obtain ⟨bs, b, rs, rl, e1, e2, bk⟩ := hc.open_last q
    refine q_asg (ev_open_some hc rfl q e1) fun H1 x1 => ?_
    refine q_when (et_is_of (ev_var rfl)) (fun z => by cases z) fun _ H2 x2 => ?_
    have x12 := x1.trans x2
    refine q_when (et_not (et_B (ev_call (ea_cons (ev_var rfl) ea_nil) (spv_values (row_few r) (ex_l x12 hua))))) (fun z H3 x3 => ?_) fun z H3 x3 => ?_
    · rw [if_pos (Bool.not_eq_true' _ ▸ z)] at p
      exact s_ret ev_c fun H4 x4 => p.stay hc ((x12.trans x3).trans x4)
    · rw [if_neg (by rw [Bool.not_eq_false'] at z; rw [z]; exact fun h => nomatch h)] at p
      have x13 := x12.trans x3
      obtain ⟨dxb, tk, vs, ev, hb1, hb2, hb3, hb4, hb5⟩ := bk.ex x13
      have er : ∀ {σ : L2.St} {H' : Hp} {vs' : List V} {ev' : V}, H' b = some (.ins (He.ga K "Block") dxb (bF tk rl ev')) → σ[3]? = some (some (.ref b)) → Ev (tFld K (tVar 3) "rows") σ H' (.ref rl) := fun h hσ => ev_fld (ev_var hσ) h T.cls_Block T.noat_Block_rows bF_rows
      have lv : vs.length = l.length := hb4.len
      refine q_when (et_test (ev_op (ev_len (er (vs' := []) hb1 rfl) (sq_of hb3)) ev_c rv_I0)) (fun z H4 x4 => ?_) fun z H4 x4 => ?_
      · rw [lv, decide_eq_true_iff] at z
        rw [if_pos (by omega)] at p
        exact s_ret ev_c fun H5 x5 => p.stay hc ((x13.trans x4).trans x5)
      · rw [lv, decide_eq_false_iff_not] at z
        rw [if_neg (by omega)] at p
        have x14 := x13.trans x4
        have hc4 := hc.ex x14
        refine q_app (x4 _ _ hb3) (er (vs' := []) (x4 _ _ hb1) rfl) (ev_var (v := .ref ra) rfl) (by omega) fun H5 x5 => ?_
        have x15 := x14.trans x5
        have x35 := x4.trans x5
        have hc5 := hc.ex x15
        have bk5 := bk.ex x15
        have bt : But H5 (upd H5 rl (.lst (vs ++ [.ref ra]))) rl := ⟨fun a o e n => by rw [upd_ne n]; exact e, fun xs z => by rw [x35 _ _ hb3] at z; cases z⟩
        have nb : b ≠ rl := bk5.ne (x35 _ _ hb3)
        have bk6 : BkAt K (upd H5 rl (.lst (vs ++ [.ref ra]))) b rl ⟨ts, l ++ [r], none⟩ := by
          refine ⟨dxb, tk, vs ++ [.ref ra], ev, bt.same _ _ (x35 _ _ hb1) nb, bt.tup (x35 _ _ hb2), upd_same, ⟨?_, fun i q hq => ?_⟩, hb5⟩
          · rw [List.length_append, List.length_append, lv]; rfl
          · by_cases hi : i < l.length
            · rw [List.getElem?_append_left hi] at hq
              obtain ⟨a, g1, g2⟩ := hb4.row i q hq
              exact ⟨a, by rw [List.getElem?_append_left (by omega)]; exact g1, bt.tup (x35 _ _ g2)⟩
            · rw [List.getElem?_append_right (by omega)] at hq
              have hi2 : i - l.length = 0 := by
                have := (List.getElem?_eq_some_iff.mp hq).1
                simpa using this
              rw [hi2] at hq
              cases hq
              refine ⟨ra, ?_, bt.tup (x15 _ _ hra)⟩
              rw [List.getElem?_append_right (by omega), lv, hi2]; rfl
        have ndr := (List.nodup_cons.mp hc.ndR)
        rw [e2] at ndr
        have hc6 := hc5.relast (s' := ⟨s.code, some (ts, l ++ [r])⟩) (m := rl) (blks_opened q) (blks_opened (s := ⟨s.code, some (ts, l ++ [r])⟩) rfl) rfl e1 e2 bt
          (fun z => by obtain ⟨dx, ho⟩ := hc5.obj; rw [z] at hb3; rw [x35 _ _ hb3] at ho; cases ho) (fun z => ndr.1 (by rw [← z]; simp))
          (fun z => by obtain ⟨r', k', d'⟩ := hc5.mem_b (by rw [e1]; exact List.mem_append_left _ z); exact d'.ne (x35 _ _ hb3) rfl)
          (fun z => (List.nodup_append.mp ndr.2).2.2 _ z _ (List.mem_singleton.mpr rfl) rfl) bk6
        have k6 : Kept c H5 Y (upd H5 rl (.lst (vs ++ [.ref ra]))) Y := ⟨fun a o e n => by
          have : a ≠ rl := fun z => n (z ▸ in_foot_r (by rw [e2]; simp))
          rw [upd_ne this]
          exact e, fun a h => .inl h⟩
        obtain ⟨dx6, tk6, vs6, ev6, g1, g2, g3, g4, g5⟩ := bk6
        refine s_ret (v := .int ((l.length + 1 : Nat) : Int)) (ev_is (ev_len (ev_fld (ev_var rfl) g1 T.cls_Block T.noat_Block_rows bF_rows) (sq_of g3)) ?_) fun H7 x7 => p H7 _ (hc6.ex x7) ?_
        · rw [g4.len, List.length_append]; rfl
        · exact (k6.pre x15).trans (Kept.of_ex x7)
theorem D_Code_put_row (T : Tx K mg) : Df P w K mg base 2 (He.ma K (He.ga K "Code") "put_row") ["self", "row", "used"] (sp_Code_put_row K) := ok_Code_put_row T (D_Code_open_block T) (D_all_values T) (fun vs H Q E h => by obtain ⟨a, b, d, e, f, g, rfl, _⟩ := h; rfl) (pure_Code_put_row T)
end
end VS
/-! Promises and their proofs: rows, ends. -/
namespace VS
open PySem L2 Evl CmBase
section
variable {P : Program} {w : World} {K : PySem.W.Frag} {mg : Str → Option Value} {base : Heap} {H H' : Hp} {c : Addr} {s : Cm03.St} {Y : Lay}
def sp_Code_put_end (K : PySem.W.Frag) : Sp := fun vs H Q _ => ∃ (c : Addr) (s : Cm03.St) (Y : Lay) (ev : V) (ua ga : Addr) (e : CmBase.End), vs = [.ref c, ev, .ref ua, .ref ga] ∧ CodeAt K H c s Y ∧ EndAt H ev (some e) ∧ SqL K H ua (natsV e.uses) ∧ SqL K H ga (natsV e.targets) ∧ e.uses.length ≤ 1000 ∧ Post K H Q c Y (Cm03.ended s e)
theorem targets_few (e : CmBase.End) : e.targets.length ≤ 1000 := by
  cases e <;> simp [End.targets]
theorem pure_Code_put_end (T : Tx K mg) (vs : List V) (H : Hp) (Q : VK) (E : XK) (h : sp_Code_put_end K vs H Q E) : t_Code_put_end K (sp_Code_open_block K) (sp_all_targets K) (sp_all_values K) { nx := fun _ H' => Q .non H', rt := Q } (start N_Code_put_end vs) H := by
  obtain ⟨c, s, Y, ev, ua, ga, e, rfl, hc, he, hua, hga, hle, p⟩ := h
  have p : Post K H Q c Y (match s.opened with
    | none => (s, [-3])
    | some (ts, l) => if (e.uses.all Cm03.isName && e.targets.all Cm03.isTarget) = false then (s, [-2]) else (⟨⟨s.code.args, s.code.blocks ++ [⟨ts, l, e⟩]⟩, none⟩, Cm03.ints [s.code.blocks.length + 1])) := p
  cases q : s.opened with
  | none =>
    rw [q] at p
    refine q_asg (ev_open_none hc rfl q) fun H1 x1 => ?_
    refine q_when (et_is_non (ev_var rfl)) (fun _ H2 x2 => ?_) fun z => by cases z
    exact s_ret ev_c fun H3 x3 => p.stay hc ((x1.trans x2).trans x3)
  | some z =>
    obtain ⟨ts, l⟩ := z
    rw [q] at p
    dsimp only at p
    obtain ⟨bs, b, rs, rl, e1, e2, bk⟩ := hc.open_last q
    refine q_asg (ev_open_some hc rfl q e1) fun H1 x1 => ?_
    refine q_when (et_is_of (ev_var rfl)) (fun z => by cases z) fun _ H2 x2 => ?_
    have x12 := x1.trans x2
    refine q_when (et_or (et_not (et_B (ev_call (ea_cons (ev_var rfl) ea_nil) (spv_values hle (ex_l x12 hua))))) fun _ => et_not (et_B (ev_call (ea_cons (ev_var rfl) ea_nil) (spv_targets (targets_few e) (ex_l x12 hga))))) (fun z H3 x3 => ?_) fun z H3 x3 => ?_
    · rw [← Bool.not_and, Bool.not_eq_true'] at z
      rw [if_pos z] at p
      exact s_ret ev_c fun H4 x4 => p.stay hc ((x12.trans x3).trans x4)
    · rw [← Bool.not_and, Bool.not_eq_false'] at z
      rw [if_neg (by rw [z]; exact fun h => nomatch h)] at p
      have x13 := x12.trans x3
      have hc3 := hc.ex x13
      obtain ⟨dxb, tk, vs, ev0, hb1, hb2, hb3, hb4, hb5⟩ := bk.ex x13
      refine ⟨_, rfl, _, rfl, b, He.ga K "Block", dxb, _, rfl, hb1, T.cls_Block, T.noat_Block_end, (by show 3 < 1000; decide), ?_⟩
      rw [bF_put_end]
      have bt : But H3 (upd H3 b (.ins (He.ga K "Block") dxb (bF tk rl ev))) b := ⟨fun a o e n => by rw [upd_ne n]; exact e, fun xs z => by rw [hb1] at z; cases z⟩
      have nb : rl ≠ b := ne_of hb3 hb1 (by intro z; cases z)
      have bk6 : BkAt K (upd H3 b (.ins (He.ga K "Block") dxb (bF tk rl ev))) b rl ⟨ts, l, some e⟩ := ⟨dxb, tk, vs, ev, upd_same, bt.tup hb2, bt.same _ _ hb3 nb, hb4.but bt, (he.ex x13).but bt⟩
      have ndb := hc.ndB
      rw [e1] at ndb
      have eb' : blks ⟨⟨s.code.args, s.code.blocks ++ [⟨ts, l, e⟩]⟩, none⟩ = s.code.blocks.map (fun b => (⟨b.takes, b.rows, some b.last⟩ : Bk)) ++ [⟨ts, l, some e⟩] := by simp [blks]
      have hc6 := hc3.relast (s' := ⟨⟨s.code.args, s.code.blocks ++ [⟨ts, l, e⟩]⟩, none⟩) (m := b) (blks_opened q) eb' rfl e1 e2 bt
        (fun z => by obtain ⟨dx, ho⟩ := hc3.obj; rw [← z, hb1] at ho; simp [bF, cF] at ho)
        (fun z => by rw [z] at hb1; rw [hc3.lst] at hb1; cases hb1)
        (fun z => (List.nodup_append.mp ndb).2.2 _ z _ (List.mem_singleton.mpr rfl) rfl)
        (fun z => by obtain ⟨b', k', d'⟩ := hc3.mem_r (r := b) (by rw [e2]; exact List.mem_append_left _ z); exact d'.neI hb1 rfl) bk6
      have k6 : Kept c H3 Y (upd H3 b (.ins (He.ga K "Block") dxb (bF tk rl ev))) Y := ⟨fun a o e n => by
        have : a ≠ b := fun z => n (z ▸ in_foot_b (by rw [e1]; simp))
        rw [upd_ne this]
        exact e, fun a h => .inl h⟩
      refine s_ret (v := .int ((s.code.blocks.length + 1 : Nat) : Int)) (ev_is (ev_len (hc6.ev_blocks T rfl) (sq_of hc6.lst)) ?_) fun H7 x7 => p H7 _ (hc6.ex x7) ?_
      · rw [List.length_map, hc6.lenB, eb', List.length_append, List.length_map]; rfl
      · exact (k6.pre x13).trans (Kept.of_ex x7)
theorem D_Code_put_end (T : Tx K mg) : Df P w K mg base 2 (He.ma K (He.ga K "Code") "put_end") ["self", "end", "used", "targets"] (sp_Code_put_end K) := ok_Code_put_end T (D_Code_open_block T) (D_all_targets T) (D_all_values T) (fun vs H Q E h => by obtain ⟨a, b, d, e, f, g, i, rfl, _⟩ := h; rfl) (pure_Code_put_end T)
/-! ### num, two, say -/
theorem few {n : Nat} (h : n ≤ 1000) : n ≤ sizeLine := Nat.le_trans h (by decide)
theorem CodeAt.meth {m : Str} (hc : CodeAt K H c s Y) (h1 : (m == ("words" : Str)) = false) (h2 : (m == ("blocks" : Str)) = false) : ∃ dx fs, H c = some (.ins (He.ga K "Code") dx fs) ∧ fs.lookup m = none := by
  obtain ⟨dx, ho⟩ := hc.obj
  exact ⟨dx, _, ho, cF_no h1 h2⟩
def sp_Code_num (K : PySem.W.Frag) : Sp := fun vs H Q _ => ∃ (c : Addr) (s : Cm03.St) (Y : Lay) (x n : Nat), vs = [.ref c, .int x, .int n] ∧ CodeAt K H c s Y ∧ Post K H Q c Y (Cm03.step s (.num x n))
theorem pure_Code_num (T : Tx K mg) (vs : List V) (H : Hp) (Q : VK) (E : XK) (h : sp_Code_num K vs H Q E) : t_Code_num K (sp_Code_put_row K) { nx := fun _ H' => Q .non H', rt := Q } (start N_Code_num vs) H := by
  obtain ⟨c, s, Y, x, n, rfl, hc, p⟩ := h
  obtain ⟨dx, fs, ho, hl⟩ := hc.meth (m := "put_row") (by decide +kernel) (by decide +kernel)
  refine ⟨_, rfl, c, dx, fs, rfl, ho, hl, _, rfl, _, rfl, few (by simp), fun ra fra => ⟨_, rfl, few (by simp), fun ua fua => ?_⟩⟩
  have x1 := Ex.new (o := .tup [.int 0, .int x, .int n]) fra
  have x2 := Ex.new (o := .lst [.int x]) fua
  exact ⟨c, s, Y, ra, ua, .num x n, rfl, hc.ex (x1.trans x2), x2 _ _ upd_same, sq_of upd_same, p.pre (x1.trans x2)⟩
theorem D_Code_num (T : Tx K mg) : Df P w K mg base 3 (He.ma K (He.ga K "Code") "num") ["self", "x", "n"] (sp_Code_num K) := ok_Code_num T (D_Code_put_row T) (fun vs H Q E h => by obtain ⟨a, b, d, e, f, rfl, _⟩ := h; rfl) (pure_Code_num T)
def sp_Code_say (K : PySem.W.Frag) : Sp := fun vs H Q _ => ∃ (c : Addr) (s : Cm03.St) (Y : Lay) (x : Nat), vs = [.ref c, .int x] ∧ CodeAt K H c s Y ∧ Post K H Q c Y (Cm03.step s (.say x))
theorem pure_Code_say (T : Tx K mg) (vs : List V) (H : Hp) (Q : VK) (E : XK) (h : sp_Code_say K vs H Q E) : t_Code_say K (sp_Code_put_row K) { nx := fun _ H' => Q .non H', rt := Q } (start N_Code_say vs) H := by
  obtain ⟨c, s, Y, x, rfl, hc, p⟩ := h
  obtain ⟨dx, fs, ho, hl⟩ := hc.meth (m := "put_row") (by decide +kernel) (by decide +kernel)
  refine ⟨_, rfl, c, dx, fs, rfl, ho, hl, _, rfl, few (by simp), fun ra fra => ⟨_, rfl, few (by simp), fun ua fua => ?_⟩⟩
  have x1 := Ex.new (o := .tup [.int 3, .int x]) fra
  have x2 := Ex.new (o := .lst [.int x]) fua
  exact ⟨c, s, Y, ra, ua, .say x, rfl, hc.ex (x1.trans x2), x2 _ _ upd_same, sq_of upd_same, p.pre (x1.trans x2)⟩
theorem D_Code_say (T : Tx K mg) : Df P w K mg base 3 (He.ma K (He.ga K "Code") "say") ["self", "a"] (sp_Code_say K) := ok_Code_say T (D_Code_put_row T) (fun vs H Q E h => by obtain ⟨a, b, d, e, rfl, _⟩ := h; rfl) (pure_Code_say T)
theorem opOf_num {n : Nat} {o : Op} (h : opOf n = some o) : o.num = n := by
  unfold opOf at h
  split at h <;> first | (cases h; rfl) | cases h
theorem opOf_none {n : Nat} : opOf n = none ↔ 10 < n := by
  constructor
  · intro h
    unfold opOf at h
    split at h <;> first | cases h | skip
    rename_i h0 h1 h2 h3 h4 h5 h6 h7 h8 h9 h10
    have a0 : n ≠ 0 := h0
    have a1 : n ≠ 1 := h1
    have a2 : n ≠ 2 := h2
    have a3 : n ≠ 3 := h3
    have a4 : n ≠ 4 := h4
    have a5 : n ≠ 5 := h5
    have a6 : n ≠ 6 := h6
    have a7 : n ≠ 7 := h7
    have a8 : n ≠ 8 := h8
    have a9 : n ≠ 9 := h9
    have a10 : n ≠ 10 := h10
    omega
  · intro h
    unfold opOf
    split <;> first | omega | rfl
def sp_Code_two (K : PySem.W.Frag) : Sp := fun vs H Q _ => ∃ (c : Addr) (s : Cm03.St) (Y : Lay) (x o a b : Nat), vs = [.ref c, .int x, .int o, .int a, .int b] ∧ CodeAt K H c s Y ∧ Post K H Q c Y (Cm03.step s (.two x o a b))
theorem pure_Code_two (T : Tx K mg) (vs : List V) (H : Hp) (Q : VK) (E : XK) (h : sp_Code_two K vs H Q E) : t_Code_two K (sp_Code_open_block K) (sp_Code_put_row K) { nx := fun _ H' => Q .non H', rt := Q } (start N_Code_two vs) H := by
  obtain ⟨c, s, Y, x, o, a, b, rfl, hc, p⟩ := h
  have p : Post K H Q c Y (match s.opened, opOf o with
    | none, _ => (s, [-3])
    | some _, none => (s, [-4])
    | some _, some q => Cm03.rowed s (.two x q a b)) := p
  cases q : s.opened with
  | none =>
    rw [q] at p
    refine q_when (et_is_non (ev_open_none hc rfl q)) (fun _ H1 x1 => ?_) fun z => by cases z
    exact s_ret ev_c fun H2 x2 => p.stay hc (x1.trans x2)
  | some z =>
    rw [q] at p
    obtain ⟨bs, b', rs, rl, e1, e2, bk⟩ := hc.open_last (ts := z.1) (l := z.2) q
    refine q_when (et_is_of (ev_open_some hc rfl q e1)) (fun z => by cases z) fun _ H1 x1 => ?_
    refine q_when (et_test (ev_op (ev_var rfl) ev_c rv_I0)) (fun z H2 x2 => ?_) fun z H2 x2 => ?_
    · have z := of_decide_eq_true z
      rw [opOf_none.mpr (by omega)] at p
      exact s_ret ev_c fun H3 x3 => p.stay hc ((x1.trans x2).trans x3)
    · have z := of_decide_eq_false z
      have x12 := x1.trans x2
      cases eo : opOf o with
      | none => have := opOf_none.mp eo; omega
      | some op =>
        rw [eo] at p
        have p : Post K H Q c Y (Cm03.rowed s (.two x op a b)) := p
        obtain ⟨dx, fs, ho, hl⟩ := (hc.ex x12).meth (m := "put_row") (by decide +kernel) (by decide +kernel)
        refine ⟨_, rfl, c, dx, fs, rfl, ho, hl, _, rfl, _, rfl, _, rfl, _, rfl, few (by simp), fun ra fra => ⟨_, rfl, _, rfl, _, rfl, few (by simp), fun ua fua => ?_⟩⟩
        have x3 := Ex.new (o := .tup [.int 2, .int x, .int o, .int a, .int b]) fra
        have x4 := Ex.new (o := .lst [.int x, .int a, .int b]) fua
        refine ⟨c, s, Y, ra, ua, .two x op a b, rfl, hc.ex (x12.trans (x3.trans x4)), ?_, sq_of upd_same, p.pre (x12.trans (x3.trans x4))⟩
        refine x4 _ _ ?_
        rw [upd_same]
        show _ = some (HO.tup [.int 2, .int x, .int op.num, .int a, .int b])
        rw [opOf_num eo]
theorem D_Code_two (T : Tx K mg) : Df P w K mg base 3 (He.ma K (He.ga K "Code") "two") ["self", "x", "o", "a", "b"] (sp_Code_two K) := ok_Code_two T (D_Code_open_block T) (D_Code_put_row T) (fun vs H Q E h => by obtain ⟨a, b, d, e, f, g, i, rfl, _⟩ := h; rfl) (pure_Code_two T)
/-! ### give, jump, fork -/
def sp_Code_give (K : PySem.W.Frag) : Sp := fun vs H Q _ => ∃ (c : Addr) (s : Cm03.St) (Y : Lay) (x : Nat), vs = [.ref c, .int x] ∧ CodeAt K H c s Y ∧ Post K H Q c Y (Cm03.step s (.give x))
theorem pure_Code_give (T : Tx K mg) (vs : List V) (H : Hp) (Q : VK) (E : XK) (h : sp_Code_give K vs H Q E) : t_Code_give K (sp_Code_put_end K) { nx := fun _ H' => Q .non H', rt := Q } (start N_Code_give vs) H := by
  obtain ⟨c, s, Y, x, rfl, hc, p⟩ := h
  obtain ⟨dx, fs, ho, hl⟩ := hc.meth (m := "put_end") (by decide +kernel) (by decide +kernel)
  refine ⟨_, rfl, c, dx, fs, rfl, ho, hl, _, rfl, few (by simp), fun ra fra => ⟨_, rfl, few (by simp), fun ua fua => ⟨few (by simp), fun ga fga => ?_⟩⟩⟩
  have x1 := Ex.new (o := .tup [.int 2, .int x]) fra
  have x2 := Ex.new (o := .lst [.int x]) fua
  have x3 := Ex.new (o := .lst []) fga
  exact ⟨c, s, Y, .ref ra, ua, ga, .give x, rfl, hc.ex ((x1.trans x2).trans x3), ⟨ra, rfl, x3 _ _ (x2 _ _ upd_same)⟩, sq_of (x3 _ _ upd_same), sq_of upd_same, by simp [End.uses], p.pre ((x1.trans x2).trans x3)⟩
theorem D_Code_give (T : Tx K mg) : Df P w K mg base 3 (He.ma K (He.ga K "Code") "give") ["self", "v"] (sp_Code_give K) := ok_Code_give T (D_Code_put_end T) (fun vs H Q E h => by obtain ⟨a, b, d, e, rfl, _⟩ := h; rfl) (pure_Code_give T)
def sp_Code_jump (K : PySem.W.Frag) : Sp := fun vs H Q _ => ∃ (c : Addr) (s : Cm03.St) (Y : Lay) (t : Nat) (a : Addr) (l : List Nat), vs = [.ref c, .int t, .ref a] ∧ CodeAt K H c s Y ∧ SqL K H a (natsV l) ∧ l.length ≤ 900 ∧ Post K H Q c Y (Cm03.step s (.jump t l))
theorem pure_Code_jump (T : Tx K mg) (vs : List V) (H : Hp) (Q : VK) (E : XK) (h : sp_Code_jump K vs H Q E) : t_Code_jump K (sp_Code_open_block K) (sp_Code_put_end K) { nx := fun _ H' => Q .non H', rt := Q } (start N_Code_jump vs) H := by
  obtain ⟨c, s, Y, t, a, l, rfl, hc, hS, hle, p⟩ := h
  have p : Post K H Q c Y (if s.opened.isSome = true ∧ 8 < l.length then (s, [-1]) else Cm03.ended s (.jump t l)) := p
  cases q : s.opened with
  | none =>
    rw [q, if_neg (by simp)] at p
    have p : Post K H Q c Y (match s.opened with
      | none => (s, [-3])
      | some (ts, m) => if ((CmBase.End.jump t l).uses.all Cm03.isName && (CmBase.End.jump t l).targets.all Cm03.isTarget) = false then (s, [-2]) else (⟨⟨s.code.args, s.code.blocks ++ [⟨ts, m, .jump t l⟩]⟩, none⟩, Cm03.ints [s.code.blocks.length + 1])) := p
    rw [q] at p
    refine q_when (et_is_non (ev_open_none hc rfl q)) (fun _ H1 x1 => ?_) fun z => by cases z
    exact s_ret ev_c fun H2 x2 => p.stay hc (x1.trans x2)
  | some z =>
    obtain ⟨bs, b', rs, rl, e1, e2, bk⟩ := hc.open_last (ts := z.1) (l := z.2) q
    refine q_when (et_is_of (ev_open_some hc rfl q e1)) (fun z => by cases z) fun _ H1 x1 => ?_
    refine q_when (et_test (ev_op (ev_len (ev_var rfl) (ex_l x1 hS)) ev_c rv_I0)) (fun z H2 x2 => ?_) fun z H2 x2 => ?_
    · have z := of_decide_eq_true z
      rw [natsV_len] at z
      rw [q, if_pos ⟨rfl, by omega⟩] at p
      exact s_ret ev_c fun H3 x3 => p.stay hc ((x1.trans x2).trans x3)
    · have z := of_decide_eq_false z
      rw [natsV_len] at z
      rw [if_neg (by intro h; omega)] at p
      have x12 := x1.trans x2
      obtain ⟨dx, fs, ho, hl⟩ := (hc.ex x12).meth (m := "put_end") (by decide +kernel) (by decide +kernel)
      refine ⟨_, rfl, c, dx, fs, rfl, ho, hl, _, rfl, _, rfl, a, _, rfl, .inl ⟨ex_l x12 hS, fun pa fpa => ⟨few (by simp), fun ra fra => ⟨_, rfl, _, rfl, few (by simp), fun ga fga => ?_⟩⟩⟩⟩
      have x3 := Ex.new (o := .tup (natsV l)) fpa
      have x4 := Ex.new (o := .tup [.int 0, .int t, .ref pa]) fra
      have x5 := Ex.new (o := .lst [.int t]) fga
      have xs := x12.trans ((x3.trans x4).trans x5)
      exact ⟨c, s, Y, .ref ra, a, ga, .jump t l, rfl, hc.ex xs, ⟨ra, pa, rfl, x5 _ _ upd_same, x5 _ _ (x4 _ _ upd_same)⟩, ex_l xs hS, sq_of upd_same, (by show l.length ≤ 1000; omega), p.pre xs⟩
theorem D_Code_jump (T : Tx K mg) : Df P w K mg base 3 (He.ma K (He.ga K "Code") "jump") ["self", "t", "handed"] (sp_Code_jump K) := ok_Code_jump T (D_Code_open_block T) (D_Code_put_end T) (fun vs H Q E h => by obtain ⟨a, b, d, e, f, g, rfl, _⟩ := h; rfl) (pure_Code_jump T)
end
end VS
/-! Promises and their proofs: fork; written tables. -/
namespace VS
open PySem L2 Evl CmBase
section
variable {P : Program} {w : World} {K : PySem.W.Frag} {mg : Str → Option Value} {base : Heap} {H H' : Hp} {c : Addr} {s : Cm03.St} {Y : Lay}
/-! ### slices -/
theorem cut_nat (xs : List V) (i j : Nat) : cutV xs (some (i : Int)) (some (j : Int)) = (xs.drop i).take (j - i) := by
  unfold cutV
  rw [HT.sIx_nat, HT.sIx_nat]
  by_cases hi : i ≤ xs.length
  · rw [Nat.min_eq_left hi]
    by_cases hj : j ≤ xs.length
    · rw [Nat.min_eq_left hj]
    · rw [Nat.min_eq_right (by omega), List.take_of_length_le (by rw [List.length_drop]; omega), List.take_of_length_le (by rw [List.length_drop]; omega)]
  · rw [Nat.min_eq_right (show xs.length ≤ i by omega), List.drop_of_length_le (Nat.le_refl _), List.drop_of_length_le (show xs.length ≤ i by omega)]
    simp
theorem cut_to (xs : List V) (j : Nat) : cutV xs none (some (j : Int)) = xs.take j := by
  unfold cutV
  rw [HT.sIx_nat, HT.sIx_none, List.drop_zero, Nat.sub_zero]
  by_cases hj : j ≤ xs.length
  · rw [Nat.min_eq_left hj]
  · rw [Nat.min_eq_right (by omega), List.take_of_length_le (Nat.le_refl _), List.take_of_length_le (by omega)]
theorem cut_from (xs : List V) (i : Nat) : cutV xs (some (i : Int)) none = xs.drop i := by
  unfold cutV
  rw [HT.sIx_nat, HT.sIx_none]
  by_cases hi : i ≤ xs.length
  · rw [Nat.min_eq_left hi, List.take_of_length_le (by rw [List.length_drop]; omega)]
  · rw [Nat.min_eq_right (by omega), List.drop_of_length_le (Nat.le_refl _), List.drop_of_length_le (by omega)]
    simp
theorem natsV_take (l : List Nat) (n : Nat) : (natsV l).take n = natsV (l.take n) := by unfold natsV; rw [List.map_take]
theorem natsV_drop (l : List Nat) (n : Nat) : (natsV l).drop n = natsV (l.drop n) := by unfold natsV; rw [List.map_drop]
/-! ### fork -/
def sp_Code_fork (K : PySem.W.Frag) : Sp := fun vs H Q _ => ∃ (c : Addr) (s : Cm03.St) (Y : Lay) (v t u n : Nat) (a : Addr) (l : List Nat), vs = [.ref c, .int v, .int t, .int u, .int n, .ref a] ∧ CodeAt K H c s Y ∧ H a = some (.lst (natsV l)) ∧ l.length ≤ 900 ∧ Post K H Q c Y (Cm03.step s (.fork v t u n l))
theorem pure_Code_fork (T : Tx K mg) (vs : List V) (H : Hp) (Q : VK) (E : XK) (h : sp_Code_fork K vs H Q E) : t_Code_fork K (sp_Code_open_block K) (sp_Code_put_end K) { nx := fun _ H' => Q .non H', rt := Q } (start N_Code_fork vs) H := by
  obtain ⟨c, s, Y, v, t, u, n, a, l, rfl, hc, ha, hle, p⟩ := h
  have p : Post K H Q c Y (if s.opened.isSome = true ∧ (l.length < n ∨ 16 < l.length) then (s, [-1]) else Cm03.ended s (.fork v t (l.take n) u (l.drop n))) := p
  cases q : s.opened with
  | none =>
    rw [q, if_neg (by simp)] at p
    have p : Post K H Q c Y (match s.opened with
      | none => (s, [-3])
      | some (ts, m) => if ((CmBase.End.fork v t (l.take n) u (l.drop n)).uses.all Cm03.isName && (CmBase.End.fork v t (l.take n) u (l.drop n)).targets.all Cm03.isTarget) = false then (s, [-2]) else (⟨⟨s.code.args, s.code.blocks ++ [⟨ts, m, .fork v t (l.take n) u (l.drop n)⟩]⟩, none⟩, Cm03.ints [s.code.blocks.length + 1])) := p
    rw [q] at p
    refine q_when (et_is_non (ev_open_none hc rfl q)) (fun _ H1 x1 => ?_) fun z => by cases z
    exact s_ret ev_c fun H2 x2 => p.stay hc (x1.trans x2)
  | some z =>
    obtain ⟨bs, b', rs, rl, e1, e2, bk⟩ := hc.open_last (ts := z.1) (l := z.2) q
    refine q_when (et_is_of (ev_open_some hc rfl q e1)) (fun z => by cases z) fun _ H1 x1 => ?_
    refine q_when (et_or (et_test (ev_op (ev_len (ev_var rfl) (sq_of (x1 _ _ ha))) (ev_var rfl) rv_I0)) fun _ => et_test (ev_op (ev_len (ev_var rfl) (sq_of (x1 _ _ ha))) ev_c rv_I0)) (fun z H2 x2 => ?_) fun z H2 x2 => ?_
    · rw [natsV_len, Bool.or_eq_true, decide_eq_true_iff, decide_eq_true_iff] at z
      rw [q, if_pos ⟨rfl, by omega⟩] at p
      exact s_ret ev_c fun H3 x3 => p.stay hc ((x1.trans x2).trans x3)
    · rw [natsV_len, Bool.or_eq_false_iff, decide_eq_false_iff_not, decide_eq_false_iff_not] at z
      rw [if_neg (by intro h; omega)] at p
      have x12 := x1.trans x2
      have ha2 := x12 _ _ ha
      refine ⟨_, rfl, _, rfl, _, rfl, _, rfl, _, rfl, a, _, rfl, sq_of ha2, fun l1 f1 => ?_⟩
      have x3 := Ex.new (o := .lst (cutV (natsV l) none (some (n : Int)))) f1
      refine ⟨l1, _, rfl, .inl ⟨sq_of upd_same, fun p1 fp1 => ?_⟩⟩
      have x4 := Ex.new (o := .tup (cutV (natsV l) none (some (n : Int)))) fp1
      refine ⟨_, rfl, _, rfl, _, rfl, _, rfl, a, _, rfl, sq_of (x4 _ _ (x3 _ _ ha2)), fun l2 f2 => ?_⟩
      have x5 := Ex.new (o := .lst (cutV (natsV l) (some (n : Int)) none)) f2
      refine ⟨l2, _, rfl, .inl ⟨sq_of upd_same, fun p2 fp2 => ?_⟩⟩
      have x6 := Ex.new (o := .tup (cutV (natsV l) (some (n : Int)) none)) fp2
      refine ⟨few (by simp), fun ra fra => ?_⟩
      have x7 := Ex.new (o := .tup [.int 1, .int v, .int t, .ref p1, .int u, .ref p2]) fra
      have x37 := (((x3.trans x4).trans x5).trans x6).trans x7
      have x17 := x12.trans x37
      obtain ⟨dx, fs, ho, hl⟩ := (hc.ex x17).meth (m := "put_end") (by decide +kernel) (by decide +kernel)
      refine ⟨_, rfl, c, dx, fs, rfl, ho, hl, _, rfl, _, rfl, few (by simp), fun l3 f3 => ?_⟩
      have x8 := Ex.new (o := .lst [V.int v]) f3
      refine ⟨_, rfl, l3, a, _, _, rfl, rfl, upd_same, x8 _ _ (x17 _ _ ha), few (by rw [natsV_len]; simp; omega), fun ua fua => ?_⟩
      have x9 := Ex.new (o := .lst ([V.int v] ++ natsV l)) fua
      refine ⟨_, rfl, _, rfl, few (by simp), fun ga fga => ?_⟩
      have x10 := Ex.new (o := .lst [V.int t, V.int u]) fga
      have x710 := (x8.trans x9).trans x10
      have xs := x17.trans x710
      have euse : (CmBase.End.fork v t (l.take n) u (l.drop n)).uses = v :: l := by
        show v :: (l.take n) ++ l.drop n = v :: l
        rw [List.cons_append, List.take_append_drop]
      refine ⟨c, s, Y, .ref ra, ua, ga, .fork v t (l.take n) u (l.drop n), rfl, hc.ex xs, ⟨ra, p1, p2, rfl, x710 _ _ upd_same, ?_, ?_⟩, ?_, sq_of upd_same, ?_, p.pre xs⟩
      · refine x710 _ _ (x7 _ _ (x6 _ _ (x5 _ _ ?_)))
        rw [upd_same, cut_to, natsV_take]
      · refine x710 _ _ (x7 _ _ ?_)
        rw [upd_same, cut_from, natsV_drop]
      · rw [euse]
        exact sq_of (x10 _ _ upd_same)
      · rw [euse]
        show l.length + 1 ≤ 1000
        omega
theorem D_Code_fork (T : Tx K mg) : Df P w K mg base 3 (He.ma K (He.ga K "Code") "fork") ["self", "v", "t", "u", "n", "handed"] (sp_Code_fork K) := ok_Code_fork T (D_Code_open_block T) (D_Code_put_end T) (fun vs H Q E h => by obtain ⟨a, b, d, e, f, g, i, j, k, rfl, _⟩ := h; rfl) (pure_Code_fork T)
/-! ### written tables -/
mutual
/-- v is the written value -/
def WvAt (K : PySem.W.Frag) : V → Wv → Prop
  | v, .int i => v = .int i
  | v, .bl b => v = .bl b
  | v, .str x => v = .str x
  | v, .non => v = .non
  | v, .tup l => ∃ (a : Addr) (vs : List V), v = .ref a ∧ (∀ H : Hp, SqT K H a vs) ∧ WvAts K vs l
def WvAts (K : PySem.W.Frag) : List V → List Wv → Prop
  | vs, [] => vs = []
  | vs, x :: l => ∃ v r, vs = v :: r ∧ WvAt K v x ∧ WvAts K r l
end
theorem tupItems_ok {a : Addr} {its : List Value} {vs : List V} (h : tupItems K a = some its) (hv : Vals vs its) (H : Hp) : SqT K H a vs := by
  unfold tupItems at h
  split at h
  · rename_i x y arr n z e
    split at h
    · rename_i hs
      cases h
      exact .inr ⟨_, arr, n, e, rfl, rfl, Nat.le_trans hs (by decide), hv⟩
    · cases h
  · cases h
mutual
theorem wvB_ok : ∀ (n : Nat) (x : Wv) (u : Value), wvB K n x u = true → ∃ v, RelV v u ∧ WvAt K v x
  | _, .int i, u, h => by
    cases u <;> first | cases h | skip
    rename_i j t
    have := of_decide_eq_true (show decide (i = j) = true from h)
    subst this
    exact ⟨.int i, ⟨t, rfl⟩, rfl⟩
  | _, .bl b, u, h => by
    cases u <;> first | cases h | skip
    rename_i d
    have e : b = d := by simpa using (show (b == d) = true from h)
    subst e
    exact ⟨.bl b, rfl, rfl⟩
  | _, .str x, u, h => by
    cases u <;> first | cases h | skip
    rename_i y t
    have := of_decide_eq_true (show decide (x = y) = true from h)
    subst this
    exact ⟨.str x, ⟨t, rfl⟩, rfl⟩
  | _, .non, u, h => by
    cases u <;> first | cases h | skip
    exact ⟨.non, rfl, rfl⟩
  | 0, .tup l, u, h => by
    cases u <;> cases h
  | n + 1, .tup l, u, h => by
    cases u <;> first | cases h | skip
    rename_i a
    have h : (match tupItems K a with
      | some its => wvBs K n l its
      | none => false) = true := h
    cases e : tupItems K a with
    | none => rw [e] at h; cases h
    | some its =>
      rw [e] at h
      obtain ⟨vs, r, wv⟩ := wvBs_ok n l its h
      exact ⟨.ref a, rfl, a, vs, rfl, fun H => tupItems_ok e r H, wv⟩
theorem wvBs_ok : ∀ (n : Nat) (l : List Wv) (us : List Value), wvBs K n l us = true → ∃ vs, Vals vs us ∧ WvAts K vs l
  | n, [], us, h => by
    cases us with
    | nil => exact ⟨[], .nil, rfl⟩
    | cons u r => cases h
  | n, x :: l, us, h => by
    cases us with
    | nil => cases h
    | cons u r =>
      have h2 := Bool.and_eq_true_iff.mp (show (wvB K n x u && wvBs K n l r) = true from h)
      obtain ⟨v, r1, w1⟩ := wvB_ok n x u h2.1
      obtain ⟨vs, r2, w2⟩ := wvBs_ok n l r h2.2
      exact ⟨v :: vs, .cons r1 r2, v, vs, rfl, w1, w2⟩
end
end
end VS
/-! The list of calls cut into calls (split_calls). -/
namespace VS
open PySem L2 Evl CmBase
section
variable {P : Program} {w : World} {K : PySem.W.Frag} {mg : Str → Option Value} {base : Heap} {H H0 H' H1 : Hp} {σ : L2.St} {ta tb tl ti te : TE}
/-! ### the written table of forms -/
theorem WvAts.at_ : ∀ {l : List Wv} {vs : List V} {i : Nat} {x : Wv}, WvAts K vs l → l[i]? = some x → ∃ v, vs[i]? = some v ∧ WvAt K v x
  | [], vs, i, x, _, h => by simp at h
  | y :: l, vs, 0, x, h, hx => by
    have h : ∃ v r, vs = v :: r ∧ WvAt K v y ∧ WvAts K r l := h
    obtain ⟨v, r, rfl, h1, h2⟩ := h
    cases hx
    exact ⟨v, rfl, h1⟩
  | y :: l, vs, i + 1, x, h, hx => by
    have h : ∃ v r, vs = v :: r ∧ WvAt K v y ∧ WvAts K r l := h
    obtain ⟨v, r, rfl, h1, h2⟩ := h
    obtain ⟨u, h3, h4⟩ := WvAts.at_ h2 (show l[i]? = some x from hx)
    exact ⟨u, h3, h4⟩
def formsL : List Wv := match c_FORMS with
  | .tup l => l
  | _ => []
theorem formsL_at {p : Int} (h0 : 0 ≤ p) (h1 : p ≤ 15) : formsL[p.toNat]? = some (.tup [.int (numsOf p : Int), .bl (hasRow p)]) := by
  have cases16 : p = 0 ∨ p = 1 ∨ p = 2 ∨ p = 3 ∨ p = 4 ∨ p = 5 ∨ p = 6 ∨ p = 7 ∨ p = 8 ∨ p = 9 ∨ p = 10 ∨ p = 11 ∨ p = 12 ∨ p = 13 ∨ p = 14 ∨ p = 15 := by omega
  rcases cases16 with z | z | z | z | z | z | z | z | z | z | z | z | z | z | z | z <;> subst z <;> rfl
theorem forms_at (T : Tx K mg) {p : Int} (h0 : 0 ≤ p) (h1 : p ≤ 15) : ∃ (vs : List V) (f : Addr), (∀ H : Hp, SqT K H (He.ga K "FORMS") vs) ∧ atI vs p = some (.ref f) ∧ ∀ H : Hp, SqT K H f [.int (numsOf p : Int), .bl (hasRow p)] := by
  obtain ⟨v, r, wv⟩ := wvB_ok 4 c_FORMS _ T.e
  have wv : ∃ (a : Addr) (vs : List V), v = .ref a ∧ (∀ H : Hp, SqT K H a vs) ∧ WvAts K vs formsL := wv
  obtain ⟨a, vs, rfl, hS, ha⟩ := wv
  cases r
  obtain ⟨v, hv, wv⟩ := ha.at_ (formsL_at h0 h1)
  have wv : ∃ (a : Addr) (vs : List V), v = .ref a ∧ (∀ H : Hp, SqT K H a vs) ∧ ∃ v1 r1, vs = v1 :: r1 ∧ v1 = .int (numsOf p : Int) ∧ ∃ v2 r2, r1 = v2 :: r2 ∧ v2 = .bl (hasRow p) ∧ r2 = [] := wv
  obtain ⟨f, ws, rfl, hf, v1, r1, rfl, rfl, v2, r2, rfl, rfl, rfl⟩ := wv
  refine ⟨vs, f, hS, ?_, hf⟩
  have := at_nat hv
  rwa [Int.toNat_of_nonneg h0] at this
theorem ev_form0 (T : Tx K mg) {p : Int} (h0 : 0 ≤ p) (h1 : p ≤ 15) (hv : Ev ti σ H (.int p)) : Ev (tOp (rIxT K) (tOp (rIxT K) (tC (.ref (He.ga K "FORMS"))) ti) (tC (.int 0))) σ H (.int (numsOf p : Int)) := by
  obtain ⟨vs, f, hS, hf, h2⟩ := forms_at T h0 h1
  exact ev_op (ev_op ev_c hv (rv_ixT (hS H) hf)) ev_c (rv_ixT (h2 H) rfl)
theorem ev_form1 (T : Tx K mg) {p : Int} (h0 : 0 ≤ p) (h1 : p ≤ 15) (hv : Ev ti σ H (.int p)) : Ev (tOp (rIxT K) (tOp (rIxT K) (tC (.ref (He.ga K "FORMS"))) ti) (tC (.int 1))) σ H (.bl (hasRow p)) := by
  obtain ⟨vs, f, hS, hf, h2⟩ := forms_at T h0 h1
  exact ev_op (ev_op ev_c hv (rv_ixT (hS H) hf)) ev_c (rv_ixT (h2 H) rfl)
/-! ### the calls as they lie behind it -/
structure PartsAt (N : Addr → Prop) (H : Hp) (vs : List V) (ds : List Cl) : Prop where
  len : vs.length = ds.length
  at_ : ∀ (i : Nat) (d : Cl), ds[i]? = some d → ∃ x n r, vs[i]? = some (.ref x) ∧ H x = some (.tup [.int d.p, .ref n, .ref r]) ∧ H n = some (.lst (iV d.ns)) ∧ H r = some (.lst (iV d.r)) ∧ N x ∧ N n ∧ N r
theorem PartsAt.to {N N' : Addr → Prop} {vs : List V} {ds : List Cl} (h : PartsAt N H vs ds) (k : ∀ a o, N a → H a = some o → H' a = some o) (m : ∀ a o, N a → H a = some o → N' a) : PartsAt N' H' vs ds :=
  ⟨h.len, fun i d hd => by
    obtain ⟨x, n, r, h1, h2, h3, h4, h5, h6, h7⟩ := h.at_ i d hd
    exact ⟨x, n, r, h1, k _ _ h5 h2, k _ _ h6 h3, k _ _ h7 h4, m _ _ h5 h2, m _ _ h6 h3, m _ _ h7 h4⟩⟩
theorem PartsAt.snoc {N : Addr → Prop} {vs : List V} {ds : List Cl} {d : Cl} {x n r : Addr} (h : PartsAt N H vs ds) (hx : H x = some (.tup [.int d.p, .ref n, .ref r])) (hn : H n = some (.lst (iV d.ns))) (hr : H r = some (.lst (iV d.r))) (nx : N x) (nn : N n) (nr : N r) :
    PartsAt N H (vs ++ [.ref x]) (ds ++ [d]) := by
  refine ⟨by rw [List.length_append, List.length_append, h.len]; rfl, fun i e he => ?_⟩
  by_cases hi : i < ds.length
  · rw [List.getElem?_append_left hi] at he
    obtain ⟨x', n', r', h1, h2⟩ := h.at_ i e he
    exact ⟨x', n', r', by rw [List.getElem?_append_left (by rw [h.len]; exact hi)]; exact h1, h2⟩
  · rw [List.getElem?_append_right (by omega)] at he
    have hi2 : i - ds.length = 0 := by
      have := (List.getElem?_eq_some_iff.mp he).1
      simpa using this
    rw [hi2] at he
    cases he
    exact ⟨x, n, r, by rw [List.getElem?_append_right (by rw [h.len]; omega), h.len, hi2]; rfl, hx, hn, hr, nx, nn, nr⟩
/-! ### split_calls -/
def sp_split_calls (K : PySem.W.Frag) : Sp := fun vs H Q _ => ∃ (a : Addr) (ds : List Cl), vs = [.ref a] ∧ SqL K H a (iV (ds.flatMap Cl.enc)) ∧ (∀ d ∈ ds, d.Ok) ∧ ds.length ≤ 40 ∧
  ∀ p vs' H', H p = none → Ex H H' → H' p = some (.lst vs') → PartsAt (New H) H' vs' ds → Q (.ref p) H'
theorem iV_append (l m : List Int) : iV (l ++ m) = iV l ++ iV m := List.map_append ..
theorem iV_len (l : List Int) : (iV l).length = l.length := List.length_map ..
theorem cut_mid (a b c : List Int) : cutV (iV (a ++ (b ++ c))) (some ((a.length : Nat) : Int)) (some ((a.length + b.length : Nat) : Int)) = iV b := by
  rw [cut_nat, iV_append, iV_append, ← iV_len a, List.drop_left, show (iV a).length + b.length - (iV a).length = (iV b).length by rw [iV_len b]; omega, List.take_left]
theorem iV_at (a : List Int) (z : Int) (c : List Int) : atI (iV (a ++ (z :: c))) (a.length : Int) = some (.int z) := at_nat (by
  rw [iV_append, List.getElem?_append_right (by rw [iV_len]; exact Nat.le_refl _), iV_len, Nat.sub_self]
  rfl)
theorem pure_split_calls (T : Tx K mg) (vs : List V) (H : Hp) (Q : VK) (E : XK) (h : sp_split_calls K vs H Q E) : t_split_calls K { nx := fun _ H' => Q .non H', rt := Q } (start N_split_calls vs) H := by
  obtain ⟨a, ds, rfl, hS, ok, few, k⟩ := h
  refine q_asgL (xs := []) (el_lst ea_nil (Nat.zero_le _)) fun pl H1 hn1 e1 h1 => ?_
  refine q_asg (v := .int 0) ev_c fun H2 e2 => ?_
  let W : Nat → L2.St → Hp → Prop := fun m σ' H' => ∃ (done rest : List Cl) (vs : List V), ds = done ++ rest ∧ m = rest.length ∧ (∃ w3 w4 w5 w6, σ' = [some (.ref a), some (.ref pl), some (.int ((done.flatMap Cl.enc).length : Int)), w3, w4, w5, w6]) ∧ Gr H pl vs H' ∧ PartsAt (fun b => H b = none ∧ b ≠ pl) H' vs done
  refine q_while W ds.length ⟨[], ds, [], rfl, rfl, ⟨none, none, none, none, rfl⟩, ⟨hn1, e1.trans e2, e2 _ _ h1⟩, ⟨rfl, fun i d h => by simp at h⟩⟩ fun m σ' H' hw => ?_
  obtain ⟨done, rest, vs, eds, rfl, ⟨w3, w4, w5, w6, rfl⟩, g, pa⟩ := hw
  have hS' := ex_l g.ex hS
  refine ⟨decide (((done.flatMap Cl.enc).length : Int) < ((iV (ds.flatMap Cl.enc)).length : Int)), et_test (ev_op (ev_var rfl) (ev_len (ev_var rfl) hS') rv_I0), fun hb H3 e3 => ?_, fun hb H3 e3 => ?_⟩
  · cases rest with
    | nil =>
      exfalso
      have := of_decide_eq_true hb
      rw [eds, List.append_nil, iV_len] at this
      omega
    | cons d rest =>
      have okd := ok d (by rw [eds]; simp)
      have few2 : done.length < 40 := by
        rw [eds, List.length_append, List.length_cons] at few
        omega
      have el : ds.flatMap Cl.enc = done.flatMap Cl.enc ++ (d.enc ++ rest.flatMap Cl.enc) := by rw [eds, List.flatMap_append, List.flatMap_cons]
      have elast : (done ++ [d]).flatMap Cl.enc = done.flatMap Cl.enc ++ d.enc := by rw [List.flatMap_append, List.flatMap_singleton]
      generalize hpre : done.flatMap Cl.enc = pre at *
      generalize hpost : rest.flatMap Cl.enc = post at *
      refine ⟨W rest.length, fun σ2 H2 h => ⟨rest.length, by simp, h⟩, ?_⟩
      have el1 : ds.flatMap Cl.enc = pre ++ (d.p :: ((d.ns ++ if hasRow d.p then (d.r.length : Int) :: d.r else []) ++ post)) := el
      have el2 : ds.flatMap Cl.enc = (pre ++ [d.p]) ++ (d.ns ++ ((if hasRow d.p then (d.r.length : Int) :: d.r else []) ++ post)) := by rw [el1]; simp
      have h3 := ex_l e3 hS'
      refine q_asg (v := .int d.p) (ev_op (ev_var rfl) (ev_var rfl) (rv_ixL h3 (by rw [el1]; exact iV_at _ _ _))) fun H4 e4 => ?_
      refine q_asg (v := .int ((pre.length + 1 + d.ns.length : Nat) : Int)) (ev_is (ev_op (ev_op (ev_var rfl) ev_c rv_I0) (ev_form0 T okd.lo okd.hi (ev_var rfl)) rv_I0) ?_) fun H5 e5 => ?_
      · show V.int ((pre.length : Int) + 1 + (numsOf d.p : Int)) = _
        rw [← okd.len]
        congr 1
      have cut1 : cutV (iV (ds.flatMap Cl.enc)) (some ((pre.length : Int) + 1)) (some ((pre.length + 1 + d.ns.length : Nat) : Int)) = iV d.ns := by
        rw [el2]
        have := cut_mid (pre ++ [d.p]) d.ns ((if hasRow d.p then (d.r.length : Int) :: d.r else []) ++ post)
        rw [List.length_append] at this
        exact this
      refine q_asgL (xs := iV d.ns) (el_is (el_sl (ev_var rfl) (eo_some (ev_op (ev_var rfl) ev_c rv_I0)) (eo_some (ev_var rfl)) (ex_l (e4.trans e5) h3)) cut1) fun n H6 hn6 e6 h6 => ?_
      refine q_asgL (xs := []) (el_lst ea_nil (Nat.zero_le _)) fun r0 H7 hn7 e7 h7 => ?_
      refine q_asg (ev_var rfl) fun H8 e8 => ?_
      have g5 := g.step ((e3.trans e4).trans e5)
      have new5 : ∀ {b : Addr}, H5 b = none → H b = none ∧ b ≠ pl := fun {b} hb => ⟨fresh_back g5.ex hb, fun z => by rw [z, g5.at_] at hb; cases hb⟩
      have fin : ∀ (r : Addr) (Hx : Hp), Ex H6 Hx → H5 r = none → Hx r = some (.lst (iV d.r)) →
          tDrop (tBM K "list" rAppend (tVar 1) (tCons (tTup (tCons (tVar 3) (tCons (tVar 5) (tCons (tVar 6) tNil)))) tNil)) { nx := W rest.length, rt := Q, bk := fun σ H => tRet (tVar 1) { nx := fun _ H' => Q .non H', rt := Q } σ H, ct := W rest.length }
            [some (.ref a), some (.ref pl), some (.int ((pre ++ d.enc).length : Int)), some (.int d.p), some (.int ((pre.length + 1 + d.ns.length : Nat) : Int)), some (.ref n), some (.ref r)] Hx := fun r Hx ex hr hrx => by
        have gx := g5.step (e6.trans ex)
        refine s_appU (ys := [.int d.p, .ref n, .ref r]) gx.at_ (ev_var rfl) (eu_tup (ea_cons (ev_var rfl) (ea_cons (ev_var rfl) (ea_cons (ev_var rfl) ea_nil))) (show 3 ≤ 100000 by decide)) (by rw [pa.len]; omega) fun x Hy hnx ey hx => ?_
        refine ⟨done ++ [d], rest, vs ++ [.ref x], by rw [eds]; simp, rfl, ⟨_, _, _, _, by rw [elast]⟩, gx.put ey, ?_⟩
        have nx := new5 (fresh_back (e6.trans ex) hnx)
        have nn := new5 hn6
        have nr := new5 hr
        refine (pa.to (fun b o nb hb => ?_) (fun b o nb hb => nb)).snoc ?_ ?_ ?_ nx nn nr
        · rw [upd_ne nb.2]
          exact ey _ _ (ex _ _ (e6 _ _ (e5 _ _ (e4 _ _ (e3 _ _ hb)))))
        · rw [upd_ne nx.2]
          exact hx
        · rw [upd_ne nn.2]
          exact ey _ _ (ex _ _ h6)
        · rw [upd_ne nr.2]
          exact ey _ _ hrx
      refine q_when (et_B (ev_form1 T okd.lo okd.hi (ev_var rfl))) (fun hb H9 e9 => ?_) (fun hb H9 e9 => ?_)
      · have el3 : ds.flatMap Cl.enc = (pre ++ (d.p :: d.ns)) ++ ((d.r.length : Int) :: (d.r ++ post)) := by rw [el2, hb]; simp
        have el4 : ds.flatMap Cl.enc = (pre ++ (d.p :: (d.ns ++ [(d.r.length : Int)]))) ++ (d.r ++ post) := by rw [el3]; simp
        have l3 : (pre ++ (d.p :: d.ns)).length = pre.length + 1 + d.ns.length := by rw [List.length_append, List.length_cons]; omega
        have l4 : (pre ++ (d.p :: (d.ns ++ [(d.r.length : Int)]))).length = pre.length + 1 + d.ns.length + 1 := by
          rw [List.length_append, List.length_cons, List.length_append]
          show _ + (_ + 1 + 1) = _
          omega
        have len : (pre ++ d.enc).length = pre.length + 1 + d.ns.length + 1 + d.r.length := by
          unfold Cl.enc
          rw [hb, List.length_append, List.length_cons, List.length_append, if_pos rfl, List.length_cons]
          omega
        have h9 := ex_l ((((e4.trans e5).trans e6).trans e7).trans (e8.trans e9)) h3
        have at9 : atI (iV (ds.flatMap Cl.enc)) ((pre.length + 1 + d.ns.length : Nat) : Int) = some (.int (d.r.length : Int)) := by
          rw [el3, ← l3]
          exact iV_at _ _ _
        refine q_asg (v := .int ((pre ++ d.enc).length : Int)) (ev_is (ev_op (ev_op (ev_var rfl) ev_c rv_I0) (ev_op (ev_var rfl) (ev_var rfl) (rv_ixL h9 at9)) rv_I0) ?_) fun H10 e10 => ?_
        · rw [len]
          congr 1
        have cut2 : cutV (iV (ds.flatMap Cl.enc)) (some (((pre.length + 1 + d.ns.length : Nat) : Int) + 1)) (some ((pre ++ d.enc).length : Int)) = iV d.r := by
          have := cut_mid (pre ++ (d.p :: (d.ns ++ [(d.r.length : Int)]))) d.r post
          rw [← el4, l4, ← len] at this
          exact this
        refine s_asgL (xs := iV d.r) (el_is (el_sl (ev_var rfl) (eo_some (ev_op (ev_var rfl) ev_c rv_I0)) (eo_some (ev_var rfl)) (ex_l e10 h9)) cut2) fun r H11 hn11 e11 h11 => ?_
        exact fin r H11 ((((e7.trans e8).trans e9).trans e10).trans e11) (fresh_back (((((e6.trans e7).trans e8).trans e9).trans e10)) hn11) h11
      · have len : (pre ++ d.enc).length = pre.length + 1 + d.ns.length := by
          unfold Cl.enc
          rw [hb, List.length_append, List.length_cons, List.length_append]
          show _ + (_ + 0 + 1) = _
          omega
        have := fin r0 H9 ((e7.trans e8).trans e9) (fresh_back e6 hn7) (by rw [okd.row hb]; exact e9 _ _ (e8 _ _ h7))
        rw [len] at this
        exact this
  · have : rest = [] := by
      cases rest with
      | nil => rfl
      | cons d rest =>
        exfalso
        have := of_decide_eq_false hb
        rw [eds, List.flatMap_append, List.flatMap_cons, iV_len, List.length_append, List.length_append] at this
        have : d.enc.length ≠ 0 := by unfold Cl.enc; simp
        omega
    subst this
    rw [List.append_nil] at eds
    subst eds
    exact s_ret (ev_var rfl) fun H4 e4 => k pl vs H4 g.new (g.ex.trans (e3.trans e4)) (e4 _ _ (e3 _ _ g.at_)) (pa.to (fun b o nb hb => e4 _ _ (e3 _ _ hb)) fun b o nb hb => nb.1)
theorem D_split_calls (T : Tx K mg) : Df P w K mg base 1 (He.ga K "split_calls") ["calls"] (sp_split_calls K) := ok_split_calls T (fun vs H Q E h => by obtain ⟨a, b, rfl, _⟩ := h; rfl) (pure_split_calls T)
end
end VS
/-! One call done (build, ask, answer_to). -/
namespace VS
open PySem L2 Evl CmBase
section
variable {P : Program} {w : World} {K : PySem.W.Frag} {mg : Str → Option Value} {base : Heap} {H H0 H' H1 : Hp} {σ : L2.St} {c a bl l p n r : Addr} {s : Cm03.St} {Y : Lay} {D : Ends} {tu tz : TS} {d : Cl} {x : Cm06.Call}
/-! ### which call it is -/
theorem x_not {i j : Int} (hσ : σ[1]? = some (some (.int j))) (ne : decide (j = i) = false) (k : ∀ H1, Ex H H1 → tz D σ H1) : ∀ H1, Ex H H1 → tSeq (tIfS (tTest (tOp rEq (tVar 1) (tC (.int i)))) tu tNext) tz D σ H1 := fun H1 e =>
  q_when (b := decide (j = i)) (et_test (ev_op (ev_var hσ) ev_c rv_eqI)) (fun hb => absurd (of_decide_eq_true hb) (of_decide_eq_false ne)) (fun _ H2 e2 => k H2 (e.trans e2))
theorem x_yes {i : Int} (hσ : σ[1]? = some (some (.int i))) (k : ∀ H1, Ex H H1 → tu { D with nx := tz D } σ H1) : ∀ H1, Ex H H1 → tSeq (tIfS (tTest (tOp rEq (tVar 1) (tC (.int i)))) tu tNext) tz D σ H1 := fun H1 e =>
  q_when (b := decide (i = i)) (et_test (ev_op (ev_var hσ) ev_c rv_eqI)) (fun _ H2 e2 => k H2 (e.trans e2)) (fun hb => absurd rfl (of_decide_eq_false hb))
/-- a method of the code that changes it, its answer given back -/
theorem m_ret {sp : Sp} {m : Str} {tA : TA} {vs : List V} (hc : CodeAt K H c s Y) (hσ : σ[0]? = some (some (.ref c))) (h1 : (m == ("words" : Str)) = false) (h2 : (m == ("blocks" : Str)) = false) (hv : EvA tA σ H vs) (hs : ∀ H1, Ex H H1 → sp (.ref c :: vs) H1 D.rt E0) :
    ∀ H1, Ex H H1 → tRet (tMeth (He.ga K "Code") m sp [] E0 (tVar 0) tA) D σ H1 := fun H0 e0 => by
  obtain ⟨dx, ho⟩ := hc.obj
  show tVar 0 σ H0 fun x H1 => ∃ a dx fs, x = .ref a ∧ H1 a = some (.ins (He.ga K "Code") dx fs) ∧ fs.lookup m = none ∧ tA σ H1 fun vs H2 => sp (x :: (vs ++ [])) H2 D.rt E0
  exact (ev_var (H := H) hσ) H0 e0 _ fun H1 e1 => ⟨c, dx, _, rfl, e1 _ _ (e0 _ _ ho), cF_no h1 h2, hv H1 (e0.trans e1) _ fun H2 e2 => by
    rw [List.append_nil]
    exact hs H2 ((e0.trans e1).trans e2)⟩
theorem iV_zs (l : List Nat) : iV (zs l) = natsV l := (natsV_ints l).symm
theorem ev_arg {ns : List Nat} {i k : Nat} (hσ : σ[2]? = some (some (.ref n))) (hn : H n = some (.lst (iV (zs ns)))) (hk : ns[i]? = some k) : Ev (tOp (rIxL K) (tVar 2) (tC (.int (i : Int)))) σ H (.int (k : Int)) :=
  ev_op (ev_var hσ) ev_c (rv_ixL (sq_of hn) (at_nat (by rw [iV_zs]; exact nats_at hk)))
/-! ### build -/
def sp_build (K : PySem.W.Frag) : Sp := fun vs H Q _ => ∃ (c : Addr) (s : Cm03.St) (Y : Lay) (d : Cl) (x : Cm06.Call) (n r : Addr), vs = [.ref c, .int d.p, .ref n, .ref r] ∧ CodeAt K H c s Y ∧ H n = some (.lst (iV d.ns)) ∧ H r = some (.lst (iV d.r)) ∧ Form s d x ∧ d.p ≤ 7 ∧ Post K H Q c Y (Cm06.step s x)
theorem pure_build (vs : List V) (H : Hp) (Q : VK) (E : XK) (h : sp_build K vs H Q E) : t_build K (sp_Code_begin K) (sp_Code_block K) (sp_Code_fork K) (sp_Code_give K) (sp_Code_jump K) (sp_Code_num K) (sp_Code_say K) (sp_Code_two K) { nx := fun _ H' => Q .non H', rt := Q } (start N_build vs) H := by
  obtain ⟨c, s, Y, d, x, n, r, rfl, hc, hn, hr, f, hp, p⟩ := h
  cases f with
  | code k => exact x_yes rfl (m_ret hc rfl (by decide +kernel) (by decide +kernel) (ea_cons (ev_arg (i := 0) rfl hn rfl) ea_nil) fun H1 e => ⟨c, s, Y, k, rfl, hc.ex e, p.pre e⟩) H (Ex.refl H)
  | block l hl => exact x_not rfl rfl (x_yes rfl (m_ret hc rfl (by decide +kernel) (by decide +kernel) (ea_cons (ev_var rfl) ea_nil) fun H1 e => ⟨c, s, Y, r, l, rfl, hc.ex e, by rw [iV_zs] at hr; exact sq_of (e _ _ hr), by omega, p.pre e⟩)) H (Ex.refl H)
  | num x k hk => exact x_not rfl rfl (x_not rfl rfl (x_yes rfl (m_ret hc rfl (by decide +kernel) (by decide +kernel) (ea_cons (ev_arg (i := 0) rfl hn rfl) (ea_cons (ev_arg (i := 1) rfl hn rfl) ea_nil)) fun H1 e => ⟨c, s, Y, x, k, rfl, hc.ex e, p.pre e⟩))) H (Ex.refl H)
  | two x o a b => exact x_not rfl rfl (x_not rfl rfl (x_not rfl rfl (x_yes rfl (m_ret hc rfl (by decide +kernel) (by decide +kernel) (ea_cons (ev_arg (i := 0) rfl hn rfl) (ea_cons (ev_arg (i := 1) rfl hn rfl) (ea_cons (ev_arg (i := 2) rfl hn rfl) (ea_cons (ev_arg (i := 3) rfl hn rfl) ea_nil)))) fun H1 e => ⟨c, s, Y, x, o, a, b, rfl, hc.ex e, p.pre e⟩)))) H (Ex.refl H)
  | say a => exact x_not rfl rfl (x_not rfl rfl (x_not rfl rfl (x_not rfl rfl (x_yes rfl (m_ret hc rfl (by decide +kernel) (by decide +kernel) (ea_cons (ev_arg (i := 0) rfl hn rfl) ea_nil) fun H1 e => ⟨c, s, Y, a, rfl, hc.ex e, p.pre e⟩))))) H (Ex.refl H)
  | jump t l hl => exact x_not rfl rfl (x_not rfl rfl (x_not rfl rfl (x_not rfl rfl (x_not rfl rfl (x_yes rfl (m_ret hc rfl (by decide +kernel) (by decide +kernel) (ea_cons (ev_arg (i := 0) rfl hn rfl) (ea_cons (ev_var rfl) ea_nil)) fun H1 e => ⟨c, s, Y, t, r, l, rfl, hc.ex e, by rw [iV_zs] at hr; exact sq_of (e _ _ hr), by omega, p.pre e⟩)))))) H (Ex.refl H)
  | fork v t u k l hl => exact x_not rfl rfl (x_not rfl rfl (x_not rfl rfl (x_not rfl rfl (x_not rfl rfl (x_not rfl rfl (x_yes rfl (m_ret hc rfl (by decide +kernel) (by decide +kernel) (ea_cons (ev_arg (i := 0) rfl hn rfl) (ea_cons (ev_arg (i := 1) rfl hn rfl) (ea_cons (ev_arg (i := 2) rfl hn rfl) (ea_cons (ev_arg (i := 3) rfl hn rfl) (ea_cons (ev_var rfl) ea_nil))))) fun H1 e => ⟨c, s, Y, v, t, u, k, r, l, rfl, hc.ex e, by rw [iV_zs] at hr; exact e _ _ hr, by omega, p.pre e⟩))))))) H (Ex.refl H)
  | give v => exact x_not rfl rfl (x_not rfl rfl (x_not rfl rfl (x_not rfl rfl (x_not rfl rfl (x_not rfl rfl (x_not rfl rfl (m_ret hc rfl (by decide +kernel) (by decide +kernel) (ea_cons (ev_arg (i := 0) rfl hn rfl) ea_nil) fun H1 e => ⟨c, s, Y, v, rfl, hc.ex e, p.pre e⟩))))))) H (Ex.refl H)
  | run _ _ _ _ => exact absurd hp (of_decide_eq_false rfl)
  | lives _ _ => exact absurd hp (of_decide_eq_false rfl)
  | there _ _ => exact absurd hp (of_decide_eq_false rfl)
  | most => exact absurd hp (of_decide_eq_false rfl)
  | together _ _ => exact absurd hp (of_decide_eq_false rfl)
  | registers => exact absurd hp (of_decide_eq_false rfl)
  | inRegisters => exact absurd hp (of_decide_eq_false rfl)
  | runRegisters _ _ _ _ => exact absurd hp (of_decide_eq_false rfl)
theorem D_build (T : Tx K mg) : Df P w K mg base 4 (He.ga K "build") ["code", "call", "numbers", "listed"] (sp_build K) := ok_build T (D_Code_begin T) (D_Code_block T) (D_Code_fork T) (D_Code_give T) (D_Code_jump T) (D_Code_num T) (D_Code_say T) (D_Code_two T) (fun vs H Q E h => by obtain ⟨a, b, d, e, f, g, i, rfl, _⟩ := h; rfl) pure_build
/-! ### what the calls that build answer: one number -/
theorem rowed_one {q : Row} : (Cm03.rowed s q).2 = [(Cm03.rowed s q).2.headD 0] := by
  unfold Cm03.rowed
  split
  · rfl
  · split
    · rfl
    · split <;> rfl
theorem ended_one {q : CmBase.End} : (Cm03.ended s q).2 = [(Cm03.ended s q).2.headD 0] := by
  unfold Cm03.ended
  split
  · rfl
  · split <;> rfl
theorem build_one (f : Form s d x) (h : d.p ≤ 7) : (Cm06.step s x).2 = [(Cm06.step s x).2.headD 0] := by
  cases f with
  | code k =>
    show (if 6 < k then (s, [-1]) else (⟨⟨k, []⟩, none⟩, Cm03.ints [k]) : Cm03.St × List Int).2 = [(if 6 < k then (s, [-1]) else (⟨⟨k, []⟩, none⟩, Cm03.ints [k]) : Cm03.St × List Int).2.headD 0]
    split <;> rfl
  | block l hl =>
    show (Cm03.step s (.block l)).2 = [(Cm03.step s (.block l)).2.headD 0]
    unfold Cm03.step
    simp only
    split
    · rfl
    · split
      · rfl
      · split <;> rfl
  | num x k hk => exact rowed_one
  | two x o a b =>
    show (Cm03.step s (.two x o a b)).2 = [(Cm03.step s (.two x o a b)).2.headD 0]
    unfold Cm03.step
    simp only
    split
    · rfl
    · rfl
    · exact rowed_one
  | say a => exact rowed_one
  | jump t l hl =>
    show (Cm03.step s (.jump t l)).2 = [(Cm03.step s (.jump t l)).2.headD 0]
    unfold Cm03.step
    simp only
    split
    · rfl
    · exact ended_one
  | fork v t u k l hl =>
    show (Cm03.step s (.fork v t u k l)).2 = [(Cm03.step s (.fork v t u k l)).2.headD 0]
    unfold Cm03.step
    simp only
    split
    · rfl
    · exact ended_one
  | give v => exact ended_one
  | run _ _ _ _ => exact absurd h (of_decide_eq_false rfl)
  | lives _ _ => exact absurd h (of_decide_eq_false rfl)
  | there _ _ => exact absurd h (of_decide_eq_false rfl)
  | most => exact absurd h (of_decide_eq_false rfl)
  | together _ _ => exact absurd h (of_decide_eq_false rfl)
  | registers => exact absurd h (of_decide_eq_false rfl)
  | inRegisters => exact absurd h (of_decide_eq_false rfl)
  | runRegisters _ _ _ _ => exact absurd h (of_decide_eq_false rfl)
/-! ### ask -/
def askI (cd : CmBase.Code) : Cm06.Call → List Int
  | .write (.run n l) => ranI cd n l
  | .lives i r => livesI cd i r
  | .there i p => thereI cd i p
  | .most => mostI cd
  | .together x y => togI cd x y
  | .registers => regI cd
  | .inRegisters => Cm03.ints (Cm06.inRegisters cd).nums
  | .runRegisters n l => ranI (Cm06.inRegisters cd) n l
  | _ => []
theorem step_asks (f : Form s d x) (h : 8 ≤ d.p) : Cm06.step s x = (s, Cm03.asks s (askI s.code x)) := by
  cases f with
  | code _ => exact absurd h (of_decide_eq_false rfl)
  | block _ _ => exact absurd h (of_decide_eq_false rfl)
  | num _ _ _ => exact absurd h (of_decide_eq_false rfl)
  | two _ _ _ _ => exact absurd h (of_decide_eq_false rfl)
  | say _ => exact absurd h (of_decide_eq_false rfl)
  | jump _ _ _ => exact absurd h (of_decide_eq_false rfl)
  | fork _ _ _ _ _ _ => exact absurd h (of_decide_eq_false rfl)
  | give _ => exact absurd h (of_decide_eq_false rfl)
  | run n l _ _ =>
    show (s, Cm03.asks s (if 5 < 0 ∨ 500 < n then [-1] else if l.length ≠ s.code.args then [-5] else Cm03.ints (ranNums (CmBase.run s.code n l)))) = (s, Cm03.asks s (ranI s.code n l))
    unfold ranI
    have e : (5 < 0 ∨ 500 < n) ↔ 500 < n := ⟨fun q => q.elim (fun z => absurd z (by decide)) id, .inr⟩
    by_cases q : 500 < n
    · rw [if_pos q, if_pos (e.mpr q)]
    · rw [if_neg q, if_neg (fun z => q (e.mp z))]
  | lives i r => rfl
  | there i p => rfl
  | most => rfl
  | together x y => rfl
  | registers => rfl
  | inRegisters => rfl
  | runRegisters n l _ _ => rfl
def sp_ask (K : PySem.W.Frag) : Sp := fun vs H Q _ => ∃ (c : Addr) (s : Cm03.St) (d : Cl) (x : Cm06.Call) (n r bl : Addr) (bs : List Addr), vs = [.ref c, .int d.p, .ref n, .ref r] ∧ CAt K H c s.code bl bs ∧ COk s.code ∧ Whole s.code ∧ Fair s.code ∧ H n = some (.lst (iV d.ns)) ∧ H r = some (.lst (iV d.r)) ∧ Form s d x ∧ 8 ≤ d.p ∧ RetL (iV (askI s.code x)) H Q
theorem c_ret {sp : Sp} {tA : TA} {vs xs : List V} (hv : EvA tA σ H vs) (hs : ∀ H1, Ex H H1 → ∀ Q : VK, RetL xs H1 Q → sp vs H1 Q E0) (k : RetL xs H D.rt) : ∀ H1, Ex H H1 → tRet (tCall sp [] E0 tA) D σ H1 := fun H0 e0 =>
  hv H0 e0 _ fun H1 e1 => by
    rw [List.append_nil]
    exact hs H1 (e0.trans e1) _ (fun q H2 hn e2 h => k q H2 (fresh_back (e0.trans e1) hn) ((e0.trans e1).trans e2) h)
theorem pure_ask (vs : List V) (H : Hp) (Q : VK) (E : XK) (h : sp_ask K vs H Q E) : t_ask K (sp_ask_in_registers K) (sp_ask_lives K) (sp_ask_most K) (sp_ask_registers K) (sp_ask_run K) (sp_ask_run_in_registers K) (sp_ask_there K) (sp_ask_together K) { nx := fun _ H' => Q .non H', rt := Q } (start N_ask vs) H := by
  obtain ⟨c, s, d, x, n, r, bl, bs, rfl, hc, ok, wh, fr, hn, hr, f, hp, k⟩ := h
  cases f with
  | code _ => exact absurd hp (of_decide_eq_false rfl)
  | block _ _ => exact absurd hp (of_decide_eq_false rfl)
  | num _ _ _ => exact absurd hp (of_decide_eq_false rfl)
  | two _ _ _ _ => exact absurd hp (of_decide_eq_false rfl)
  | say _ => exact absurd hp (of_decide_eq_false rfl)
  | jump _ _ _ => exact absurd hp (of_decide_eq_false rfl)
  | fork _ _ _ _ _ _ => exact absurd hp (of_decide_eq_false rfl)
  | give _ => exact absurd hp (of_decide_eq_false rfl)
  | run m l _ hl => exact x_yes rfl (c_ret (ea_cons (ev_var rfl) (ea_cons (ev_arg (i := 0) rfl hn rfl) (ea_cons (ev_var rfl) ea_nil))) (fun H1 e Q q => ⟨c, s.code, bl, bs, m, r, l, rfl, hc.ex e, ok, wh.fits ok, wh.one, by rw [iV_zs] at hr; exact e _ _ hr, Words.args hl, q⟩) k) H (Ex.refl H)
  | lives i j => exact x_not rfl rfl (x_yes rfl (c_ret (ea_cons (ev_var rfl) (ea_cons (ev_arg (i := 0) rfl hn rfl) (ea_cons (ev_arg (i := 1) rfl hn rfl) ea_nil))) (fun H1 e Q q => ⟨c, s.code, bl, bs, i, j, rfl, hc.ex e, ok, wh, q⟩) k)) H (Ex.refl H)
  | there i j => exact x_not rfl rfl (x_not rfl rfl (x_yes rfl (c_ret (ea_cons (ev_var rfl) (ea_cons (ev_arg (i := 0) rfl hn rfl) (ea_cons (ev_arg (i := 1) rfl hn rfl) ea_nil))) (fun H1 e Q q => ⟨c, s.code, bl, bs, i, j, rfl, hc.ex e, ok, wh, q⟩) k))) H (Ex.refl H)
  | most => exact x_not rfl rfl (x_not rfl rfl (x_not rfl rfl (x_yes rfl (c_ret (ea_cons (ev_var rfl) ea_nil) (fun H1 e Q q => ⟨c, s.code, bl, bs, rfl, hc.ex e, ok, wh, q⟩) k)))) H (Ex.refl H)
  | together i j => exact x_not rfl rfl (x_not rfl rfl (x_not rfl rfl (x_not rfl rfl (x_yes rfl (c_ret (ea_cons (ev_var rfl) (ea_cons (ev_arg (i := 0) rfl hn rfl) (ea_cons (ev_arg (i := 1) rfl hn rfl) ea_nil))) (fun H1 e Q q => ⟨c, s.code, bl, bs, i, j, rfl, hc.ex e, ok, wh, q⟩) k))))) H (Ex.refl H)
  | registers => exact x_not rfl rfl (x_not rfl rfl (x_not rfl rfl (x_not rfl rfl (x_not rfl rfl (x_yes rfl (c_ret (ea_cons (ev_var rfl) ea_nil) (fun H1 e Q q => ⟨c, s.code, bl, bs, rfl, hc.ex e, ok, wh, fr, q⟩) k)))))) H (Ex.refl H)
  | inRegisters => exact x_not rfl rfl (x_not rfl rfl (x_not rfl rfl (x_not rfl rfl (x_not rfl rfl (x_not rfl rfl (x_yes rfl (c_ret (ea_cons (ev_var rfl) ea_nil) (fun H1 e Q q => ⟨c, s.code, bl, bs, rfl, hc.ex e, ok, wh, fr, q⟩) k))))))) H (Ex.refl H)
  | runRegisters m l _ hl => exact x_not rfl rfl (x_not rfl rfl (x_not rfl rfl (x_not rfl rfl (x_not rfl rfl (x_not rfl rfl (x_not rfl rfl (c_ret (ea_cons (ev_var rfl) (ea_cons (ev_arg (i := 0) rfl hn rfl) (ea_cons (ev_var rfl) ea_nil))) (fun H1 e Q q => ⟨c, s.code, bl, bs, m, r, l, rfl, hc.ex e, ok, wh, fr, by rw [iV_zs] at hr; exact e _ _ hr, Words.args hl, q⟩) k))))))) H (Ex.refl H)
theorem D_ask (T : Tx K mg) : Df P w K mg base 10 (He.ga K "ask") ["code", "call", "numbers", "listed"] (sp_ask K) := ok_ask T (D_ask_in_registers T) (D_ask_lives T) (D_ask_most T) (D_ask_registers T) (D_ask_run T) (D_ask_run_in_registers T) (D_ask_there T) (D_ask_together T) (fun vs H Q E h => by obtain ⟨a, b, d, e, f, g, i, j, rfl, _⟩ := h; rfl) pure_ask
/-! ### answer_to -/
theorem CodeAt.some_ (h : CodeAt K H c s Y) {a : Addr} (ha : a ∈ foot c Y) : ∃ o, H a = some o := by
  rcases mem_foot.mp ha with e | e | e | e
  · subst e
    obtain ⟨dx, ho⟩ := h.obj
    exact ⟨_, ho⟩
  · subst e
    exact ⟨_, h.lst⟩
  · obtain ⟨r, k, dx, _, _, _, q, _⟩ := h.mem_b e
    exact ⟨_, q⟩
  · obtain ⟨b, k, dx, _, _, _, _, _, q, _⟩ := h.mem_r e
    exact ⟨_, q⟩
theorem CodeAt.new_ (h : CodeAt K H c s Y) {a : Addr} (ha : H a = none) : a ∉ foot c Y := fun m => by
  obtain ⟨o, e⟩ := h.some_ m
  rw [ha] at e
  cases e
/-- what a call leaves and answers: a new list -/
def AnsP (K : PySem.W.Frag) (H : Hp) (Q : VK) (c : Addr) (Y : Lay) (r : Cm03.St × List Int) : Prop := ∀ H' Y' q, CodeAt K H' c r.1 Y' → Kept c H Y H' Y' → H' q = some (.lst (iV r.2)) → q ∉ foot c Y' → (∀ a o, H a = some o → a ∉ foot c Y → q ≠ a) → Q (.ref q) H'
theorem AnsP.retL {Q : VK} {zs : List Int} (k : AnsP K H Q c Y (s, zs)) (hc : CodeAt K H c s Y) : RetL (iV zs) H Q := fun q H2 hn e h => k H2 Y q (hc.ex e) (Kept.of_ex e) h (hc.new_ hn) fun a o ha _ z => by
  rw [← z, hn] at ha
  cases ha
def sp_answer_to (K : PySem.W.Frag) : Sp := fun vs H Q _ => ∃ (c : Addr) (s : Cm03.St) (Y : Lay) (d : Cl) (x : Cm06.Call) (n r : Addr), vs = [.ref c, .int d.p, .ref n, .ref r] ∧ CodeAt K H c s Y ∧ StOk s ∧ H n = some (.lst (iV d.ns)) ∧ H r = some (.lst (iV d.r)) ∧ Form s d x ∧ AnsP K H Q c Y (Cm06.step s x)
theorem pure_answer_to (vs : List V) (H : Hp) (Q : VK) (E : XK) (h : sp_answer_to K vs H Q E) : t_answer_to K (sp_ask K) (sp_build K) (sp_refusal_of_all K) { nx := fun _ H' => Q .non H', rt := Q } (start N_answer_to vs) H := by
  obtain ⟨c, s, Y, d, x, n, r, rfl, hc, ok, hn, hr, f, k⟩ := h
  refine q_when (b := decide (d.p ≤ 7)) (et_test (ev_op (ev_var rfl) ev_c rv_I0)) (fun hb H1 e1 => ?_) (fun hb H1 e1 => ?_)
  · have hb := of_decide_eq_true hb
    have args : EvA (tCons (tVar 0) (tCons (tVar 1) (tCons (tVar 2) (tCons (tVar 3) tNil)))) [some (.ref c), some (.int d.p), some (.ref n), some (.ref r), none] H1 [.ref c, .int d.p, .ref n, .ref r] := ea_cons (ev_var rfl) (ea_cons (ev_var rfl) (ea_cons (ev_var rfl) (ea_cons (ev_var rfl) ea_nil)))
    show tCons (tVar 0) (tCons (tVar 1) (tCons (tVar 2) (tCons (tVar 3) tNil))) [some (.ref c), some (.int d.p), some (.ref n), some (.ref r), none] H1 fun vs H2 => sp_build K (vs ++ []) H2 (fun w H3 => [w].length ≤ sizeLine ∧ ∀ q, H3 q = none → Q (.ref q) (upd H3 q (.lst [w]))) E0
    refine args H1 (Ex.refl H1) _ fun H2 e2 => ⟨c, s, Y, d, x, n, r, rfl, hc.ex (e1.trans e2), (e1.trans e2) _ _ hn, (e1.trans e2) _ _ hr, f, hb, fun H3 Y' hc3 kp => ⟨sz_of (show 1 ≤ 100000 by decide), fun q hq => ?_⟩⟩
    have kp2 := kp.pre (e1.trans e2)
    refine k _ Y' q (hc3.ex (Ex.new hq)) (kp2.trans (Kept.of_ex (Ex.new hq))) ?_ (hc3.new_ hq) fun a o ha nf z => ?_
    · rw [build_one f hb]
      exact upd_same
    · have := kp2.same a o ha nf
      rw [← z, hq] at this
      cases this
  · have hb : 8 ≤ d.p := by
      have := of_decide_eq_false hb
      omega
    rw [step_asks f hb] at k
    have k := (k.retL hc).pre e1
    have hc1 := hc.ex e1
    unfold Cm03.asks at k
    refine q_asg (v := .int (Cm03.notReady s)) (ev_call (dvs := []) (ea_cons (ev_var rfl) ea_nil) fun H2 e2 Q q E => ⟨c, s, Y, rfl, hc1.ex e2, ok, q⟩) fun H2 e2 => ?_
    refine q_when (b := decide (Cm03.notReady s < 0)) (et_test (ev_op (ev_var rfl) ev_c rv_I0)) (fun hb2 H3 e3 => ?_) (fun hb2 H3 e3 => ?_)
    · rw [if_pos (of_decide_eq_true hb2)] at k
      exact s_retL (el_lst (ea_cons (ev_var rfl) ea_nil) (show 1 ≤ 100000 by decide)) fun q H4 hq e4 h4 => k q H4 (fresh_back (e2.trans e3) hq) ((e2.trans e3).trans e4) h4
    · have hb2 := of_decide_eq_false hb2
      rw [if_neg hb2] at k
      unfold Cm03.notReady at hb2
      have w1 : (s.opened.isNone && Cm03.isWhole s.code) = true := by
        cases q : (s.opened.isNone && Cm03.isWhole s.code) with
        | true => rfl
        | false =>
          rw [q, if_pos rfl] at hb2
          exact absurd (by decide) hb2
      have w2 : Cm03.isFair s.code = true := by
        cases q : Cm03.isFair s.code with
        | true => rfl
        | false =>
          rw [w1, if_neg (by simp), q, if_pos rfl] at hb2
          exact absurd (by decide) hb2
      obtain ⟨ho, wh⟩ := whole_of w1
      have fr := (fair_iff wh.one).mp w2
      have e := e2.trans e3
      refine c_ret (H := H3) (ea_cons (ev_var rfl) (ea_cons (ev_var rfl) (ea_cons (ev_var rfl) (ea_cons (ev_var rfl) ea_nil)))) (fun H4 e4 Q q => ⟨c, s, d, x, n, r, Y.bl, Y.bs, rfl, (hc1.ex (e.trans e4)).cat ho, ok.cok, wh, fr, (e1.trans (e.trans e4)) _ _ hn, (e1.trans (e.trans e4)) _ _ hr, f, hb, q⟩) (k.pre e) H3 (Ex.refl H3)
theorem D_answer_to (T : Tx K mg) : Df P w K mg base 11 (He.ga K "answer_to") ["code", "call", "numbers", "listed"] (sp_answer_to K) := ok_answer_to T (D_ask T) (D_build T) (D_refusal_of_all T) (fun vs H Q E h => by obtain ⟨a, b, d, e, f, g, i, rfl, _⟩ := h; rfl) pure_answer_to
end
end VS
/-! All calls, one behind another (answers). -/
namespace VS
open PySem L2 Evl CmBase
/-! ### the specification's machine, call by call -/
def stateC : Cm03.St → List Cl → Cm03.St
  | s, [] => s
  | s, c :: r => stateC (stepC s c).1 r
theorem stateC_append : ∀ (l m : List Cl) (s : Cm03.St), stateC s (l ++ m) = stateC (stateC s l) m
  | [], _, _ => rfl
  | c :: l, m, s => stateC_append l m (stepC s c).1
theorem playC_append : ∀ (l m : List Cl) (s : Cm03.St), playC s (l ++ m) = playC s l ++ playC (stateC s l) m
  | [], _, _ => rfl
  | c :: l, m, s => congrArg ((stepC s c).2 :: ·) (playC_append l m (stepC s c).1)
theorem told_append (l m : List (List Int)) : PyFlat.told (l ++ m) = PyFlat.told l ++ PyFlat.told m := List.flatMap_append
theorem told_one (x : List Int) : PyFlat.told [x] = (x.length : Int) :: x := by
  unfold PyFlat.told
  rw [List.flatMap_singleton]
theorem told_next {ds : List Cl} {i : Nat} {d : Cl} {s : Cm03.St} (h : ds[i]? = some d) : PyFlat.told (playC s (ds.take (i + 1))) = PyFlat.told (playC s (ds.take i)) ++ (((stepC (stateC s (ds.take i)) d).2.length : Int) :: (stepC (stateC s (ds.take i)) d).2) := by
  rw [take_next h, playC_append, told_append]
  exact congrArg _ (told_one _)
theorem state_next {ds : List Cl} {i : Nat} {d : Cl} {s : Cm03.St} (h : ds[i]? = some d) : stateC s (ds.take (i + 1)) = (stepC (stateC s (ds.take i)) d).1 := by
  rw [take_next h, stateC_append]
  rfl
theorem told_take_le (ds : List Cl) (i : Nat) (s : Cm03.St) : (PyFlat.told (playC s (ds.take i))).length ≤ (PyFlat.told (playC s ds)).length := by
  have : playC s ds = playC s (ds.take i) ++ playC (stateC s (ds.take i)) (ds.drop i) := by rw [← playC_append, List.take_append_drop]
  rw [this, told_append, List.length_append]
  omega
section
variable {P : Program} {w : World} {K : PySem.W.Frag} {mg : Str → Option Value} {base : Heap} {H H0 H' H1 : Hp} {σ : L2.St} {c a t p q : Addr} {s : Cm03.St} {Y Y' : Lay} {D : Ends} {ta te : TE} {tz : TS} {v : V}
/-! ### longer lists -/
theorem q_appX {l : Addr} {xs : List V} (hl : H l = some (.lst xs)) (ha : Ev ta σ H (.ref l)) (h : Ev te σ H v) (hz : xs.length < 16000000) (k : ∀ H1, Ex H H1 → tz D σ (upd H1 l (.lst (xs ++ [v])))) :
    tSeq (tDrop (tBM K "list" rAppend ta (tCons te tNil))) tz D σ H := ha H (Ex.refl H) _ fun H1 e1 =>
  ⟨Or.inl ⟨rfl, xs, sq_of (e1 l _ hl)⟩, h H1 e1 _ fun H2 e2 => ⟨l, xs, v, rfl, rfl, e2 l _ (e1 l _ hl), Nat.lt_of_lt_of_le hz (by decide), k H2 (e1.trans e2)⟩⟩
theorem s_extX {l p : Addr} {xs ys : List V} (hl : H l = some (.lst xs)) (ha : Ev ta σ H (.ref l)) (h : Ev te σ H (.ref p)) (hp : H p = some (.lst ys)) (hz : xs.length + ys.length ≤ 16000000) (k : ∀ H1, Ex H H1 → D.nx σ (upd H1 l (.lst (xs ++ ys)))) :
    tDrop (tBM K "list" rExtend ta (tCons te tNil)) D σ H := ha H (Ex.refl H) _ fun H1 e1 =>
  ⟨Or.inl ⟨rfl, xs, sq_of (e1 l _ hl)⟩, h H1 e1 _ fun H2 e2 => ⟨l, p, xs, ys, rfl, rfl, e2 l _ (e1 l _ hl), e2 p _ (e1 p _ hp), Nat.le_trans hz (by decide), k H2 (e1.trans e2)⟩⟩
/-- something else changes -/
theorem CodeAt.but {m : Addr} (h : CodeAt K H c s Y) (b : But H H' m) (hm : m ∉ foot c Y) : CodeAt K H' c s Y := by
  have ne : ∀ {a : Addr}, a ∈ foot c Y → a ≠ m := fun ha e => hm (e ▸ ha)
  obtain ⟨dx, ho⟩ := h.obj
  exact ⟨⟨dx, b.same _ _ ho (ne in_foot_c)⟩, b.same _ _ h.lst (ne in_foot_bl), h.lenB, h.lenR, fun i k hk => by
    obtain ⟨b', r', q1, q2, q3⟩ := h.blk i k hk
    exact ⟨b', r', q1, q2, q3.but b (ne (in_foot_b (List.mem_of_getElem? q1))) (ne (in_foot_r (List.mem_of_getElem? q2)))⟩, h.ndB, h.ndR⟩
theorem Kept.out {o : HO} (k : Kept c H Y H' Y') (h : H a = some o) (n : a ∉ foot c Y) : a ∉ foot c Y' := fun m => by
  rcases k.new a m with z | z
  · exact n z
  · rw [z] at h
    cases h
/-! ### answers -/
structure Lp (K : PySem.W.Frag) (H : Hp) (c t p : Addr) (vs : List V) (ds : List Cl) (i : Nat) (s : Cm03.St) (Y : Lay) : Prop where
  code : CodeAt K H c s Y
  ok : StOk s
  st : s = stateC Cm03.init (ds.take i)
  told : H t = some (.lst (iV (PyFlat.told (playC Cm03.init (ds.take i)))))
  tf : t ∉ foot c Y
  lst : H p = some (.lst vs)
  pf : p ∉ foot c Y
  pt : p ≠ t
  parts : PartsAt (fun a => a ≠ t ∧ a ∉ foot c Y) H vs ds
def sp_answers (K : PySem.W.Frag) : Sp := fun vs H Q _ => ∃ (a : Addr) (ds : List Cl), vs = [.ref a] ∧ SqL K H a (iV (ds.flatMap Cl.enc)) ∧ (∀ d ∈ ds, d.Ok ∧ d.inside) ∧ ds.length ≤ 40 ∧ (PyFlat.told (playC Cm03.init ds)).length ≤ 10000000 ∧
  ∀ t H', H' t = some (.lst (iV (PyFlat.told (playC Cm03.init ds)))) → Q (.ref t) H'
theorem pure_answers (vs : List V) (H : Hp) (Q : VK) (E : XK) (h : sp_answers K vs H Q E) : t_answers K (sp_Code_init K) (sp_answer_to K) (sp_split_calls K) { nx := fun _ H' => Q .non H', rt := Q } (start N_answers vs) H := by
  obtain ⟨a, ds, rfl, hS, ok, few, short, k⟩ := h
  intro c dx fc fdx ndx
  refine ⟨c, dx, rfl, upd_same, fun H1 Y hc1 hft hsame => ⟨rfl, ?_⟩⟩
  have e1 : Ex H H1 := fun b o hb => hsame b o (by rw [upd_ne (ne_of_none hb fc), upd_ne (ne_of_none hb fdx)]; exact hb) (ne_of_none hb fc)
  refine q_asgL (xs := []) (el_lst ea_nil (Nat.zero_le _)) fun t H2 hn2 e2 h2 => ?_
  have hc2 := hc1.ex e2
  have tf : t ∉ foot c Y := hc1.new_ hn2
  have split : EvN (tCall (sp_split_calls K) [] E0 (tCons (tVar 0) tNil)) [some (.ref a), some (.ref c), some (.ref t), none, none, none, none] H2 fun vs' H' => PartsAt (New H2) H' vs' ds :=
    en_call (dvs := []) (ea_cons (ev_var rfl) ea_nil) fun H3 e3 Q q E => ⟨a, ds, rfl, ex_l ((e1.trans e2).trans e3) hS, fun d hd => (ok d hd).1, few, fun p vs' H' hp e h hpa => q p vs' H' hp e h (hpa.to (fun _ _ _ h => h) fun b o nb _ => fresh_back e3 nb)⟩
  refine q_forEN split (fun p vs' i σ' H' => ∃ s Y, (∃ w3 w4 w5 w6, σ' = [some (.ref a), some (.ref c), some (.ref t), w3, w4, w5, w6]) ∧ Lp K H' c t p vs' ds i s Y) (fun p vs' H3 hp e3 h3 hpa => ?_) (fun p vs' i σ' H' _ z => ?_) (fun p vs' i x σ' H' hx z => ?_) (fun p vs' σ' H' z => ?_)
  · refine ⟨Cm03.init, Y, ⟨_, _, _, _, rfl⟩, hc2.ex e3, init_ok, rfl, e3 _ _ h2, tf, h3, hc2.new_ hp, fun z => ?_, hpa.to (fun _ _ _ h => h) fun b o nb _ => ⟨fun z => ?_, hc2.new_ nb⟩⟩
    · rw [z, h2] at hp
      cases hp
    · rw [z] at nb
      have nb : H2 t = none := nb
      rw [h2] at nb
      cases nb
  · obtain ⟨s, Y, _, L⟩ := z
    exact sq_of L.lst
  · obtain ⟨s, Y, ⟨w3, w4, w5, w6, rfl⟩, L⟩ := z
    have hi : i < ds.length := by
      rw [← L.parts.len]
      exact (List.getElem?_eq_some_iff.mp hx).1
    have hd := List.getElem?_eq_getElem hi
    generalize ds[i] = d at hd
    obtain ⟨xa, n, r, q1, q2, q3, q4, q5, q6, q7⟩ := L.parts.at_ i d hd
    rw [hx] at q1
    cases q1
    have okd := ok d (List.mem_of_getElem? hd)
    obtain ⟨y, f, ey⟩ := form_of (s := s) okd.1 okd.2
    refine ⟨xa, _, rfl, st_of q2, rfl, _, _, rfl, _, _, rfl, _, _, rfl, rfl, ?_⟩
    have args : EvA (tCons (tVar 1) (tCons (tVar 3) (tCons (tVar 4) (tCons (tVar 5) tNil)))) [some (.ref a), some (.ref c), some (.ref t), some (.int d.p), some (.ref n), some (.ref r), w6] H' [.ref c, .int d.p, .ref n, .ref r] := ea_cons (ev_var rfl) (ea_cons (ev_var rfl) (ea_cons (ev_var rfl) (ea_cons (ev_var rfl) ea_nil)))
    refine args H' (Ex.refl H') (fun vs H2 => sp_answer_to K (vs ++ []) H2 (fun w H3 => tSeq (tDrop (tBM K "list" rAppend (tVar 2) (tCons (tCB (rLenS K) (tCons (tVar 6) tNil)) tNil))) (tDrop (tBM K "list" rExtend (tVar 2) (tCons (tVar 6) tNil))) _ [some (.ref a), some (.ref c), some (.ref t), some (.int d.p), some (.ref n), some (.ref r), some w] H3) E0) fun H3 e3 => ⟨c, s, Y, d, y, n, r, rfl, L.code.ex e3, L.ok, e3 _ _ q3, e3 _ _ q4, f, fun H4 Y' q hc4 kp hq qf qd => ?_⟩
    have nxt := told_next (s := Cm03.init) hd
    rw [← L.st, ey] at nxt
    have bound := told_take_le ds (i + 1) Cm03.init
    rw [nxt, List.length_append, List.length_cons] at bound
    have t3 := e3 _ _ L.told
    have t4 := kp.same _ _ t3 L.tf
    have qt : q ≠ t := qd t _ t3 L.tf
    refine q_appX t4 (ev_var rfl) (ev_len (ev_var rfl) (sq_of hq)) (by rw [iV_len]; omega) fun H5 e5 => ?_
    refine s_extX upd_same (ev_var rfl) (ev_var rfl) (by rw [upd_ne qt]; exact e5 _ _ hq) (by rw [List.length_append, iV_len, iV_len, List.length_singleton]; omega) fun H6 e6 => ?_
    have same : ∀ b o, H4 b = some o → b ≠ t → (upd H6 t (.lst (iV (PyFlat.told (playC Cm03.init (ds.take i))) ++ [.int ((iV (Cm06.step s y).2).length : Int)] ++ iV (Cm06.step s y).2))) b = some o := fun b o hb ne => by
      rw [upd_ne ne]
      refine e6 _ _ ?_
      rw [upd_ne ne]
      exact e5 _ _ hb
    have tf' : t ∉ foot c Y' := kp.out t3 L.tf
    have old : ∀ {b : Addr} {o : HO}, H' b = some o → b ≠ t → b ∉ foot c Y → (upd H6 t (.lst (iV (PyFlat.told (playC Cm03.init (ds.take i))) ++ [.int ((iV (Cm06.step s y).2).length : Int)] ++ iV (Cm06.step s y).2))) b = some o := fun hb ne nf => same _ _ (kp.same _ _ (e3 _ _ hb) nf) ne
    refine ⟨(Cm06.step s y).1, Y', ⟨_, _, _, _, rfl⟩, hc4.but ⟨same, fun xs z => by rw [t4] at z; cases z⟩ tf', step_ok L.ok f, ?_, ?_, tf', old L.lst L.pt L.pf, kp.out (e3 _ _ L.lst) L.pf, L.pt, L.parts.to (fun b o nb hb => old hb nb.1 nb.2) fun b o nb hb => ⟨nb.1, kp.out (e3 _ _ hb) nb.2⟩⟩
    · rw [state_next hd, ← L.st, ey]
    · rw [nxt, upd_same, iV_append, iV_len]
      refine congrArg (fun z => some (HO.lst z)) ?_
      rw [List.append_assoc]
      rfl
  · obtain ⟨s, Y, ⟨w3, w4, w5, w6, rfl⟩, L⟩ := z
    have := L.told
    rw [L.parts.len, List.take_length] at this
    exact s_ret (ev_var rfl) fun H4 e4 => k t H4 (e4 _ _ this)
theorem D_answers (T : Tx K mg) : ∃ fd, (∀ (s : Shared) (us : List Value), us.length = (["calls"] : List Str).length → BindsTo s fd ⟨us, []⟩ ((["calls"] : List Str).zip us)) ∧ ∀ (P : Program) (w : World) (base : Heap), FnOk P w K mg base CX0 12 (He.ga K "answers") fd ["calls"] (sp_answers K) := by
  obtain ⟨fd, F⟩ := T.def_answers
  refine ⟨fd, F.bindsA (ps := ["calls"]) (fun _ _ _ _ _ _ us hl => match us, hl with | [_], _ => rfl), fun P w base => F.ok sc_answers (fun vs H Q E h => by obtain ⟨a, b, rfl, _⟩ := h; rfl) (fun cdv A outer s H vs Q E hr h => ⟨_, (der_answers T (D_Code_init T) (D_answer_to T) (D_split_calls T) hr).nox, pure_answers vs H Q E h⟩)⟩
end
end VS
namespace VS
open PySem PySem.Spec PyProof.Rows L2
abbrev Rw : PySem.W.OpenSpec := PySem.Challenge.rw_valueslots_s01_answers
abbrev hk : PySem.W.Hook := He.hookX 4 fa fn [] [] ex
def ob (s : PySem.W.SharedT) : He.AlX := He.obsX 4 fa fn [] [] ex (HandSHeadRun.getT s)
theorem ob_eq (s : PySem.W.SharedT) : ob s = hk.obs s.abs := He.obsX_eq (HandSHeadRun.getT_eq s)
theorem run (w : World) : HandSHeadRun.RunEqS Rw (PySem.W.view Rw.prog [ansAt]) hk ob 6000 loose w := by
  intro os
  kernel_rfl
end VS
namespace VS
open PySem PySem.Spec PyProof.Rows L2
open PySem.W (WData Codec OpenSpec)
/-- the end of a row whose head tells its facts: the written part K is found by the head -/
theorem walk_says {r : OpenSpec} {k : Nat} {q : Program} {loose : List Str}
    {XP : (Str → Option Value) → Heap → Prop} {YP : World → Heap → Prop} {d : DefRec} {CX : CXT} {ps : List Str}
    (well : r.wellSaid = true) (args_n : r.args.length = ps.length) (room : Room k callerA)
    (F : ∀ (w : World) (mg : Str → Option Value) (f : Addr) (h : Heap), YP w h → h.Ns mainGlobals mg → mg d.name = some (.ref f) →
      ∃ (K : PySem.W.Frag) (fd : FuncData) (sp : Sp), K.In h ∧
        (∀ (s : Shared) (us : List Value), us.length = ps.length → BindsTo s fd ⟨us, []⟩ (ps.zip us)) ∧
        (∀ base : Heap, K.In base → base.Ns mainGlobals mg → FnOk r.prog w K mg base CX k f fd ps sp) ∧
        ∀ (H : Hp) (xs : List V) (a : Codec.denoteAll r.args), OnlyF H → Codec.withinAll r.args a = true →
          Codec.app r.args r.asked a = true → DwAll K H xs (Codec.encAll r.args a) →
          sp xs H (fun v H' => Dw K H' v (r.ret.enc (Codec.app r.args r.f a))) E0)
    (none_out : ∀ (H : Hp) (s : Shared) (e : Value) (s' : Shared), CX [] H s E0 e s' → False) :
    PySem.W.WalkOS q loose XP YP r d [] (fun f vs => PySem.call f vs) := by
  intro w s₀ s₁ mg mb G Y f o pm cd doc dV kV
  intro _ _ _ _ hmg gens args vals as pre lay _ wel _
  obtain ⟨a, dec, asked⟩ := PySem.W.os_pre_some pre
  obtain ⟨eq, within⟩ := Codec.encAll_of_decAll r.args args a dec
  subst eq
  obtain ⟨K, fd, sp, KX, bnd, ok, keeps⟩ := F w mg f _ Y G.T.g hmg
  have step := spec_call (R := []) (cl := classAt s₀.heap) (d0 := r.ret.enc (Codec.app r.args r.f a))
    KX G.T.g G.T.b G.T.builtins G.T.nolimit gens wel (pl_encAll _ _) (layable_weight lay) room ok bnd
    (by rw [encAll_len]; exact args_n)
    (fun H xs only dw => keeps H xs a only within asked dw)
    (fun H e s' => none_out H s₁ e s')
  refine PySem.W.enter_call (codeAny_mono step fun res s' found => ?_)
  obtain ⟨u, bs, rfl, h1, h2, h3, h4⟩ := found
  refine ⟨.inl ⟨u, _, bs, rfl, fun _ => rfl, h1, ?_, fun z => nomatch z⟩, h2, h3, h4⟩
  exact (OpenSpec.post_iff well within _ _).mpr rfl
theorem says_well : Rw.wellSaid = true := by decide +kernel
end VS
open PySem PySem.W PySem.Calls PyProof.Rows
theorem VS.whole_end (call : WalkOS (view VS.Rw.prog [VS.ansAt]) VS.loose (XL (view VS.Rw.prog [VS.ansAt]) []) VS.hk.says VS.Rw
    (HandSHeadRun.topDef VS.Rw.prog VS.ansAt) [] fun f vs => PySem.call f vs) : VS.Rw.Holds := by
  w_on
  refine HandSHeadRun.head_spec (r := VS.Rw) (q := view VS.Rw.prog [VS.ansAt]) (H := VS.hk) (ob := VS.ob) (M := 6000) (loose := VS.loose)
    (d := HandSHeadRun.topDef VS.Rw.prog VS.ansAt) (kwd := []) VS.ob_eq
    (by kernel_rfl) (fun s => by kernel_rfl) VS.run (by kernel_rfl) (by kernel_rfl) (by kernel_rfl) os_shapes VS.says_well
    (by decide +kernel) ⟨rfl, rfl, rfl, rfl, rfl, by decide +kernel⟩ ?hw call
  case hw => exact ⟨[.list [.int 11]], by decide +kernel, by decide +kernel⟩
namespace VS
open PySem PySem.Spec PyProof.Rows L2 Evl
open PySem.W (WData Codec OpenSpec)
theorem encs_ints : ∀ (l : List Int), l.map (fun n => WData.int n) = l.map WData.int := fun _ => rfl
/-- **the program answers what is due** -/
theorem sp_due {K : PySem.W.Frag} {H : Hp} {xs : List V} (l : List Int) (asked : PyCm06.answers_asked l = true) (dw : DwAll K H xs [WData.list (l.map WData.int)]) : sp_answers K xs H (fun v H' => Dw K H' v (WData.list ((PyCm06.answers l).map WData.int))) E0 := by
  obtain ⟨ds, ok, el, _, few, ans, short⟩ := asked_some asked
  cases dw with
  | cons d1 d2 =>
    cases d2
    cases d1 with
    | lst hS hx =>
      rename_i a ys
      have := ints_dw l _ hx
      subst this
      refine ⟨a, ds, rfl, el ▸ hS, ok, few, short, fun t H' ht => ?_⟩
      refine Dw.lst (xs := iV (PyFlat.told (playC Cm03.init ds))) (sq_of ht) ?_
      rw [ans]
      exact dw_ints _
end VS
namespace VS
open PySem PySem.W PySem.Calls PyProof.Rows L2
theorem name_eq : (HandSHeadRun.topDef Rw.prog ansAt).name = ("answers" : Str) := by kernel_rfl
theorem walk : WalkOS (view Rw.prog [ansAt]) loose (XL (view Rw.prog [ansAt]) []) hk.says Rw (HandSHeadRun.topDef Rw.prog ansAt) [] fun f vs => PySem.call f vs := by
  refine walk_says (CX := CX0) (ps := ["calls"]) (k := 12) says_well rfl ⟨rfl, by decide, by decide⟩ (fun w mg f h hY ns hf => ?_) (fun _ _ _ _ z => z)
  obtain ⟨K, KI, sx⟩ := hY
  have T : Tx K mg := ⟨⟨h, KI, ns⟩, sx.t.d, sx.more⟩
  obtain ⟨fd, bnd, F⟩ := D_answers T
  rw [name_eq, T.glo_answers] at hf
  cases hf
  refine ⟨K, fd, sp_answers K, KI, bnd, fun b _ _ => F _ w b, fun H xs l _ _ asked dw => ?_⟩
  exact sp_due l.1 asked dw
end VS
theorem PySem.Challenge.cw_valueslots_s01_answers_holds : PySem.Challenge.rw_valueslots_s01_answers.Holds :=
  VS.whole_end VS.walk
