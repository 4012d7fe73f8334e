import PyProof.Rows.All
import Wide.All
import OpenK.AllK
import Wide.FinOn
import HandS.ForMost
import HandS.Walk
import HandS.IsInst
import HandS.DictComp
import HandS.SortInts
import HandS.NoneIn
import HandS.Replace
import HandS.TupAny
import HandS.TupLe
import PyProof.ListStr
import PyProof.TupleOfStr
import KE.GoesNew
import HandS.Zip
import HandS.More
import PyProof.StrLawsFirst
import HandS.Conv
import KE.KSortedM
import HandS.AnyAll
import HandS.EndTab
import PyProof.TupleOfGen
import HandS.EndOwn
import KE.KDictPairs
import KE.SortData
import KE.DataCmp
import PyProof.DictWalks
import KE.KDictWalk
import HandS.Style
import PyProof.CollectStr
import PyProof.SliceStr2
import PyProof.TupleOfSeq
import HandS.Star
import HandS.Wide
import KE.DataMinMax
import HandS.GenOver
import HandS.GenList
import KE.DatumIndex
import PyProof.ConsumeWalk
import HandS.SetFor
import PyProof.StrWalks
import PyProof.SetRoads
import PyProof.Rows.StrCase
import HandS.TupMul
import PyProof.ListNew
import HandS.SetBool
import KE.DataMinKey
import HandS.SortKw
import HandS.Strs
import HandS.Deep
import HandS.ListItems
import KE.KDictZip
import KE.GoesMore
import KE.GoesEnum
import HandS.Nested
import KE.KMinKey
import KE.GoesZip
import HandS.DictSub
import HandS.Defaults
import HandS.Head0
import HandS.Head1
import HandS.Head2
import HandS.HeadHook1
import HandS.HeadHook2
import HandS.HeadHook3
import HandS.HeadHook4
import HandS.HeadWalk
import KE.SortKeyHeap
import HandS.Keys
import HandS.Text
import PyProof.P3In
import KE.KDictSum
import KE.KEqDict
import PySem.Challenge.RW_stretchkeep_k39_lists_kept
set_option Elab.async false
set_option linter.all false
set_option maxRecDepth 100000
namespace My
open PySem PySem.Spec PyProof.Rows L2
/-! ### heaps -/
/-- all but r is as it was -/
def Kp (r : Addr) (H H' : Hp) : Prop := ∀ b o, b ≠ r → H b = some o → H' b = some o
theorem Kp.rfl' {r : Addr} {H : Hp} : Kp r H H := fun _ _ _ h => h
theorem Kp.trans {r : Addr} {H H1 H2 : Hp} (a : Kp r H H1) (b : Kp r H1 H2) : Kp r H H2 := fun c o n h => b c o n (a c o n h)
theorem Kp.new {r p : Addr} {H H1 : Hp} {o : HO} (a : Kp r H H1) (n : H1 p = none) : Kp r H (upd H1 p o) := fun b x nb h => by
  have h1 := a b x nb h
  rw [upd_ne (ne_of_none h1 n)]
  exact h1
theorem Kp.own {r : Addr} {H H1 : Hp} {o : HO} (a : Kp r H H1) : Kp r H (upd H1 r o) := fun b x nb h => by
  rw [upd_ne nb]
  exact a b x nb h
/-- an object that H does not know is written -/
theorem Kp.mut {r p : Addr} {H H1 : Hp} {o : HO} (a : Kp r H H1) (n : H p = none) : Kp r H (upd H1 p o) := fun b x nb h => by
  rw [upd_ne (ne_of_none h n)]
  exact a b x nb h
theorem Same.kp {r : Addr} {H H' : Hp} (s : Same H H') : Kp r H H' := fun b o _ h => s b o h
theorem Same.new {p : Addr} {H H1 : Hp} {o : HO} (a : Same H H1) (n : H1 p = none) : Same H (upd H1 p o) := fun b x h => by
  have h1 := a b x h
  rw [upd_ne (ne_of_none h1 n)]
  exact h1
theorem Same.mut {p : Addr} {H H1 : Hp} {o : HO} (a : Same H H1) (n : H p = none) : Same H (upd H1 p o) := fun b x h => by
  rw [upd_ne (ne_of_none h n)]
  exact a b x h
theorem Same.tup {K : PySem.W.Frag} {H H' : Hp} {a : Addr} {xs : List V} (e : Same H H') (h : SqT K H a xs) : SqT K H' a xs := by
  rcases h with (h | ⟨o, h⟩) | h
  · exact .inl (.inl (e _ _ h))
  · exact .inl (.inr ⟨o, e _ _ h⟩)
  · exact .inr h
/-- a list, a tuple that stands there stays, if it is not at r -/
theorem Kp.seqL {K : PySem.W.Frag} {r a : Addr} {H H' : Hp} {xs : List V} (e : Kp r H H') (n : a ≠ r) (h : SqL K H a xs) : SqL K H' a xs := by
  rcases h with (h | ⟨o, h⟩) | h
  · exact .inl (.inl (e _ _ n h))
  · exact .inl (.inr ⟨o, e _ _ n h⟩)
  · exact .inr h
theorem Same.kpN {r : Addr} {H H1 H2 : Hp} (s : Same H H1) (n : H r = Option.none) (k : Kp r H1 H2) : Same H H2 := fun b o h => k b o (ne_of_none h n) (s b o h)
theorem Kp.none {r p : Addr} {H H' : Hp} (e : Kp r H H') (n : p ≠ r) (h : H' p = Option.none) : H p = Option.none := by
  cases q : H p with
  | none => rfl
  | some o =>
    rw [e p o n q] at h
    cases h
theorem keep_new {H : Hp} {p b : Addr} {o x : HO} (h : H b = some x) (n : H p = Option.none) : (upd H p o) b = some x := by
  rw [upd_ne (ne_of_none h n)]
  exact h
theorem keep_ne {H : Hp} {p b : Addr} {o x : HO} (h : H b = some x) (n : b ≠ p) : (upd H p o) b = some x := by
  rw [upd_ne n]
  exact h
/-! ### a word between a statement and the rest -/
def tMid (t u : TS) : TS := fun D σ H => ∃ M : L2.St → Hp → Prop, t { D with nx := M } σ H ∧ ∀ σ1 H1, M σ1 H1 → u D σ1 H1
theorem pss_mid {X : Cx} {st : Stmt} {r : List Stmt} {t u : TS} (a : PS X st t) (b : PSs X r u) : PSs X (st :: r) (tMid t u) := ⟨fun pins s σ H D I h => by
  obtain ⟨M, hm, hu⟩ := h
  refine wpAny_execs_cons (thn (a.run pins s σ H { D with nx := M } I hm) fun f s1 q => ?_)
  cases f
  case next =>
    obtain ⟨σ1, H1, I1, q1⟩ := q
    exact b.run pins s1 σ1 H1 D I1 (hu σ1 H1 q1)
  all_goals exact q⟩
/-! ### texts -/
/-- a text of these codes; one sign -/
abbrev tx (l : List Nat) : V := .str ⟨l.toArray⟩
abbrev sg (c : Nat) : V := .str ⟨#[c]⟩
theorem signs_vals {x : Str} {acc : Array Value} (h : ItemsOf (SignAt x) acc x.cps.size) : Vals (x.cps.toList.map sg) acc.toList := by
  obtain ⟨hz, hi⟩ := h
  have key : ∀ (l : List Nat) (us : List Value), l.length = us.length → (∀ (j : Nat) (c : Nat) (v : Value), l[j]? = some c → us[j]? = some v → ∃ t, v = Value.str ⟨#[c]⟩ t) → Vals (l.map sg) us := by
    intro l
    induction l with
    | nil =>
      intro us hl _
      cases us with
      | nil => exact .nil
      | cons a b => cases hl
    | cons c l ih =>
      intro us hl hh
      cases us with
      | nil => cases hl
      | cons u us =>
        refine .cons ?_ (ih us (Nat.succ.inj hl) fun j c v h1 h2 => hh (j + 1) c v h1 h2)
        obtain ⟨t, e⟩ := hh 0 c u rfl rfl
        exact ⟨t, e⟩
  refine key _ _ (by rw [Array.length_toList, Array.length_toList, hz]) fun j c v h1 h2 => ?_
  obtain ⟨cc, t, e1, e2⟩ := hi j v (by rw [← Array.getElem?_toList]; exact h2)
  rw [Array.getElem?_toList] at h1
  rw [h1] at e1
  cases e1
  exact ⟨t, e2⟩
/-- the text of one sign -/
abbrev sS (c : Nat) : Str := ⟨#[c]⟩
theorem str_empty : (Str.ofString "").cps = #[] := by decide +kernel
theorem join_signs : ∀ l : List Nat, Txt.join (Str.ofString "") (l.map sS) = ⟨l.toArray⟩ := by
  intro l
  show PySem.Builtin.Str.glued (Str.ofString "") (l.map sS) = _
  rw [PySem.StrLaws.glued_eq_join]
  induction l with
  | nil => rfl
  | cons c l ih =>
    cases l with
    | nil => rfl
    | cons d l =>
      show sS c ++ Str.ofString "" ++ Str.join (Str.ofString "") ((d :: l).map sS) = _
      rw [ih]
      show (⟨(#[c] ++ (Str.ofString "").cps) ++ (d :: l).toArray⟩ : Str) = _
      rw [str_empty]
      simp
theorem ltCps_one {a b : Nat} (h : ltCps [a] [b] = false) : b ≤ a := by
  simp [ltCps] at h
  exact h
theorem rising_signs : ∀ (l : List Nat) (c : Nat), risingS (sS c) (l.map sS) = true → (c :: l).Pairwise (· ≤ ·)
  | [], c, _ => List.pairwise_singleton _ _
  | d :: l, c, h => by
    have h' : (!ltCps [d] [c] && risingS (sS d) (l.map sS)) = true := h
    rw [Bool.and_eq_true, Bool.not_eq_true'] at h'
    have hd := ltCps_one h'.1
    have ih := rising_signs l d h'.2
    refine List.Pairwise.cons (fun x hx => ?_) ih
    rcases List.mem_cons.mp hx with e | hx
    · rw [e]
      exact hd
    · exact Nat.le_trans hd ((List.pairwise_cons.mp ih).1 x hx)
theorem sorted_signs : ∀ (l : List Nat), sortedS (l.map sS) = true → l.Pairwise (· ≤ ·)
  | [], _ => List.Pairwise.nil
  | c :: l, h => rising_signs l c h
theorem perm_signs {ys : List Str} {l : List Nat} (h : ys.Perm (l.map sS)) : ∃ l' : List Nat, ys = l'.map sS ∧ l'.Perm l := by
  let hd : Str → Nat := fun z => z.cps.toList.headD 0
  refine ⟨ys.map hd, ?_, ?_⟩
  · rw [List.map_map]
    have e : ∀ y ∈ ys, (sS ∘ hd) y = y := fun y hy => by
      obtain ⟨c, _, rfl⟩ := List.mem_map.mp (h.mem_iff.mp hy)
      rfl
    conv => lhs; rw [← List.map_id ys]
    exact (List.map_congr_left e).symm
  · have e := h.map hd
    rw [List.map_map] at e
    have e2 : l.map (hd ∘ sS) = l := by
      conv => rhs; rw [← List.map_id l]
      exact List.map_congr_left fun c _ => rfl
    rw [e2] at e
    exact e
theorem strict_of {l : List Nat} (h : l.Pairwise (· ≤ ·)) (n : l.Nodup) : l.Pairwise (· < ·) := by
  refine (h.and n).imp fun {a b} q => ?_
  have h1 := q.1
  have h2 : a ≠ b := q.2
  omega
theorem map_sg (l : List Nat) : l.map sg = (l.map sS).map V.str := by
  rw [List.map_map]
  rfl
theorem erase_map {α β : Type} (f : α → β) : ∀ (l : List α) (k : Nat), (l.map f).eraseIdx k = (l.eraseIdx k).map f
  | [], _ => rfl
  | _ :: _, 0 => rfl
  | a :: l, k + 1 => by
    show f a :: (l.map f).eraseIdx k = f a :: (l.eraseIdx k).map f
    rw [erase_map f l k]
theorem pop_perm : ∀ {l : List Nat} {k : Nat} {y : Nat}, l[k]? = some y → (y :: l.eraseIdx k).Perm l
  | [], k, y, h => by simp at h
  | a :: l, 0, y, h => by
    have e : a = y := Option.some.inj h
    rw [e]
    exact List.Perm.refl _
  | a :: l, k + 1, y, h => by
    have ih := pop_perm (l := l) (k := k) (y := y) h
    exact (List.Perm.swap a y (l.eraseIdx k)).trans (ih.cons a)
theorem popped {l : List Nat} {k : Nat} {y : Nat} (h : l[k]? = some y) (f : List Nat) : (l.eraseIdx k ++ (f ++ [y])).Perm (l ++ f) := by
  have p := pop_perm h
  have p1 : (l.eraseIdx k ++ (f ++ [y])).Perm ([y] ++ (l.eraseIdx k ++ f)) := by
    rw [← List.append_assoc]
    exact List.perm_append_comm
  refine p1.trans ?_
  rw [← List.append_assoc]
  exact p.append_right f
section
variable {X : Cx}
theorem call_list_txt (hc : X.calm = true := by rfl) : CallR X (.type "list") (fun xs H Q => ∃ z : Str, xs = [.str z] ∧ z.length ≤ sizeLine ∧ ∀ l, H l = none → Q (.ref l) (upd H l (.lst (z.cps.toList.map sg)))) := by
  intro pins s σ H xs us Q I r h
  obtain ⟨z, rfl, hz, q⟩ := h
  obtain ⟨u, rfl, rx⟩ := vals1 r
  obtain ⟨t, rfl⟩ := rx
  refine PySem.call_list_str (I.ok.hd hc) z t (fun h' tk acc c kp e hi => ?_) hz
  have hv := signs_vals hi
  exact ⟨.ref s.heap.objs.size, _, I.laid (t' := tk) kp (Nat.le_refl _) (show ObjOk X.prog X.w _ h' _ (.lst (z.cps.toList.map sg)) from ⟨by rw [List.length_map, Array.length_toList]; exact hz, acc.toList, c, hv, by rw [Array.toArray_toList]; exact e⟩), rfl, q _ (I.hok.fresh (Nat.le_refl _))⟩
end
end My

set_option Elab.async false
set_option linter.all false
set_option maxRecDepth 100000
set_option maxHeartbeats 1000000
namespace My
open PySem PySem.Spec PyProof.Rows L2
/-! ### enumerate over a text, over a tuple -/
def ItEg (go : Nat → Hp → Prop) (val : Nat → Hp → V → Prop) (stop : Nat → Hp → Prop) : It :=
  ⟨go, fun i H v H' => ∃ T x, v = .ref T ∧ H T = none ∧ H' = upd H T (.tup [.int (i : Nat), x]) ∧ val i H x, stop⟩
theorem turn_eg {P : Program} {w : World} {K : PySem.W.Frag} {elts : List Expr} {kk : Nat} {tpos : Pos} {e it : Addr} {Sub : Nat → Heap → Prop} {go stop : Nat → Hp → Prop} {val : Nat → Hp → V → Prop} (hne : e ≠ it)
    (obj : ∀ i h, Sub i h → ∃ o, h.get? it = some o ∧ ∀ v, o.data ≠ .cell v)
    (keep : ∀ i h h', Sub i h → (∀ o, h.get? it = some o → h'.get? it = some o) → Sub i h')
    (draw : ∀ (X : Cx) (pins : List (Addr × Obj)) (σ : L2.St) (H : Hp) (s : Shared) (i : Nat), X.prog = P → X.w = w → X.K = K → X.calm = true → Inv X pins σ H s → (∃ old, IsEnum s.heap e it ((i : Nat) : Int) old) → Sub i s.heap → go i H ∨ stop i H →
      ∃ (fp : List Addr) (n : Nat) (Pd : Nat → Value → Prop) (St : Nat → Heap → Prop), Draws P w X.A.in1 it fp n Pd St ∧ St i s.heap ∧ (∀ j h, St j h → Sub j h) ∧ e ∉ fp ∧ (go i H → i < n) ∧ (stop i H → i = n) ∧ (go i H → ∀ u, Pd i u → ∃ x, RelV x u ∧ val i H x)) :
    Turn P w K (.Tuple elts kk tpos) (ItEg go val stop) [e, it] e (fun i h => (∃ old, IsEnum h e it ((i : Nat) : Int) old) ∧ Sub i h) where
  mem := by simp
  obj := fun i h st b hb => by
    obtain ⟨⟨old, he⟩, hs⟩ := st
    have hb2 : b = e ∨ b = it := by simpa using hb
    rcases hb2 with z | z
    · rw [z]
      exact ⟨_, he, fun v q => nomatch q⟩
    · rw [z]
      exact obj i h hs
  keep := fun i h h' st k => by
    obtain ⟨⟨old, he⟩, hs⟩ := st
    exact ⟨⟨old, k e (by simp) _ he⟩, keep i h h' hs fun o q => k it (by simp) o q⟩
  item := by
    intro X hP hw hK hc i pins s σ H E I hf st hg
    obtain ⟨fp, n, Pd, St, D, hst, hsub, hef, hlt, _, hval⟩ := draw X pins σ H s i hP hw hK hc I st.1 st.2 (.inl hg)
    obtain ⟨⟨old, he⟩, hs⟩ := st
    subst hP hw hK
    have hel : e < s.heap.objs.size := Heap.lt_size he
    have hil : it < s.heap.objs.size := by
      obtain ⟨o, q, _⟩ := obj i _ hs
      exact Heap.lt_size q
    refine wpAny_pyNext_enum_itemC D he hst (hlt hg) hne hef fun u h' tk hu ho hst' hT hsz hk => ?_
    obtain ⟨x, ru, hv⟩ := hval hg u hu
    refine ⟨_, rfl, wpAny_letOwnedTupleGo_enum (s := { s with heap := h', toks := tk + 1 }) ho fun h'' he' sb => ?_⟩
    have hT2 : h''.get? s.heap.objs.size = some { cls := .type "tuple", data := .seq #[.int i tk, u] } := (sb.2 _ (Nat.ne_of_gt hel)).trans hT
    have new : ObjOk X.prog X.w (upd H s.heap.objs.size (.tup [.int (i : Nat), x])) h'' s.heap.objs.size (.tup [.int (i : Nat), x]) := ⟨by show 2 ≤ sizeLine; decide, [.int i tk, u], .cons ⟨_, rfl⟩ (.cons ru .nil), ⟨_, hT2, rfl, _, rfl⟩⟩
    have I1 : Inv X pins σ (upd H s.heap.objs.size (.tup [.int (i : Nat), x])) { s with heap := h'', toks := tk + 1 } :=
      I.turnedNew (ch := [e, it]) (fun b ob hb q => (sb.2 b fun z => hb (by simp [z])).trans (hk b ob (fun z => hb (by simp [z])) (fun z => hb (by simp [z])) q)) hf (Nat.le_refl _) new
    refine ⟨.ref s.heap.objs.size, _, I1, rfl, ⟨_, x, rfl, I.hok.fresh (Nat.le_refl _), rfl, hv⟩, ⟨⟨u, ?_⟩, keep _ _ _ (hsub _ _ hst') fun o q => (sb.2 it (Ne.symm hne)).trans q⟩, fun b hb => ?_⟩
    · have e1 : ((i + 1 : Nat) : Int) = (i : Int) + 1 := by omega
      rw [e1]
      exact he'
    · have hb2 : b = e ∨ b = it := by simpa using hb
      have hb' : b < s.heap.objs.size := by
        rcases hb2 with z | z
        · rw [z]
          exact hel
        · rw [z]
          exact hil
      rw [upd_ne (Nat.ne_of_lt hb')]
      exact (hf b hb).1
  done := by
    intro X hP hw hK hc i pins s σ H E I hf st hg
    obtain ⟨fp, n, Pd, St, D, hst, hsub, hef, _, heq, _⟩ := draw X pins σ H s i hP hw hK hc I st.1 st.2 (.inr hg)
    obtain ⟨⟨old, he⟩, hs⟩ := st
    subst hP hw hK
    have ei := heq hg
    subst ei
    obtain ⟨f0, f1, f2, f3, f4, f5⟩ := hf it (by simp)
    exact wpAny_pyNext_enum_endD D he hst fun h' eb => ⟨rfl, I.turned (t' := s.toks) (fun b o hb q => eb b o hb q) f0 f1 f3 f4 f5⟩
  self := fun A i s Q E st h => by
    obtain ⟨⟨old, he⟩, _⟩ := st
    exact wpAny_pyIter_enum he h
/-- the items of a tuple with their places -/
def Itet (K : PySem.W.Frag) (a : Addr) : It := ItEg (fun i H => ∃ xs, SqT K H a xs ∧ i < xs.length) (fun i H x => ∀ xs, SqT K H a xs → xs[i]? = some x) (fun i H => ∃ xs, SqT K H a xs ∧ i = xs.length)
theorem turn_et {P : Program} {w : World} {K : PySem.W.Frag} {elts : List Expr} {kk : Nat} {tpos : Pos} {e it : Addr} (a : Addr) (hne : e ≠ it) :
    Turn P w K (.Tuple elts kk tpos) (Itet K a) [e, it] e (fun i h => (∃ old, IsEnum h e it ((i : Nat) : Int) old) ∧ h.IsTupleIter it a i) := by
  refine turn_eg hne (fun i h st => ?_) (fun i h h' st k => ?_) (fun X pins σ H s i hP hw hK hc I hen st hg => ?_)
  · obtain ⟨o, e1, c, d⟩ := st
    exact ⟨o, e1, fun v q => by rw [d] at q; cases q⟩
  · obtain ⟨o, ho, r⟩ := st
    exact ⟨o, k o ho, r⟩
  · have hh : X.A.in1.handled = none := I.ok.hd hc
    subst hP hw hK
    have hx : ∃ xs, SqT X.K H a xs := by
      rcases hg with ⟨xs, q, _⟩ | ⟨xs, q, _⟩
      · exact ⟨xs, q⟩
      · exact ⟨xs, q⟩
    obtain ⟨xs, hq⟩ := hx
    obtain ⟨its, rv, p, hz⟩ := I.tuple hq
    have hl := rv.length
    have same : ∀ ys, SqT X.K H a ys → ys.length = its.length := fun ys hy => by
      rw [I.tuple_inj hy hq]
      exact hl
    have hia : a ≠ it := fun z => by
      obtain ⟨o1, h1, c1, _⟩ := st
      obtain ⟨o2, h2, c2, _⟩ := p
      rw [z] at h2
      rw [h1] at h2
      cases h2
      rw [c1] at c2
      exact absurd c2 (by decide)
    have hea : e ≠ a := fun z => by
      obtain ⟨old, he⟩ := hen
      obtain ⟨o2, h2, c2, _⟩ := p
      rw [← z] at h2
      have he' : s.heap.get? e = some _ := he
      rw [he'] at h2
      cases h2
      exact absurd (show Value.type "enumerate" = Value.type "tuple" from c2) (by decide)
    refine ⟨_, _, _, _, Draws.tuple hh it a hia its.toArray, ⟨st, p⟩, fun _ _ q => q.1, fun q => ?_, fun q => ?_, fun q => ?_, fun q u hu => ?_⟩
    · have q2 : e = it ∨ e = a := by simpa using q
      rcases q2 with z | z
      · exact hne z
      · exact hea z
    · obtain ⟨ys, hy, hi⟩ := q
      have := same ys hy
      simp only [List.size_toArray]
      omega
    · obtain ⟨ys, hy, hi⟩ := q
      have := same ys hy
      simp only [List.size_toArray]
      omega
    · have hu2 : its[i]? = some u := by simpa using hu
      have hi : i < xs.length := by
        have := (List.getElem?_eq_some_iff.mp hu2).1
        omega
      obtain ⟨u', hu', ru⟩ := rv.get (List.getElem?_eq_getElem hi)
      rw [hu2] at hu'
      cases hu'
      refine ⟨xs[i], ru, fun ys hy => ?_⟩
      rw [I.tuple_inj hy hq]
      exact List.getElem?_eq_getElem hi
section
variable {X : Cx}
def iEnumT (K : PySem.W.Frag) (ta : TA) : TI := fun σ H R => ta σ H fun vs H1 => ∃ a xs, vs = [.ref a] ∧ SqT K H1 a xs ∧ R (Itet K a) H1
theorem fresh2 {pins : List (Addr × Obj)} {σ : L2.St} {H : Hp} {s : Shared} (I : Inv X pins σ H s) : ∀ b ∈ [s.heap.objs.size + 1, s.heap.objs.size], FpOk X pins H b := fun b hb => by
  have hb2 : b = s.heap.objs.size + 1 ∨ b = s.heap.objs.size := by simpa using hb
  have hle : s.heap.objs.size ≤ b := by
    rcases hb2 with z | z
    · rw [z]
      exact Nat.le_succ _
    · rw [z]
      exact Nat.le_refl _
  exact I.fpOk hle (I.hok.fresh hle)
theorem meets_enumT (l : Addr) (items : Array Value) (n : Nat) (dct : Option Addr) (sl : Array (Option Value)) :
    Meets (Builtin.«enumerate.__new__» ⟨[.type "enumerate", .ref l], []⟩) (fun _ R s => s.heap.get? l = some ⟨.type "tuple", dct, .seq items n, sl⟩ ∧
      R (.ok (.ret (.ref (s.heap.push { cls := .type "tuple_iterator", data := .fields #[.ref l, .int 0 0] }).objs.size)))
        { s with heap := (s.heap.push { cls := .type "tuple_iterator", data := .fields #[.ref l, .int 0 0] }).push { cls := .type "enumerate", data := .fields #[.none, .bool false, .ref s.heap.objs.size, rawInt 0, .none, .none] } }) :=
  .of_wp fun prog w A R s h => by
    obtain ⟨hp, g, d, tk, os⟩ := s
    obtain ⟨hl, h⟩ := h
    have hsub := sub_enumerate
    have hT : Heap.IsTuple (Shared.heap ⟨hp, g, d, tk, os⟩) l items := ⟨_, hl, rfl, n, rfl⟩
    wp_walk using AutoSeq1.wpAny_loadPart' hl
    refine wpAny_stack_any fun st => wpAny_pure ?_
    split
    · rename_i c _ _ _ _ _
      cases (c == Value.type "enumerate") <;> (wp_walk using AutoSeq1.wpAny_loadPart' hl, wpAny_pyIter_tuple hT; exact ⟨_, rfl, h⟩)
    · wp_walk using AutoSeq1.wpAny_loadPart' hl, wpAny_pyIter_tuple hT
      exact ⟨_, rfl, h⟩
theorem call_enumT {prog : Program} {w : World} {A : Around} {E : Value → Shared → Prop} {s : Shared} {l : Addr} {items : Array Value} {Q : Value → Shared → Prop} (hL : s.heap.IsTuple l items)
    (h : ∀ h', IsEnum h' (s.heap.objs.size + 1) s.heap.objs.size 0 .none → h'.IsTupleIter s.heap.objs.size l 0 → (∀ b o, s.heap.get? b = some o → h'.get? b = some o) → Q (.ref (s.heap.objs.size + 1)) { s with heap := h' }) :
    wpAny (model prog w) A (call (.type "enumerate") [.ref l]) Q E s := by
  obtain ⟨⟨c, dct, dt, sl⟩, hl, hc, n, hd⟩ := hL
  have hc' : c = .type "tuple" := hc
  have hd' : dt = .seq items n := hd
  subst hc' hd'
  refine callType_new F.called_enumerate (by decide) (F.typeCall_enumerate_1 _) (F.newCall_enumerate_1 _) (fun obj => F.args_object_init_2 obj _) F.entry_enumerate_new (meets_enumT l items n dct sl) ⟨hl, ?_⟩
  have hz : (s.heap.push { cls := .type "tuple_iterator", data := .fields #[.ref l, .int 0 0] }).objs.size = s.heap.objs.size + 1 := Heap.size_push ..
  show _ ∧ _
  rw [hz]
  have he : IsEnum ((s.heap.push { cls := .type "tuple_iterator", data := .fields #[.ref l, .int 0 0] }).push { cls := .type "enumerate", data := .fields #[.none, .bool false, .ref s.heap.objs.size, rawInt 0, .none, .none] }) (s.heap.objs.size + 1) s.heap.objs.size 0 .none := by
    have := Heap.get?_push_size (s.heap.push { cls := .type "tuple_iterator", data := .fields #[.ref l, .int 0 0] }) (o := { cls := .type "enumerate", data := .fields #[.none, .bool false, .ref s.heap.objs.size, rawInt 0, .none, .none] }) rfl
    rw [hz] at this
    exact this
  exact ⟨⟨_, he, rfl⟩, h _ he ⟨_, Heap.get?_push_of_some _ (Heap.get?_push_size _ rfl), rfl, rfl⟩ fun b o x => Heap.get?_push_of_some _ (Heap.get?_push_of_some _ x)⟩
theorem pi_enumT {e : Expr} {ta : TA} {p pos tpos : Pos} {elts : List Expr} {kk : Nat} (hg : Gl X "enumerate") (hm : X.mg "enumerate" = none) (ha : PA X [e] ta) (hs : starEach [e] X.env = [(false, eval e X.env)] := by rfl) :
    PI X (.Tuple elts kk tpos) (.Call (.Name "enumerate" p) [e] [] pos) (iEnumT X.K ta) := by
  refine ⟨fun pins s σ H R I h => ?_⟩
  refine Call_ (ld_blt I hg hm boot_enumerate (PyProof.Rows.callWith_type1 (thn (ha.run pos pins s σ H _ I h) fun us s1 ⟨vs, H1, I1, r1, q1⟩ => ?_) hs rfl))
  obtain ⟨a, xs, rfl, hq, q⟩ := q1
  obtain ⟨u, rfl, ru⟩ := vals1 r1
  cases ru
  obtain ⟨its, rv, pl, hz⟩ := I1.tuple hq
  refine call_enumT pl fun h' he hit hk => wpAny_pyIter_enum he ?_
  exact ⟨s1.heap.objs.size + 1, [s1.heap.objs.size + 1, s1.heap.objs.size], _, _, H1, rfl, I1.kept (t' := s1.toks) hk, turn_et a (Nat.succ_ne_self _), ⟨⟨.none, he⟩, hit⟩, fresh2 I1, q⟩
end
theorem walk_et {K : PySem.W.Frag} {a : Addr} {xs : List V} : Walk (Itet K a) xs.length (fun H => SqT K H a xs) (YPair (fun i => some (.int (i : Nat))) (fun i => xs[i]?)) := by
  refine ⟨fun _ _ hi q => ⟨xs, q, hi⟩, fun _ q => ⟨xs, q, rfl⟩, fun i H v H' hi q y => ?_⟩
  obtain ⟨T, x, h1, h2, h3, h4⟩ := y
  exact ⟨T, .int (i : Nat), x, h1, h2, h3, rfl, h4 xs q⟩
end My

set_option Elab.async false
set_option linter.all false
set_option maxRecDepth 100000
set_option maxHeartbeats 1000000
namespace My
open PySem PySem.Spec PyProof.Rows L2
/-! ### calls by named readings -/
def rLenSq (K : PySem.W.Frag) : List V → Hp → VK → Prop := fun xs H Q => ∃ p ys, xs = [.ref p] ∧ (SqL K H p ys ∨ SqT K H p ys) ∧ Q (.int (ys.length : Nat)) H
def rListSq (K : PySem.W.Frag) : List V → Hp → VK → Prop := fun xs H Q => ∃ p ys, xs = [.ref p] ∧ (SqL K H p ys ∨ SqT K H p ys) ∧ ∀ l, H l = none → Q (.ref l) (upd H l (.lst ys))
def rTupSq (K : PySem.W.Frag) : List V → Hp → VK → Prop := fun xs H Q => ∃ p ys, xs = [.ref p] ∧ ((SqL K H p ys ∧ ∀ l, H l = none → Q (.ref l) (upd H l (.tup ys))) ∨ (SqT K H p ys ∧ Q (.ref p) H))
def rDictSq (K : PySem.W.Frag) : List V → Hp → VK → Prop := fun xs H Q => ∃ (a : Addr) (ps : List Addr) (kvs : List (Key × V)), xs = [.ref a] ∧ SqL K H a (ps.map V.ref) ∧ Paired (fun p kv => SqT K H p [kV kv.1, kv.2]) ps kvs ∧ ∀ p, H p = none → Q (.ref p) (upd H p (.dK (mergeK [] kvs)))
section
variable (K : PySem.W.Frag) {X : Cx}
theorem cLenSq (hK : X.K = K := by rfl) : CallR X (.builtin "len") (rLenSq K) := by
  subst hK
  exact call_len_seq
theorem cListSq (hK : X.K = K := by rfl) : CallR X (.type "list") (rListSq K) := by
  subst hK
  exact call_list_of
theorem cTupSq (hK : X.K = K := by rfl) : CallR X (.type "tuple") (rTupSq K) := by
  subst hK
  exact call_tuple_of
theorem cDictSq (hK : X.K = K := by rfl) (hc : X.calm = true := by rfl) : CallR X (.type "dict") (rDictSq K) := by
  subst hK
  exact call_dictP hc
theorem ixL (hK : X.K = K := by rfl) : IxR X (rIxL K) := by
  subst hK
  exact ix_list
theorem ixT (hK : X.K = K := by rfl) : IxR X (rIxT K) := by
  subst hK
  exact ix_tup
theorem piL {tg l : Expr} {tl : TE} (hl : PE X l tl) (hK : X.K = K := by rfl) : PI X tg l (iList K tl) := by
  subst hK
  exact pi_list hl
theorem piT {tg l : Expr} {tl : TE} (hl : PE X l tl) (hK : X.K = K := by rfl) : PI X tg l (iTup K tl) := by
  subst hK
  exact pi_tup hl
theorem pgT {es : List Expr} {k : Nat} {t : TGs} {n : Nat} {pos : Pos} (h : PGs X es t) (hK : X.K = K := by rfl) (hc : X.calm = true := by rfl) (hn : (assignEach es X.env).length = n := by rfl) (hst : (assignEach es X.env).findIdx? (·.1) = none := by rfl) : PG X (.Tuple es k pos) (gTup K n t) := by
  subst hK
  exact pg_tup hc h hn hst
theorem inSq (hK : X.K = K := by rfl) : OpR X (compareOp .In) (rIn K false) := by
  subst hK
  exact op_in_seq
theorem neDK (hu : X.A.units + 64 < cLine) (hK : X.K = K := by rfl) : OpR X (compareOp .NotEq) (rNeD K) := by
  subst hK
  exact op_neD hu
theorem bmK {T id : String} {name : Str} {r : V → List V → Hp → VK → Prop} {o e : Expr} {es : List Expr} {to : TE} {t : TA} {apos cpos : Pos} (pa : PlainAttrs T) (slot : Slot T name id) (hty : typeOf (.builtin id) = pure (.type "method_descriptor")) (hm : MtR X id r) (ho : PE X o to) (ha : PA X (e :: es) t) (hK : X.K = K := by rfl)
    (hbase : attributeBase o name X.env (eval o X.env) = eval o X.env := by rfl)
    (hfew : ((backTo cpos (starEach (e :: es) X.env)).all (fun x => !x.1) && (backToKw cpos (keywordEach [] X.env)).all (fun x => x.1.isSome) && decide ((e :: es).length + ([] : List Keyword).length + (if ([] : List Keyword).isEmpty then 0 else 1) < 30)) = true := by rfl)
    (hline : (apos.endLine == cpos.line) = true := by rfl) (hs : starEach (e :: es) X.env = (false, eval e X.env) :: starEach es X.env := by rfl) (hplain : (backTo cpos (starEach es X.env)).any (·.1) = false := by rfl) :
    PE X (.Call (.Attribute o name apos) (e :: es) [] cpos) (tBM K T r to t) := by
  subst hK
  exact pe_bm pa slot hty hm ho ha hbase hfew hline hs hplain
theorem enumTK {e : Expr} {ta : TA} {p pos tpos : Pos} {elts : List Expr} {kk : Nat} (hg : Gl X "enumerate") (hm : X.mg "enumerate" = none) (ha : PA X [e] ta) (hK : X.K = K := by rfl) (hs : starEach [e] X.env = [(false, eval e X.env)] := by rfl) :
    PI X (.Tuple elts kk tpos) (.Call (.Name "enumerate" p) [e] [] pos) (iEnumT K ta) := by
  subst hK
  exact pi_enumT hg hm ha hs
theorem zipAK {e e2 : Expr} {ta : TA} {p pos tpos : Pos} {elts : List Expr} {kk : Nat} (hg : Gl X "zip") (hm : X.mg "zip" = none) (ha : PA X [e, e2] ta) (hK : X.K = K := by rfl)
    (hs : starEach [e, e2] X.env = (false, eval e X.env) :: starEach [e2] X.env := by rfl) (hpl : (backTo pos (starEach [e2] X.env)).any (·.1) = false := by rfl) :
    PI X (.Tuple elts kk tpos) (.Call (.Name "zip" p) [e, e2] [] pos) (RZ.iZipA K ta) := by
  subst hK
  exact RZ.pi_zipA hg hm ha hs hpl
theorem allK (hK : X.K = K := by rfl) (hc : X.calm = true := by rfl) : CallR X (.builtin "all") (rAll K) := by
  subst hK
  exact cr_all hc
theorem isiK (hK : X.K = K := by rfl) : CallR X (.builtin "isinstance") (rIsi K) := by
  subst hK
  exact call_isi
theorem isiTK (hK : X.K = K := by rfl) : CallR X (.builtin "isinstance") (rIsiT K) := by
  subst hK
  exact call_isiT
end
/-! ### frozen data: numbers, texts, None, truths, tuples of these -/
mutual
inductive Fz (H : Hp) : V → PyData → Prop
  | non : Fz H .non .none
  | bl (b : Bool) : Fz H (.bl b) (.bool b)
  | int (i : Int) : Fz H (.int i) (.int i)
  | str (x : Str) : Fz H (.str x) (.str x)
  | tup {a : Addr} {xs : List V} {ds : List PyData} : H a = some (.tup xs) → FzA H xs ds → Fz H (.ref a) (.tuple ds)
inductive FzA (H : Hp) : List V → List PyData → Prop
  | nil : FzA H [] []
  | cons {v : V} {vs : List V} {d : PyData} {ds : List PyData} : Fz H v d → FzA H vs ds → FzA H (v :: vs) (d :: ds)
end
/-- tuples stay -/
def Kt (H H' : Hp) : Prop := ∀ b xs, H b = some (.tup xs) → H' b = some (.tup xs)
theorem Kt.rfl' {H : Hp} : Kt H H := fun _ _ h => h
theorem Kt.trans {H H1 H2 : Hp} (a : Kt H H1) (b : Kt H1 H2) : Kt H H2 := fun c o h => b c o (a c o h)
theorem Kt.new {H : Hp} {p : Addr} {o : HO} (n : H p = none) : Kt H (upd H p o) := fun b xs h => by
  rw [upd_ne (ne_of_none h n)]
  exact h
theorem Kt.lst {H : Hp} {p : Addr} {xs : List V} {o : HO} (n : H p = some (.lst xs)) : Kt H (upd H p o) := fun b ys h => by
  have e : b ≠ p := fun z => by
    rw [z, n] at h
    cases h
  rw [upd_ne e]
  exact h
theorem Kt.dct {H : Hp} {p : Addr} {xs : List (Key × V)} {o : HO} (n : H p = some (.dK xs)) : Kt H (upd H p o) := fun b ys h => by
  have e : b ≠ p := fun z => by
    rw [z, n] at h
    cases h
  rw [upd_ne e]
  exact h
theorem Kp.kt {r : Addr} {H H' : Hp} {xs : List V} (k : Kp r H H') (h : H r = some (.lst xs)) : Kt H H' := fun b ys e => k b _ (fun z => by
  rw [z, h] at e
  cases e) e
theorem Same.kt {H H' : Hp} (k : Same H H') : Kt H H' := fun b ys e => k b _ e
mutual
theorem Fz.mono {H H' : Hp} (k : Kt H H') : ∀ (d : PyData) (v : V), Fz H v d → Fz H' v d
  | .none, _, .non => .non
  | .bool _, _, .bl b => .bl b
  | .int _, _, .int i => .int i
  | .str _, _, .str x => .str x
  | .tuple ds, _, .tup h a => .tup (k _ _ h) (FzA.mono k ds _ a)
theorem FzA.mono {H H' : Hp} (k : Kt H H') : ∀ (ds : List PyData) (vs : List V), FzA H vs ds → FzA H' vs ds
  | [], _, .nil => .nil
  | d :: ds, _, .cons h a => .cons (Fz.mono k d _ h) (FzA.mono k ds _ a)
end
theorem Fz.kt {H H' : Hp} {v : V} {d : PyData} (h : Fz H v d) (k : Kt H H') : Fz H' v d := Fz.mono k d v h
theorem FzA.kt {H H' : Hp} {vs : List V} {ds : List PyData} (h : FzA H vs ds) (k : Kt H H') : FzA H' vs ds := FzA.mono k ds vs h
mutual
theorem Fz.dp {K : PySem.W.Frag} {H : Hp} : ∀ (d : PyData) (v : V), Fz H v d → Dp K H v d
  | .none, _, .non => .non
  | .bool _, _, .bl b => .bl b
  | .int _, _, .int i => .int i
  | .str _, _, .str x => .str x
  | .tuple ds, _, .tup h a => .tup (.inl (.inl h)) (FzA.dp ds _ a)
theorem FzA.dp {K : PySem.W.Frag} {H : Hp} : ∀ (ds : List PyData) (vs : List V), FzA H vs ds → DpAll K H vs ds
  | [], _, .nil => .nil
  | d :: ds, _, .cons h a => .cons (Fz.dp d _ h) (FzA.dp ds _ a)
end
theorem Fz.to {K : PySem.W.Frag} {H : Hp} {v : V} {d : PyData} (h : Fz H v d) : Dp K H v d := Fz.dp d v h
theorem FzA.len : ∀ {H : Hp} {vs : List V} {ds : List PyData}, FzA H vs ds → vs.length = ds.length
  | _, _, _, .nil => rfl
  | _, _, _, .cons _ a => by
    rw [List.length_cons, List.length_cons, FzA.len a]
theorem FzA.get : ∀ {H : Hp} {vs : List V} {ds : List PyData} {i : Nat} {d : PyData}, FzA H vs ds → ds[i]? = some d → ∃ v, vs[i]? = some v ∧ Fz H v d
  | _, _, _, _, _, .nil, h => by simp at h
  | _, _, _, 0, _, .cons a _, h => ⟨_, rfl, Option.some.inj h ▸ a⟩
  | _, _, _, i + 1, _, .cons _ a, h => FzA.get (i := i) a h
theorem FzA.getV : ∀ {H : Hp} {vs : List V} {ds : List PyData} {i : Nat} {v : V}, FzA H vs ds → vs[i]? = some v → ∃ d, ds[i]? = some d ∧ Fz H v d
  | _, _, _, _, _, .nil, h => by simp at h
  | _, _, _, 0, _, .cons a _, h => ⟨_, rfl, Option.some.inj h ▸ a⟩
  | _, _, _, i + 1, _, .cons _ a, h => FzA.getV (i := i) a h
theorem FzA.app : ∀ {H : Hp} {vs ws : List V} {ds es : List PyData}, FzA H vs ds → FzA H ws es → FzA H (vs ++ ws) (ds ++ es)
  | _, _, _, _, _, .nil, b => b
  | _, _, _, _, _, .cons a r, b => .cons a (FzA.app r b)
theorem FzA.snoc {H : Hp} {vs : List V} {ds : List PyData} {v : V} {d : PyData} (a : FzA H vs ds) (b : Fz H v d) : FzA H (vs ++ [v]) (ds ++ [d]) := a.app (.cons b .nil)
theorem FzA.ints : ∀ {H : Hp} {ns : List Int} {vs : List V}, FzA H vs (ns.map PyData.int) → vs = ns.map V.int
  | _, [], _, .nil => rfl
  | _, n :: ns, _, .cons (.int _) a => by
    rw [FzA.ints (ns := ns) a]
    rfl
theorem FzA.ofInts : ∀ {H : Hp} {ns : List Int}, FzA H (ns.map V.int) (ns.map PyData.int)
  | _, [] => .nil
  | _, n :: ns => .cons (.int n) (FzA.ofInts (ns := ns))
/-- a tuple, opened -/
theorem Fz.open {H : Hp} {v : V} {ds : List PyData} (h : Fz H v (.tuple ds)) : ∃ (a : Addr) (xs : List V), v = .ref a ∧ H a = some (.tup xs) ∧ FzA H xs ds := by
  cases h with
  | tup h a => exact ⟨_, _, rfl, h, a⟩
theorem FzA.one {H : Hp} {vs : List V} {d : PyData} (h : FzA H vs [d]) : ∃ x, vs = [x] ∧ Fz H x d := by
  cases h with
  | cons a r =>
    cases r
    exact ⟨_, rfl, a⟩
theorem FzA.two {H : Hp} {vs : List V} {d e : PyData} (h : FzA H vs [d, e]) : ∃ x y, vs = [x, y] ∧ Fz H x d ∧ Fz H y e := by
  cases h with
  | cons a r =>
    obtain ⟨y, rfl, b⟩ := r.one
    exact ⟨_, y, rfl, a, b⟩
theorem FzA.three {H : Hp} {vs : List V} {d e f : PyData} (h : FzA H vs [d, e, f]) : ∃ x y z, vs = [x, y, z] ∧ Fz H x d ∧ Fz H y e ∧ Fz H z f := by
  cases h with
  | cons a r =>
    obtain ⟨y, z, rfl, b, c⟩ := r.two
    exact ⟨_, y, z, rfl, a, b, c⟩
theorem Fz.isStr {H : Hp} {v : V} {x : Str} (h : Fz H v (.str x)) : v = .str x := by
  cases h
  rfl
theorem Fz.isInt {H : Hp} {v : V} {i : Int} (h : Fz H v (.int i)) : v = .int i := by
  cases h
  rfl
theorem Fz.isNon {H : Hp} {v : V} (h : Fz H v .none) : v = .non := by
  cases h
  rfl
/-- a tuple just made -/
theorem Fz.made {H : Hp} {p : Addr} {xs : List V} {ds : List PyData} (n : H p = Option.none) (h : FzA H xs ds) : Fz (upd H p (.tup xs)) (.ref p) (.tuple ds) := .tup upd_same (h.kt (.new n))
theorem at_ints {ns : List Int} {d : Int} (h0 : 0 ≤ d) (h1 : d < (ns.length : Nat)) : ∃ t ∈ ns, atI (ns.map V.int) d = some (.int t) := by
  have hd : d.toNat < ns.length := by omega
  refine ⟨ns[d.toNat], List.getElem_mem hd, L2.at_of (j := d.toNat) (by omega) ?_⟩
  rw [List.getElem?_map, List.getElem?_eq_getElem hd]
  rfl
/-! ### tables -/
abbrev rowD (row : List Int) : PyData := .tuple (row.map PyData.int)
abbrev rowsD (rows : List (List Int)) : PyData := .tuple (rows.map rowD)
abbrev tabD (cols : List Nat) (rows : List (List Int)) : PyData := .tuple [.str ⟨cols.toArray⟩, rowsD rows]
/-- rising unlike letters -/
structure Cols (l : List Nat) : Prop where
  up : l.Pairwise (· < ·)
  az : ∀ c ∈ l, 97 ≤ c ∧ c ≤ 122
theorem Cols.nd {l : List Nat} (c : Cols l) : l.Nodup := c.up.imp fun {a b} h => by
  have : a < b := h
  omega
def RowOk (n : Nat) (row : List Int) : Prop := row.length = n ∧ ∀ x ∈ row, 0 ≤ x ∧ x < 1000
def RowsOk (n : Nat) (rows : List (List Int)) : Prop := ∀ row ∈ rows, RowOk n row
theorem row_open {H : Hp} {v : V} {row : List Int} (h : Fz H v (rowD row)) : ∃ a, v = .ref a ∧ H a = some (.tup (row.map V.int)) := by
  obtain ⟨a, xs, rfl, ha, f⟩ := h.open
  rw [FzA.ints f] at ha
  exact ⟨a, rfl, ha⟩
theorem row_made {H : Hp} {p : Addr} {row : List Int} (n : H p = none) : Fz (upd H p (.tup (row.map V.int))) (.ref p) (rowD row) := Fz.made n FzA.ofInts
theorem tab_open {H : Hp} {v : V} {cols : List Nat} {rows : List (List Int)} (h : Fz H v (tabD cols rows)) : ∃ (t R : Addr) (vs : List V), v = .ref t ∧ H t = some (.tup [tx cols, .ref R]) ∧ H R = some (.tup vs) ∧ FzA H vs (rows.map rowD) := by
  obtain ⟨t, xs, rfl, ht, f⟩ := h.open
  obtain ⟨x, y, rfl, fx, fy⟩ := f.two
  obtain ⟨R, vs, rfl, hR, fv⟩ := fy.open
  rw [fx.isStr] at ht
  exact ⟨t, R, vs, rfl, ht, hR, fv⟩
/-! ### questions -/
abbrev eqD (p : Nat × Int) : PyData := .tuple [.str ⟨#[p.1]⟩, .int p.2]
abbrev eqsD (es : List (Nat × Int)) : PyData := .tuple (es.map eqD)
abbrev rchD : Option (Nat × Int × Int) → PyData
  | none => .none
  | some (c, lo, hi) => .tuple [.str ⟨#[c]⟩, .int lo, .int hi]
abbrev qD (es : List (Nat × Int)) (rc : Option (Nat × Int × Int)) : PyData := .tuple [eqsD es, rchD rc]
structure QOk (cols : List Nat) (es : List (Nat × Int)) (rc : Option (Nat × Int × Int)) : Prop where
  up : (es.map (·.1)).Pairwise (· < ·)
  ok : ∀ p ∈ es, p.1 ∈ cols ∧ 0 ≤ p.2 ∧ p.2 < 1000
  len : es.length ≤ cols.length
  rc : ∀ c lo hi, rc = some (c, lo, hi) → c ∈ cols ∧ c ∉ es.map (·.1) ∧ 0 ≤ lo ∧ lo ≤ hi ∧ hi < 1000
theorem idx_first : ∀ {l : List Nat} {c i : Nat}, l[i]? = some c → (∀ k, k < i → l[k]? ≠ some c) → l.idxOf c = i
  | [], c, i, h, _ => by simp at h
  | a :: l, c, 0, h, _ => by
    have e : a = c := Option.some.inj h
    rw [e]
    simp
  | a :: l, c, i + 1, h, hn => by
    have e : a ≠ c := fun z => hn 0 (Nat.succ_pos _) (by rw [z]; rfl)
    have ih := idx_first (l := l) (c := c) (i := i) h fun k hk => hn (k + 1) (Nat.succ_lt_succ hk)
    rw [List.idxOf_cons, ih]
    have eb : (a == c) = false := by simp [e]
    rw [eb]
    rfl
theorem merge_new : ∀ (more acc : List (Key × V)), ((acc ++ more).map (·.1)).Nodup → mergeK acc more = acc ++ more
  | [], acc, _ => by
    rw [List.append_nil]
    rfl
  | kv :: more, acc, h => by
    have h2 : ((acc ++ [kv]) ++ more).map (·.1) = (acc ++ kv :: more).map (·.1) := by
      rw [List.append_assoc]
      rfl
    have nk : valV acc kv.1 = none := by
      cases e : valV acc kv.1 with
      | none => rfl
      | some v =>
        exfalso
        have hm : kv.1 ∈ acc.map (·.1) := valV_in e
        rw [List.map_append] at h
        have := (List.nodup_append.mp h).2.2
        exact this _ hm _ (by simp) rfl
    show mergeK (putK acc kv.1 kv.2) more = _
    rw [putK_new kv.2 nk]
    have e := merge_new more (acc ++ [(kv.1, kv.2)]) (by
      show (((acc ++ [kv]) ++ more).map (·.1)).Nodup
      rw [h2]
      exact h)
    rw [e, List.append_assoc]
    rfl
/-- the place of a letter -/
theorem ix_one {l : List Nat} {c : Nat} (h : c ∈ l) : ∃ r, Builtin.Str.occurrences (⟨l.toArray⟩ : Str) ⟨#[c]⟩ 0 (⟨l.toArray⟩ : Str).length 1 = l.idxOf c :: r := by
  have hx : (⟨l.toArray⟩ : Str).cps.toList = l := by simp
  rcases PySem.StrLaws.occ_head (⟨l.toArray⟩ : Str) ⟨#[c]⟩ 1 (Nat.le_refl 1) with ⟨h0, hn⟩ | ⟨i, r, h0, ha, hn⟩
  · exfalso
    obtain ⟨i, hi⟩ := List.mem_iff_getElem?.mp h
    exact hn i ((PySem.StrLaws.subAt_one _ c i).mpr (by rw [hx]; exact hi))
  · refine ⟨r, ?_⟩
    rw [h0]
    have e1 : l[i]? = some c := by
      have := (PySem.StrLaws.subAt_one _ c i).mp ha
      rw [hx] at this
      exact this
    have e3 : l.idxOf c = i := idx_first e1 fun k hk z => hn k hk ((PySem.StrLaws.subAt_one _ c k).mpr (by rw [hx]; exact z))
    rw [e3]
end My

set_option Elab.async false
set_option linter.all false
set_option maxRecDepth 100000
set_option maxHeartbeats 1000000
namespace My
open PySem PySem.Spec PyProof.Rows L2
/-! ### name = {.. for ..} on one line -/
section
variable {X : Cx} {pins : List (Addr × Obj)} {σ : L2.St} {H : Hp} {s : Shared}
/-- an object of the frame's own at C may become anything: all that is known stays -/
theorem past {C : Addr} {h' : Heap} {t' : Nat} (I : Inv X pins σ H s) (f : FpOk X pins H C) (kp : ∀ b u, b ≠ C → s.heap.get? b = some u → h'.get? b = some u) : Inv X pins σ H { s with heap := h', toks := t' } :=
  I.turned kp f.1 f.2.1 f.2.2.2.1 f.2.2.2.2.1 f.2.2.2.2.2
/-- it is neither the frame's dict nor one of its cells -/
theorem apart_of {C a : Addr} {y : Str} (f : FpOk X pins H C) (ha : a = X.env.locals ∨ X.env.cells.lookup y = some a) : C ≠ a := fun z =>
  ha.elim (fun e => f.2.1 (z.trans e)) fun e => f.2.2.2.2.1 y a e z.symm
/-- the dict that was made goes to the name y while the comprehension's frame C is still there -/
theorem kept_at {C L : Addr} {m : Str → Option Value} {i : Nat} {y : Str} {py : Pos} {D : Ends} {E : Value → Shared → Prop} (I : Inv X pins σ H s) (f : FpOk X pins H C) (hn : s.heap.Ns C m) (hN : X.N.Nodup) (hy : X.N[i]? = some y) (hyl : X.env.scope.names.lookup y = some .local)
    (q : D.nx (σ.set i (some (.ref L))) H) : wpAny (model X.prog X.w) X.A (assign (.Name y py) X.env (.ref L)) (fun _ s' => ∃ m', s'.heap.Ns C m' ∧ ∀ h3, Heap.SameBut C s'.heap h3 → SP X pins D .next { s' with heap := h3 }) E s :=
  wpAny_assign_Name (store_ok2 (v := .ref L) I hN hy (.inl hyl) rfl (fun s2 J ⟨_, sb, ha⟩ => ⟨m, hn.sameBut sb (apart_of f ha), fun h3 sb3 => ⟨_, H, past (t' := s2.toks) J f fun b u ne e => (sb3.2 b ne).trans e, q⟩⟩) (.inr hyl))
theorem ps_setDc {i : Nat} {y : Str} {py : Pos} {kx vx tg iter : Expr} {ifs : List Expr} {scope : Scope} {own : List (Str × Nat)} {pos spos : Pos} {wi : TI} {g : TG} {tt : TT} {tk tv : TE} (hc : X.calm = true) (hN : X.N.Nodup) (hy : X.N[i]? = some y) (hyl : X.env.scope.names.lookup y = some .local)
    (hsw : swapsWith (.DictComp kx vx [⟨tg, iter, ifs, 0⟩] scope pos) (some (.Name y py)) spos.line X.env = pure true) (hi : PI X tg iter wi) (ok : BlkOk X.N X.env.scope scope own)
    (hg : ∀ (s : Shared) (H : Hp) (C : Addr) (cl : List (Str × Addr)) (fp : List Addr), PG (X.blk s H scope (compEnvC scope cl C X.env) fp) tg g)
    (ht : ∀ (s : Shared) (H : Hp) (C : Addr) (cl : List (Str × Addr)) (fp : List Addr), PTs (X.blk s H scope (compEnvC scope cl C X.env) fp) ifs tt)
    (kp : ∀ (s : Shared) (H : Hp) (C : Addr) (cl : List (Str × Addr)) (fp : List Addr), PE (X.blk s H scope (compEnvC scope cl C X.env) fp) kx tk)
    (vp : ∀ (s : Shared) (H : Hp) (C : Addr) (cl : List (Str × Addr)) (fp : List Addr), PE (X.blk s H scope (compEnvC scope cl C X.env) fp) vx tv) (hs : ∀ x, foldedSetIterable iter X.env x = pure x := by intro _; rfl) :
    PS X (.Assign [.Name y py] (.DictComp kx vx [⟨tg, iter, ifs, 0⟩] scope pos) spos) (tAsg (tDc wi g tt tk tv (own.map (·.2))) (gName i)) := by
  constructor
  intro pins s σ H D I h
  have made := dc_core (pos := pos) (pos' := firstIterPos [⟨tg, iter, ifs, 0⟩] pos) (use := some (assign (.Name y py) X.env)) (Qf := fun _ s' => SP X pins D .next s') (Q := fun x H1 => gName i x σ H1 D.nx) hc hN I hi ok hg ht kp vp hs h
    fun L C s' m H' I' q hn f => kept_at I' f hn hN hy hyl q
  rw [exec_Assign_Name_used _ _ _ _ hsw]
  exact wpAny_bind (wpAny_standAt (wpAny_bind (wpAny_bind (thn made fun _ _ z => wpAny_pure (wpAny_pure z)))))
end
theorem sw_dict {kx vx : Expr} {gs : List Comprehension} {scope : Scope} {pos py : Pos} {y : Str} {l : Nat} {env : Env} (hk : env.scope.kind = .function) (hy : env.scope.names.lookup y = some .local) (hl : (py.line == pos.line) = true)
    (ha : (scope.names.any fun (n, k) => n == y && (k == .local || k == .cell)) = false) : swapsWith (.DictComp kx vx gs scope pos) (some (.Name y py)) l env = pure true :=
  Eq.trans (b := swapsWith (.ListComp kx gs scope pos) (some (.Name y py)) l env) rfl (sw_true hk hy hl ha)
/-! ### spans: letters with their bounds -/
inductive SpA (H : Hp) : List (Key × V) → List (Nat × Int × Int) → Prop
  | nil : SpA H [] []
  | cons {p : Addr} {c : Nat} {lo hi : Int} {kvs : List (Key × V)} {l : List (Nat × Int × Int)} : H p = some (.tup [.int lo, .int hi]) → SpA H kvs l → SpA H ((Sum.inr (sS c), .ref p) :: kvs) ((c, lo, hi) :: l)
theorem SpA.kt {H H' : Hp} {kvs : List (Key × V)} {l : List (Nat × Int × Int)} (h : SpA H kvs l) (k : Kt H H') : SpA H' kvs l := by
  induction h with
  | nil => exact .nil
  | cons a _ ih => exact .cons (k _ _ a) ih
theorem SpA.snoc {H : Hp} {kvs : List (Key × V)} {l : List (Nat × Int × Int)} {p : Addr} {c : Nat} {lo hi : Int} (h : SpA H kvs l) (hp : H p = some (.tup [.int lo, .int hi])) : SpA H (kvs ++ [(Sum.inr (sS c), .ref p)]) (l ++ [(c, lo, hi)]) := by
  induction h with
  | nil => exact .cons hp .nil
  | cons a _ ih => exact .cons a ih
theorem SpA.len {H : Hp} {kvs : List (Key × V)} {l : List (Nat × Int × Int)} (h : SpA H kvs l) : kvs.length = l.length := by
  induction h with
  | nil => rfl
  | cons _ _ ih => rw [List.length_cons, List.length_cons, ih]
theorem sS_inj {a b : Nat} (h : sS a = sS b) : a = b := by
  have z3 : (#[a] : Array Nat) = #[b] := congrArg Str.cps h
  simpa using z3
theorem SpA.none {H : Hp} {kvs : List (Key × V)} {l : List (Nat × Int × Int)} {c : Nat} (h : SpA H kvs l) (n : c ∉ l.map (·.1)) : valV kvs (Sum.inr (sS c)) = Option.none := by
  induction h with
  | nil => rfl
  | @cons p d lo hi kvs l a r ih =>
    rw [valV_neg (fun z => n ?_)]
    · exact ih fun q => n (List.mem_cons_of_mem _ q)
    · have : d = c := sS_inj (Sum.inr.inj z)
      rw [← this]
      exact List.mem_cons_self ..
/-- at its place: the letter's entry -/
theorem SpA.get {H : Hp} {kvs : List (Key × V)} {l : List (Nat × Int × Int)} (h : SpA H kvs l) {i : Nat} {k : Key} {v : V} (e : kvs[i]? = some (k, v)) : ∃ (p : Addr) (c : Nat) (lo hi : Int), k = Sum.inr (sS c) ∧ v = .ref p ∧ H p = some (.tup [.int lo, .int hi]) ∧ l[i]? = some (c, lo, hi) := by
  induction h generalizing i with
  | nil => simp at e
  | @cons p c lo hi kvs l a r ih =>
    cases i with
    | zero =>
      have z := Option.some.inj e
      cases z
      exact ⟨p, c, lo, hi, rfl, rfl, a, rfl⟩
    | succ i => exact ih (i := i) e
theorem SpA.look {H : Hp} {kvs : List (Key × V)} {l : List (Nat × Int × Int)} (h : SpA H kvs l) (nd : (l.map (·.1)).Nodup) {c : Nat} {lo hi : Int} (m : (c, lo, hi) ∈ l) : ∃ p, valV kvs (Sum.inr (sS c)) = some (.ref p) ∧ H p = some (.tup [.int lo, .int hi]) := by
  induction h with
  | nil => cases m
  | @cons p d lo' hi' kvs l a r ih =>
    rcases List.mem_cons.mp m with z | z
    · cases z
      exact ⟨p, valV_pos rfl, a⟩
    · have nd2 := List.nodup_cons.mp nd
      have hdc : d ≠ c := fun q => nd2.1 (by
        have := List.mem_map_of_mem (f := fun x : Nat × Int × Int => x.1) z
        rw [q]
        exact this)
      obtain ⟨p', h1, h2⟩ := ih nd2.2 z
      refine ⟨p', ?_, h2⟩
      rw [valV_neg (fun q => hdc (sS_inj (Sum.inr.inj q)))]
      exact h1
def spanL (es : List (Nat × Int)) (rc : Option (Nat × Int × Int)) : List (Nat × Int × Int) := es.map (fun p => (p.1, p.2, p.2)) ++ rc.toList
theorem spanL_keys (es : List (Nat × Int)) : (es.map (fun p => (p.1, p.2, p.2))).map (·.1) = es.map (·.1) := by
  rw [List.map_map]
  rfl
theorem spanL_nd {cols : List Nat} {es : List (Nat × Int)} {rc : Option (Nat × Int × Int)} (h : QOk cols es rc) : ((spanL es rc).map (·.1)).Nodup := by
  have h1 : (es.map (·.1)).Nodup := h.up.imp fun {a b} q => by
    have : a < b := q
    omega
  unfold spanL
  rw [List.map_append, spanL_keys]
  cases rc with
  | none => simpa using h1
  | some t =>
    obtain ⟨c, lo, hi⟩ := t
    have := (h.rc c lo hi rfl).2.1
    show (es.map (·.1) ++ [c]).Nodup
    refine List.nodup_append.mpr ⟨h1, by simp, fun a ha b hb z => ?_⟩
    rw [List.mem_singleton.mp hb] at z
    rw [z] at ha
    exact this ha
/-! ### what fits -/
def rowAt (cols : List Nat) (row : List Int) (c : Nat) : Int := row.getD (cols.idxOf c) 0
def spanFit (cols : List Nat) (row : List Int) (p : Nat × Int × Int) : Bool := decide (p.2.1 ≤ rowAt cols row p.1) && decide (rowAt cols row p.1 ≤ p.2.2)
def fitsM (cols : List Nat) (row : List Int) (es : List (Nat × Int)) (rc : Option (Nat × Int × Int)) : Bool := (spanL es rc).all (spanFit cols row)
theorem row_at {cols : List Nat} {row : List Int} {c : Nat} (hl : row.length = cols.length) (h : c ∈ cols) : (row.map V.int)[cols.idxOf c]? = some (.int (rowAt cols row c)) := by
  have hi : cols.idxOf c < row.length := by
    rw [hl]
    exact List.idxOf_lt_length_of_mem h
  unfold rowAt
  rw [List.getElem?_map, List.getElem?_eq_getElem hi, List.getD_eq_getElem?_getD, List.getElem?_eq_getElem hi]
  rfl
theorem SpanOk {cols : List Nat} {es : List (Nat × Int)} {rc : Option (Nat × Int × Int)} (h : QOk cols es rc) : ∀ p ∈ spanL es rc, p.1 ∈ cols := fun p hp => by
  unfold spanL at hp
  rcases List.mem_append.mp hp with hp | hp
  · obtain ⟨q, hq, rfl⟩ := List.mem_map.mp hp
    exact (h.ok q hq).1
  · cases rc with
    | none => cases hp
    | some t =>
      have : p = t := by simpa using hp
      obtain ⟨c, lo, hi⟩ := t
      rw [this]
      exact (h.rc c lo hi rfl).1
/-! ### data with lists -/
mutual
inductive Ft (H : Hp) : V → PyData → Prop
  | non : Ft H .non .none
  | bl (b : Bool) : Ft H (.bl b) (.bool b)
  | int (i : Int) : Ft H (.int i) (.int i)
  | str (x : Str) : Ft H (.str x) (.str x)
  | lst {a : Addr} {xs : List V} {ds : List PyData} : H a = some (.lst xs) → FtA H xs ds → Ft H (.ref a) (.list ds)
  | tup {a : Addr} {xs : List V} {ds : List PyData} : H a = some (.tup xs) → FtA H xs ds → Ft H (.ref a) (.tuple ds)
inductive FtA (H : Hp) : List V → List PyData → Prop
  | nil : FtA H [] []
  | cons {v : V} {vs : List V} {d : PyData} {ds : List PyData} : Ft H v d → FtA H vs ds → FtA H (v :: vs) (d :: ds)
end
mutual
theorem Ft.mono {H H' : Hp} (k : Same H H') : ∀ (d : PyData) (v : V), Ft H v d → Ft H' v d
  | .none, _, .non => .non
  | .bool _, _, .bl b => .bl b
  | .int _, _, .int i => .int i
  | .str _, _, .str x => .str x
  | .list ds, _, .lst h a => .lst (k _ _ h) (FtA.mono k ds _ a)
  | .tuple ds, _, .tup h a => .tup (k _ _ h) (FtA.mono k ds _ a)
theorem FtA.mono {H H' : Hp} (k : Same H H') : ∀ (ds : List PyData) (vs : List V), FtA H vs ds → FtA H' vs ds
  | [], _, .nil => .nil
  | d :: ds, _, .cons h a => .cons (Ft.mono k d _ h) (FtA.mono k ds _ a)
end
theorem FtA.len : ∀ {H : Hp} {vs : List V} {ds : List PyData}, FtA H vs ds → vs.length = ds.length
  | _, _, _, .nil => rfl
  | _, _, _, .cons _ a => by
    rw [List.length_cons, List.length_cons, FtA.len a]
theorem FtA.getV : ∀ {H : Hp} {vs : List V} {ds : List PyData} {i : Nat} {v : V}, FtA H vs ds → vs[i]? = some v → ∃ d, ds[i]? = some d ∧ Ft H v d
  | _, _, _, _, _, .nil, h => by simp at h
  | _, _, _, 0, _, .cons a _, h => ⟨_, rfl, Option.some.inj h ▸ a⟩
  | _, _, _, i + 1, _, .cons _ a, h => FtA.getV (i := i) a h
theorem FtA.ofInts : ∀ {H : Hp} (ns : List Int), FtA H (ns.map V.int) (ns.map PyData.int)
  | _, [] => .nil
  | _, n :: ns => .cons (.int n) (FtA.ofInts ns)
mutual
def wd : PyData → Nat
  | .list xs => max xs.length (wdA xs)
  | .tuple xs => max xs.length (wdA xs)
  | _ => 0
def wdA : List PyData → Nat
  | [] => 0
  | x :: xs => max (wd x) (wdA xs)
end
/-! ### what isinstance tells of data -/
def tyN : PyData → String
  | .none => "NoneType"
  | .bool _ => "bool"
  | .int _ => "int"
  | .str _ => "str"
  | .list _ => "list"
  | .tuple _ => "tuple"
  | .dict _ => "dict"
def isTp : PyData → Bool
  | .tuple _ => true
  | _ => false
def isLs : PyData → Bool
  | .list _ => true
  | _ => false
def isBl : PyData → Bool
  | .bool _ => true
  | _ => false
def isSt : PyData → Bool
  | .str _ => true
  | _ => false
theorem ty_ft {K : PySem.W.Frag} {H : Hp} {v : V} {d : PyData} (h : Ft H v d) : TyX K H v (.type (tyN d)) := by
  cases h with
  | non => exact .base .non
  | bl b => exact .base (.bl b)
  | int i => exact .base (.int i)
  | str x => exact .base (.str x)
  | lst h _ => exact .base (.lst h)
  | tup h _ => exact .base (.tup h)
theorem kit_tp {K : PySem.W.Frag} (d : PyData) : PySem.W.kitOne K (.type (tyN d)) (.type "tuple") = some (isTp d) := by
  cases d <;> exact kit_ty (by kernel_rfl)
theorem kit_ls {K : PySem.W.Frag} (d : PyData) : PySem.W.kitOne K (.type (tyN d)) (.type "list") = some (isLs d) := by
  cases d <;> exact kit_ty (by kernel_rfl)
theorem kit_bl {K : PySem.W.Frag} (d : PyData) : PySem.W.kitOne K (.type (tyN d)) (.type "bool") = some (isBl d) := by
  cases d <;> exact kit_ty (by kernel_rfl)
theorem kit_st {K : PySem.W.Frag} (d : PyData) : PySem.W.kitOne K (.type (tyN d)) (.type "str") = some (isSt d) := by
  cases d <;> exact kit_ty (by kernel_rfl)
theorem kit_tl {K : PySem.W.Frag} (d : PyData) : PySem.W.kitAny K (.type (tyN d)) [.type "tuple", .type "list"] = some (isTp d || isLs d) := by
  refine kitAny_cons (kit_tp d) (fun e => kitAny_cons (b := isLs d) (kit_ls d) (fun e2 => ?_) fun e2 => ?_) fun e => ?_
  · rw [e, e2]
    rfl
  · rw [e2, Bool.or_true]
  · rw [e, Bool.true_or]
theorem walk_zipT {K : PySem.W.Frag} {a b : Addr} {xs ys : List V} {n : Nat} (h1 : n = xs.length) (h2 : n = ys.length) : Walk (RZ.ItzT K a b) n (fun H => SqT K H a xs ∧ SqT K H b ys) (YPair (fun i => xs[i]?) (fun i => ys[i]?)) := by
  refine ⟨fun i _ hi q => ?_, fun _ q => ⟨xs, ys, q.1, q.2, by omega⟩, fun i H v H' _ q y => ?_⟩
  · have e1 : i < xs.length := by omega
    have e2 : i < ys.length := by omega
    exact ⟨xs, ys, xs[i], ys[i], q.1, q.2, by simp [e1], by simp [e2]⟩
  · obtain ⟨T, x, z, q1, q2, q3, q4, q5⟩ := y
    exact ⟨T, x, z, q1, q2, q3, q4 xs q.1, q5 ys q.2⟩
theorem wdA_ints : ∀ ns : List Int, wdA (ns.map PyData.int) = 0
  | [] => rfl
  | n :: ns => by
    show max (wd (.int n)) (wdA (ns.map PyData.int)) = 0
    rw [wdA_ints ns]
    rfl
theorem depA_ints : ∀ ns : List Int, PyData.depthAll (ns.map PyData.int) = 0
  | [] => rfl
  | n :: ns => by
    show max (PyData.depth (.int n)) (PyData.depthAll (ns.map PyData.int)) = 0
    rw [depA_ints ns]
    rfl
theorem wd_ints (ns : List Int) : wd (.list (ns.map PyData.int)) = ns.length := by
  show max (ns.map PyData.int).length (wdA (ns.map PyData.int)) = _
  rw [wdA_ints, List.length_map]
  omega
theorem dep_ints (ns : List Int) : PyData.depth (.list (ns.map PyData.int)) = 1 := by
  show PyData.depthAll (ns.map PyData.int) + 1 = 1
  rw [depA_ints]
theorem wdA_mem : ∀ {ds : List PyData} {d : PyData}, d ∈ ds → wd d ≤ wdA ds
  | x :: xs, d, h => by
    show wd d ≤ max (wd x) (wdA xs)
    rcases List.mem_cons.mp h with e | e
    · rw [e]
      exact Nat.le_max_left _ _
    · exact Nat.le_trans (wdA_mem e) (Nat.le_max_right _ _)
theorem depA_mem : ∀ {ds : List PyData} {d : PyData}, d ∈ ds → d.depth ≤ PyData.depthAll ds
  | x :: xs, d, h => by
    show d.depth ≤ max x.depth (PyData.depthAll xs)
    rcases List.mem_cons.mp h with e | e
    · rw [e]
      exact Nat.le_max_left _ _
    · exact Nat.le_trans (depA_mem e) (Nat.le_max_right _ _)
end My

set_option Elab.async false
set_option linter.all false
set_option maxRecDepth 100000
set_option maxHeartbeats 1000000
namespace My
open PySem PySem.Spec PyProof.Rows L2
/-! ### lists of numbers compared -/
theorem dp_ints {K : PySem.W.Frag} {H : Hp} : ∀ ns : List Int, DpAll K H (ns.map V.int) (ns.map PyData.int)
  | [] => .nil
  | n :: ns => .cons (.int n) (dp_ints ns)
theorem eqvA_ints : ∀ ns : List Int, PyData.eqvAll (ns.map PyData.int) (ns.map PyData.int) = true
  | [] => rfl
  | n :: ns => by
    show (PyData.eqv (.int n) (.int n) && PyData.eqvAll (ns.map PyData.int) (ns.map PyData.int)) = true
    rw [eqvA_ints ns, Bool.and_true]
    show (n == n) = true
    simp
theorem eqv_ints (ns : List Int) : PyData.eqv (.list (ns.map PyData.int)) (.list (ns.map PyData.int)) = true := eqvA_ints ns
theorem can_ints : ∀ ns : List Int, PyData.canLayAll0 (ns.map PyData.int) = true
  | [] => rfl
  | n :: ns => by
    show (PyData.canLay0 (.int n) && PyData.canLayAll0 (ns.map PyData.int)) = true
    rw [can_ints ns]
    rfl
theorem shaped_ints (ns : List Int) : SeqAt.shaped (.list (ns.map PyData.int)) = true := by
  unfold SeqAt.shaped
  show (PyData.canLayAll0 (ns.map PyData.int) && decide (PyData.depth (.list (ns.map PyData.int)) ≤ 64)) = true
  rw [can_ints, dep_ints]
  rfl
/-! ### questions and what fits -/
theorem QOk.sub {cols : List Nat} {es es' : List (Nat × Int)} {rc : Option (Nat × Int × Int)} (h : QOk cols es rc) (s : es'.Sublist es) : QOk cols es' none :=
  ⟨h.up.sublist (s.map _), fun p hp => h.ok p (s.subset hp), Nat.le_trans s.length_le h.len, fun _ _ _ z => nomatch z⟩
theorem QOk.reach {cols : List Nat} {es : List (Nat × Int)} {rc : Option (Nat × Int × Int)} (h : QOk cols es rc) {c : Nat} {lo hi : Int} (h1 : c ∈ cols) (h2 : c ∉ es.map (·.1)) (h3 : 0 ≤ lo) (h4 : lo ≤ hi) (h5 : hi < 1000) : QOk cols es (some (c, lo, hi)) :=
  ⟨h.up, h.ok, h.len, fun c' lo' hi' z => by
    have z2 := Option.some.inj z
    have e1 : c = c' := congrArg (·.1) z2
    have e2 : lo = lo' := congrArg (·.2.1) z2
    have e3 : hi = hi' := congrArg (·.2.2) z2
    rw [← e1, ← e2, ← e3]
    exact ⟨h1, h2, h3, h4, h5⟩⟩
end My

set_option Elab.async false
set_option linter.all false
set_option maxRecDepth 100000
set_option maxHeartbeats 2000000
namespace My
open PySem PySem.Spec PyProof.Rows L2
/-! ### generator expressions whose element changes nothing -/
/-- the element at a place of the walked thing: what it gives, from any state in which what stood still stands -/
def EltQ (X : Cx) (σ : L2.St) (G : Hp) (P : Addr) (scope : Scope) (x : Str) (elt : Expr) (Pf F : Nat → Value → Prop) : Prop :=
  ∀ (pins : List (Addr × Obj)) (u1 : Shared), Inv X pins σ G u1 → ∀ (ce : Env) (B : Around) (E' : Value → Shared → Prop) (i : Nat) (v : Value) (u2 : Shared) (m2 : Str → Option Value), B.handled = none → ce.scope = scope → ce.cells = cloFrom X.env.cells scope.names [] →
    Pf i v → u2.heap.Ns ce.locals m2 → m2 x = some v → (∀ b o, b ≠ P → u1.heap.get? b = some o → u2.heap.get? b = some o) → wpAny (model X.prog X.w) B (eval elt ce) (fun y u3 => F i y ∧ Keeps u2 u3) E' u2
/-- the generator stands, ready to be walked n times -/
def ReadyQ (X : Cx) (pins : List (Addr × Obj)) (σ : L2.St) (G : Hp) (P : Addr) (n : Nat) (F : Nat → Value → Prop) (g : Addr) (u5 : Shared) : Prop :=
  ∃ (fp wr : List Addr) (Gn : Array GenState → Array GenState → Prop) (St : Nat → Shared → Prop),
    WalksS X.prog X.w X.A.in4 g fp wr Gn n F St ∧ St 0 u5 ∧ (∀ i s, St i s → s.TypeIs (.ref g) "generator") ∧ (∀ b ∈ fp, b < u5.heap.objs.size) ∧ g ∈ fp ∧
    ∀ u', Moved wr Gn u5 u' → ∃ G2, GxR.Tabbed P G G2 ∧ Inv X pins σ G2 u'
/-- what a walk over the value v begins with -/
def Src (X : Cx) (pins : List (Addr × Obj)) (σ : L2.St) (G : Hp) (P : Addr) (v : Value) (n : Nat) (Pf : Nat → Value → Prop) : Prop :=
  ∀ (u1 : Shared), Inv X pins σ G u1 → ∀ (Q : Value → Shared → Prop) (E : Value → Shared → Prop), (∀ (o : Obj) (St : Nat → Heap → Prop) (fps : List Addr),
    (∀ A' : Around, A'.handled = none → Walks X.prog X.w A' u1.heap.objs.size (u1.heap.objs.size :: fps) [u1.heap.objs.size] n Pf St) → St 0 (u1.heap.push o) → (∀ b ∈ fps, b < u1.heap.objs.size ∧ b ≠ P) →
    Q (.ref u1.heap.objs.size) { u1 with heap := u1.heap.push o }) → wpAny (model X.prog X.w) X.A (pyIter v) Q E u1
section
variable {X : Cx} {pins : List (Addr × Obj)} {σ : L2.St} {H : Hp} {s : Shared}
theorem src_str {G : Hp} {P : Addr} (a : Str) (t : Tok) : Src X pins σ G P (.str a t) a.cps.size (SignAt a) := by
  intro u1 I Q E h
  refine wpAny_pyIter_str fun o St W hst => ?_
  exact h o St [] W hst (fun b hb => nomatch hb)
/-- what stood stands: a frame knows what it knew -/
theorem grew {s' : Shared} (I : Inv X pins σ H s) (os : s'.os = s.os) (bare : AllBare s'.gens) (kp : ∀ b u, s.heap.get? b = some u → s'.heap.get? b = some u) : Inv X pins σ H s' :=
  I.call' (ch := []) os (Un.kept kp) (I.hok.kept kp) bare fun _ hb => nomatch hb
/-- the code object of a generator expression comes out of its maker's table, or is made and written into it; then the built-ins are looked up -/
theorem gen_code {c P : Addr} {gpos : Pos} {qn : Str} {scope : Scope} {R : Value → Addr → Shared → Prop} (I : Inv X pins σ H s) (TB : LamX.TabB X.base X.mg c P) (hcode : X.env.code = .ref c) (hT : GxR.TabG H P)
    (h : ∀ (code : Value) (H2 : Hp) (s2 : Shared), GxR.Tabbed P H H2 → Inv X pins σ H2 s2 → (∀ b u, b ≠ P → s.heap.get? b = some u → s2.heap.get? b = some u) → s.heap.objs.size ≤ s2.heap.objs.size → R code builtinsNs s2) :
    wpAny (model X.prog X.w) X.A (genexprCode X.env gpos qn scope) (fun code s3 => wpAny (model X.prog X.w) X.A (builtinsFor X.env.globals X.env.builtins) (R code) X.xe s3) X.xe s := by
  obtain ⟨ps, hP, tri⟩ := hT
  have rawP := I.hok P _ hP
  have hd : PySem.W.CodeHd s.heap c P := TB.code.keeps I.bk
  have go : ∀ (code : Value) (g : Heap) (tk : Nat) (more : Array Value), Heap.ExtBut P s.heap g → s.heap.objs.size ≤ g.objs.size → g.get? P = some { cls := .none, data := .fields (ps ++ more) } → TriplesOk (ps ++ more).toList →
      wpAny (model X.prog X.w) X.A (builtinsFor X.env.globals X.env.builtins) (R code) X.xe { s with heap := g, toks := tk } := fun code g tk more ext le tab tri' => by
    have J : Inv X pins σ (upd H P (.tbl (ps ++ more))) { s with heap := g, toks := tk } := GxR.inv_tab (g' := s.gens) (d' := s.drawn) I hP ext tab I.bare
    obtain ⟨bm, ob, b1, b2, _, _, b5, b6, b7, b8⟩ := TB.bm
    refine wpAny_builtinsFor (m := X.mg) ?_ b1 b2 (J.bk _ _ b5) b6 b7 b8 (h code _ _ ⟨⟨_, upd_same, tri'⟩, fun b ne => upd_ne ne⟩ J ext le)
    rw [J.ok.glob]
    exact J.mod.glob.keeps J.bk
  match hf : codeAmong gpos ps.toList with
  | some cv => exact wpAny_genexprCode_hit hcode (hd.code rawP tri) hf (go cv s.heap s.toks #[] (Heap.ExtBut.refl _ _) (Nat.le_refl _) (by rw [Array.append_empty]; exact rawP) (by rw [Array.append_empty]; exact tri))
  | none =>
    refine wpAny_genexprCodeX hcode (hd.code rawP tri) (hd.tab rawP) hf fun c' g tk ext ge lt isC _ isT _ => go _ g tk _ ext (Nat.le_trans ge (Nat.le_of_lt lt)) isT.2 ?_
    obtain ⟨_, _, _, _, _, _, _, _, _, _, _, _, _, _, _, _, _, _, _, z, _⟩ := isC
    exact z
/-- the generator (elt for x in iter), its element changing nothing -/
theorem gen_q {c P : Addr} {elt iter : Expr} {x : Str} {px gpos : Pos} {scope : Scope} {te : TE} {k : Nat} {Q' : Value → Shared → Prop} {R : V → Hp → Nat → (Nat → Value → Prop) → Prop} {R0 : V → Hp → Prop}
    (hr : Room k X.A) (TB : LamX.TabB X.base X.mg c P) (hcode : X.env.code = .ref c) (S : GxR.GenS X.env scope x) (hi : PE X iter te)
    (hs : ∀ v, genFold iter X.env v = pure v) (I : Inv X pins σ H s)
    (h : te σ H R0) (hc : ∀ v G, R0 v G → ∃ (n : Nat) (Pf F : Nat → Value → Prop), (∀ u, RelV v u → Src X pins σ G P u n Pf) ∧ GxR.TabG G P ∧ EltQ X σ G P scope x elt Pf F ∧ R v G n F)
    (hQ : ∀ v G n F g u5, R v G n F → ReadyQ X pins σ G P n F g u5 → Q' (.ref g) u5) :
    wpAny (model X.prog X.w) X.A (eval (.GeneratorExp elt [⟨.Name x px, iter, [], 0⟩] scope gpos) X.env) Q' X.xe s := by
  have deep : X.A.depth < recursionLimit := by
    have := hr.dp
    omega
  refine wpAny_GeneratorExp_walksQ hr.hd S.co (closure_ok S.free) S.cell S.dot S.loc S.kind deep (thn (hi.run pins s σ H _ I h) fun xv u1 ⟨v, G, I1, rv, h0⟩ => ?_) hs
  obtain ⟨n, Pf, F, src, hT, elq, hR⟩ := hc v G h0
  refine src xv rv u1 I1 _ _ fun o St fps W st0 below => ?_
  -- the walked thing's iterator o at i0; the table at P is older
  generalize hi0 : u1.heap.objs.size = i0 at W below ⊢
  have older : P ≠ i0 := fun z => by
    obtain ⟨ps, e, _⟩ := hT
    rw [I1.hok.fresh (Nat.le_of_eq (hi0.trans z.symm))] at e
    cases e
  have Io : Inv X pins σ G { u1 with heap := u1.heap.push o } := grew I1 rfl I1.bare fun b u e => Heap.get?_push_of_some _ e
  refine ⟨Io.nolimit, gen_code Io TB hcode hT fun code G2 s4 tab I4 kp le => ?_⟩
  have lt4 : i0 < s4.heap.objs.size := Nat.lt_of_lt_of_le (by rw [← hi0, Heap.size_push]; exact Nat.lt_succ_self _) le
  have kp1 : ∀ b u, b ≠ P → u1.heap.get? b = some u → s4.heap.get? b = some u := fun b u ne e => kp b u ne (Heap.get?_push_of_some _ e)
  have fo : FpOk X pins G2 i0 := I1.fpOk (Nat.le_of_eq hi0) ((tab.2 i0 older.symm).trans (I1.hok.fresh (Nat.le_of_eq hi0)))
  refine ⟨i0, i0 :: fps, [i0], n, Pf, St, fun _ => true, F, rfl, W, (W X.A hr.hd).frame _ _ _ st0 fun b hb u e => kp b u ?_ e, fun b hb => ?_, I4.nolimit, fun z => ?_, fun g keep => ⟨?_, fun A' E' i v s₂ m₂ hA hv _ hn hm stay => ?_⟩, fun g h5 tk5 gs bare above size5 stay W5 at5 => ?_⟩
  · exact (List.mem_cons.mp hb).elim (fun z q => older (q.symm.trans z)) fun z => (below b z).2
  · exact (List.mem_cons.mp hb).elim (fun z => z ▸ lt4) fun z => Nat.lt_trans (below b z).1 lt4
  · obtain ⟨_, ns, _⟩ := I1.nolimit
    exact Nat.ne_of_lt (hi0 ▸ ns.lt) (List.mem_singleton.mp z)
  · intro A' E' i v s₂ m₂ _ _ _ _ _
    rw [List.forIn_nil]
    exact wpAny_pure ⟨rfl, GxR.keeps_refl _⟩
  · refine elq pins u1 I1 _ A' E' i v s₂ m₂ hA rfl rfl hv hn hm fun b u ne e => ?_
    have here := kp1 b u ne e
    exact stay b (List.mem_range.mpr (Heap.lt_size here)) (fun z => Nat.ne_of_lt (hi0 ▸ Heap.lt_size e) (List.mem_singleton.mp z)) u (keep b u here)
  · rw [show passing (fun _ => true) n 0 = List.range n from GxR.passing_true n] at W5
    rw [List.length_range] at W5
    have place : ∀ {i : Nat} {y : Value}, (∃ j, (List.range n)[i]? = some j ∧ F j y) → F i y := fun ⟨j, e, fj⟩ => by
      obtain ⟨_, q⟩ := List.getElem?_eq_some_iff.mp e
      rw [List.getElem_range] at q
      rw [q]
      exact fj
    have W6 : WalksS X.prog X.w X.A.in4 g (g :: s4.heap.objs.size :: List.range s4.heap.objs.size) [s4.heap.objs.size, i0] (GenOnlyQ s4.gens.size) n F _ := { W5 with item := fun i s Q E lt st k => W5.item i s Q E lt st fun y s' z => k y s' (place z) }
    refine hQ v G n F g _ hR ⟨_, _, _, _, W6, at5, fun i s st => Heap.IsGen.typeIs st.1, fun b hb => ?_, List.mem_cons_self, fun u' mv => ⟨G2, tab, ?_⟩⟩
    · show b < h5.objs.size
      rw [show h5.objs.size = g + 1 from size5]
      rcases List.mem_cons.mp hb with z | z
      · exact z ▸ Nat.lt_succ_self g
      · refine Nat.lt_succ_of_lt ((List.mem_cons.mp z).elim (fun e => e ▸ above) fun e => Nat.lt_trans (List.mem_range.mp e) above)
    · have J := past (t' := s4.toks) (h' := u'.heap) I4 fo fun b u ne e => mv.heap b u (fun z => (List.mem_cons.mp z).elim (fun q => Nat.ne_of_lt (Heap.lt_size e) q) fun q => ne (List.mem_singleton.mp q)) (stay b u e)
      exact grew J mv.os (AllBare.movedS (I4.bare.push bare) mv) fun _ _ e => e
/-! tuple(elt for x in text): numbers -/
def tTupG (P : Addr) (te : TE) (D : V → L2.St → Hp → List V → Prop) : TE := fun σ H Q => te σ H fun v G => ∃ xs : List V, D v σ G xs ∧ GxR.TabG G P ∧ ∀ G2, GxR.Tabbed P G G2 → ∀ p, G2 p = none → Q (.ref p) (upd G2 p (.tup xs))
theorem vals_of_items : ∀ (xs : List V) (us : List Value), xs.length = us.length → (∀ (j : Nat) (x : V) (u : Value), xs[j]? = some x → us[j]? = some u → RelV x u) → Vals xs us
  | [], [], _, _ => .nil
  | x :: xs, u :: us, hl, hh => .cons (hh 0 x u rfl rfl) (vals_of_items xs us (Nat.succ.inj hl) fun j y w h1 h2 => hh (j + 1) y w h1 h2)
theorem pe_tupG {c P : Addr} {elt iter : Expr} {x : Str} {px p pos gpos : Pos} {scope : Scope} {te : TE} {k : Nat} {D : V → L2.St → Hp → List V → Prop}
    (hr : Room k X.A) (hg : Gl X "tuple") (hm : X.mg "tuple" = none) (TB : LamX.TabB X.base X.mg c P) (hcode : X.env.code = .ref c) (S : GxR.GenS X.env scope x) (hi : PE X iter te)
    (hD : ∀ (pins : List (Addr × Obj)) (σ : L2.St) (G : Hp) (v : V) (xs : List V), D v σ G xs → xs.length ≤ sizeLine ∧ ∃ (Pf F : Nat → Value → Prop), (∀ u, RelV v u → Src X pins σ G P u xs.length Pf) ∧ EltQ X σ G P scope x elt Pf F ∧ ∀ (i : Nat) (y : Value) (z : V), xs[i]? = some z → F i y → RelV z y)
    (hs : ∀ v, genFold iter X.env v = pure v := by intro _; rfl)
    (he : starEach [.GeneratorExp elt [⟨.Name x px, iter, [], 0⟩] scope gpos] X.env = (false, eval (.GeneratorExp elt [⟨.Name x px, iter, [], 0⟩] scope gpos) X.env) :: starEach [] X.env := by rfl) :
    PE X (.Call (.Name "tuple" p) [.GeneratorExp elt [⟨.Name x px, iter, [], 0⟩] scope gpos] [] pos) (tTupG P te D) := by
  refine ⟨fun pins s σ H Q I h => ?_⟩
  refine Call_ (ld_blt I hg hm boot_tuple (PyProof.Rows.callWith_type1 ?_ he))
  rw [he]
  refine Calls.spliced_cons (gen_q (R := fun v G n F => ∃ xs : List V, D v σ G xs ∧ xs.length = n ∧ xs.length ≤ sizeLine ∧ (∀ (i : Nat) (y : Value) (z : V), xs[i]? = some z → F i y → RelV z y) ∧ ∀ G2, GxR.Tabbed P G G2 → ∀ p, G2 p = none → Q (.ref p) (upd G2 p (.tup xs))) hr TB hcode S hi hs I h (fun v G h0 => ?_) fun v G n F g u5 hR hG => ?_)
  · obtain ⟨xs, hd, hT, q⟩ := h0
    obtain ⟨hz, Pf, F, hsrc, hel, hF⟩ := hD pins σ G v xs hd
    exact ⟨xs.length, Pf, F, hsrc, hT, hel, xs, hd, rfl, hz, hF, q⟩
  · obtain ⟨xs, hd, hn, hz, hF, q⟩ := hR
    obtain ⟨fp, wr, Gn, St, W, hst, hty, hfp, hgf, hI⟩ := hG
    refine Calls.spliced_nil ?_
    refine call_tuple_gen W.in4_3 hty hst hfp hgf (fun u' acc mv hit => ?_) (by rw [← hn]; exact hz)
    obtain ⟨G2, hTb, J⟩ := hI u' mv
    have hv : Vals xs acc.toList := vals_of_items _ _ (by rw [show acc.toList.length = acc.size from Array.length_toList, hit.1, hn]) fun j z y h1 h2 => hF j y z h1 (hit.2 j y (by rw [← Array.getElem?_toList]; exact h2))
    have J2 : Inv X pins σ (upd G2 u'.heap.objs.size (.tup xs)) { u' with heap := u'.heap.push { cls := .type "tuple", data := .seq acc } } :=
      J.laid (t' := u'.toks) (fun b o e => Heap.get?_push_of_some _ e) (Nat.le_refl _) (show ObjOk X.prog X.w _ _ _ (.tup xs) from ⟨hz, acc.toList, hv, by rw [Array.toArray_toList]; exact IsTup.new _ _⟩)
    exact ⟨.ref u'.heap.objs.size, _, J2, rfl, q G2 hTb _ (J.hok.fresh (Nat.le_refl _))⟩
/-! all(elt for x in ..) -/
/-! ### what a captured name holds -/
theorem clo_look {cells : List (Str × Addr)} {names : List (Str × NameKind)} {y : Str} {c : Addr} (hy : (y, NameKind.free) ∈ names) (hc : cells.lookup y = some c) : (cloFrom cells names []).lookup y = some c := by
  obtain ⟨c', e⟩ := mem_lookup (cloFrom_has (acc := []) (cells := cells) hy)
  have hm : (y, c') ∈ cloFrom cells names [] := by
    have : ∀ {l : List (Str × Addr)} {n : Str} {d : Addr}, l.lookup n = some d → (n, d) ∈ l := by
      intro l
      induction l with
      | nil =>
        intro n d h
        cases h
      | cons p l ih =>
        intro n d h
        rw [List.lookup_cons] at h
        cases hb : n == p.1 with
        | true =>
          rw [hb] at h
          have e1 : n = p.1 := by simpa using hb
          have e2 : p.2 = d := Option.some.inj h
          rw [e1, ← e2]
          exact List.mem_cons_self ..
        | false =>
          rw [hb] at h
          exact List.mem_cons_of_mem _ (ih h)
    exact this e
  rcases cloFrom_mem hm with z | ⟨_, z⟩
  · cases z
  · rw [e, z, hc]
    rfl
theorem capt {G : Hp} {u1 : Shared} {i : Nat} {y : Str} {v : V} {scope : Scope} (I : Inv X pins σ G u1) (hN : X.N[i]? = some y) (hv : σ[i]? = some (some v)) (hk : X.env.scope.names.lookup y = some .cell) (hy : (y, NameKind.free) ∈ scope.names) :
    ∃ u c, RelV v u ∧ (cloFrom X.env.cells scope.names []).lookup y = some c ∧ u1.heap.IsCell c (some u) := by
  obtain ⟨m, hm, hl⟩ := I.loc
  obtain ⟨u, ru, lk⟩ := hl i y v hN hv (.inr (.inl hk))
  rcases lk with ⟨k1, _⟩ | ⟨_, c, hc, hcell⟩
  · have : X.env.kindOf y = some .cell := hk
    rw [this] at k1
    cases k1
  · exact ⟨u, c, ru, clo_look hy hc, hcell⟩
theorem cell_kept {G : Hp} {P c : Addr} {u1 u2 : Shared} {u : Value} (I : Inv X pins σ G u1) (hT : GxR.TabG G P) (hc : u1.heap.IsCell c (some u)) (hk : ∀ b o, b ≠ P → u1.heap.get? b = some o → u2.heap.get? b = some o) : u2.heap.IsCell c (some u) := by
  obtain ⟨o, ho, hd⟩ := hc
  refine ⟨o, hk c o (fun z => ?_) ho, hd⟩
  obtain ⟨ps, hP, _⟩ := hT
  have h1 : u1.heap.get? P = some { cls := .none, data := .fields ps } := I.hok P _ hP
  rw [z, h1] at ho
  cases ho
  cases hd
/-! x in y, y a captured text -/
/-! r[y.index(x)], r a captured tuple of numbers, y a captured text -/
theorem elt_row {G : Hp} {P ra : Addr} {scope : Scope} {x y rn : Str} {p1 p2 p3 p4 p5 p6 : Pos} {i j : Nat} {a : Str} {cols : List Nat} {row : List Int} (hT : GxR.TabG G P) (hN : X.N[i]? = some y) (hv : σ[i]? = some (some (tx cols))) (hk : X.env.scope.names.lookup y = some .cell)
    (hN2 : X.N[j]? = some rn) (hv2 : σ[j]? = some (some (.ref ra))) (hk2 : X.env.scope.names.lookup rn = some .cell) (hra : G ra = some (.tup (row.map V.int))) (hrl : row.length = cols.length) (hac : ∀ c ∈ a.cps.toList, c ∈ cols)
    (hf : scope.kind = .function) (hx : scope.names.lookup x = some .local) (hy : (y, NameKind.free) ∈ scope.names) (hyl : scope.names.lookup y = some .free) (hr : (rn, NameKind.free) ∈ scope.names) (hrf : scope.names.lookup rn = some .free)
    (hline : (p3.endLine == p5.line) = true) (hd1 : (x == ("__debug__" : Str)) = false := by decide) (hd2 : (y == ("__debug__" : Str)) = false := by decide) (hd3 : (y == ("__classdict__" : Str)) = false := by decide) (hd4 : (rn == ("__debug__" : Str)) = false := by decide) (hd5 : (rn == ("__classdict__" : Str)) = false := by decide) :
    EltQ X σ G P scope x (.Subscript (.Name rn p1) (.Call (.Attribute (.Name y p2) "index" p3) [.Name x p4] [] p5) p6) (SignAt a) (fun l w => ∃ c t, a.cps[l]? = some c ∧ w = .int (rowAt cols row c) t) := by
  intro pins u1 I ce B E' l v u2 m2 hB hs hcl hP hn hm hk3
  obtain ⟨c, t, hc, rfl⟩ := hP
  obtain ⟨uy, cl, ru, hl, hcell⟩ := capt I hN hv hk hy
  obtain ⟨t2, rfl⟩ := ru
  obtain ⟨ur, cl2, ru2, hl2, hcell2⟩ := capt I hN2 hv2 hk2 hr
  cases ru2
  have hcc : c ∈ cols := hac c (by
    have : a.cps.toList[l]? = some c := by rw [Array.getElem?_toList]; exact hc
    exact List.mem_of_getElem? this)
  obtain ⟨orest, hocc⟩ := ix_one hcc
  have hat := row_at hrl hcc
  obtain ⟨its, rv, pl, hz⟩ := I.tuple (show SqT X.K G ra (row.map V.int) from .inl (.inl hra))
  obtain ⟨w, hw, rw'⟩ := rv.get hat
  obtain ⟨tw, rfl⟩ := rw'
  have pl2 : u2.heap.IsTuple ra its.toArray := by
    obtain ⟨o, ho, r1, r2⟩ := pl
    refine ⟨o, hk3 ra o (fun z => ?_) ho, r1, r2⟩
    obtain ⟨ps, hPp, _⟩ := hT
    rw [z, hPp] at hra
    cases hra
  have hidx : cols.idxOf c < its.length := (List.getElem?_eq_some_iff.mp hw).1
  have kf : ce.scope.kind = .function := by rw [hs]; exact hf
  refine PyProof.Rows.Subscript_ ?_
  refine wpAny_Name (wpAny_loadName_free kf (show ce.scope.names.lookup rn = some .free by rw [hs]; exact hrf) (by rw [hcl]; exact hl2) (cell_kept I hT hcell2 hk3) ?_ hd5) hd4
  refine wpAny_Call_method_late (by rfl) (by rfl) hline rfl ?_
  refine wpAny_Name (wpAny_loadName_free kf (show ce.scope.names.lookup y = some .free by rw [hs]; exact hyl) (by rw [hcl]; exact hl) (cell_kept I hT hcell hk3) ?_ hd3) hd2
  refine ⟨"str", "str.index", PySem.F.plainAttrs_str, PySem.F.slot_str_index, PySem.F.type_str_index, typeIs_str _ _ _, (fun _ z => nomatch z), ?_⟩
  refine Calls.callWith_builtin (by rfl) (Calls.evalArgs_plain ?_)
  refine Calls.spliced_cons (wpAny_Name (wpAny_loadName_local kf (show ce.scope.names.lookup x = some .local by rw [hs]; exact hx) hn hm ?_) hd1)
  refine Calls.spliced_nil ?_
  refine PySem.SC.index hocc ?_
  have hsz : its.length ≤ sizeLine := by
    have := rv.length
    rw [← this]
    exact hz
  have h63 := line63
  refine subscriptTail_builtinR (x := .int (rowAt cols row c) tw) (s := { u2 with toks := u2.toks + 1 }) pl2.typeIs slot_tuple_getitem.lookup ?_ (by rfl)
  refine getItem_tuple (j := cols.idxOf c) (s := { u2 with toks := u2.toks + 1 }) pl2 (by omega) (by omega) ?_ (by simpa using hw) ⟨rfl, ⟨c, tw, hc, rfl⟩, GxR.keeps_tok _ _⟩
  rw [List.size_toArray]
  exact PySem.seqIndex_of (by omega) (by omega)
end
end My

set_option Elab.async false
set_option linter.all false
set_option maxRecDepth 100000
set_option maxHeartbeats 2000000
namespace My
open PySem PySem.Spec PyProof.Rows L2
section
variable {X : Cx} {pins : List (Addr × Obj)} {σ : L2.St} {H : Hp} {s : Shared}
/-! d[x][n], d a captured dict of pairs of numbers -/
theorem elt_want {G : Hp} {P d : Addr} {scope : Scope} {x dn : Str} {p1 p2 p3 p4 p5 : Pos} {i kd : Nat} {n : Int} {a : Str} {kvs : List (Key × V)} {f : Nat → Int} (hT : GxR.TabG G P) (hN : X.N[i]? = some dn) (hv : σ[i]? = some (some (.ref d))) (hk : X.env.scope.names.lookup dn = some .cell)
    (hd : G d = some (.dK kvs)) (hn01 : n = 0 ∨ n = 1) (hac : ∀ c ∈ a.cps.toList, ∃ (p : Addr) (lo hi : Int), valV kvs (Sum.inr (sS c)) = some (.ref p) ∧ G p = some (.tup [.int lo, .int hi]) ∧ f c = (if n = 0 then lo else hi))
    (hf : scope.kind = .function) (hx : scope.names.lookup x = some .local) (hy : (dn, NameKind.free) ∈ scope.names) (hyl : scope.names.lookup dn = some .free)
    (hd1 : (x == ("__debug__" : Str)) = false := by decide) (hd2 : (dn == ("__debug__" : Str)) = false := by decide) (hd3 : (dn == ("__classdict__" : Str)) = false := by decide) :
    EltQ X σ G P scope x (.Subscript (.Subscript (.Name dn p1) (.Name x p2) p3) (.Constant (.int n) kd p4) p5) (SignAt a) (fun l w => ∃ c t, a.cps[l]? = some c ∧ w = .int (f c) t) := by
  intro pins u1 I ce B E' l v u2 m2 hB hs hcl hP hn hm hk3
  obtain ⟨c, t, hc, rfl⟩ := hP
  obtain ⟨ud, cl, ru, hl, hcell⟩ := capt I hN hv hk hy
  cases ru
  obtain ⟨p, lo, hi, hval, hp, hfc⟩ := hac c (by
    have : a.cps.toList[l]? = some c := by rw [Array.getElem?_toList]; exact hc
    exact List.mem_of_getElem? this)
  have neP : ∀ {b : Addr} {o : HO}, G b = some o → (∀ q, o ≠ .tbl q) → b ≠ P := fun {b o} hb ho z => by
    obtain ⟨ps, hPp, _⟩ := hT
    rw [z, hPp] at hb
    exact ho ps (Option.some.inj hb).symm
  obtain ⟨hz, hds, vs, rel, dd⟩ := dk_of I.hok hd
  have hndP : d ≠ P := neP hd (fun q z => nomatch z)
  have dd2 : u2.heap.DictOf (mixKind X.prog X.w) d vs := by
    exact dd.at fun o ho => hk3 d o hndP ho
  obtain ⟨wv, hw, rwv⟩ := RelO.some_of (v := .ref p) (o := valueAt vs (Sum.inr (sS c))) (by rw [← hval]; exact rel.val _)
  cases rwv
  obtain ⟨its, rv, pl, hz2⟩ := I.tuple (show SqT X.K G p [.int lo, .int hi] from .inl (.inl hp))
  have hnpP : p ≠ P := neP hp (fun q z => nomatch z)
  have pl2 : u2.heap.IsTuple p its.toArray := by
    obtain ⟨o, ho, r⟩ := pl
    exact ⟨o, hk3 p o hnpP ho, r⟩
  have kf : ce.scope.kind = .function := by rw [hs]; exact hf
  refine PyProof.Rows.Subscript_ ?_
  refine subD_of PySem.F.slot_dict_getitem.lookup (fun _ _ => rfl) ?_
  refine wpAny_Name (wpAny_loadName_free kf (show ce.scope.names.lookup dn = some .free by rw [hs]; exact hyl) (by rw [hcl]; exact hl) (cell_kept I hT hcell hk3) ?_ hd3) hd2
  refine wpAny_Name (wpAny_loadName_local kf (show ce.scope.names.lookup x = some .local by rw [hs]; exact hx) hn hm ?_) hd1
  refine ⟨dd2.typeIs, wpAny_getItem_of (k := Sum.inr (sS c)) (kV_is (k := Sum.inr (sS c)) ⟨t, rfl⟩) dd2.mapOf hw ?_⟩
  refine wpAny_Constant_int ?_
  have hl2 : its.length = 2 := rv.length.symm
  have two : ∃ (j : Nat) (tw : Tok), j < 2 ∧ n = (j : Int) ∧ its[j]? = some (.int (f c) tw) := by
    rcases hn01 with z | z
    · obtain ⟨w, hw0, rw0⟩ := rv.get (i := 0) rfl
      obtain ⟨tw, rfl⟩ := rw0
      exact ⟨0, tw, by decide, z, by rw [hw0, hfc, if_pos z]⟩
    · obtain ⟨w, hw0, rw0⟩ := rv.get (i := 1) rfl
      obtain ⟨tw, rfl⟩ := rw0
      exact ⟨1, tw, by decide, z, by rw [hw0, hfc, if_neg (by rw [z]; decide)]⟩
  obtain ⟨j, tw, hj2, hnj, hitj⟩ := two
  refine subscriptTail_builtinR (x := .int (f c) tw) pl2.typeIs slot_tuple_getitem.lookup ?_ (by rfl)
  refine getItem_tuple (j := j) pl2 (by omega) (by omega) ?_ (by simpa using hitj) ⟨rfl, ⟨c, tw, hc, rfl⟩, GxR.keeps_tok _ _⟩
  rw [List.size_toArray, hl2, hnj]
  exact PySem.seqIndex_of (by omega) (by omega)
end
end My

set_option Elab.async false
set_option linter.all false
set_option maxRecDepth 100000
set_option maxHeartbeats 2000000
namespace My
open PySem PySem.Spec PyProof.Rows L2
/-! ### tables of code objects: they may grow, all else stays -/
def TG (Ps : List Addr) (H : Hp) : Prop := ∀ P ∈ Ps, GxR.TabG H P
def Sx (Ps : List Addr) (H H' : Hp) : Prop := ∀ b o, b ∉ Ps → H b = some o → H' b = some o
theorem Sx.rfl' {Ps : List Addr} {H : Hp} : Sx Ps H H := fun _ _ _ h => h
theorem Sx.trans {Ps : List Addr} {H H1 H2 : Hp} (a : Sx Ps H H1) (b : Sx Ps H1 H2) : Sx Ps H H2 := fun c o n h => b c o n (a c o n h)
theorem Same.sx {Ps : List Addr} {H H' : Hp} (s : Same H H') : Sx Ps H H' := fun b o _ h => s b o h
theorem TG.same {Ps : List Addr} {H H' : Hp} (t : TG Ps H) (s : Same H H') : TG Ps H' := fun P hP => by
  obtain ⟨ps, h, r⟩ := t P hP
  exact ⟨ps, s _ _ h, r⟩
theorem TG.not {Ps : List Addr} {H : Hp} {b : Addr} {o : HO} (t : TG Ps H) (h : H b = some o) (ho : ∀ q, o ≠ .tbl q) : b ∉ Ps := fun hb => by
  obtain ⟨ps, h2, _⟩ := t b hb
  rw [h2] at h
  exact ho ps (Option.some.inj h).symm
theorem TG.kp {Ps : List Addr} {H H' : Hp} {r : Addr} {xs : List V} (t : TG Ps H) (hr : H r = some (.lst xs)) (k : Kp r H H') : TG Ps H' := fun P hP => by
  obtain ⟨ps, h, q⟩ := t P hP
  refine ⟨ps, k _ _ (fun z => ?_) h, q⟩
  rw [z, hr] at h
  cases h
theorem TG.new {Ps : List Addr} {H : Hp} {p : Addr} {o : HO} (t : TG Ps H) (n : H p = none) : TG Ps (upd H p o) := t.same (Same.new (Same.refl H) n)
theorem Sx.kt {Ps : List Addr} {H H' : Hp} (t : TG Ps H) (s : Sx Ps H H') : Kt H H' := fun b xs h => s b _ (t.not h fun q z => nomatch z) h
theorem Sx.lst {Ps : List Addr} {H H' : Hp} {b : Addr} {xs : List V} (t : TG Ps H) (s : Sx Ps H H') (h : H b = some (.lst xs)) : H' b = some (.lst xs) := s b _ (t.not h fun q z => nomatch z) h
theorem Sx.dct {Ps : List Addr} {H H' : Hp} {b : Addr} {xs : List (Key × V)} (t : TG Ps H) (s : Sx Ps H H') (h : H b = some (.dK xs)) : H' b = some (.dK xs) := s b _ (t.not h fun q z => nomatch z) h
theorem Sx.new {Ps : List Addr} {H H1 : Hp} {p : Addr} {o : HO} (s : Sx Ps H H1) (n : H1 p = none) : Sx Ps H (upd H1 p o) := fun b x nb h => keep_new (s b x nb h) n
theorem Sx.mut {Ps : List Addr} {H H1 : Hp} {p : Addr} {o : HO} (s : Sx Ps H H1) (n : H p = none) : Sx Ps H (upd H1 p o) := fun b x nb h => keep_ne (s b x nb h) (ne_of_none h n)
theorem Sx.free {Ps : List Addr} {H H' : Hp} {p : Addr} (t : TG Ps H') (s : Sx Ps H H') (h : H' p = none) : H p = none := by
  cases q : H p with
  | none => rfl
  | some o =>
    by_cases hp : p ∈ Ps
    · obtain ⟨ps, h2, _⟩ := t p hp
      rw [h] at h2
      cases h2
    · rw [s p o hp q] at h
      cases h
theorem Sx.seqL {K : PySem.W.Frag} {Ps : List Addr} {H H' : Hp} {a : Addr} {xs : List V} (t : TG Ps H) (s : Sx Ps H H') (h : SqL K H a xs) : SqL K H' a xs := by
  rcases h with (h | ⟨o, h⟩) | h
  · exact .inl (.inl (s.lst t h))
  · exact .inl (.inr ⟨o, s _ _ (t.not h fun q z => nomatch z) h⟩)
  · exact .inr h
/-- one table of them has grown -/
theorem Tabbed.sx {Ps : List Addr} {P : Addr} {H H' : Hp} (hP : P ∈ Ps) (t : GxR.Tabbed P H H') : Sx Ps H H' := fun b o nb h => by
  rw [t.2 b fun z => nb (z ▸ hP)]
  exact h
theorem Tabbed.tg {Ps : List Addr} {P : Addr} {H H' : Hp} (g : TG Ps H) (t : GxR.Tabbed P H H') : TG Ps H' := fun P' hP' => by
  by_cases e : P' = P
  · rw [e]
    exact t.1
  · obtain ⟨ps, h, q⟩ := g P' hP'
    exact ⟨ps, (t.2 P' e).trans h, q⟩
/-! ### a def whose code object is told -/
def FunC (K : PySem.W.Frag) (x qual : Str) (st : Stmt) (f : Addr) (fd : FuncData) (c : Addr) : Prop :=
  ∃ (oc : Value) (od : Option Addr) (kV doc pm : Value) (an : Option Addr) (ct : Value) (osl : Array (Option Value)), fd = PySem.W.fnOf x qual (defArgs st) (defBody st) (defScope st) .none kV doc pm an (.ref c) ct ∧ K.lookup f = some ⟨oc, od, .func fd, osl⟩ ∧ PySem.W.codeIn K (.ref c) qual = true
theorem FunC.ok {P : Program} {w : World} {K : PySem.W.Frag} {mg : Str → Option Value} {base : Heap} {x qual : Str} {st : Stmt} {f c : Addr} {fd : FuncData} {N ps : List Str} {k : Nat} {sp : Sp} (F : FunC K x qual st f fd c) (S : FnScope N ps (defScope st)) (len : ∀ vs H Q E, sp vs H Q E → vs.length = ps.length)
    (hbody : ∀ (A : Around) (outer : List Env) (s : Shared) (H : Hp) (vs : List V) (Q : VK) (E : XK), Room k (A.deeper (envOfC qual (defScope st) s.heap.objs.size f (.ref c))) → sp vs H Q E →
      ∃ t, PSs (cxOf CX0 P w K mg base N qual (defScope st) f (.ref c) A outer s H E).nox (defBody st) t ∧ t { nx := fun _ H' => Q .non H', rt := Q } (start N vs) H) : FnOk P w K mg base CX0 (k + 1) f fd ps sp := by
  obtain ⟨oc, od, kV, doc, pm, an, ct, osl, rfl, lk, hcd⟩ := F
  refine fn_of lk hcd S len fun A outer s H vs Q E hr hsp => ?_
  obtain ⟨t, h, q⟩ := hbody A outer s H vs Q E hr hsp
  exact ⟨t, h.nox, q⟩
theorem FunC.fn {K : PySem.W.Frag} {x qual : Str} {st : Stmt} {f c : Addr} {fd : FuncData} (F : FunC K x qual st f fd c) (k : PySem.W.keepIn K (.ref f) = true) : Fun K x qual st f fd := by
  obtain ⟨oc, od, kV, doc, pm, an, ct, osl, e, lk, hcd⟩ := F
  exact ⟨⟨oc, od, kV, doc, pm, an, .ref c, ct, osl, e, lk, hcd⟩, k⟩
/-- the generator expression's scope within a def's -/
def genC (sc scope : Scope) (x : Str) : Bool :=
  (match scope.kind with | .function => true | _ => false) && !scope.isCoroutine && (scope.names.all fun y => match y.2 with | .cell => false | .free => (match sc.names.lookup y.1 with | some .cell => true | _ => false) | _ => true) &&
    (match scope.names.lookup (".0" : Str) with | some .local => true | _ => false) && (match scope.names.lookup x with | some .local => true | _ => false)
theorem genS_by {sc scope : Scope} {x : Str} {env : Env} {n : Nat} (h : genC sc scope x = true) (hc : env.cells = cellsFrom n sc.names []) : GxR.GenS env scope x := by
  unfold genC at h
  simp only [Bool.and_eq_true] at h
  obtain ⟨⟨⟨⟨h1, h2⟩, h3⟩, h4⟩, h5⟩ := h
  rw [List.all_eq_true] at h3
  refine ⟨?_, ?_, fun y hy z => ?_, ?_, ?_, fun y hy z => ?_⟩
  · revert h1
    cases scope.kind <;> simp
  · simpa using h2
  · have := h3 y hy
    rw [z] at this
    cases this
  · revert h4
    cases scope.names.lookup (".0" : Str) with
    | none => simp
    | some k => cases k <;> simp
  · revert h5
    cases scope.names.lookup x with
    | none => simp
    | some k => cases k <;> simp
  · have q := h3 y hy
    rw [z] at q
    have q2 : sc.names.lookup y.1 = some .cell := by
      revert q
      cases sc.names.lookup y.1 with
      | none => simp
      | some k => cases k <;> simp
    have := PySem.W.cellsFrom_some sc.names n [] (.inl q2)
    rw [hc]
    exact Option.isSome_iff_exists.mp this
/-! ### the generator expressions that we met -/
def DRow (P : Addr) (i j : Nat) : V → L2.St → Hp → List V → Prop := fun v σ G xs => GxR.TabG G P ∧ ∃ (a : Str) (cols : List Nat) (ra : Addr) (row : List Int), v = .str a ∧ a.length ≤ sizeLine ∧ σ[i]? = some (some (tx cols)) ∧ σ[j]? = some (some (.ref ra)) ∧ G ra = some (.tup (row.map V.int)) ∧ row.length = cols.length ∧ (∀ c ∈ a.cps.toList, c ∈ cols) ∧ xs = a.cps.toList.map fun c => V.int (rowAt cols row c)
theorem hd_row {X : Cx} {P : Addr} {scope : Scope} {x y rn : Str} {p1 p2 p3 p4 p5 p6 : Pos} {i j : Nat} (hN : X.N[i]? = some y) (hk : X.env.scope.names.lookup y = some .cell) (hN2 : X.N[j]? = some rn) (hk2 : X.env.scope.names.lookup rn = some .cell)
    (hf : scope.kind = .function) (hx : scope.names.lookup x = some .local) (hyl : scope.names.lookup y = some .free) (hrf : scope.names.lookup rn = some .free) (hy : (y, NameKind.free) ∈ scope.names) (hr : (rn, NameKind.free) ∈ scope.names) (hline : (p3.endLine == p5.line) = true)
    (hd1 : (x == ("__debug__" : Str)) = false := by decide) (hd2 : (y == ("__debug__" : Str)) = false := by decide) (hd3 : (y == ("__classdict__" : Str)) = false := by decide) (hd4 : (rn == ("__debug__" : Str)) = false := by decide) (hd5 : (rn == ("__classdict__" : Str)) = false := by decide) :
    ∀ (pins : List (Addr × Obj)) (σ : L2.St) (G : Hp) (v : V) (xs : List V), DRow P i j v σ G xs → xs.length ≤ sizeLine ∧ ∃ (Pf F : Nat → Value → Prop), (∀ u, RelV v u → Src X pins σ G P u xs.length Pf) ∧
      EltQ X σ G P scope x (.Subscript (.Name rn p1) (.Call (.Attribute (.Name y p2) "index" p3) [.Name x p4] [] p5) p6) Pf F ∧ ∀ (l : Nat) (y : Value) (z : V), xs[l]? = some z → F l y → RelV z y := by
  intro pins σ G v xs h
  obtain ⟨hT, a, cols, ra, row, rfl, hz, hv, hv2, hra, hrl, hac, rfl⟩ := h
  have hl : (a.cps.toList.map fun c => V.int (rowAt cols row c)).length = a.cps.size := by rw [List.length_map]; exact Array.length_toList
  refine ⟨by rw [hl]; exact hz, _, _, fun u ru => ?_, elt_row hT hN hv hk hN2 hv2 hk2 hra hrl hac hf hx hy hyl hr hrf hline hd1 hd2 hd3 hd4 hd5, fun l y z h1 h2 => ?_⟩
  · obtain ⟨t, rfl⟩ := ru
    rw [hl]
    exact src_str a t
  · obtain ⟨c, t, hc, rfl⟩ := h2
    rw [List.getElem?_map, Array.getElem?_toList, hc] at h1
    cases h1
    exact ⟨t, rfl⟩
def DWant (P : Addr) (i : Nat) (n : Int) : V → L2.St → Hp → List V → Prop := fun v σ G xs => GxR.TabG G P ∧ ∃ (a : Str) (d : Addr) (kvs : List (Key × V)) (f : Nat → Int), v = .str a ∧ a.length ≤ sizeLine ∧ σ[i]? = some (some (.ref d)) ∧ G d = some (.dK kvs) ∧
  (∀ c ∈ a.cps.toList, ∃ (p : Addr) (lo hi : Int), valV kvs (Sum.inr (sS c)) = some (.ref p) ∧ G p = some (.tup [.int lo, .int hi]) ∧ f c = (if n = 0 then lo else hi)) ∧ xs = a.cps.toList.map fun c => V.int (f c)
theorem hd_want {X : Cx} {P : Addr} {scope : Scope} {x dn : Str} {p1 p2 p3 p4 p5 : Pos} {i kd : Nat} {n : Int} (hn01 : n = 0 ∨ n = 1) (hN : X.N[i]? = some dn) (hk : X.env.scope.names.lookup dn = some .cell)
    (hf : scope.kind = .function) (hx : scope.names.lookup x = some .local) (hyl : scope.names.lookup dn = some .free) (hy : (dn, NameKind.free) ∈ scope.names)
    (hd1 : (x == ("__debug__" : Str)) = false := by decide) (hd2 : (dn == ("__debug__" : Str)) = false := by decide) (hd3 : (dn == ("__classdict__" : Str)) = false := by decide) :
    ∀ (pins : List (Addr × Obj)) (σ : L2.St) (G : Hp) (v : V) (xs : List V), DWant P i n v σ G xs → xs.length ≤ sizeLine ∧ ∃ (Pf F : Nat → Value → Prop), (∀ u, RelV v u → Src X pins σ G P u xs.length Pf) ∧
      EltQ X σ G P scope x (.Subscript (.Subscript (.Name dn p1) (.Name x p2) p3) (.Constant (.int n) kd p4) p5) Pf F ∧ ∀ (l : Nat) (y : Value) (z : V), xs[l]? = some z → F l y → RelV z y := by
  intro pins σ G v xs h
  obtain ⟨hT, a, d, kvs, f, rfl, hz, hv, hd, hac, rfl⟩ := h
  have hl : (a.cps.toList.map fun c => V.int (f c)).length = a.cps.size := by rw [List.length_map]; exact Array.length_toList
  refine ⟨by rw [hl]; exact hz, _, _, fun u ru => ?_, elt_want hT hN hv hk hd hn01 hac hf hx hy hyl hd1 hd2 hd3, fun l y z h1 h2 => ?_⟩
  · obtain ⟨t, rfl⟩ := ru
    rw [hl]
    exact src_str a t
  · obtain ⟨c, t, hc, rfl⟩ := h2
    rw [List.getElem?_map, Array.getElem?_toList, hc] at h1
    cases h1
    exact ⟨t, rfl⟩
/-! ### the end: the tables of all defs are empty -/
end My

set_option Elab.async false
set_option linter.all false
set_option maxRecDepth 100000
set_option maxHeartbeats 2000000
namespace My
open PySem PySem.Spec PyProof.Rows L2
/-! ### texts by their codes -/
theorem inV_signs (c : Nat) : ∀ l : List Nat, inV (sg c) (l.map sg) = decide (c ∈ l)
  | [] => rfl
  | d :: l => by
    have ih := inV_signs c l
    show (((sS d) == (sS c)) || inV (sg c) (l.map sg)) = decide (c ∈ d :: l)
    rw [ih]
    by_cases e : d = c
    · rw [e]
      simp
    · have e2 : ((sS d) == (sS c)) = false := by
        rw [Bool.eq_false_iff]
        intro z
        exact e (sS_inj (by simpa using z))
      have e3 : ¬ c = d := fun z => e z.symm
      rw [e2]
      simp [e3]
theorem flat_signs (l : List Nat) : (l.map sg).all flatV = true := by
  rw [List.all_map, List.all_eq_true]
  intro c _
  rfl
theorem cut_take (l : List Nat) (k : Nat) : cutS ⟨l.toArray⟩ none (some (k : Int)) = ⟨(l.take k).toArray⟩ := by
  unfold cutS
  rw [HT.sIx_none, HT.sIx_nat]
  show (⟨((l.toArray.toList.drop 0).take (min k l.toArray.size - 0)).toArray⟩ : Str) = _
  have e1 : l.toArray.toList = l := by simp
  have e2 : l.toArray.size = l.length := by simp
  rw [e1, e2, List.drop_zero, Nat.sub_zero]
  congr 2
  rw [List.take_eq_take_iff]
  omega
theorem cut_one (l : List Nat) (k : Nat) (hk : k ≤ l.length) : cutS ⟨l.toArray⟩ (some (k : Int)) (some ((k : Int) + 1)) = ⟨((l.drop k).take 1).toArray⟩ := by
  unfold cutS
  have e0 : ((k : Int) + 1) = ((k + 1 : Nat) : Int) := by omega
  rw [e0, HT.sIx_nat, HT.sIx_nat]
  show (⟨((l.toArray.toList.drop (min k l.toArray.size)).take (min (k + 1) l.toArray.size - min k l.toArray.size)).toArray⟩ : Str) = _
  have e1 : l.toArray.toList = l := by simp
  have e2 : l.toArray.size = l.length := by simp
  rw [e1, e2, Nat.min_eq_left hk]
  congr 2
  rw [List.take_eq_take_iff, List.length_drop]
  omega
theorem tx_inj {a b : List Nat} (h : tx a = tx b) : a = b := by
  have h2 : (⟨a.toArray⟩ : Str) = ⟨b.toArray⟩ := V.str.inj h
  have h3 : a.toArray = b.toArray := congrArg Str.cps h2
  simpa using h3
/-! ### the letters that a question uses -/
def eqPart (one : List Nat) (es : List (Nat × Int)) : List Nat := one.takeWhile fun c => decide (c ∈ es.map (·.1))
def usedM (one : List Nat) (es : List (Nat × Int)) (rc : Option (Nat × Int × Int)) : List Nat :=
  match rc with
  | none => eqPart one es
  | some (c, _, _) => if (one.drop (eqPart one es).length).take 1 = [c] then one.take ((eqPart one es).length + 1) else eqPart one es
theorem eqPart_take (one : List Nat) (es : List (Nat × Int)) : eqPart one es = one.take (eqPart one es).length := by
  unfold eqPart
  exact List.prefix_iff_eq_take.mp (List.takeWhile_prefix _)
theorem eqPart_le (one : List Nat) (es : List (Nat × Int)) : (eqPart one es).length ≤ one.length := (List.takeWhile_prefix _).length_le
theorem take_while_at {α : Type} (p : α → Bool) : ∀ (l : List α) (k : Nat), k ≤ l.length → (∀ i (h : i < l.length), i < k → p l[i] = true) → (∀ (h : k < l.length), p l[k] = false) → (l.takeWhile p).length = k
  | [], k, hk, _, _ => by
    have : k = 0 := by
      have : k ≤ 0 := hk
      omega
    rw [this]
    rfl
  | a :: l, 0, _, _, h => by
    have := h (by simp)
    rw [List.takeWhile_cons, show p a = false from this]
    rfl
  | a :: l, k + 1, hk, h1, h2 => by
    have e := h1 0 (by simp) (by omega)
    rw [List.takeWhile_cons, show p a = true from e]
    have ih := take_while_at p l k (by have : k + 1 ≤ l.length + 1 := hk; omega) (fun i hi hik => h1 (i + 1) (by simpa using hi) (by omega)) (fun h => h2 (by simpa using h))
    show (a :: l.takeWhile p).length = k + 1
    rw [List.length_cons, ih]
section
variable (K : PySem.W.Frag) {X : Cx}
theorem ltTK (hu : X.A.units < cLine) (hK : X.K = K := by rfl) : OpR X (compareOp .Lt) (rLtT K) := by
  subst hK
  exact op_ltT hu
theorem leTK (hu : X.A.units < cLine) (hK : X.K = K := by rfl) : OpR X (compareOp .LtE) (rLeT K) := by
  subst hK
  exact op_leT hu
end
/-! ### the bounds that a question asks of a letter -/
def spanOf (es : List (Nat × Int)) (rc : Option (Nat × Int × Int)) (c : Nat) : Int × Int := match (spanL es rc).find? (fun t => decide (t.1 = c)) with
  | some t => t.2
  | none => (0, 0)
theorem spanOf_mem {es : List (Nat × Int)} {rc : Option (Nat × Int × Int)} {c : Nat} {lo hi : Int} (nd : ((spanL es rc).map (·.1)).Nodup) (h : (c, lo, hi) ∈ spanL es rc) : spanOf es rc c = (lo, hi) := by
  unfold spanOf
  generalize spanL es rc = l at nd h
  induction l with
  | nil => cases h
  | cons t l ih =>
    rw [List.find?_cons]
    by_cases e : t.1 = c
    · rw [decide_eq_true e]
      rcases List.mem_cons.mp h with z | z
      · rw [← z]
      · have := (List.nodup_cons.mp nd).1
        exfalso
        apply this
        show t.1 ∈ _
        rw [e]
        exact List.mem_map_of_mem (f := fun t : Nat × Int × Int => t.1) z
    · rw [decide_eq_false e]
      rcases List.mem_cons.mp h with z | z
      · exfalso
        apply e
        rw [← z]
      · exact ih (List.nodup_cons.mp nd).2 z
theorem mem_tw {α : Type} (p : α → Bool) : ∀ (l : List α) (a : α), a ∈ l.takeWhile p → p a = true
  | [], _, h => by cases h
  | b :: l, a, h => by
    rw [List.takeWhile_cons] at h
    by_cases e : p b = true
    · rw [if_pos e] at h
      rcases List.mem_cons.mp h with z | z
      · rw [z]
        exact e
      · exact mem_tw p l a z
    · rw [if_neg e] at h
      cases h
theorem used_span {one : List Nat} {es : List (Nat × Int)} {rc : Option (Nat × Int × Int)} {c : Nat} (h : c ∈ usedM one es rc) : ∃ lo hi, (c, lo, hi) ∈ spanL es rc := by
  have eqp : ∀ c ∈ eqPart one es, ∃ lo hi, (c, lo, hi) ∈ spanL es rc := fun c hc => by
    have hm : c ∈ es.map (·.1) := by
      unfold eqPart at hc
      have := mem_tw _ _ _ hc
      exact of_decide_eq_true this
    obtain ⟨p, hp, rfl⟩ := List.mem_map.mp hm
    exact ⟨p.2, p.2, List.mem_append_left _ (List.mem_map_of_mem (f := fun p : Nat × Int => (p.1, p.2, p.2)) hp)⟩
  cases rc with
  | none => exact eqp c h
  | some t =>
    obtain ⟨d, lo, hi⟩ := t
    have h2 : c ∈ (if (one.drop (eqPart one es).length).take 1 = [d] then one.take ((eqPart one es).length + 1) else eqPart one es) := h
    by_cases e : (one.drop (eqPart one es).length).take 1 = [d]
    · rw [if_pos e, List.take_add, ← eqPart_take, e] at h2
      rcases List.mem_append.mp h2 with z | z
      · exact eqp c z
      · rw [List.mem_singleton.mp z]
        exact ⟨lo, hi, List.mem_append_right _ (by simp)⟩
    · rw [if_neg e] at h2
      exact eqp c h2
theorem used_sub {one : List Nat} {es : List (Nat × Int)} {rc : Option (Nat × Int × Int)} : ∃ k, usedM one es rc = one.take k ∧ k ≤ one.length + 1 := by
  have hl := eqPart_le one es
  cases rc with
  | none => exact ⟨_, eqPart_take one es, by omega⟩
  | some t =>
    obtain ⟨d, lo, hi⟩ := t
    show ∃ k, (if (one.drop (eqPart one es).length).take 1 = [d] then one.take ((eqPart one es).length + 1) else eqPart one es) = one.take k ∧ _
    by_cases e : (one.drop (eqPart one es).length).take 1 = [d]
    · rw [if_pos e]
      exact ⟨_, rfl, by omega⟩
    · rw [if_neg e]
      exact ⟨_, eqPart_take one es, by omega⟩
theorem used_in {one : List Nat} {es : List (Nat × Int)} {rc : Option (Nat × Int × Int)} {c : Nat} (h : c ∈ usedM one es rc) : c ∈ one := by
  obtain ⟨k, e, _⟩ := used_sub (one := one) (es := es) (rc := rc)
  rw [e] at h
  exact List.mem_of_mem_take h
theorem used_len (one : List Nat) (es : List (Nat × Int)) (rc : Option (Nat × Int × Int)) : (usedM one es rc).length ≤ one.length := by
  obtain ⟨k, e, _⟩ := used_sub (one := one) (es := es) (rc := rc)
  rw [e, List.length_take]
  exact Nat.min_le_right _ _
theorem TG.mut {Ps : List Addr} {H : Hp} {p : Addr} {xs : List V} {o : HO} (t : TG Ps H) (h : H p = some (.lst xs)) : TG Ps (upd H p o) := fun P hP => by
  obtain ⟨ps, h2, q⟩ := t P hP
  refine ⟨ps, ?_, q⟩
  rw [upd_ne (fun z => ?_)]
  · exact h2
  · rw [z, h] at h2
    cases h2
theorem row_at_fz {H : Hp} {p : Addr} {row : List Int} (h : H p = some (.tup (row.map V.int))) : Fz H (.ref p) (rowD row) := .tup h FzA.ofInts
/-! ### stretches -/
def keyM (cols : List Nat) (row : List Int) (ls : List Nat) : List Int := ls.map (rowAt cols row)
def leK (ns ms : List Int) : Bool := Ob.lexAt (fun j => decide (ns.getD j 0 = ms.getD j 0)) (fun j => decide (ns.getD j 0 ≤ ms.getD j 0)) (decide (ns.length ≤ ms.length)) 0 (min ns.length ms.length)
def loM (es : List (Nat × Int)) (rc : Option (Nat × Int × Int)) (u : List Nat) : List Int := u.map fun c => (spanOf es rc c).1
def hiM (es : List (Nat × Int)) (rc : Option (Nat × Int × Int)) (u : List Nat) : List Int := u.map fun c => (spanOf es rc c).2
def aheadM (cols : List Nat) (rows : List (List Int)) (one : List Nat) (es : List (Nat × Int)) (rc : Option (Nat × Int × Int)) : Nat := (rows.filter fun row => HT.lexLt (keyM cols row (usedM one es rc)) (loM es rc (usedM one es rc))).length
def behindM (cols : List Nat) (rows : List (List Int)) (one : List Nat) (es : List (Nat × Int)) (rc : Option (Nat × Int × Int)) : Nat := (rows.filter fun row => leK (keyM cols row (usedM one es rc)) (hiM es rc (usedM one es rc))).length
end My

set_option Elab.async false
set_option linter.all false
set_option maxRecDepth 100000
set_option maxHeartbeats 2000000
namespace My
open PySem PySem.Spec PyProof.Rows L2
/-! ### tuples whose own object is told: without a dict of its own -/
section
variable (K : PySem.W.Frag) {X : Cx}
end
theorem app_txt (a b : List Nat) : ((⟨a.toArray⟩ : Str) ++ (⟨b.toArray⟩ : Str)) = ⟨(a ++ b).toArray⟩ := by
  show (⟨a.toArray ++ b.toArray⟩ : Str) = _
  rw [List.append_toArray]
/-! ### questions: their equals are such a tuple -/
def KT (H H' : Hp) : Prop := Kt H H' ∧ ∀ b o xs, H b = some (.frz o (.tup xs)) → H' b = some (.frz o (.tup xs))
theorem KT.rfl' {H : Hp} : KT H H := ⟨Kt.rfl', fun _ _ _ h => h⟩
theorem KT.trans {H H1 H2 : Hp} (a : KT H H1) (b : KT H1 H2) : KT H H2 := ⟨a.1.trans b.1, fun c o xs h => b.2 c o xs (a.2 c o xs h)⟩
theorem Same.kT {H H' : Hp} (s : Same H H') : KT H H' := ⟨Same.kt s, fun b o xs h => s b _ h⟩
theorem Kp.kT {r : Addr} {H H' : Hp} {xs : List V} (k : Kp r H H') (hr : H r = some (.lst xs)) : KT H H' := ⟨k.kt hr, fun b o ys h => k b _ (fun z => by
  rw [z, hr] at h
  cases h) h⟩
theorem Sx.kT {Ps : List Addr} {H H' : Hp} (t : TG Ps H) (s : Sx Ps H H') : KT H H' := ⟨s.kt t, fun b o xs h => s b _ (t.not h fun q z => nomatch z) h⟩
theorem KT.new {H : Hp} {p : Addr} {o : HO} (n : H p = none) : KT H (upd H p o) := ⟨Kt.new n, fun b u xs h => keep_new h n⟩
theorem KT.lst {H : Hp} {p : Addr} {xs : List V} {o : HO} (n : H p = some (.lst xs)) : KT H (upd H p o) := ⟨Kt.lst n, fun b u ys h => keep_ne h fun z => by
  rw [z, n] at h
  cases h⟩
def EZ (H : Hp) (ev : V) (es : List (Nat × Int)) : Prop := ∃ (ea : Addr) (o : Obj) (ps : List V), ev = .ref ea ∧ o.dict = none ∧ H ea = some (.frz o (.tup ps)) ∧ FzA H ps (es.map eqD)
def QZ (H : Hp) (qv : V) (es : List (Nat × Int)) (rc : Option (Nat × Int × Int)) : Prop := ∃ (qa : Addr) (ev y : V), qv = .ref qa ∧ H qa = some (.tup [ev, y]) ∧ EZ H ev es ∧ Fz H y (rchD rc)
theorem EZ.kT {H H' : Hp} {ev : V} {es : List (Nat × Int)} (h : EZ H ev es) (k : KT H H') : EZ H' ev es := by
  obtain ⟨ea, o, ps, rfl, h1, h2, h3⟩ := h
  exact ⟨ea, o, ps, rfl, h1, k.2 _ _ _ h2, h3.kt k.1⟩
theorem QZ.kT {H H' : Hp} {qv : V} {es : List (Nat × Int)} {rc : Option (Nat × Int × Int)} (h : QZ H qv es rc) (k : KT H H') : QZ H' qv es rc := by
  obtain ⟨qa, ev, y, rfl, h1, h2, h3⟩ := h
  exact ⟨qa, ev, y, rfl, k.1 _ _ h1, h2.kT k, h3.kt k.1⟩
theorem EZ.made {H : Hp} {te : Addr} {o : Obj} {ps : List V} {es : List (Nat × Int)} (n : H te = none) (ho : o.dict = none) (f : FzA H ps (es.map eqD)) : EZ (upd H te (.frz o (.tup ps))) (.ref te) es := ⟨te, o, ps, rfl, ho, upd_same, f.kt (.new n)⟩
theorem QZ.made {H : Hp} {v : Addr} {ev y : V} {es : List (Nat × Int)} {rc : Option (Nat × Int × Int)} (n : H v = none) (e : EZ H ev es) (f : Fz H y (rchD rc)) : QZ (upd H v (.tup [ev, y])) (.ref v) es rc := ⟨v, ev, y, rfl, upd_same, e.kT (.new n), f.kt (.new n)⟩
end My

set_option Elab.async false
set_option linter.all false
set_option maxRecDepth 100000
set_option maxHeartbeats 2000000
namespace My
open PySem PySem.Spec PyProof.Rows L2
section
variable (K : PySem.W.Frag) {X : Cx}
end
/-! ### the order of keys, by a sign -/
theorem lexAt_shift {e r : Nat → Bool} {z : Bool} : ∀ (k i : Nat), Ob.lexAt e r z (i + 1) k = Ob.lexAt (fun j => e (j + 1)) (fun j => r (j + 1)) z i k
  | 0, i => rfl
  | k + 1, i => by
    show (if e (i + 1) = true then Ob.lexAt e r z (i + 1 + 1) k else r (i + 1)) = (if e (i + 1) = true then Ob.lexAt (fun j => e (j + 1)) (fun j => r (j + 1)) z (i + 1) k else r (i + 1))
    rw [lexAt_shift k (i + 1)]
theorem leK_cons (a b : Int) (as bs : List Int) : leK (a :: as) (b :: bs) = if a = b then leK as bs else decide (a ≤ b) := by
  unfold leK
  have e : min (a :: as).length (b :: bs).length = min as.length bs.length + 1 := by
    rw [List.length_cons, List.length_cons]
    omega
  rw [e, Ob.lexAt_succ, lexAt_shift]
  simp only [List.getD_cons_zero, List.getD_cons_succ, List.length_cons, Nat.add_le_add_iff_right, decide_eq_true_eq]
def sgn (k lo hi : Int) : Int := (if decide (hi < k) = true then 1 else 0) - (if decide (k < lo) = true then 1 else 0)
def signF (k lo hi : Nat → Int) (u : List Nat) (s : Int) : Int := u.foldl (fun s c => if s = 0 then sgn (k c) (lo c) (hi c) else s) s
theorem signF_stay (k lo hi : Nat → Int) : ∀ (u : List Nat) (s : Int), s ≠ 0 → signF k lo hi u s = s
  | [], s, _ => rfl
  | c :: u, s, h => by
    show signF k lo hi u (if s = 0 then sgn (k c) (lo c) (hi c) else s) = s
    rw [if_neg h]
    exact signF_stay k lo hi u s h
def Thin (lo hi : Nat → Int) : List Nat → Prop
  | [] => True
  | c :: r => lo c ≤ hi c ∧ (r ≠ [] → lo c = hi c) ∧ Thin lo hi r
theorem Thin.all {lo hi : Nat → Int} : ∀ {l : List Nat}, (∀ c ∈ l, lo c = hi c) → Thin lo hi l
  | [], _ => trivial
  | c :: l, h => ⟨by rw [h c (by simp)]; exact Int.le_refl _, fun _ => h c (by simp), Thin.all fun d hd => h d (by simp [hd])⟩
theorem Thin.app {lo hi : Nat → Int} {d : Nat} (hd : lo d ≤ hi d) : ∀ {l : List Nat}, (∀ c ∈ l, lo c = hi c) → Thin lo hi (l ++ [d])
  | [], _ => ⟨hd, fun z => absurd rfl z, trivial⟩
  | c :: l, h => ⟨by rw [h c (by simp)]; exact Int.le_refl _, fun _ => h c (by simp), Thin.app hd fun e he => h e (by simp [he])⟩
theorem sign_lex (k lo hi : Nat → Int) : ∀ (u : List Nat), Thin lo hi u → HT.lexLt (u.map k) (u.map lo) = decide (signF k lo hi u 0 < 0) ∧ leK (u.map k) (u.map hi) = decide (signF k lo hi u 0 < 1)
  | [], _ => ⟨rfl, rfl⟩
  | c :: u, h => by
    obtain ⟨h1, h2, h3⟩ := h
    have ih := sign_lex k lo hi u h3
    rw [List.map_cons, List.map_cons, List.map_cons, HT.lexLt_cons, leK_cons]
    show _ = decide (signF k lo hi u (if (0 : Int) = 0 then sgn (k c) (lo c) (hi c) else 0) < 0) ∧ _ = decide (signF k lo hi u (if (0 : Int) = 0 then sgn (k c) (lo c) (hi c) else 0) < 1)
    rw [if_pos rfl]
    rcases Int.lt_or_le (k c) (lo c) with e | e
    · have es : sgn (k c) (lo c) (hi c) = -1 := by
        unfold sgn
        rw [decide_eq_false (show ¬ hi c < k c by omega), decide_eq_true e]
        rfl
      rw [es, signF_stay _ _ _ _ _ (by decide), if_neg (show ¬ k c = lo c by omega), if_neg (show ¬ k c = hi c by omega), decide_eq_true e, decide_eq_true (show k c ≤ hi c by omega)]
      exact ⟨rfl, rfl⟩
    · rcases Int.lt_or_le (hi c) (k c) with f | f
      · have es : sgn (k c) (lo c) (hi c) = 1 := by
          unfold sgn
          rw [decide_eq_false (show ¬ k c < lo c by omega), decide_eq_true f]
          rfl
        rw [es, signF_stay _ _ _ _ _ (by decide), if_neg (show ¬ k c = lo c by omega), if_neg (show ¬ k c = hi c by omega), decide_eq_false (show ¬ k c < lo c by omega), decide_eq_false (show ¬ k c ≤ hi c by omega)]
        exact ⟨rfl, rfl⟩
      · have es : sgn (k c) (lo c) (hi c) = 0 := by
          unfold sgn
          rw [decide_eq_false (show ¬ k c < lo c by omega), decide_eq_false (show ¬ hi c < k c by omega)]
          rfl
        rw [es]
        by_cases hu : u = []
        · subst hu
          show (if k c = lo c then false else decide (k c < lo c)) = false ∧ (if k c = hi c then true else decide (k c ≤ hi c)) = true
          rw [decide_eq_false (show ¬ k c < lo c by omega), decide_eq_true f]
          exact ⟨by split <;> rfl, by split <;> rfl⟩
        · have e2 := h2 hu
          rw [if_pos (show k c = lo c by omega), if_pos (show k c = hi c by omega)]
          exact ih
def signM (cols : List Nat) (row : List Int) (es : List (Nat × Int)) (rc : Option (Nat × Int × Int)) (u : List Nat) : Int := signF (rowAt cols row) (fun c => (spanOf es rc c).1) (fun c => (spanOf es rc c).2) u 0
theorem span_eq {cols : List Nat} {es : List (Nat × Int)} {rc : Option (Nat × Int × Int)} (hok : QOk cols es rc) {c : Nat} {v : Int} (h : (c, v) ∈ es) : spanOf es rc c = (v, v) := spanOf_mem (spanL_nd hok) (List.mem_append_left _ (List.mem_map_of_mem (f := fun p : Nat × Int => (p.1, p.2, p.2)) h))
theorem span_rc {cols : List Nat} {es : List (Nat × Int)} {c : Nat} {lo hi : Int} (hok : QOk cols es (some (c, lo, hi))) : spanOf es (some (c, lo, hi)) c = (lo, hi) := spanOf_mem (spanL_nd hok) (List.mem_append_right _ (by simp))
theorem used_thin {cols one : List Nat} {es : List (Nat × Int)} {rc : Option (Nat × Int × Int)} (hok : QOk cols es rc) : Thin (fun c => (spanOf es rc c).1) (fun c => (spanOf es rc c).2) (usedM one es rc) := by
  have eqp : ∀ c ∈ eqPart one es, (spanOf es rc c).1 = (spanOf es rc c).2 := fun c hc => by
    have hm0 := mem_tw (fun c => decide (c ∈ es.map fun p : Nat × Int => p.1)) one c hc
    have hm : c ∈ es.map (·.1) := of_decide_eq_true hm0
    obtain ⟨p, hp, rfl⟩ := List.mem_map.mp hm
    rw [span_eq hok (c := p.1) (v := p.2) hp]
  cases rc with
  | none => exact Thin.all eqp
  | some t =>
    obtain ⟨d, lo, hi⟩ := t
    show Thin _ _ (if (one.drop (eqPart one es).length).take 1 = [d] then one.take ((eqPart one es).length + 1) else eqPart one es)
    by_cases e : (one.drop (eqPart one es).length).take 1 = [d]
    · rw [if_pos e, List.take_add, ← eqPart_take, e]
      refine Thin.app ?_ eqp
      show (spanOf es (some (d, lo, hi)) d).1 ≤ (spanOf es (some (d, lo, hi)) d).2
      rw [span_rc hok]
      exact (hok.rc d lo hi rfl).2.2.2.1
    · rw [if_neg e]
      exact Thin.all eqp
theorem ahead_sign {cols : List Nat} {rows : List (List Int)} {one : List Nat} {es : List (Nat × Int)} {rc : Option (Nat × Int × Int)} (hok : QOk cols es rc) : aheadM cols rows one es rc = (rows.filter fun row => decide (signM cols row es rc (usedM one es rc) < 0)).length := by
  unfold aheadM
  congr 2
  funext row
  exact (sign_lex (rowAt cols row) (fun c => (spanOf es rc c).1) (fun c => (spanOf es rc c).2) _ (used_thin hok)).1
theorem behind_sign {cols : List Nat} {rows : List (List Int)} {one : List Nat} {es : List (Nat × Int)} {rc : Option (Nat × Int × Int)} (hok : QOk cols es rc) : behindM cols rows one es rc = (rows.filter fun row => decide (signM cols row es rc (usedM one es rc) < 1)).length := by
  unfold behindM
  congr 2
  funext row
  exact (sign_lex (rowAt cols row) (fun c => (spanOf es rc c).1) (fun c => (spanOf es rc c).2) _ (used_thin hok)).2
end My

set_option Elab.async false
set_option linter.all false
set_option maxRecDepth 100000
set_option maxHeartbeats 2000000
namespace My
open PySem PySem.Spec PyProof.Rows L2
/-! ### entries: a key of numbers, and a number; sorted -/
abbrev Ent := List Int × Int
def entLt (b c : Ent) : Bool := if b.1 = c.1 then decide (b.2 < c.2) else decide (b.1 < c.1)
def entLe (b c : Ent) : Bool := !entLt c b
section
variable (K : PySem.W.Frag) {X : Cx}
end
end My

set_option Elab.async false
set_option linter.all false
set_option maxRecDepth 100000
set_option maxHeartbeats 2000000
namespace My
open PySem PySem.Spec PyProof.Rows L2
/-! ### rows sorted by a list -/
def entAt (cols : List Nat) (rows : List (List Int)) (one : List Nat) (i : Nat) : Ent := (keyM cols (rows.getD i []) one, (i : Int))
def entsM (cols : List Nat) (rows : List (List Int)) (one : List Nat) : List Ent := (List.range rows.length).map (entAt cols rows one)
def sortM (cols : List Nat) (rows : List (List Int)) (one : List Nat) : List Int := ((entsM cols rows one).mergeSort entLe).map (·.2)
theorem entLt_irrefl (a : Ent) : entLt a a = false := by
  unfold entLt
  rw [if_pos rfl]
  simp
theorem entLt_trans {a b c : Ent} (h1 : entLt a b = true) (h2 : entLt b c = true) : entLt a c = true := by
  unfold entLt at *
  by_cases e1 : a.1 = b.1
  · rw [if_pos e1] at h1
    by_cases e2 : b.1 = c.1
    · rw [if_pos e2] at h2
      rw [if_pos (e1.trans e2)]
      simp at *
      omega
    · rw [if_neg e2] at h2
      rw [if_neg (by rw [e1]; exact e2), e1]
      exact h2
  · rw [if_neg e1] at h1
    by_cases e2 : b.1 = c.1
    · rw [if_neg (by rw [← e2]; exact e1), ← e2]
      exact h1
    · rw [if_neg e2] at h2
      have t : a.1 < c.1 := List.lt_trans (of_decide_eq_true h1) (of_decide_eq_true h2)
      have ne : a.1 ≠ c.1 := fun z => List.lt_irrefl _ (z ▸ t)
      rw [if_neg ne]
      exact decide_eq_true t
theorem entLt_tri (a b : Ent) : entLt a b = true ∨ a = b ∨ entLt b a = true := by
  unfold entLt
  by_cases e : a.1 = b.1
  · rw [if_pos e, if_pos e.symm]
    rcases Int.lt_trichotomy a.2 b.2 with z | z | z
    · exact .inl (decide_eq_true z)
    · exact .inr (.inl (Prod.ext e z))
    · exact .inr (.inr (decide_eq_true z))
  · rw [if_neg e, if_neg (fun z => e z.symm)]
    by_cases l : a.1 < b.1
    · exact .inl (decide_eq_true l)
    · have l2 : b.1 ≤ a.1 := List.not_lt.mp l
      rcases List.le_iff_lt_or_eq.mp l2 with z | z
      · exact .inr (.inr (decide_eq_true z))
      · exact absurd z.symm e
theorem entLt_asym {a b : Ent} (h : entLt a b = true) : entLt b a = false := by
  cases e : entLt b a with
  | false => rfl
  | true =>
    have := entLt_trans h e
    rw [entLt_irrefl] at this
    cases this
theorem entLe_trans (a b c : Ent) (h1 : entLe a b = true) (h2 : entLe b c = true) : entLe a c = true := by
  unfold entLe at *
  simp only [Bool.not_eq_true'] at *
  rcases entLt_tri c a with z | z | z
  · rcases entLt_tri a b with y | y | y
    · rw [entLt_trans z y] at h2
      cases h2
    · rw [← y] at h2
      rw [h2] at z
      cases z
    · rw [h1] at y
      cases y
  · rw [z]
    exact entLt_irrefl _
  · exact entLt_asym z
theorem entLe_total (a b : Ent) : (entLe a b || entLe b a) = true := by
  unfold entLe
  rcases entLt_tri a b with z | z | z
  · rw [entLt_asym z]
    rfl
  · rw [z, entLt_irrefl]
    rfl
  · rw [entLt_asym z]
    simp
theorem entLe_anti {a b : Ent} (h1 : entLe a b = true) (h2 : entLe b a = true) : a = b := by
  unfold entLe at *
  simp only [Bool.not_eq_true'] at *
  rcases entLt_tri a b with z | z | z
  · rw [h2] at z
    cases z
  · exact z
  · rw [h1] at z
    cases z
/-- what is in order and has the same entries is the same -/
theorem sorted_one : ∀ {l k : List Ent}, l.Pairwise (fun a b => entLe a b = true) → k.Pairwise (fun a b => entLe a b = true) → l.Perm k → l = k
  | [], k, _, _, p => (List.nil_perm.mp p).symm
  | a :: l, [], _, _, p => absurd p.length_eq (by simp)
  | a :: l, b :: k, hl, hk, p => by
    have e : a = b := by
      have ha : a ∈ b :: k := p.mem_iff.mp (by simp)
      have hb : b ∈ a :: l := p.mem_iff.mpr (by simp)
      rcases List.mem_cons.mp ha with z | z
      · exact z
      · rcases List.mem_cons.mp hb with y | y
        · exact y.symm
        · exact entLe_anti ((List.pairwise_cons.mp hl).1 b y) ((List.pairwise_cons.mp hk).1 a z)
    subst e
    rw [sorted_one (List.pairwise_cons.mp hl).2 (List.pairwise_cons.mp hk).2 (List.perm_cons a |>.mp p)]
theorem sortM_one {cols : List Nat} {rows : List (List Int)} {one : List Nat} {l : List Nat} (hp : l.Perm (List.range rows.length)) (hs : (l.map (entAt cols rows one)).Pairwise fun a b => entLe a b = true) : l.map (fun i : Nat => (i : Int)) = sortM cols rows one := by
  have h1 : ((entsM cols rows one).mergeSort entLe).Pairwise fun a b => entLe a b = true := List.pairwise_mergeSort entLe_trans entLe_total _
  have h2 : (l.map (entAt cols rows one)).Perm ((entsM cols rows one).mergeSort entLe) := (hp.map _).trans (List.mergeSort_perm _ _).symm
  unfold sortM
  rw [← sorted_one hs h1 h2, List.map_map]
  rfl
/-! ### a number put in behind all that are not greater -/
theorem leK_le : ∀ (a b : List Int), leK a b = !decide (b < a)
  | [], b => by
    have e1 : leK [] b = true := by
      unfold leK
      simp [Ob.lexAt_zero]
    rw [e1]
    simp
  | a :: as, [] => by
    have e1 : leK (a :: as) [] = false := by
      unfold leK
      simp [Ob.lexAt_zero]
    rw [e1]
    simp
  | a :: as, b :: bs => by
    rw [leK_cons, leK_le as bs]
    by_cases e : a = b
    · subst e
      simp [List.cons_lt_cons_iff]
    · have e2 : ¬ b = a := fun z => e z.symm
      rw [if_neg e]
      by_cases l : a ≤ b
      · have : ¬ b < a := by omega
        simp [List.cons_lt_cons_iff, this, e2, l]
      · have : b < a := by omega
        simp [List.cons_lt_cons_iff, this, l]
end My

set_option Elab.async false
set_option linter.all false
set_option maxRecDepth 100000
set_option maxHeartbeats 2000000
namespace My
open PySem PySem.Spec PyProof.Rows L2
def rLeL (K : PySem.W.Frag) : R2 := fun x y H Q => ∃ (a b : Addr) (ns ms : List Int), x = .ref a ∧ y = .ref b ∧ SqL K H a (ns.map V.int) ∧ SqL K H b (ms.map V.int) ∧ Q (.bl (!decide (ms < ns))) H
section
variable (K : PySem.W.Frag) {X : Cx}
theorem leLK {k : Nat} (hr : Room k X.A) (hK : X.K = K := by rfl) : OpR X (compareOp .LtE) (rLeL K) := by
  subst hK
  intro pins s σ H x y v u Q I rx ry h
  obtain ⟨a, b, ns, ms, rfl, rfl, ha, hb, q⟩ := h
  have hun := hr.un
  obtain ⟨as, ra⟩ := Dp.reads I _ _ _ (Dp.lst ha (dp_ints ns)) rx
  obtain ⟨bs, rb⟩ := Dp.reads I _ _ _ (Dp.lst hb (dp_ints ms)) ry
  refine W.le_data ra rb ?_ (fun z => nomatch z) ?_ ?_
  · show W.alike (.list _) (.list _) = true
    rw [W.alike]
    exact W.alike_ints _ _
  · rw [dep_ints, dep_ints]
    omega
  · have e : W.dataLt (.list (ms.map PyData.int)) (.list (ns.map PyData.int)) = decide (ms < ns) := by
      rw [W.dataLt_list]
      exact W.dataLt_ints _ _
    rw [e]
    exact ⟨.bl _, H, I, rfl, q⟩
end
/-! ### put in -/
theorem split_mono {α : Type} (p : α → Bool) : ∀ {l : List α}, l.Pairwise (fun a b => p b = true → p a = true) → (∀ x ∈ l.take (l.filter p).length, p x = true) ∧ ∀ x ∈ l.drop (l.filter p).length, p x = false
  | [], _ => ⟨fun x h => by simp at h, fun x h => by simp at h⟩
  | a :: l, h => by
    obtain ⟨h1, h2⟩ := List.pairwise_cons.mp h
    obtain ⟨i1, i2⟩ := split_mono p h2
    by_cases e : p a = true
    · rw [List.filter_cons, if_pos e, List.length_cons, List.take_succ_cons, List.drop_succ_cons]
      refine ⟨fun x hx => ?_, i2⟩
      rcases List.mem_cons.mp hx with z | z
      · rw [z]
        exact e
      · exact i1 x z
    · have e2 : p a = false := by simpa using e
      have none : l.filter p = [] := by
        rw [List.filter_eq_nil_iff]
        intro b hb z
        exact e (h1 b hb z)
      rw [List.filter_cons, if_neg e, none]
      refine ⟨fun x hx => by simp at hx, fun x hx => ?_⟩
      rcases List.mem_cons.mp (show x ∈ a :: l from hx) with z | z
      · rw [z]
        exact e2
      · cases y : p x with
        | false => rfl
        | true => exact absurd (h1 x z y) e
theorem lt_le {a b : List Int} (h : ¬ b < a) : a < b ∨ a = b := List.le_iff_lt_or_eq.mp (List.not_lt.mp h)
theorem put_in {cols : List Nat} {rows : List (List Int)} {one : List Nat} {fd : List Nat} {i : Nat} (hp : fd.Perm (List.range i)) (hs : (fd.map (entAt cols rows one)).Pairwise fun a b => entLe a b = true) :
    (fd.take (fd.filter fun o => !decide ((entAt cols rows one i).1 < (entAt cols rows one o).1)).length ++ [i] ++ fd.drop (fd.filter fun o => !decide ((entAt cols rows one i).1 < (entAt cols rows one o).1)).length).Perm (List.range (i + 1)) ∧
    ((fd.take (fd.filter fun o => !decide ((entAt cols rows one i).1 < (entAt cols rows one o).1)).length ++ [i] ++ fd.drop (fd.filter fun o => !decide ((entAt cols rows one i).1 < (entAt cols rows one o).1)).length).map (entAt cols rows one)).Pairwise fun a b => entLe a b = true := by
  have hs2 := List.pairwise_map.mp hs
  have mono : fd.Pairwise fun a b => (!decide ((entAt cols rows one i).1 < (entAt cols rows one b).1)) = true → (!decide ((entAt cols rows one i).1 < (entAt cols rows one a).1)) = true := by
    refine hs2.imp fun {a b} h z => ?_
    have z2 : ¬ (entAt cols rows one i).1 < (entAt cols rows one b).1 := by simpa using z
    have h2 : entLt (entAt cols rows one b) (entAt cols rows one a) = false := by
      unfold entLe at h
      simpa using h
    have z3 : ¬ (entAt cols rows one i).1 < (entAt cols rows one a).1 := fun y => by
      unfold entLt at h2
      by_cases e : (entAt cols rows one b).1 = (entAt cols rows one a).1
      · exact z2 (e ▸ y)
      · rw [if_neg e] at h2
        rcases lt_le (of_decide_eq_false h2) with l | l
        · exact z2 (List.lt_trans y l)
        · exact e l.symm
    simp [z3]
  obtain ⟨m1, m2⟩ := split_mono _ mono
  have hlt : ∀ x ∈ fd, x < i := fun x hx => List.mem_range.mp (hp.mem_iff.mp hx)
  generalize (fd.filter fun o => !decide ((entAt cols rows one i).1 < (entAt cols rows one o).1)).length = n at m1 m2
  constructor
  · rw [List.range_succ]
    refine List.Perm.trans ?_ (hp.append_right [i])
    rw [List.append_assoc]
    refine (List.Perm.append_left _ List.perm_append_comm).trans ?_
    rw [← List.append_assoc, List.take_append_drop]
  · rw [List.pairwise_map]
    have hs3 : (fd.take n ++ fd.drop n).Pairwise fun a b => entLe (entAt cols rows one a) (entAt cols rows one b) = true := by
      rw [List.take_append_drop]
      exact hs2
    obtain ⟨p1, p2, p3⟩ := List.pairwise_append.mp hs3
    have before : ∀ x ∈ fd.take n, entLe (entAt cols rows one x) (entAt cols rows one i) = true := fun x hx => by
      have k1 : ¬ (entAt cols rows one i).1 < (entAt cols rows one x).1 := by simpa using m1 x hx
      have k2 := hlt x (List.mem_of_mem_take hx)
      have : entLt (entAt cols rows one i) (entAt cols rows one x) = false := by
        unfold entLt
        split
        · exact decide_eq_false (show ¬ ((i : Nat) : Int) < ((x : Nat) : Int) by omega)
        · exact decide_eq_false k1
      unfold entLe
      rw [this]
      rfl
    have behind : ∀ x ∈ fd.drop n, entLe (entAt cols rows one i) (entAt cols rows one x) = true := fun x hx => by
      have k1 : (entAt cols rows one i).1 < (entAt cols rows one x).1 := by simpa using m2 x hx
      have ne : ¬ (entAt cols rows one x).1 = (entAt cols rows one i).1 := fun z => List.lt_irrefl _ (z ▸ k1)
      have : entLt (entAt cols rows one x) (entAt cols rows one i) = false := by
        unfold entLt
        rw [if_neg ne]
        exact decide_eq_false fun z => List.lt_irrefl _ (List.lt_trans z k1)
      unfold entLe
      rw [this]
      rfl
    refine List.pairwise_append.mpr ⟨List.pairwise_append.mpr ⟨p1, List.pairwise_singleton _ _, fun a ha b hb => ?_⟩, p2, fun a ha b hb => ?_⟩
    · rw [List.mem_singleton.mp hb]
      exact before a ha
    · rcases List.mem_append.mp ha with z | z
      · exact p3 a z b hb
      · rw [List.mem_singleton.mp z]
        exact behind b hb
end My

set_option Elab.async false
set_option linter.all false
set_option maxRecDepth 100000
set_option maxHeartbeats 2000000
namespace My
open PySem PySem.Spec PyProof.Rows L2
section
variable (K : PySem.W.Frag) {X : Cx}
theorem slLK (hK : X.K = K := by rfl) : SlR X (rSlL K) := by
  subst hK
  exact sl_list
end
theorem cutV_nat (xs : List V) (a b : Nat) (hab : a ≤ b) (hb : b ≤ xs.length) : cutV xs (some (a : Int)) (some (b : Int)) = (xs.drop a).take (b - a) := by
  unfold cutV
  rw [HT.sIx_nat, HT.sIx_nat, Nat.min_eq_left hb, Nat.min_eq_left (Nat.le_trans hab hb)]
/-! ### what a stretch of the sorted rows holds -/
theorem lexLt_lt : ∀ a b : List Int, HT.lexLt a b = decide (a < b)
  | [], [] => by
    rw [HT.lexLt_nil_nil]
    simp
  | [], b :: bs => by
    rw [HT.lexLt_nil_cons]
    simp
  | a :: as, [] => by
    rw [HT.lexLt_cons_nil]
    simp
  | a :: as, b :: bs => by
    rw [HT.lexLt_cons, lexLt_lt as bs]
    by_cases e : a = b
    · subst e
      simp [List.cons_lt_cons_iff]
    · rw [if_neg e]
      simp [List.cons_lt_cons_iff, e]
theorem take_lt : ∀ (k : Nat) (xs ys : List Int), xs.take k < ys.take k → xs < ys
  | 0, xs, ys, h => by
    simp at h
  | k + 1, [], [], h => by
    simp at h
  | k + 1, [], y :: ys, _ => by simp
  | k + 1, x :: xs, [], h => by
    simp at h
  | k + 1, x :: xs, y :: ys, h => by
    rw [List.take_succ_cons, List.take_succ_cons, List.cons_lt_cons_iff] at h
    rw [List.cons_lt_cons_iff]
    rcases h with z | ⟨z, y2⟩
    · exact .inl z
    · exact .inr ⟨z, take_lt k xs ys y2⟩
theorem signF_zero (k lo hi : Nat → Int) : ∀ u : List Nat, (∀ c ∈ u, lo c ≤ k c ∧ k c ≤ hi c) → signF k lo hi u 0 = 0
  | [], _ => rfl
  | c :: u, h => by
    show signF k lo hi u (if (0 : Int) = 0 then sgn (k c) (lo c) (hi c) else 0) = 0
    have h1 := h c (by simp)
    have e : sgn (k c) (lo c) (hi c) = 0 := by
      unfold sgn
      rw [decide_eq_false (show ¬ hi c < k c by omega), decide_eq_false (show ¬ k c < lo c by omega)]
      rfl
    rw [if_pos rfl, e]
    exact signF_zero k lo hi u fun d hd => h d (by simp [hd])
theorem fits_sign {cols : List Nat} {row : List Int} {one : List Nat} {es : List (Nat × Int)} {rc : Option (Nat × Int × Int)} (hok : QOk cols es rc) (h : fitsM cols row es rc = true) : signM cols row es rc (usedM one es rc) = 0 := by
  refine signF_zero _ _ _ _ fun c hc => ?_
  obtain ⟨lo, hi, hm⟩ := used_span hc
  have e := spanOf_mem (spanL_nd hok) hm
  have f := List.all_eq_true.mp h _ hm
  unfold spanFit at f
  simp only [Bool.and_eq_true, decide_eq_true_eq] at f
  show (spanOf es rc c).1 ≤ rowAt cols row c ∧ rowAt cols row c ≤ (spanOf es rc c).2
  rw [e]
  exact f
def idxM (cols : List Nat) (rows : List (List Int)) (one : List Nat) : List Nat := (List.range rows.length).mergeSort fun i j => entLe (entAt cols rows one i) (entAt cols rows one j)
theorem idx_sort (cols : List Nat) (rows : List (List Int)) (one : List Nat) : sortM cols rows one = (idxM cols rows one).map fun i : Nat => (i : Int) := by
  unfold sortM entsM idxM
  rw [← List.map_mergeSort (r := fun i j : Nat => entLe (entAt cols rows one i) (entAt cols rows one j)) (fun a _ b _ => rfl), List.map_map]
  rfl
theorem idx_perm (cols : List Nat) (rows : List (List Int)) (one : List Nat) : (idxM cols rows one).Perm (List.range rows.length) := List.mergeSort_perm _ _
theorem idx_pw (cols : List Nat) (rows : List (List Int)) (one : List Nat) : (idxM cols rows one).Pairwise fun i j => entLe (entAt cols rows one i) (entAt cols rows one j) = true := List.pairwise_mergeSort (le := fun i j : Nat => entLe (entAt cols rows one i) (entAt cols rows one j)) (fun a b c => entLe_trans (entAt cols rows one a) (entAt cols rows one b) (entAt cols rows one c)) (fun a b => entLe_total (entAt cols rows one a) (entAt cols rows one b)) _
theorem key_take {cols : List Nat} {rows : List (List Int)} {one : List Nat} {k a b : Nat} (h : entLe (entAt cols rows one a) (entAt cols rows one b) = true) : ¬ keyM cols (rows.getD b []) (one.take k) < keyM cols (rows.getD a []) (one.take k) := fun z => by
  unfold keyM at z
  rw [List.map_take, List.map_take] at z
  have z2 := take_lt k _ _ z
  unfold entLe entLt at h
  have h2 : (if (entAt cols rows one b).1 = (entAt cols rows one a).1 then decide ((entAt cols rows one b).2 < (entAt cols rows one a).2) else decide ((entAt cols rows one b).1 < (entAt cols rows one a).1)) = false := by simpa using h
  by_cases e : (entAt cols rows one b).1 = (entAt cols rows one a).1
  · have z3 : (entAt cols rows one b).1 < (entAt cols rows one a).1 := z2
    rw [e] at z3
    exact List.lt_irrefl _ z3
  · rw [if_neg e] at h2
    exact of_decide_eq_false h2 z2
def below (cols : List Nat) (rows : List (List Int)) (es : List (Nat × Int)) (rc : Option (Nat × Int × Int)) (u : List Nat) (n : Int) (o : Nat) : Bool := decide (signM cols (rows.getD o []) es rc u < n)
theorem below_mono {cols : List Nat} {rows : List (List Int)} {one : List Nat} {es : List (Nat × Int)} {rc : Option (Nat × Int × Int)} (hok : QOk cols es rc) {n : Int} (hn : n = 0 ∨ n = 1) :
    (idxM cols rows one).Pairwise fun a b => below cols rows es rc (usedM one es rc) n b = true → below cols rows es rc (usedM one es rc) n a = true := by
  refine (idx_pw cols rows one).imp fun {a b} h => ?_
  obtain ⟨k, ek, _⟩ := used_sub (one := one) (es := es) (rc := rc)
  have hk := key_take (k := k) h
  rw [← ek] at hk
  have sa := sign_lex (rowAt cols (rows.getD a [])) (fun c => (spanOf es rc c).1) (fun c => (spanOf es rc c).2) _ (used_thin (one := one) hok)
  have sb := sign_lex (rowAt cols (rows.getD b [])) (fun c => (spanOf es rc c).1) (fun c => (spanOf es rc c).2) _ (used_thin (one := one) hok)
  rcases hn with z | z
  · subst z
    unfold below signM
    rw [← sa.1, ← sb.1, lexLt_lt, lexLt_lt]
    intro y
    refine decide_eq_true ?_
    have y2 := of_decide_eq_true y
    rcases lt_le hk with l | l
    · exact List.lt_trans l y2
    · have l2 : List.map (rowAt cols (rows.getD a [])) (usedM one es rc) = List.map (rowAt cols (rows.getD b [])) (usedM one es rc) := l
      rw [l2]
      exact y2
  · subst z
    unfold below signM
    rw [← sa.2, ← sb.2, leK_le, leK_le]
    intro y
    have y2 : ¬ (usedM one es rc).map (fun c => (spanOf es rc c).2) < (usedM one es rc).map (rowAt cols (rows.getD b [])) := by simpa using y
    have y3 : ¬ (usedM one es rc).map (fun c => (spanOf es rc c).2) < (usedM one es rc).map (rowAt cols (rows.getD a [])) := fun x => by
      rcases lt_le hk with l | l
      · exact y2 (List.lt_trans x l)
      · have l2 : List.map (rowAt cols (rows.getD a [])) (usedM one es rc) = List.map (rowAt cols (rows.getD b [])) (usedM one es rc) := l
        rw [l2] at x
        exact y2 x
    rw [decide_eq_false y3]
    rfl
theorem rows_range (rows : List (List Int)) : (List.range rows.length).map (fun i => rows.getD i []) = rows := by
  apply List.ext_getElem
  · simp
  · intro i h1 h2
    simp [List.getD_eq_getElem?_getD, List.getElem?_eq_getElem h2]
theorem count_idx (cols : List Nat) (rows : List (List Int)) (one : List Nat) (q : List Int → Bool) : ((idxM cols rows one).filter fun o => q (rows.getD o [])).length = (rows.filter q).length := by
  rw [((idx_perm cols rows one).filter _).length_eq]
  conv => rhs; rw [← rows_range rows, List.filter_map, List.length_map]
  rfl
theorem cut_filter {α : Type} (l : List α) (f p q : α → Bool) (a b : Nat) (hab : a ≤ b) (h1 : ∀ x ∈ l.take a, p x = true) (h2 : ∀ x ∈ l.drop b, q x = false) (hf : ∀ x, f x = true → p x = false ∧ q x = true) : ((l.drop a).take (b - a)).filter f = l.filter f := by
  have e1 : (l.take a).filter f = [] := by
    rw [List.filter_eq_nil_iff]
    intro x hx z
    have := (hf x z).1
    rw [h1 x hx] at this
    cases this
  have e2 : (l.drop b).filter f = [] := by
    rw [List.filter_eq_nil_iff]
    intro x hx z
    have := (hf x z).2
    rw [h2 x hx] at this
    cases this
  have e3 : l = l.take a ++ ((l.drop a).take (b - a) ++ l.drop b) := by
    have : l.drop b = (l.drop a).drop (b - a) := by
      rw [List.drop_drop]
      congr 1
      omega
    rw [this, List.take_append_drop, List.take_append_drop]
  conv => rhs; rw [e3, List.filter_append, List.filter_append, e1, e2, List.nil_append, List.append_nil]
theorem ahead_le {cols : List Nat} {rows : List (List Int)} {one : List Nat} {es : List (Nat × Int)} {rc : Option (Nat × Int × Int)} (hok : QOk cols es rc) : aheadM cols rows one es rc ≤ behindM cols rows one es rc := by
  rw [ahead_sign hok, behind_sign hok]
  induction rows with
  | nil => exact Nat.le_refl _
  | cons r rows ih =>
    rw [List.filter_cons, List.filter_cons]
    by_cases e : signM cols r es rc (usedM one es rc) < 0
    · rw [decide_eq_true e, decide_eq_true (show signM cols r es rc (usedM one es rc) < 1 by omega), if_pos rfl, if_pos rfl, List.length_cons, List.length_cons]
      omega
    · rw [decide_eq_false e, if_neg (by decide)]
      split
      · rw [List.length_cons]
        omega
      · exact ih
theorem behind_le (cols : List Nat) (rows : List (List Int)) (one : List Nat) (es : List (Nat × Int)) (rc : Option (Nat × Int × Int)) : behindM cols rows one es rc ≤ rows.length := List.length_filter_le _ _
/-- the rows of the stretch that fit are all that fit -/
theorem read_fits {cols : List Nat} {rows : List (List Int)} {one : List Nat} {es : List (Nat × Int)} {rc : Option (Nat × Int × Int)} (hok : QOk cols es rc) :
    (((idxM cols rows one).drop (aheadM cols rows one es rc)).take (behindM cols rows one es rc - aheadM cols rows one es rc)).filter (fun o => fitsM cols (rows.getD o []) es rc) = (idxM cols rows one).filter fun o => fitsM cols (rows.getD o []) es rc := by
  have m1 := split_mono _ (below_mono (rows := rows) (one := one) hok (.inl rfl))
  have m2 := split_mono _ (below_mono (rows := rows) (one := one) hok (.inr rfl))
  have c1 : ((idxM cols rows one).filter (below cols rows es rc (usedM one es rc) 0)).length = aheadM cols rows one es rc := by
    rw [ahead_sign hok]
    exact count_idx cols rows one fun row => decide (signM cols row es rc (usedM one es rc) < 0)
  have c2 : ((idxM cols rows one).filter (below cols rows es rc (usedM one es rc) 1)).length = behindM cols rows one es rc := by
    rw [behind_sign hok]
    exact count_idx cols rows one fun row => decide (signM cols row es rc (usedM one es rc) < 1)
  rw [c1] at m1
  rw [c2] at m2
  refine cut_filter _ _ (below cols rows es rc (usedM one es rc) 0) (below cols rows es rc (usedM one es rc) 1) _ _ (ahead_le hok) m1.1 m2.2 fun x hx => ?_
  have := fits_sign (one := one) hok hx
  unfold below
  rw [this]
  exact ⟨rfl, rfl⟩
theorem ints_one : ∀ {l k : List Int}, l.Pairwise (· ≤ ·) → k.Pairwise (· ≤ ·) → l.Perm k → l = k
  | [], k, _, _, p => (List.nil_perm.mp p).symm
  | a :: l, [], _, _, p => absurd p.length_eq (by simp)
  | a :: l, b :: k, hl, hk, p => by
    have e : a = b := by
      have ha : a ∈ b :: k := p.mem_iff.mp (by simp)
      have hb : b ∈ a :: l := p.mem_iff.mpr (by simp)
      rcases List.mem_cons.mp ha with z | z
      · exact z
      · rcases List.mem_cons.mp hb with y | y
        · exact y.symm
        · exact Int.le_antisymm ((List.pairwise_cons.mp hl).1 b y) ((List.pairwise_cons.mp hk).1 a z)
    subst e
    rw [ints_one (List.pairwise_cons.mp hl).2 (List.pairwise_cons.mp hk).2 (List.perm_cons a |>.mp p)]
end My

set_option Elab.async false
set_option linter.all false
set_option maxRecDepth 100000
set_option maxHeartbeats 2000000
namespace My
open PySem PySem.Spec PyProof.Rows L2
/-! ### a walk over a dict's keys, texts of one sign -/
section
variable {X : Cx} {pins : List (Addr × Obj)} {σ : L2.St}
end
theorem SpA.keys {H : Hp} {kvs : List (Key × V)} {l : List (Nat × Int × Int)} (h : SpA H kvs l) : kvs.map (·.1) = (l.map (·.1)).map fun c => (Sum.inr (sS c) : Key) := by
  induction h with
  | nil => rfl
  | cons _ _ ih =>
    rw [List.map_cons, List.map_cons, List.map_cons, ih]
end My

set_option Elab.async false
set_option linter.all false
set_option maxRecDepth 100000
set_option maxHeartbeats 2000000
namespace My
open PySem PySem.Spec PyProof.Rows L2
theorem nodup_sub_len : ∀ {l m : List Nat}, l.Nodup → (∀ c ∈ l, c ∈ m) → l.length ≤ m.length
  | [], _, _, _ => Nat.zero_le _
  | a :: l, m, h, hs => by
    have h2 := List.nodup_cons.mp h
    have ha := hs a (by simp)
    have ih := nodup_sub_len (m := m.erase a) h2.2 (fun c hc => (List.mem_erase_of_ne (fun e => h2.1 (by rw [← e]; exact hc))).mpr (hs c (by simp [hc])))
    rw [List.length_erase_of_mem ha] at ih
    have hp : 0 < m.length := List.length_pos_of_mem ha
    rw [List.length_cons]
    omega
end My

set_option Elab.async false
set_option linter.all false
set_option maxRecDepth 100000
set_option maxHeartbeats 2000000
namespace My
open PySem PySem.Spec PyProof.Rows L2
section
variable (K : PySem.W.Frag) {X : Cx}
/-! ### the least of a list -/
end
/-! ### keys of a merged dict -/
theorem put_keys (acc : List (Key × V)) (k : Key) (v : V) : (k ∈ acc.map (·.1) ∧ (putK acc k v).map (·.1) = acc.map (·.1)) ∨ (k ∉ acc.map (·.1) ∧ (putK acc k v).map (·.1) = acc.map (·.1) ++ [k]) := by
  unfold putK
  by_cases h : (acc.any fun kv => decide (kv.1 = k)) = true
  · rw [if_pos h]
    refine .inl ⟨?_, ?_⟩
    · obtain ⟨kv, h1, h2⟩ := List.any_eq_true.mp h
      rw [← of_decide_eq_true h2]
      exact List.mem_map_of_mem h1
    · rw [List.map_map]
      refine List.map_congr_left fun kv _ => ?_
      show (if kv.1 = k then (kv.1, v) else kv).1 = kv.1
      split <;> rfl
  · rw [if_neg h]
    refine .inr ⟨fun z => h ?_, ?_⟩
    · obtain ⟨kv, h1, h2⟩ := List.mem_map.mp z
      exact List.any_eq_true.mpr ⟨kv, h1, decide_eq_true h2⟩
    · rw [List.map_append]
      rfl
theorem merge_keys : ∀ (more acc : List (Key × V)), (acc.map (·.1)).Nodup → ((mergeK acc more).map (·.1)).Nodup ∧ (∀ k, k ∈ (mergeK acc more).map (·.1) ↔ (k ∈ acc.map (·.1) ∨ k ∈ more.map (·.1))) ∧ (mergeK acc more).length ≤ acc.length + more.length
  | [], acc, h => ⟨h, fun k => by simp [mergeK], Nat.le_refl _⟩
  | kv :: more, acc, h => by
    have e : mergeK acc (kv :: more) = mergeK (putK acc kv.1 kv.2) more := rfl
    rcases put_keys acc kv.1 kv.2 with ⟨hin, hk⟩ | ⟨hnot, hk⟩
    · obtain ⟨h1, h2, h3⟩ := merge_keys more (putK acc kv.1 kv.2) (by rw [hk]; exact h)
      rw [e]
      refine ⟨h1, fun k => ?_, ?_⟩
      · rw [h2, hk, List.map_cons, List.mem_cons]
        constructor
        · rintro (z | z)
          · exact .inl z
          · exact .inr (.inr z)
        · rintro (z | z | z)
          · exact .inl z
          · exact .inl (by rw [z]; exact hin)
          · exact .inr z
      · have := congrArg List.length hk
        rw [List.length_map, List.length_map] at this
        rw [List.length_cons]
        omega
    · obtain ⟨h1, h2, h3⟩ := merge_keys more (putK acc kv.1 kv.2) (by
        rw [hk]
        exact List.nodup_append.mpr ⟨h, by simp, fun a ha b hb z => hnot (by rw [← List.mem_singleton.mp hb, ← z]; exact ha)⟩)
      rw [e]
      refine ⟨h1, fun k => ?_, ?_⟩
      · rw [h2, hk, List.map_cons, List.mem_cons, List.mem_append, List.mem_singleton]
        constructor
        · rintro ((z | z) | z)
          · exact .inl z
          · exact .inr (.inl z)
          · exact .inr (.inr z)
        · rintro (z | z | z)
          · exact .inl (.inl z)
          · exact .inl (.inr z)
          · exact .inr z
      · have := congrArg List.length hk
        rw [List.length_map, List.length_append, List.length_map] at this
        have h4 : [kv.1].length = 1 := rfl
        rw [List.length_cons]
        omega
/-! ### choices: texts in a row -/
abbrev txS (l : List Nat) : Str := ⟨l.toArray⟩
theorem txS_inj {a b : List Nat} (h : txS a = txS b) : a = b := tx_inj (congrArg V.str h)
theorem txS_of (z : Str) : txS z.cps.toList = z := by
  cases z
  simp
structure OneOk (cols o : List Nat) : Prop where
  ne : o ≠ []
  sub : ∀ c ∈ o, c ∈ cols
  nd : o.Nodup
theorem OneOk.len {cols o : List Nat} (h : OneOk cols o) : o.length ≤ cols.length := nodup_sub_len h.nd h.sub
/-- what dict(..) and sorted(..) make of lists that were drawn -/
structure ChOk (cols : List Nat) (ch : List (List Nat)) : Prop where
  ok : ∀ o ∈ ch, OneOk cols o
  nd : ch.Nodup
  up : sortedS (ch.map txS) = true
theorem merge_choice {cols : List Nat} {os : List (List Nat)} (hos : ∀ o ∈ os, OneOk cols o) : ∃ ks : List Str, (mergeK [] (os.map fun o => ((Sum.inr (txS o) : Key), V.bl true))).map (·.1) = ks.map Sum.inr ∧ ks.length ≤ os.length ∧ ∀ ys : List Str, ys.Perm ks → sortedS ys = true → ∃ ch, ys = ch.map txS ∧ ChOk cols ch ∧ ch.length ≤ os.length := by
  obtain ⟨h1, h2, h3⟩ := merge_keys (os.map fun o => ((Sum.inr (txS o) : Key), V.bl true)) [] List.nodup_nil
  generalize mergeK [] (os.map fun o => ((Sum.inr (txS o) : Key), V.bl true)) = m at h1 h2 h3
  have hk : ∀ k ∈ m.map (·.1), ∃ o ∈ os, k = Sum.inr (txS o) := fun k h => by
    rcases (h2 k).mp h with z | z
    · cases z
    · rw [List.map_map] at z
      obtain ⟨o, ho, e⟩ := List.mem_map.mp z
      exact ⟨o, ho, e.symm⟩
  let f : Key → Str := fun k => match k with
    | Sum.inr z => z
    | Sum.inl _ => txS []
  have e1 : m.map (·.1) = ((m.map (·.1)).map f).map Sum.inr := by
    rw [List.map_map]
    conv => lhs; rw [← List.map_id (m.map (·.1))]
    refine List.map_congr_left fun k h => ?_
    obtain ⟨o, _, rfl⟩ := hk k h
    rfl
  have hl : ((m.map (·.1)).map f).length ≤ os.length := by
    rw [List.length_map, List.length_map]
    rw [List.length_map, List.length_nil, Nat.zero_add] at h3
    exact h3
  refine ⟨(m.map (·.1)).map f, e1, hl, fun ys hp hs => ⟨ys.map fun z => z.cps.toList, ?_, ⟨fun o ho => ?_, ?_, ?_⟩, ?_⟩⟩
  · rw [List.map_map]
    conv => lhs; rw [← List.map_id ys]
    exact List.map_congr_left fun z _ => (txS_of z).symm
  · obtain ⟨z, hz, rfl⟩ := List.mem_map.mp ho
    obtain ⟨k, hk2, e⟩ := List.mem_map.mp (hp.mem_iff.mp hz)
    obtain ⟨o, ho2, rfl⟩ := hk k hk2
    have e3 : z = txS o := e.symm
    rw [e3]
    show OneOk cols o.toArray.toList
    rw [show o.toArray.toList = o by simp]
    exact hos o ho2
  · have n1 : ys.Nodup := by
      refine hp.nodup_iff.mpr ?_
      rw [e1] at h1
      exact (List.pairwise_map.mp h1).imp fun h z => h (congrArg Sum.inr z)
    refine List.pairwise_map.mpr (n1.imp fun {a b} h z => h ?_)
    rw [← txS_of a, ← txS_of b, z]
  · rw [List.map_map]
    have : ys.map (txS ∘ fun z => z.cps.toList) = ys := by
      conv => rhs; rw [← List.map_id ys]
      exact List.map_congr_left fun z _ => txS_of z
    rw [this]
    exact hs
  · rw [List.length_map, hp.length_eq]
    exact hl
/-! ### prices -/
def priceM (cols : List Nat) (rows : List (List Int)) (o : List Nat) (es : List (Nat × Int)) (rc : Option (Nat × Int × Int)) : Int := (behindM cols rows o es rc : Int) - (aheadM cols rows o es rc : Int) + 1
def priceByM (cols : List Nat) (rows : List (List Int)) (ov : Option (List Nat)) (es : List (Nat × Int)) (rc : Option (Nat × Int × Int)) : Int := match ov with
  | none => (rows.length : Int)
  | some o => priceM cols rows o es rc
def oV : Option (List Nat) → V
  | none => .non
  | some o => tx o
end My

set_option Elab.async false
set_option linter.all false
set_option maxRecDepth 100000
set_option maxHeartbeats 2000000
namespace My
open PySem PySem.Spec PyProof.Rows L2
/-! ### drawn lists, each with True -/
def chD (o : List Nat) : PyData := .tuple [.str (txS o), .bool true]
theorem ch_pairs {K : PySem.W.Frag} {H : Hp} : ∀ {os : List (List Nat)} {vs : List V}, FzA H vs (os.map chD) → ∃ ps : List Addr, vs = ps.map V.ref ∧ Paired (fun p kv => SqT K H p [kV kv.1, kv.2]) ps (os.map fun o => ((Sum.inr (txS o) : Key), V.bl true))
  | [], _, .nil => ⟨[], rfl, .nil⟩
  | o :: os, _, .cons a r => by
    obtain ⟨p, xs, rfl, hp, f⟩ := Fz.open (ds := [.str (txS o), .bool true]) a
    obtain ⟨x, y, rfl, fx, fy⟩ := f.two
    obtain ⟨ps, rfl, hps⟩ := ch_pairs (K := K) (os := os) r
    have ey : y = .bl true := by
      cases fy
      rfl
    rw [fx.isStr, ey] at hp
    exact ⟨p :: ps, rfl, .cons (.inl (.inl hp)) hps⟩
theorem ch_tx (ch : List (List Nat)) : (ch.map txS).map V.str = ch.map tx := by
  rw [List.map_map]
  rfl
theorem one_ok {cols one rest : List Nat} (hc : cols.Nodup) (hp : (rest ++ one).Perm cols) (h0 : 0 < one.length) : OneOk cols one :=
  ⟨fun e => by rw [e] at h0; exact Nat.lt_irrefl _ h0, fun c h => hp.mem_iff.mp (List.mem_append_right _ h), (List.nodup_append.mp (hp.nodup_iff.mpr hc)).2.1⟩
end My

set_option Elab.async false
set_option linter.all false
set_option maxRecDepth 100000
set_option maxHeartbeats 2000000
namespace My
open PySem PySem.Spec PyProof.Rows L2
/-! ### sorted again -/
/-! ### rows of lists of numbers -/
def lsD (ns : List Int) : PyData := .list (ns.map PyData.int)
mutual
theorem Ft.dp {K : PySem.W.Frag} {H : Hp} : ∀ (d : PyData) (v : V), Ft H v d → Dp K H v d
  | .none, _, .non => .non
  | .bool _, _, .bl b => .bl b
  | .int _, _, .int i => .int i
  | .str _, _, .str z => .str z
  | .list ds, _, .lst h a => .lst (.inl (.inl h)) (FtA.dp ds _ a)
  | .tuple ds, _, .tup h a => .tup (.inl (.inl h)) (FtA.dp ds _ a)
theorem FtA.dp {K : PySem.W.Frag} {H : Hp} : ∀ (ds : List PyData) (vs : List V), FtA H vs ds → DpAll K H vs ds
  | [], _, .nil => .nil
  | d :: ds, _, .cons h a => .cons (Ft.dp d _ h) (FtA.dp ds _ a)
end
theorem FtA.snoc {H : Hp} : ∀ {vs : List V} {ds : List PyData} {v : V} {d : PyData}, FtA H vs ds → Ft H v d → FtA H (vs ++ [v]) (ds ++ [d])
  | _, _, _, _, .nil, h => .cons h .nil
  | _, _, _, _, .cons a r, h => .cons a (r.snoc h)
theorem eqv_lss : ∀ ks : List (List Int), PyData.eqv (.list (ks.map lsD)) (.list (ks.map lsD)) = true := by
  intro ks
  show PyData.eqvAll (ks.map lsD) (ks.map lsD) = true
  induction ks with
  | nil => rfl
  | cons k ks ih =>
    show (PyData.eqv (lsD k) (lsD k) && PyData.eqvAll (ks.map lsD) (ks.map lsD)) = true
    rw [ih, Bool.and_true]
    exact eqv_ints k
theorem shaped_lss (ks : List (List Int)) : SeqAt.shaped (.list (ks.map lsD)) = true := by
  have e1 : PyData.canLayAll0 (ks.map lsD) = true := by
    induction ks with
    | nil => rfl
    | cons k ks ih =>
      show (PyData.canLay0 (lsD k) && PyData.canLayAll0 (ks.map lsD)) = true
      rw [ih, Bool.and_true]
      exact can_ints k
  have e2 : PyData.depthAll (ks.map lsD) ≤ 1 := by
    clear e1
    induction ks with
    | nil => exact Nat.zero_le _
    | cons k ks ih =>
      show max (PyData.depth (lsD k)) (PyData.depthAll (ks.map lsD)) ≤ 1
      have : PyData.depth (lsD k) = 1 := dep_ints k
      omega
  unfold SeqAt.shaped
  show (PyData.canLayAll0 (ks.map lsD) && decide (PyData.depthAll (ks.map lsD) + 1 ≤ 64)) = true
  rw [e1, decide_eq_true (by omega)]
  rfl
end My
namespace My
open PySem PySem.Spec PyProof.Rows L2
end My

set_option Elab.async false
set_option linter.all false
set_option maxRecDepth 100000
set_option maxHeartbeats 2000000
namespace My
open PySem PySem.Spec PyProof.Rows L2
/-! ### generator expressions whose element calls defs -/
section
variable {X : Cx} {pins : List (Addr × Obj)} {σ : L2.St} {H : Hp} {s : Shared}
/-- what its consumer wrote at S while it slept -/
theorem woke {S : Addr} {o o' : Obj} {pins0 : List (Addr × Obj)} {s' : Shared} (I : Inv X ((S, o) :: pins0) σ H s) (h0 : X.s_0.heap.objs.size ≤ S) (hc : ∀ x c, X.env.cells.lookup x = some c → c ≠ S) (hpn : ∀ p ∈ X.pn ++ pins0, p.1 ≠ S)
    (os : s'.os = s.os) (bare : AllBare s'.gens) (keep : ∀ b u, b ≠ S → s.heap.get? b = some u → s'.heap.get? b = some u) (own : s'.heap.get? S = some o') (hd : ∀ v, o'.data ≠ .cell v) : Inv X ((S, o') :: pins0) σ H s' := by
  obtain ⟨p1, p2, p3, p4, p5⟩ := I.pin (S, o) (List.mem_append_right _ List.mem_cons_self)
  have I0 : Inv X pins0 σ H s := I.pins_of fun p hp => I.pin p (List.mem_append_right _ (List.mem_cons_of_mem _ hp))
  have J : Inv X pins0 σ H { s with heap := s'.heap, toks := s.toks } := I0.turned (t' := s.toks) keep p2 p3 (.inr h0) hc hpn
  have J2 : Inv X pins0 σ H s' := J.call' (ch := []) os (Un.kept fun b o e => e) J.hok bare (fun b hb => absurd hb (by simp))
  refine J2.pins_of fun p hp => ?_
  rcases List.mem_cons.mp hp with z | z
  · rw [z]
    exact ⟨own, p2, p3, p4, hd⟩
  · exact J2.pin p (List.mem_append_right _ z)
end
end My

set_option Elab.async false
set_option linter.all false
set_option maxRecDepth 100000
set_option maxHeartbeats 2000000
namespace My
open PySem PySem.Spec PyProof.Rows L2
/-! ### data that lies away from some places -/
def hidS (L : List Addr) (H : Hp) : Hp := fun b => if b ∈ L then none else H b
theorem hid_some {L : List Addr} {H : Hp} {b : Addr} {o : HO} : hidS L H b = some o ↔ b ∉ L ∧ H b = some o := by
  unfold hidS
  split
  · rename_i h
    exact ⟨(fun z => nomatch z), (fun z => absurd h z.1)⟩
  · rename_i h
    exact ⟨fun z => ⟨h, z⟩, fun z => z.2⟩
abbrev Fl (L : List Addr) (H : Hp) (v : V) (d : PyData) : Prop := Ft (hidS L H) v d
abbrev FlA (L : List Addr) (H : Hp) (vs : List V) (ds : List PyData) : Prop := FtA (hidS L H) vs ds
theorem hid_same {L : List Addr} {H : Hp} : Same (hidS L H) H := fun _ _ e => (hid_some.mp e).2
theorem hid_keep {L : List Addr} {H H' : Hp} (k : ∀ b o, b ∉ L → H b = some o → H' b = some o) : Same (hidS L H) (hidS L H') := fun b o e => hid_some.mpr ⟨(hid_some.mp e).1, k b o (hid_some.mp e).1 (hid_some.mp e).2⟩
theorem hid_sub {L L' : List Addr} {H : Hp} (h : ∀ b ∈ L', b ∈ L) : Same (hidS L H) (hidS L' H) := fun b o e => hid_some.mpr ⟨fun z => (hid_some.mp e).1 (h b z), (hid_some.mp e).2⟩
theorem Fl.to {L : List Addr} {H : Hp} {v : V} {d : PyData} (h : Fl L H v d) : Ft H v d := Ft.mono hid_same _ _ h
theorem FlA.to {L : List Addr} {H : Hp} {vs : List V} {ds : List PyData} (h : FlA L H vs ds) : FtA H vs ds := FtA.mono hid_same _ _ h
theorem Fl.keep {L : List Addr} {H H' : Hp} {v : V} {d : PyData} (h : Fl L H v d) (k : ∀ b o, b ∉ L → H b = some o → H' b = some o) : Fl L H' v d := Ft.mono (hid_keep k) _ _ h
theorem FlA.keep {L : List Addr} {H H' : Hp} {vs : List V} {ds : List PyData} (h : FlA L H vs ds) (k : ∀ b o, b ∉ L → H b = some o → H' b = some o) : FlA L H' vs ds := FtA.mono (hid_keep k) _ _ h
theorem Fl.sub {L L' : List Addr} {H : Hp} {v : V} {d : PyData} (h : Fl L H v d) (hs : ∀ b ∈ L', b ∈ L) : Fl L' H v d := Ft.mono (hid_sub hs) _ _ h
theorem FlA.sub {L L' : List Addr} {H : Hp} {vs : List V} {ds : List PyData} (h : FlA L H vs ds) (hs : ∀ b ∈ L', b ∈ L) : FlA L' H vs ds := FtA.mono (hid_sub hs) _ _ h
theorem Fl.same {L : List Addr} {H H' : Hp} {v : V} {d : PyData} (h : Fl L H v d) (k : Same H H') : Fl L H' v d := h.keep fun b o _ e => k b o e
theorem FlA.same {L : List Addr} {H H' : Hp} {vs : List V} {ds : List PyData} (h : FlA L H vs ds) (k : Same H H') : FlA L H' vs ds := h.keep fun b o _ e => k b o e
theorem Fl.sx {Ps L : List Addr} {H H' : Hp} {v : V} {d : PyData} (h : Fl L H v d) (k : Sx Ps H H') (hs : ∀ b ∈ Ps, b ∈ L) : Fl L H' v d := h.keep fun b o nb e => k b o (fun z => nb (hs b z)) e
theorem FlA.sx {Ps L : List Addr} {H H' : Hp} {vs : List V} {ds : List PyData} (h : FlA L H vs ds) (k : Sx Ps H H') (hs : ∀ b ∈ Ps, b ∈ L) : FlA L H' vs ds := h.keep fun b o nb e => k b o (fun z => nb (hs b z)) e
theorem Fl.kp {r : Addr} {L : List Addr} {H H' : Hp} {v : V} {d : PyData} (h : Fl L H v d) (k : Kp r H H') (hs : r ∈ L) : Fl L H' v d := h.keep fun b o nb e => k b o (fun z => nb (z ▸ hs)) e
theorem FlA.kp {r : Addr} {L : List Addr} {H H' : Hp} {vs : List V} {ds : List PyData} (h : FlA L H vs ds) (k : Kp r H H') (hs : r ∈ L) : FlA L H' vs ds := h.keep fun b o nb e => k b o (fun z => nb (z ▸ hs)) e
theorem Fl.tup {L : List Addr} {H : Hp} {p : Addr} {xs : List V} {ds : List PyData} (n : p ∉ L) (h : H p = some (.tup xs)) (a : FlA L H xs ds) : Fl L H (.ref p) (.tuple ds) := Ft.tup (hid_some.mpr ⟨n, h⟩) a
theorem Fl.lst {L : List Addr} {H : Hp} {p : Addr} {xs : List V} {ds : List PyData} (n : p ∉ L) (h : H p = some (.lst xs)) (a : FlA L H xs ds) : Fl L H (.ref p) (.list ds) := Ft.lst (hid_some.mpr ⟨n, h⟩) a
theorem Fl.newL {L : List Addr} {H : Hp} {p : Addr} {xs : List V} {ds : List PyData} (n : p ∉ L) (np : H p = none) (a : FlA L H xs ds) : Fl L (upd H p (.lst xs)) (.ref p) (.list ds) := Fl.lst n upd_same (a.same (Same.new (Same.refl H) np))
theorem Fl.isStr {L : List Addr} {H : Hp} {v : V} {z : Str} (h : Fl L H v (.str z)) : v = .str z := by
  cases h
  rfl
theorem Fl.isInt {L : List Addr} {H : Hp} {v : V} {i : Int} (h : Fl L H v (.int i)) : v = .int i := by
  cases h
  rfl
theorem FlA.one {L : List Addr} {H : Hp} {vs : List V} {a : PyData} (h : FlA L H vs [a]) : ∃ x, vs = [x] ∧ Fl L H x a := by
  cases h with
  | cons f g =>
    cases g
    exact ⟨_, rfl, f⟩
theorem FlA.two {L : List Addr} {H : Hp} {vs : List V} {a b : PyData} (h : FlA L H vs [a, b]) : ∃ x y, vs = [x, y] ∧ Fl L H x a ∧ Fl L H y b := by
  cases h with
  | cons f g =>
    obtain ⟨y, rfl, fy⟩ := FlA.one g
    exact ⟨_, y, rfl, f, fy⟩
theorem FlA.three {L : List Addr} {H : Hp} {vs : List V} {a b c : PyData} (h : FlA L H vs [a, b, c]) : ∃ x y z, vs = [x, y, z] ∧ Fl L H x a ∧ Fl L H y b ∧ Fl L H z c := by
  cases h with
  | cons f g =>
    obtain ⟨y, z, rfl, fy, fz⟩ := FlA.two g
    exact ⟨_, y, z, rfl, f, fy, fz⟩
theorem FlA.at {L : List Addr} {H : Hp} {vs : List V} {ds : List PyData} (h : FlA L H vs ds) {i : Int} (h0 : 0 ≤ i) (h1 : i < ds.length) : ∃ v d, atI vs i = some v ∧ ds[i.toNat]? = some d ∧ Fl L H v d := by
  have hl := FtA.len h
  have hi : i.toNat < vs.length := by omega
  obtain ⟨d, e, f⟩ := FtA.getV h (List.getElem?_eq_getElem hi)
  refine ⟨_, d, ?_, e, f⟩
  have e2 := atI_nat (List.getElem?_eq_getElem hi)
  rw [show ((i.toNat : Nat) : Int) = i by omega] at e2
  exact e2
theorem FlA.app {L : List Addr} {H : Hp} : ∀ {vs us : List V} {ds es : List PyData}, FlA L H vs ds → FlA L H us es → FlA L H (vs ++ us) (ds ++ es)
  | _, _, _, _, .nil, h => h
  | _, _, _, _, .cons a r, h => .cons a (FlA.app r h)
theorem FlA.take {L : List Addr} {H : Hp} : ∀ (n : Nat) {vs : List V} {ds : List PyData}, FlA L H vs ds → FlA L H (vs.take n) (ds.take n)
  | 0, _, _, _ => .nil
  | _ + 1, _, _, .nil => .nil
  | n + 1, _, _, .cons a r => .cons a (FlA.take n r)
theorem FlA.drop {L : List Addr} {H : Hp} : ∀ (n : Nat) {vs : List V} {ds : List PyData}, FlA L H vs ds → FlA L H (vs.drop n) (ds.drop n)
  | 0, _, _, h => h
  | _ + 1, _, _, .nil => .nil
  | n + 1, _, _, .cons _ r => FlA.drop n r
/-! ### what isinstance tells of data, more -/
/-! ### questions, of any data -/
end My
namespace My
open PySem PySem.Spec PyProof.Rows L2
end My

set_option Elab.async false
set_option linter.all false
set_option maxRecDepth 100000
set_option maxHeartbeats 2000000
namespace My
open PySem PySem.Spec PyProof.Rows L2
/-! ### needs, one ahead of the other -/
abbrev Nd2 := List Nat × List Nat
/-! whether one list may serve both -/
/-! ### pairs, one right ahead of the other -/
end My

set_option Elab.async false
set_option linter.all false
set_option maxRecDepth 100000
set_option maxHeartbeats 2000000
namespace My
open PySem PySem.Spec PyProof.Rows L2
/-! ### as many needs apart as there are chains -/
/-! ### chains -/
/-! ### a list for a chain -/
def addL (one : List Nat) (ls : List Nat) : List Nat := ls.foldl (fun o c => if c ∈ o then o else o ++ [c]) one
def lstM (ch : List Nd2) : List Nat := ch.foldl (fun o p => addL o (p.1 ++ p.2)) []
end My

set_option Elab.async false
set_option linter.all false
set_option maxRecDepth 100000
set_option maxHeartbeats 2000000
namespace My
open PySem PySem.Spec PyProof.Rows L2
section
variable {X : Cx}
theorem vals_at : ∀ {kvs : List (Key × V)} {vs : List (Key × Value)} {us : List Value}, KV kvs vs → us = vs.map (·.2) → Vals (kvs.map (·.2)) us
  | _, _, _, .nil, e => by
    subst e
    exact .nil
  | _, _, _, .cons h t, e => by
    subst e
    exact .cons h.2 (vals_at t rfl)
end
/-! ### tuple(ys[x] for x in list of places) -/
section
variable {X : Cx} {pins : List (Addr × Obj)} {σ : L2.St}
end
end My

set_option Elab.async false
set_option linter.all false
set_option maxRecDepth 100000
set_option maxHeartbeats 2000000
namespace My
open PySem PySem.Spec PyProof.Rows L2
/-! ### needs in a list; what stays -/
def Off (L : List Addr) (H : Hp) : Prop := ∀ b xs, (H b = some (.tup xs) ∨ H b = some (.lst xs)) → b ∉ L
theorem Off.nil {H : Hp} : Off [] H := fun b xs _ h => nomatch h
theorem Off.cons {L : List Addr} {H : Hp} {a : Addr} {kvs : List (Key × V)} (o : Off L H) (h : H a = some (.dK kvs)) : Off (a :: L) H := fun b xs hb hm => by
  rcases List.mem_cons.mp hm with e | e
  · rw [e, h] at hb
    rcases hb with z | z <;> cases z
  · exact o b xs hb e
theorem TG.off {Ps : List Addr} {H : Hp} (t : TG Ps H) : Off Ps H := fun b xs h => by
  rcases h with h | h
  · exact t.not h fun q z => nomatch z
  · exact t.not h fun q z => nomatch z
theorem Sx.more {L L' : List Addr} {H H' : Hp} (s : Sx L H H') (h : ∀ b ∈ L, b ∈ L') : Sx L' H H' := fun b o nb e => s b o (fun z => nb (h b z)) e
theorem Sx.cons {L : List Addr} {H H' : Hp} (s : Sx L H H') (a : Addr) : Sx (a :: L) H H' := s.more fun b h => List.mem_cons_of_mem _ h
theorem Sx.updL {L : List Addr} {H H1 : Hp} {a : Addr} {o : HO} (s : Sx (a :: L) H H1) : Sx (a :: L) H (upd H1 a o) := fun b x nb e => keep_ne (s b x nb e) fun z => nb (by rw [z]; exact List.mem_cons_self)
theorem TG.upd {Ps : List Addr} {H : Hp} {a : Addr} {o : HO} (t : TG Ps H) (h : a ∉ Ps) : TG Ps (L2.upd H a o) := fun P hP => by
  obtain ⟨ps, h1, r⟩ := t P hP
  exact ⟨ps, keep_ne h1 fun z => h (z ▸ hP), r⟩
end My

set_option Elab.async false
set_option linter.all false
set_option maxRecDepth 100000
set_option maxHeartbeats 2000000
namespace My
open PySem PySem.Spec PyProof.Rows L2
/-! ### chains -/
/-! ### the first of like ones -/
def ixN (p : Nd2) : List Nd2 → Nat
  | [] => 0
  | q :: l => if q = p then 0 else ixN p l + 1
/-! ### the fewest lists -/
/-! ### the list for a chain, bounds -/
end My

set_option Elab.async false
set_option linter.all false
set_option maxRecDepth 100000
set_option maxHeartbeats 2000000
namespace My
open PySem PySem.Spec PyProof.Rows L2
abbrev nV (a : Nat) : V := .int (a : Int)
end My

set_option Elab.async false
set_option linter.all false
set_option maxRecDepth 100000
set_option maxHeartbeats 2000000
namespace My
open PySem PySem.Spec PyProof.Rows L2
/-! ### a turn of zip while its last tuple is still out -/
/-- all but these stay -/
def But (L : List Addr) (g h : Heap) : Prop := ∀ c o, c ∉ L → g.get? c = some o → h.get? c = some o
theorem But.then {L : List Addr} {g h k : Heap} (a : But L g h) (b : But L h k) : But L g k := fun c o n e => b c o n (a c o n e)
theorem But.one {L : List Addr} {g h : Heap} {x : Addr} (hx : x ∈ L) (e : Heap.ExtBut x g h) : But L g h := fun c o n q => e c o (fun z => n (z ▸ hx)) q
theorem But.push {L : List Addr} {g h : Heap} {ob : Obj} (a : But L g h) : But L g (h.push ob) := fun c o n q => Heap.get?_push_of_some _ (a c o n q)
section
variable {prog : Program} {w : World} {A : Around} {E : Value → Shared → Prop} {s : Shared} {z TI TO T i1 i2 : Addr} {fp1 fp2 : List Addr} {n1 n2 i : Nat} {P1 P2 : Nat → Value → Prop} {St1 St2 : Nat → Heap → Prop} {f : Bool} {oT : Obj}
end
/-! ### zip of two texts, walked while a dict is filled -/
/-- the five cells of zip(x, y) -/
structure ZC where
  z : Addr
  TI : Addr
  TO : Addr
  a : Addr
  b : Addr
section
variable {prog : Program} {w : World} {Z : ZC} {d : Addr} {x y : Str} {t u : Tok} {i : Nat}
end
end My

set_option Elab.async false
set_option linter.all false
set_option maxRecDepth 100000
set_option maxHeartbeats 2000000
namespace My
open PySem PySem.Spec PyProof.Rows L2
/-! ### dict(zip(text, text)) -/
section
variable {X : Cx} {prog : Program} {w : World}
/-- dict(pairs) where the values are told but for their marks -/
theorem call_dict_loose {A : Around} {E : Value → Shared → Prop} {s : Shared} {T : String} {a : Addr} {fp wr : List Addr} {n : Nat} {Rel : Nat → Value → Value → Prop} {OK : Heap → Prop} {kvs : List (Key × V)} {Q : Value → Shared → Prop} (P : PairArg prog w T a fp wr n Rel OK) (hh : A.handled = none) (ok : OK s.heap)
    (hn : kvs.length = n) (hc : ∀ i key v, Rel i key v → ∃ k x, kvs[i]? = some (k, x) ∧ keyIs k key = true ∧ RelV x v) (hsz : n ≤ sizeLine)
    (h : ∀ h' tk vs, KV kvs vs → h'.DictOf (mixKind prog w) s.heap.objs.size (merged [] vs) → But wr s.heap h' → Q (.ref s.heap.objs.size) { s with heap := h', toks := tk }) :
    wpAny (model prog w) A (call (.type "dict") [.ref a]) Q E s := by
  -- behind i pairs: a dict of pairs that go with the first i of kvs
  let Tab : Nat → Heap → Prop := fun i g => ∃ vs, KV (kvs.take i) vs ∧ g.DictOf (mixKind prog w) s.heap.objs.size (merged [] vs)
  refine call_dict_arg P ok fun s1 e1 away ok1 => ?_
  cases e1
  have tab0 : Tab 0 (s.heap.push { cls := .type "dict", data := .dict #[] }) := ⟨[], by rw [List.take_zero]; exact .nil, Heap.DictOf.new s.heap⟩
  refine updateFrom_arg (A := A.in1) (Tab := Tab) P .none hh ok1 away tab0 (fun _ _ z => z.elim fun _ q => q.2.lt_size) (fun i g g' wr' off _ z k => ?_) (fun i key v s2 Q2 E2 hi hrel z _ q2 => ?_) (fun g tk z k => ?_)
  · obtain ⟨vs, kv, dd⟩ := z
    exact ⟨vs, kv, dd.at' fun o e => k _ o off e⟩
  · obtain ⟨vs, kv, dd⟩ := z
    obtain ⟨k, x, hk, his, hr⟩ := hc i key v hrel
    have e1 := Paired.length kv
    have e2 := merged_length [] vs
    rw [List.length_take] at e1
    rw [List.length_nil] at e2
    have more : merged [] (vs ++ [(k, v)]) = stored (merged [] vs) k v := by simp only [merged, List.foldl_append, List.foldl_cons, List.foldl_nil]
    refine wpAny_dictSet_pairs (hsz := by omega) his dd fun g' dd' same => q2 g' _ ⟨vs ++ [(k, v)], ?_, by rw [more]; exact dd'⟩ same
    rw [List.take_add_one, hk]
    exact Paired.snoc kv ⟨rfl, hr⟩
  · obtain ⟨vs, kv, dd⟩ := z
    rw [List.take_of_length_le (Nat.le_of_eq hn)] at kv
    exact ⟨rfl, h g tk vs kv dd fun c o hw e => k c o (Nat.ne_of_lt (Heap.lt_size e)) hw (Heap.get?_push_of_some _ e)⟩
end
end My

set_option Elab.async false
set_option linter.all false
set_option maxRecDepth 100000
set_option maxHeartbeats 2000000
namespace My
open PySem PySem.Spec PyProof.Rows L2
open NdefX (NF NScope Caps ncx startF slotAt cells_of inv_startN)
/-! ### a lambda of one parameter, called by a built-in that the frame X called -/
section
variable {X : Cx} {pins : List (Addr × Obj)} {σ : L2.St} {H : Hp} {s : Shared}
/-- the lambda as a made function: its frame is that of a nested def without statements -/
abbrev lamF (X : Cx) (params : Arguments) (scope : Scope) (c' : Addr) : NF := ⟨"<lambda>", X.env.qual ++ "<lambda>", params, [], scope, cloFrom X.env.cells scope.names [], c'⟩
abbrev lamX (X : Cx) (N : List Str) (params : Arguments) (scope : Scope) (f c' : Addr) (A : Around) (s : Shared) (H : Hp) : Cx := ncx CX0 X.prog X.w X.K X.mg X.base N (lamF X params scope c') f A X.stack s H E0
/-- what is told of a lambda's text: N its names (its parameter x, then the captured ones, then others), js where the frame X has the captured ones -/
structure LamT (X : Cx) (N : List Str) (x : Str) (fr : List Str) (js : List Nat) (params : Arguments) (scope : Scope) (body : Expr) : Prop where
  names : NScope N [x] fr scope
  free : ∀ y ∈ scope.names, y.2 = .free → X.env.scope.names.lookup y.1 = some .cell ∨ X.env.scope.names.lookup y.1 = some .free
  caps : ∀ y ∈ fr, (y, NameKind.free) ∈ scope.names
  slots : js.map (fun j => X.N[j]?) = fr.map some
  bind : ∀ (pm ctv u : Value) (c' : Addr), bindArgs (PySem.W.kla_fn "<lambda>" (X.env.qual ++ "<lambda>") params body scope (cloFrom X.env.cells scope.names []) pm (.ref c') ctv) ⟨[u], []⟩ = pure [(x, u)]
theorem lam_call1 {A : Around} {N fr : List Str} {js : List Nat} {params : Arguments} {body : Expr} {scope : Scope} {x : Str} {f c' : Addr} {pm ctv u : Value} {vx : V} {k : Nat} {tb : TE} {Q : VK} {E : Value → Shared → Prop} (I : Inv X pins σ H s) (L : LamT X N x fr js params scope body) (hA : A.frames = some X.stack) (hr : Room (k + 1) A)
    (hf : s.heap.get? f = some (PySem.W.kla_obj "<lambda>" (X.env.qual ++ "<lambda>") params body scope (cloFrom X.env.cells scope.names []) pm c' ctv)) (hc : H c' = some (LamX.CodeO c' (X.env.qual ++ "<lambda>"))) (ru : RelV vx u)
    (hbody : Room k (lamX X N params scope f c' A s H).A → PE (lamX X N params scope f c' A s H) body tb) (ht : tb (startF N [vx] (js.map (slotAt σ))) H Q) :
    wpAny (model X.prog X.w) A (call (.ref f) [u]) (fun r s' => EP X pins σ Q r s') E s := by
  have at0 : Env0 X.prog X.w X.K X.mg X.base A X.stack s H := { I.env0 with frames := hA }
  have caps := cells_of I (Caps.made I.ok L.free L.caps L.slots)
  have ran : codeAny (model X.prog X.w) A (.call (.ref f) ⟨[u], []⟩) (CR CX0 X.stack X.prog X.w H s Q E0) s := by
    refine PySem.W.kla_callFunE hr.depth hf rfl L.names.co L.names.gen rfl (NdefX.codeO_at I.hok hc) ?_
    rw [L.bind]
    refine wpAny_pure (wpAny_newFunctionEnv L.names.nocell (fun y hy => L.names.par y.1 ?_) (fun g ns same => ⟨I.nolimit.fresh _ same, ?_⟩) L.names.kind)
    · rw [List.mem_singleton.mp hy]
      exact List.mem_cons_self
    · have start := inv_startN (CX := CX0) (F := lamF X params scope c') (f := f) (E := E0) (h₁ := g) (tk := s.toks + 1) (us := [u]) L.names hr.hd at0 rfl (.cons ru .nil) caps ns fun b o e => same.extBut b o (Nat.ne_of_lt (Heap.lt_size e)) (Heap.get?_push_of_some _ e)
      refine PySem.W.kla_codeExpr (wpAny_mono ((hbody (hr.deeper _)).run [] _ _ H Q start ht) (fun v s' z => ?_) fun e s' z => z)
      obtain ⟨y, H', J, ry, q⟩ := z
      exact ⟨y, H', J.os, J.bare, J.base, J.hok, ry, q⟩
  refine wpAny_call (codeAny_mono ran fun r s' z => ?_)
  match r, z with
  | .ok (.ret v), z => exact I.after z
end
end My

set_option Elab.async false
set_option linter.all false
set_option maxRecDepth 100000
set_option maxHeartbeats 2000000
namespace My
open PySem PySem.Spec PyProof.Rows L2
/-! ### min(list, key=function): the first item whose key is least -/
/-- the frame X while a built-in that it called runs; nothing is let out -/
abbrev inB (X : Cx) : Cx := { X with A := X.A.in1, xe := fun _ _ => False }
section
variable {X : Cx} {pins : List (Addr × Obj)} {σ : L2.St} {H : Hp} {s : Shared}
theorem toB (I : Inv X pins σ H s) : Inv (inB X) pins σ H s :=
  { I with ok := { I.ok with hd := fun h => I.ok.hd h, frames := I.ok.frames } }
theorem ofB (k : X.Ok) (I : Inv (inB X) pins σ H s) : Inv X pins σ H s := { I with ok := k }
end
/-- calls of the value fv with one argument, made by a built-in -/
def KeyR (Y : Cx) (pn : List (Addr × Obj)) (σ : L2.St) (fv : Value) (kr : V → Hp → VK → Prop) : Prop :=
  ∀ (s : Shared) (H : Hp) (x : V) (u : Value) (Q : VK) (E : Value → Shared → Prop), Inv Y pn σ H s → RelV x u → kr x H Q → wpAny (model Y.prog Y.w) Y.A (call fv [u]) (EP Y pn σ Q) E s
/-- the list that min keeps: the best item and its key -/
abbrev bestO (items : Array Value) (c : Nat) : Obj := { cls := .type "list", dict := none, data := .seq items c, slots := #[] }
/-- an address of min's own -/
structure Mine (Y : Cx) (pn : List (Addr × Obj)) (S : Addr) : Prop where
  late : Y.s_0.heap.objs.size ≤ S
  cell : ∀ x c, Y.env.cells.lookup x = some c → c ≠ S
  pins : ∀ p ∈ Y.pn ++ pn, p.1 ≠ S
/-- between two turns: i items of the list at a are out of the iterator it -/
structure Best (Y : Cx) (pn : List (Addr × Obj)) (σ : L2.St) (a it S : Addr) (items : Array Value) (c i : Nat) (H : Hp) (s : Shared) : Prop where
  inv : Inv Y ((S, bestO items c) :: pn) σ H s
  iter : s.heap.IsListIter it a i
  out : FpOk Y ((S, bestO items c) :: pn) H it
section
variable {Y : Cx} {pn : List (Addr × Obj)} {σ : L2.St} {a it S : Addr} {items : Array Value} {c i : Nat} {H : Hp} {s : Shared}
theorem Best.own (B : Best Y pn σ a it S items c i H s) : s.heap.get? S = some (bestO items c) := (B.inv.pin _ (List.mem_append_right _ List.mem_cons_self)).1
/-- the iterator gives the next item: it is pinned from now on -/
theorem Best.next {xs : List V} {x : V} {Q : Option Value → Shared → Prop} {E : Value → Shared → Prop} (B : Best Y pn σ a it S items c i H s) (hq : SqL Y.K H a xs) (hx : xs[i]? = some x)
    (k : ∀ (u : Value) (o : Obj) (s' : Shared), RelV x u → (∀ h : Heap, h.get? it = some o → h.IsListIter it a (i + 1)) → Inv Y ((it, o) :: (S, bestO items c) :: pn) σ H s' → Q (some u) s') : wpAny (model Y.prog Y.w) Y.A (pyNext (.ref it)) Q E s := by
  obtain ⟨its, vals, l, _⟩ := B.inv.list hq
  obtain ⟨u, hu, ru⟩ := vals.get hx
  refine wpAny_pyNext_list_item B.iter l.isList (x := u) (by simpa using hu) fun h' it' sb => ?_
  have J := past (t' := s.toks) B.inv B.out fun b u ne e => (sb.2 b ne).trans e
  obtain ⟨o, e, cls, d⟩ := id it'
  refine k u o _ ru (fun h e' => it'.at fun o2 e2 => ?_) (J.pins_of fun p hp => ?_)
  · rw [e] at e2
    exact e'.trans e2
  · rcases List.mem_cons.mp hp with z | z
    · rw [z]
      exact ⟨e, B.out.1, B.out.2.1, B.out.2.2.1, fun v q => by rw [d] at q; cases q⟩
    · exact J.pin p (List.mem_append_right _ z)
/-- a turn is over -/
theorem Best.turned {o : Obj} {items' : Array Value} {c' : Nat} {H' : Hp} {s' s'' : Shared} (m : Mine Y pn S) (ne : S ≠ it) (B : Best Y pn σ a it S items c i H s) (ito : ∀ h : Heap, h.get? it = some o → h.IsListIter it a (i + 1)) (I : Inv Y ((it, o) :: (S, bestO items c) :: pn) σ H' s')
    (os : s''.os = s'.os) (bare : AllBare s''.gens) (kp : ∀ b u, b ≠ S → s'.heap.get? b = some u → s''.heap.get? b = some u) (own : s''.heap.get? S = some (bestO items' c')) : Best Y pn σ a it S items' c' (i + 1) H' s'' := by
  obtain ⟨e, n, _⟩ := I.pin (it, o) (List.mem_append_right _ List.mem_cons_self)
  have I1 : Inv Y ((S, bestO items c) :: pn) σ H' s' := I.pins_of fun p hp => I.pin p (List.mem_append_right _ (List.mem_cons_of_mem _ hp))
  refine ⟨woke I1 m.late m.cell m.pins os bare kp own (fun v z => nomatch z), ito _ (kp it o ne.symm e), n, B.out.2.1, B.out.2.2.1, B.out.2.2.2.1, B.out.2.2.2.2.1, fun p hp => ?_⟩
  rcases List.mem_append.mp hp with z | z
  · exact B.out.2.2.2.2.2 p (List.mem_append_left _ z)
  · rcases List.mem_cons.mp z with q | q
    · rw [q]
      exact ne
    · exact B.out.2.2.2.2.2 p (List.mem_append_right _ (List.mem_cons_of_mem _ q))
end
section
variable {Y : Cx} {A : Around} {pn : List (Addr × Obj)} {σ : L2.St} {a it S f : Addr} {xs : List V} {kr : V → Hp → VK → Prop} {r : R2} {W : Nat → V → V → Hp → Prop}
theorem min_turns (hA : A.in1 = Y.A) (hc : Y.calm = true) (hxe : ∀ e s, Y.xe e s → False) (m : Mine Y pn S) (ne : S ≠ it) (key : ∀ o o', KeyR Y ((it, o) :: (S, o') :: pn) σ (.ref f) kr) (ord : OpR Y (compareOp .Lt) r)
    (hl : ∀ i b k H, W i b k H → SqL Y.K H a xs)
    (step : ∀ i x b k H, xs[i]? = some x → W i b k H → kr x H fun kx H1 => r kx k H1 fun y H2 => ∃ t : Bool, y = .bl t ∧ W (i + 1) (if t = true then x else b) (if t = true then kx else k) H2) :
    ∀ (n i : Nat) (s : Shared) (b k : V) (bv kv : Value) (H : Hp) (c : Nat), i + n = xs.length → Best Y pn σ a it S #[bv, kv] c i H s → RelV b bv → RelV k kv → W i b k H →
      codeAny (model Y.prog Y.w) A (.builtin "min.loop" ⟨[.ref it, .ref f, .ref S], []⟩) (fun r s' => ∃ v, r = .ok (.ret v) ∧ EP Y pn σ (fun y H' => ∃ k', W xs.length y k' H') v s') s := by
  intro n
  induction n with
  | zero =>
    intro i s b k bv kv H c e B rb rk w
    obtain rfl : i = xs.length := e
    obtain ⟨its, vals, l, _⟩ := B.inv.list (hl _ _ _ _ w)
    have len := vals.length
    refine codeAny_builtin F.entry_min_loop ?_
    rw [Around.under_plainId F.plain_min_loop _, hA]
    refine wpAny_bind (m := seqItems? (.ref S)) (wpAny_seqItems B.own rfl ?_)
    refine wpAny_bind (wpAny_tryCatch (m := pyNext (.ref it)) (wpAny_pyNext_list_end (B.inv.ok.hd hc) B.iter l.isList (by simp; omega) fun h' keep => ?_))
    have J := past (t' := s.toks) B.inv B.out keep
    have own : h'.get? S = some (bestO #[bv, kv] c) := (J.pin (S, bestO #[bv, kv] c) (List.mem_append_right _ List.mem_cons_self)).1
    refine wpAny_bind (m := updateSeq S fun _ => #[]) (wpAny_updateSeq own rfl (wpAny_bind (wpAny_letGo (wpAny_pure ?_))))
    refine ⟨bv, rfl, b, H, ?_, rb, k, w⟩
    have J2 := woke (o' := bestO #[] (c + 1)) (s' := { s with heap := h'.update S (Obj.mapSeq fun _ => #[]) }) J m.late m.cell m.pins rfl J.bare (fun b u ne e => (Heap.get?_update_other _ _ (Ne.symm ne)).trans e) (show (h'.update S (Obj.mapSeq fun _ => #[])).get? S = some (bestO #[] (c + 1)) from Heap.get?_update_self _ own rfl) fun v z => nomatch z
    exact J2.pins_of fun p hp => J2.pin p (List.mem_append_right _ (List.mem_cons_of_mem _ hp))
  | succ n ih =>
    intro i s b k bv kv H c e B rb rk w
    obtain ⟨x, hx⟩ : ∃ x, xs[i]? = some x := ⟨_, List.getElem?_eq_getElem (by omega)⟩
    refine codeAny_builtin F.entry_min_loop ?_
    rw [Around.under_plainId F.plain_min_loop _, hA]
    refine wpAny_bind (m := seqItems? (.ref S)) (wpAny_seqItems B.own rfl ?_)
    refine wpAny_bind (wpAny_tryCatch (m := pyNext (.ref it)) (B.next (hl _ _ _ _ w) hx fun u o s1 ru ito I1 => ?_))
    refine wpAny_bind (wpAny_tryCatch (m := holding [u] (call (.ref f) [u])) (wpAny_holding (thn (key o _ s1 H x u _ _ I1 ru (step i x b k H hx w)) fun kx s2 h2 => ?_)))
    obtain ⟨kw, H2, I2, rkx, q2⟩ := h2
    refine wpAny_bind (wpAny_tryCatch (wpAny_holding (wpAny_bind (m := richCompare .Lt kx kv) (wpAny_mono (ord _ s2 σ H2 kw k kx kv _ I2 rkx rk q2) (fun ans s3 h3 => ?_) fun e s' z => (hxe e s' z).elim))))
    obtain ⟨y, H3, I3, ry, t, ey, w3⟩ := h3
    subst ey
    obtain rfl : ans = .bool t := ry
    refine wpAny_bind (wpAny_holding (wpAny_truthy_bool (wpAny_bind (wpAny_letGo (wpAny_pure ?_)))))
    have own3 : s3.heap.get? S = some (bestO #[bv, kv] c) := (I3.pin (S, _) (List.mem_append_right _ (List.mem_cons_of_mem _ List.mem_cons_self))).1
    cases t with
    | true =>
      rw [if_pos rfl] at w3
      rw [if_pos rfl] at w3
      simp only [if_true]
      refine wpAny_bind (m := updateSeq S fun _ => #[u, kx]) (wpAny_updateSeq own3 rfl (wpAny_bind (wpAny_letGo (wpAny_pure ⟨plainId_quiet F.plain_min_loop _, ?_⟩))))
      exact ih (i + 1) _ x kw u kx H3 c (by omega) (B.turned m ne ito I3 rfl I3.bare (fun b u ne e => (Heap.get?_update_other _ _ (Ne.symm ne)).trans e) (Heap.get?_update_self _ own3 rfl)) ru rkx w3
    | false =>
      rw [if_neg (by decide), if_neg (by decide)] at w3
      simp only [Bool.false_eq_true, if_false]
      refine wpAny_bind (wpAny_letGo (wpAny_pure ⟨plainId_quiet F.plain_min_loop _, ?_⟩))
      exact ih (i + 1) _ b k bv kv H3 c (by omega) (B.turned m ne ito I3 rfl I3.bare (fun b u ne e => e) own3) rb rk w3
/-- the first turn: whatever comes is the best -/
theorem min_first {x0 : V} {H : Hp} {s : Shared} (hA : A.in1 = Y.A) (hc : Y.calm = true) (hxe : ∀ e s, Y.xe e s → False) (m : Mine Y pn S) (ne : S ≠ it) (key : ∀ o o', KeyR Y ((it, o) :: (S, o') :: pn) σ (.ref f) kr) (ord : OpR Y (compareOp .Lt) r)
    (hs : SqL Y.K H a xs) (hl : ∀ i b k H, W i b k H → SqL Y.K H a xs) (h0 : xs[0]? = some x0) (first : kr x0 H fun k H1 => W 1 x0 k H1)
    (step : ∀ i x b k H, xs[i]? = some x → W i b k H → kr x H fun kx H1 => r kx k H1 fun y H2 => ∃ t : Bool, y = .bl t ∧ W (i + 1) (if t = true then x else b) (if t = true then kx else k) H2) (B : Best Y pn σ a it S #[] 0 0 H s) :
    codeAny (model Y.prog Y.w) A (.builtin "min.loop" ⟨[.ref it, .ref f, .ref S], []⟩) (fun r s' => ∃ v, r = .ok (.ret v) ∧ EP Y pn σ (fun y H' => ∃ k', W xs.length y k' H') v s') s := by
  have pos : 0 < xs.length := (List.getElem?_eq_some_iff.mp h0).1
  refine codeAny_builtin F.entry_min_loop ?_
  rw [Around.under_plainId F.plain_min_loop _, hA]
  refine wpAny_bind (m := seqItems? (.ref S)) (wpAny_seqItems B.own rfl ?_)
  refine wpAny_bind (wpAny_tryCatch (m := pyNext (.ref it)) (B.next hs h0 fun u o s1 ru ito I1 => ?_))
  refine wpAny_bind (wpAny_tryCatch (m := holding [u] (call (.ref f) [u])) (wpAny_holding (thn (key o _ s1 H x0 u _ _ I1 ru first) fun kx s2 h2 => ?_)))
  obtain ⟨kw, H2, I2, rkx, w2⟩ := h2
  have own2 : s2.heap.get? S = some (bestO #[] 0) := (I2.pin (S, _) (List.mem_append_right _ (List.mem_cons_of_mem _ List.mem_cons_self))).1
  refine wpAny_bind (m := updateSeq S fun _ => #[u, kx]) (wpAny_updateSeq own2 rfl (wpAny_pure ⟨plainId_quiet F.plain_min_loop _, ?_⟩))
  exact min_turns hA hc hxe m ne key ord hl step (xs.length - 1) 1 _ x0 kw u kx H2 (0 + 1) (by omega) (B.turned m ne ito I2 rfl I2.bare (fun b u ne e => (Heap.get?_update_other _ _ (Ne.symm ne)).trans e) (Heap.get?_update_self _ own2 rfl)) ru rkx w2
end
section
variable {X : Cx} {pn : List (Addr × Obj)} {σ : L2.St} {a f : Addr} {xs : List V} {kr : V → Hp → VK → Prop} {r : R2} {W : Nat → V → V → Hp → Prop}
theorem call_minK {x0 : V} {H : Hp} {s : Shared} {Q : VK} {E : Value → Shared → Prop} (I : Inv X pn σ H s) (hc : X.calm = true) (key : ∀ p q, KeyR (inB X) (p :: q :: pn) σ (.ref f) kr) (ord : OpR (inB X) (compareOp .Lt) r)
    (hs : SqL X.K H a xs) (hl : ∀ i b k H, W i b k H → SqL X.K H a xs) (h0 : xs[0]? = some x0) (first : kr x0 H fun k H1 => W 1 x0 k H1)
    (step : ∀ i x b k H, xs[i]? = some x → W i b k H → kr x H fun kx H1 => r kx k H1 fun y H2 => ∃ t : Bool, y = .bl t ∧ W (i + 1) (if t = true then x else b) (if t = true then kx else k) H2) (fin : ∀ b k H, W xs.length b k H → Q b H) :
    wpAny (model X.prog X.w) X.A (call (.builtin "min") [.ref a] [(Str.ofString "key", .ref f)]) (EP X pn σ Q) E s := by
  obtain ⟨its, vals, l, _⟩ := I.list hs
  refine PyProof.Rows.kmk_tree F.kind_min F.plain_min F.entry_min (PyProof.Rows.kmk_min_key _ _) ?_
  refine wpAny_bind (m := Builtin.Builtins.bindParams "min" ["key", "default"] 0 ⟨[], [(Str.ofString "key", .ref f)]⟩) (wpAny_of_eq rfl (wpAny_bind (wpAny_pure ?_)))
  refine wpAny_bind (wpAny_pyIter_list l.isList (wpAny_bind (wpAny_newObj_type ?_)))
  generalize hit : s.heap.objs.size = it
  generalize hi1 : s.heap.push _ = h1
  have at1 : h1.objs.size = it + 1 := by rw [← hi1, Heap.size_push, hit]
  have I1 : Inv (inB X) pn σ H { s with heap := h1 } := toB (grew I rfl I.bare fun b u e => by rw [← hi1]; exact Heap.get?_push_of_some _ e)
  have fresh : H it = none := I.hok.fresh (Nat.le_of_eq hit)
  have freeS : H (it + 1) = none := I1.hok.fresh (Nat.le_of_eq at1)
  have FS : FpOk (inB X) pn H (it + 1) := I1.fpOk (Nat.le_of_eq at1) freeS
  have FI : FpOk (inB X) pn H it := (toB I).fpOk (Nat.le_of_eq hit) fresh
  have own : (h1.push (bestO #[] 0)).get? (it + 1) = some (bestO #[] 0) := by
    rw [← at1]
    exact Heap.get?_push_size _ rfl
  have I2 : Inv (inB X) ((it + 1, bestO #[] 0) :: pn) σ H { s with heap := h1.push (bestO #[] 0) } := by
    have J := grew I1 (s' := { s with heap := h1.push (bestO #[] 0) }) rfl I1.bare fun b u e => Heap.get?_push_of_some _ e
    refine J.pins_of fun p hp => ?_
    rcases List.mem_cons.mp hp with z | z
    · rw [z]
      exact ⟨own, FS.1, FS.2.1, FS.2.2.1, fun v z => nomatch z⟩
    · exact J.pin p (List.mem_append_right _ z)
  have iter1 : h1.IsListIter it a 0 := by
    rw [← hi1, ← hit]
    exact ⟨_, Heap.get?_push_size _ rfl, rfl, rfl⟩
  have iter : (h1.push (bestO #[] 0)).IsListIter it a 0 := iter1.at fun o e => Heap.get?_push_of_some _ e
  have B : Best (inB X) pn σ a it (it + 1) #[] 0 0 H { s with heap := h1.push (bestO #[] 0) } := ⟨I2, iter, FI.1, FI.2.1, FI.2.2.1, FI.2.2.2.1, FI.2.2.2.2.1, fun p hp => by
    rcases List.mem_append.mp hp with z | z
    · exact FI.2.2.2.2.2 p (List.mem_append_left _ z)
    · rcases List.mem_cons.mp z with q | q
      · rw [q]
        exact Nat.succ_ne_self it
      · exact FI.2.2.2.2.2 p (List.mem_append_right _ q)⟩
  have M : Mine (inB X) pn (it + 1) := ⟨Nat.le_trans I.sz (by rw [hit]; exact Nat.le_succ it), FS.2.2.2.2.1, FS.2.2.2.2.2⟩
  rw [at1]
  refine wpAny_pure ⟨plainId_quiet F.plain_min_loop _, codeAny_mono (min_first (Y := inB X) (A := X.A) rfl hc (fun _ _ z => z) M (Nat.succ_ne_self it) (fun o o' => key _ _) ord hs hl h0 first step B) fun r s' h => ?_⟩
  obtain ⟨v, rfl, y, H', J, ry, k', w⟩ := h
  exact ⟨y, H', ofB I.ok J, ry, fin _ _ _ w⟩
end
end My

set_option Elab.async false
set_option linter.all false
set_option maxRecDepth 100000
set_option maxHeartbeats 2000000
namespace My
open PySem PySem.Spec PyProof.Rows L2
open NdefX (startF slotAt)
/-! ### min(list, key=lambda x: body) -/
/-- its reading: the list, then for the made lambda (its code object at c') an invariant W over (turns, best item, its key, heap) -/
def tMinLam (K : PySem.W.Frag) (P : Addr) (q : Str) (r : R2) (N : List Str) (js : List Nat) (tb te : TE) : TE := fun σ H Q => te σ H fun v H1 => LamX.TabS H1 P q ∧ ∃ (a : Addr) (xs : List V) (x0 : V), v = .ref a ∧ SqL K H1 a xs ∧ xs[0]? = some x0 ∧
  ∀ (c' : Addr) (H2 : Hp), (∀ b o, b ≠ P → H1 b = some o → H2 b = some o) → LamX.TabS H2 P q → H2 c' = some (LamX.CodeO c' q) → ∃ W : Nat → V → V → Hp → Prop, (∀ i b k H3, W i b k H3 → SqL K H3 a xs ∧ H3 c' = some (LamX.CodeO c' q)) ∧ SqL K H2 a xs ∧
    tb (startF N [x0] (js.map (slotAt σ))) H2 (fun k H3 => W 1 x0 k H3) ∧
    (∀ i x b k H3, xs[i]? = some x → W i b k H3 → tb (startF N [x] (js.map (slotAt σ))) H3 fun kx H4 => r kx k H4 fun y H5 => ∃ t : Bool, y = .bl t ∧ W (i + 1) (if t = true then x else b) (if t = true then kx else k) H5) ∧
    ∀ b k H3, W xs.length b k H3 → Q b H3
/-- what follows the list in the reading, for an argument list of one -/
def onOne (R : V → Hp → Prop) : List V → Hp → Prop
  | [v], H => R v H
  | _, _ => False
theorem onOne_of {R : V → Hp → Prop} {vs : List V} {H : Hp} (h : onOne R vs H) : ∃ v, vs = [v] ∧ R v H :=
  match vs, h with
  | [v], h => ⟨v, rfl, h⟩
section
variable {X : Cx}
/-- a made function is none of the frames -/
theorem lam_pin {pins : List (Addr × Obj)} {σ : L2.St} {H : Hp} {s : Shared} {f : Addr} {o : Obj} {fd : FuncData} (I : Inv X pins σ H s) (hf : s.heap.get? f = some o) (hd : o.data = .func fd) (hn : H f = none) (hs : f ∉ frs X.stack) : Inv X ((f, o) :: pins) σ H s := by
  refine I.pins_of fun p hp => ?_
  rcases List.mem_cons.mp hp with z | z
  · rw [z]
    refine ⟨hf, hn, fun e => ?_, fun hb => hs ?_, fun v q => ?_⟩
    · obtain ⟨m, ⟨o', es, ep, h1, h2, _⟩, _⟩ := I.loc
      have e' : f = X.env.locals := e
      rw [← e', hf] at h1
      obtain rfl := Option.some.inj h1
      rw [hd] at h2
      cases h2
    · rcases I.ok.stk with e | ⟨e, ef⟩
      · rw [e]
        exact hb
      · rw [e]
        unfold frs
        rw [List.filterMap_cons, ef]
        exact List.mem_cons_of_mem _ hb
    · have q' : o.data = .cell v := q
      rw [hd] at q'
      cases q'
  · exact I.pin p (List.mem_append_right _ z)
/-- a lambda is made: its code object comes out of the maker's table at P, or is new and goes into it; all else stays -/
theorem lam_new {pins : List (Addr × Obj)} {σ : L2.St} {H : Hp} {s : Shared} {c P : Addr} {params : Arguments} {body : Expr} {scope : Scope} {pos : Pos} {E : Value → Shared → Prop} {Q : Value → Shared → Prop} (I : Inv X pins σ H s) (TB : LamX.TabB X.base X.mg c P) (hcode : X.env.code = .ref c)
    (hT : LamX.TabS H P (X.env.qual ++ "<lambda>")) (hdef : defaultsOf params X.env = ([], [])) (caught : ∀ y ∈ scope.names, y.2 = .free → ∃ c, X.env.cells.lookup y.1 = some c)
    (h : ∀ (f c' : Addr) (pm ctv : Value) (H1 : Hp) (s' : Shared), Inv X pins σ H1 s' → (∀ b o, b ≠ P → H b = some o → H1 b = some o) → LamX.TabS H1 P (X.env.qual ++ "<lambda>") →
      s'.heap.get? f = some (PySem.W.kla_obj "<lambda>" (X.env.qual ++ "<lambda>") params body scope (cloFrom X.env.cells scope.names []) pm c' ctv) → H1 f = none → f ∉ frs X.stack → H1 c' = some (LamX.CodeO c' (X.env.qual ++ "<lambda>")) → Q (.ref f) s') :
    wpAny (model X.prog X.w) X.A (eval (.Lambda params body scope pos) X.env) Q E s := by
  obtain ⟨ps, hP, tri, names⟩ := hT
  have raw := I.hok P _ hP
  have late : ∀ f, s.heap.objs.size ≤ f → f ∉ frs X.stack := fun f le z => by
    rcases List.mem_cons.mp (I.stkSub _ z) with e | e
    · exact Nat.lt_irrefl _ (Nat.lt_of_lt_of_le (e ▸ I.lt) le)
    · exact I.nofs le e
  refine PySem.W.kla_eval hdef ?_
  match hf : codeAmong pos ps.toList with
  | some cv =>
    obtain ⟨c', rfl, at'⟩ := names pos cv hf
    exact PySem.W.kla_makeFunctionHit (mg := X.mg) (c := c) (P := P) (ps := ps) (closure_ok caught) I.ok.glob (I.mod.glob.keeps I.bk) hcode (TB.code.keeps I.bk) raw tri hf (TB.bm.keeps I.bk) fun ctv g tk kp le =>
      h _ c' _ ctv H _ (I.kept (t' := tk) fun b o e => Heap.get?_push_of_some _ (kp b o e)) (fun _ _ _ e => e) ⟨ps, hP, tri, names⟩ (Heap.get?_push_size _ rfl) (I.hok.fresh le) (late _ le) at'
  | none =>
    refine PySem.W.kla_makeFunction (mg := X.mg) (c := c) (P := P) (ps := ps) (closure_ok caught) I.ok.glob (I.mod.glob.keeps I.bk) hcode (TB.code.keeps I.bk) raw tri hf TB.gP (TB.bm.keeps I.bk) fun c' ctv g tk ext ge lt isC tab => ?_
    obtain ⟨_, oc, vs, t, ec, hoc, hd, hv⟩ := isC
    cases ec
    have fresh : H c' = none := I.hok.fresh ge
    have apart : P ≠ c' := ne_of_none hP fresh
    have sz : s.heap.objs.size ≤ g.objs.size := Nat.le_trans ge (Nat.le_of_lt lt)
    have J := LamX.inv_table (t' := tk) (more := #[rawInt pos.line, rawInt pos.col, .ref c']) (h' := g.push (PySem.W.kla_obj "<lambda>" (X.env.qual ++ "<lambda>") params body scope (cloFrom X.env.cells scope.names []) ((X.mg "__name__").getD .none) c' ctv)) I hP
      (fun b o ne e => Heap.get?_push_of_some _ (ext b o ne e)) (Heap.get?_push_of_some _ tab) ge ⟨oc, vs, t, Heap.get?_push_of_some _ hoc, hd, hv⟩
    have stays : ∀ b o, b ≠ P → H b = some o → (upd (upd H P (.tbl (ps ++ #[rawInt pos.line, rawInt pos.col, .ref c']))) c' (LamX.CodeO c' (X.env.qual ++ "<lambda>"))) b = some o := fun b o ne e => by
      rw [upd_ne (ne_of_none e fresh), upd_ne ne]
      exact e
    refine h g.objs.size c' _ ctv _ _ J stays ⟨_, (upd_ne apart).trans upd_same, ?_, fun p cv hc => ?_⟩ (Heap.get?_push_size _ rfl) ?_ (late _ sz) upd_same
    · rw [Array.toList_append]
      exact PySem.TriplesOk_snoc _ _ _ _ tri
    · rw [Array.toList_append] at hc
      rcases LamX.among_app _ tri hc with z | z
      · obtain ⟨c0, e1, e2⟩ := names p cv z
        exact ⟨c0, e1, stays _ _ (fun q => by rw [q, hP] at e2; exact LamX.codeO_ne _ (Option.some.inj e2).symm) e2⟩
      · exact ⟨c', z, upd_same⟩
    · have older : P < g.objs.size := Nat.lt_of_lt_of_le (Heap.lt_size raw) sz
      rw [upd_ne (Nat.ne_of_gt lt), upd_ne (Nat.ne_of_gt older)]
      exact I.hok.fresh sz
theorem pe_minLam {e body : Expr} {te tb : TE} {p1 p2 q1 lpos : Pos} {n1 : Option Str} {params : Arguments} {scope : Scope} {x : Str} {N fr : List Str} {js : List Nat} {k : Nat} {c P : Addr} {r : R2} (K : PySem.W.Frag) (hc : X.calm = true) (hr : Room (k + 2) X.A)
    (hg : Gl X "min") (hm : X.mg "min" = none) (TB : LamX.TabB X.base X.mg c P) (hcode : X.env.code = .ref c) (L : LamT X N x fr js params scope body) (hdef : defaultsOf params X.env = ([], []))
    (ord : OpR (inB X) (compareOp .Lt) r) (hA : PA X [e] (tCons te tNil)) (hbody : ∀ (A : Around) (s : Shared) (H : Hp) (f c' : Addr), Room k (lamX X N params scope f c' A s H).A → PE (lamX X N params scope f c' A s H) body tb) (hK : X.K = K := by rfl)
    (hb : bootBuiltins "min" = some (.builtin "min") := by decide +kernel)
    (hse : backTo p2 (starEach [e] X.env) = (false, eval e X.env) :: backTo p2 (starEach [] X.env) := by rfl) (hpl : (backTo p2 (starEach [e] X.env)).any (·.1) = false := by rfl)
    (hall : (backToKw p2 (keywordEach [⟨n1, .Lambda params body scope lpos, q1⟩] X.env)).all (·.1.isSome) = true := by rfl)
    (hnone : (backToKw p2 (keywordEach [⟨n1, .Lambda params body scope lpos, q1⟩] X.env)).any (·.1.isNone) = false := by rfl)
    (hks : (backToKw p2 (keywordEach [⟨n1, .Lambda params body scope lpos, q1⟩] X.env)).filterMap (·.1) = [Str.ofString "key"] := by rfl) :
    PE X (.Call (.Name "min" p1) [e] [⟨n1, .Lambda params body scope lpos, q1⟩] p2) (tMinLam K P (X.env.qual ++ "<lambda>") r N js tb te) := by
  subst hK
  constructor
  intro pins s σ H Q I h
  refine wpAny_Call_Name_kw (ld_blt I hg hm hb ?_)
  refine PyProof.Rows.callWith_kw (thn (hA.run p2 pins s σ H (onOne fun v H1 => LamX.TabS H1 P _ ∧ _) I h) fun us s1 h1 => ?_) hse hpl hall hnone
  obtain ⟨vs, H1, I1, r1, q1'⟩ := h1
  obtain ⟨v, rfl, tab1, a, xs, x0, rfl, hs, h0, q⟩ := onOne_of q1'
  obtain ⟨u, rfl, ru⟩ := vals1 r1
  cases ru
  rw [hks]
  show wpAny _ _ (evalAll [(do let v ← eval (.Lambda params body scope lpos) X.env; standAt p2; pure v)]) _ _ s1
  have hfree : ∀ y ∈ scope.names, y.2 = .free → ∃ c, X.env.cells.lookup y.1 = some c := fun y hy z => I.ok.has _ (L.free y hy z)
  refine wpAny_evalAll_cons (wpAny_bind (lam_new I1 TB hcode tab1 hdef hfree fun f c' pm ctv H2 s2 I2 ext tab2 hf hn hst hco => wpAny_bind (wpAny_standAt (wpAny_pure (wpAny_evalAll_nil ?_)))))
  have I3 := lam_pin I2 hf rfl hn hst
  obtain ⟨W, hW, hs2, first, step, fin⟩ := q c' H2 ext tab2 hco
  have key : ∀ p q, KeyR (inB X) (p :: q :: (f, _) :: pins) σ (.ref f) (fun x H Q => H c' = some (LamX.CodeO c' (X.env.qual ++ "<lambda>")) ∧ tb (startF N [x] (js.map (slotAt σ))) H Q) := fun p q s H x u Q E J ru z =>
    lam_call1 (X := inB X) (N := N) (js := js) (fr := fr) (k := k) (f := f) (c' := c') (pm := pm) (ctv := ctv) J ⟨L.names, L.free, L.caps, L.slots, L.bind⟩ J.ok.frames (hr.in1.mono (by omega)) ((J.pin (f, _) (List.mem_append_right _ (List.mem_cons_of_mem _ (List.mem_cons_of_mem _ List.mem_cons_self)))).1) z.1 ru
      (hbody X.A.in1 s H f c') z.2
  refine thn (call_minK (X := X) (pn := (f, _) :: pins) (W := W) I3 hc key ord hs2 (fun i b k H z => (hW i b k H z).1) h0 ⟨hco, first⟩ (fun i x b k H hx w => ⟨(hW i b k H w).2, step i x b k H hx w⟩) fin) fun v s' z => ?_
  obtain ⟨y, H', J, ry, qy⟩ := z
  exact ⟨y, H', J.pins_of fun p hp => J.pin p (List.mem_append_right _ (List.mem_cons_of_mem _ hp)), ry, qy⟩
end
end My

set_option Elab.async false
set_option linter.all false
set_option maxRecDepth 100000
set_option maxHeartbeats 2000000
namespace My
open PySem PySem.Spec PyProof.Rows L2
theorem IsListIter.ob {h : Heap} {i l : Addr} {n : Nat} (s : h.IsListIter i l n) : ∃ o, h.get? i = some o ∧ ∀ v, o.data ≠ .cell v := by
  obtain ⟨o, e, _, d⟩ := s
  exact ⟨o, e, fun v z => by rw [d] at z; cases z⟩
end My

set_option Elab.async false
set_option linter.all false
set_option maxRecDepth 100000
set_option maxHeartbeats 2000000
namespace My
open PySem PySem.Spec PyProof.Rows L2
open NdefX (NScope nscB nscope_by)
/-! ### what is told of a lambda's text -/
/-- the name of a def's lambda -/
abbrev lamQ (q : Str) : Str := q ++ ".<locals>." ++ "<lambda>"
def caughtB (sc scope : Scope) : Bool := scope.names.all fun y => match y.2 with
  | .free => (match sc.names.lookup y.1 with | some .cell => true | some .free => true | _ => false)
  | _ => true
def takenB (fr : List Str) (scope : Scope) : Bool := fr.all fun y => scope.names.any fun p => decide (p.1 = y) && (match p.2 with | .free => true | _ => false)
theorem lamT_by {X : Cx} {N fr : List Str} {js : List Nat} {params : Arguments} {body : Expr} {scope : Scope} {x : Str} (names : nscB N [x] fr scope = true) (caught : caughtB X.env.scope scope = true) (taken : takenB fr scope = true) (slots : js.map (fun j => X.N[j]?) = fr.map some)
    (bind : ∀ (pm ctv u : Value) (c' : Addr), bindArgs (PySem.W.kla_fn "<lambda>" (X.env.qual ++ "<lambda>") params body scope (cloFrom X.env.cells scope.names []) pm (.ref c') ctv) ⟨[u], []⟩ = pure [(x, u)]) : LamT X N x fr js params scope body := by
  refine ⟨nscope_by names, fun y hy e => ?_, fun y hy => ?_, slots, bind⟩
  · have q := List.all_eq_true.mp caught y hy
    rw [e] at q
    revert q
    cases X.env.scope.names.lookup y.1 with
    | none => exact fun q => nomatch q
    | some k => cases k <;> simp
  · obtain ⟨p, hp, q⟩ := List.any_eq_true.mp (List.all_eq_true.mp taken y hy)
    obtain ⟨n, k⟩ := p
    rw [Bool.and_eq_true] at q
    obtain ⟨q1, q2⟩ := q
    obtain rfl : n = y := of_decide_eq_true q1
    cases k with
    | free => exact hp
    | _ => cases q2
/-- the turns of a walk, whatever one turn asks -/
theorem turns {J : It} {n : Nat} {G : Hp → Prop} {Y : Nat → Hp → V → Hp → Prop} (w : Walk J n G Y) {Qd : Hp → Prop} {B : (Hp → Prop) → V → Hp → Prop} {H1 : Hp} (Pv : Nat → Hp → Prop) (h0 : Pv 0 H1) (hG : ∀ i H, i ≤ n → Pv i H → G H)
    (hs : ∀ i x H H', i < n → Pv i H → Y i H x H' → B (Pv (i + 1)) x H') (hd : ∀ H, Pv n H → Qd H) :
    ∃ W : Nat → Nat → Hp → Prop, (∃ m, W 0 m H1) ∧ ∀ i m H, W i m H → (J.stop i H ∧ Qd H) ∨ (J.go i H ∧ ∃ Nx : Hp → Prop, (∀ H', Nx H' → ∃ m', m' < m ∧ W (i + 1) m' H') ∧ ∀ x H', J.yld i H x H' → B Nx x H') := by
  refine ⟨fun i m H => i + m = n ∧ Pv i H, ⟨n, Nat.zero_add n, h0⟩, fun i m H ⟨e, p⟩ => ?_⟩
  have le : i ≤ n := by omega
  cases m with
  | zero =>
    obtain rfl : i = n := e
    exact .inl ⟨w.stops H (hG _ H le p), hd H p⟩
  | succ m => exact .inr ⟨w.goes i H (by omega) (hG _ H le p), Pv (i + 1), fun H' q => ⟨m, Nat.lt_succ_self m, by omega, q⟩, fun x H' y => hs i x H H' (by omega) p (w.yields i H x H' (by omega) (hG _ H le p) y)⟩
/-! ### how many lists there are -/
end My

set_option Elab.async false
set_option linter.all false
set_option maxRecDepth 100000
set_option maxHeartbeats 2000000
namespace My
open PySem PySem.Spec PyProof.Rows L2
/-! ### walks over what is a list or a tuple; the turns of a zip of three -/
section
variable {X : Cx}
end
theorem fldK {X : Cx} {e : Expr} {f : Str} {pos : Pos} {ta : TE} (K : PySem.W.Frag) (he : PE X e ta) (hb : attributeBase e f X.env (eval e X.env) = eval e X.env) (hK : X.K = K := by rfl) : PE X (.Attribute e f pos) (tFld K ta f) := hK ▸ pe_fld he hb
/-- all but tables stays -/
theorem Sx.ext {Ps : List Addr} {H H' : Hp} (t : TG Ps H) (s : Sx Ps H H') : LamX.ExtN H H' := fun b o h n => s b o (t.not h n) h
theorem TG.free {Ps : List Addr} {H : Hp} {p : Addr} (t : TG Ps H) (h : H p = none) : p ∉ Ps := fun hp => by
  obtain ⟨ps, h2, _⟩ := t p hp
  rw [h] at h2
  cases h2
theorem TG.put {Ps : List Addr} {H : Hp} {p : Addr} {o : HO} (t : TG Ps H) (h : p ∉ Ps) : TG Ps (L2.upd H p o) := fun q hq => by
  obtain ⟨ps, a, b⟩ := t q hq
  exact ⟨ps, keep_ne a (fun z : q = p => h (by rw [← z]; exact hq)), b⟩
end My

set_option Elab.async false
set_option linter.all false
set_option maxRecDepth 100000
set_option maxHeartbeats 2000000
namespace My
open PySem PySem.Spec PyProof.Rows L2
/-! ### sorted(tuple of texts), in full -/
/-! ### a lambda's table beside those of generator expressions -/
theorem tab_sx {Ps : List Addr} {P : Addr} {q : Str} {H H' : Hp} (t : LamX.TabS H P q) (tg : TG Ps H) (s : Sx Ps H H') (n : P ∉ Ps) : LamX.TabS H' P q := by
  obtain ⟨ps, h1, h2, h3⟩ := t
  exact ⟨ps, s _ _ n h1, h2, fun pos cv e => let ⟨c, e1, e2⟩ := h3 pos cv e; ⟨c, e1, s _ _ (tg.not e2 fun ps z => LamX.codeO_ne ps z) e2⟩⟩
theorem tab_same {P : Addr} {q : Str} {H H' : Hp} (t : LamX.TabS H P q) (s : Same H H') : LamX.TabS H' P q := t.ext fun b o e => s b o e
theorem tab_tg {Ps : List Addr} {P : Addr} {q : Str} {H : Hp} (t : LamX.TabS H P q) (tg : TG Ps H) : TG (P :: Ps) H := fun b hb => by
  rcases List.mem_cons.mp hb with z | z
  · obtain ⟨ps, h1, h2, _⟩ := t
    rw [z]
    exact ⟨ps, h1, h2⟩
  · exact tg b z
end My

set_option Elab.async false
set_option linter.all false
set_option maxRecDepth 100000
set_option maxHeartbeats 2000000
namespace My
open PySem PySem.Spec PyProof.Rows L2
/-! ### what a choice saves; the most that one more list saves -/
theorem Rd.same {H H' : Hp} {a : Addr} {u : HO} (h : Rd H a u) (s : Same H H') : Rd H' a u := h.imp (fun e => s _ _ e) fun ⟨o, e⟩ => ⟨o, s _ _ e⟩
/-! ### the search for an order, one step -/
section
variable {sv most : List (List Nat) → Int} {ch : List (List Nat)} {many d : Nat} {ahead : List (List Nat)}
end
end My

set_option Elab.async false
set_option linter.all false
set_option maxRecDepth 100000
set_option maxHeartbeats 2000000
namespace My
open PySem PySem.Spec PyProof.Rows L2
/-! ### no list twice; dict(..) and sorted(..) of a choice; the dict of prices as it is filled -/
theorem valV_none {kvs : List (Key × V)} {k : Key} (h : k ∉ kvs.map (·.1)) : valV kvs k = none := by
  unfold valV
  rw [List.find?_eq_none.mpr fun kv hkv e => h (List.mem_map.mpr ⟨kv, hkv, of_decide_eq_true e⟩)]
  rfl
end My

set_option Elab.async false
set_option linter.all false
set_option maxRecDepth 100000
set_option maxHeartbeats 2000000
namespace My
open PySem PySem.Spec PyProof.Rows L2
/-! ### for x, y in zip(a, b), each a list or a tuple (t: a tuple) -/
def SqB (K : PySem.W.Frag) (t : Bool) (H : Hp) (a : Addr) (xs : List V) : Prop := match t with
  | true => SqT K H a xs
  | false => SqL K H a xs
def scAt (t : Bool) (h : Heap) (a : Addr) (its : Array Value) : Prop := match t with
  | true => h.IsTuple a its
  | false => h.IsList a its
def itAt (t : Bool) (h : Heap) (it a : Addr) (n : Nat) : Prop := match t with
  | true => h.IsTupleIter it a n
  | false => h.IsListIter it a n
abbrev itO (t : Bool) (a : Addr) : Obj := { cls := .type (match t with | true => "tuple_iterator" | false => "list_iterator"), data := .fields #[.ref a, .int 0 0] }
theorem SqB.same {K : PySem.W.Frag} {t : Bool} {H H' : Hp} {a : Addr} {xs : List V} (h : SqB K t H a xs) (s : Same H H') : SqB K t H' a xs := by
  cases t with
  | true => exact Same.tup s h
  | false => exact Same.seq s h
theorem SqB.seq {X : Cx} {pins : List (Addr × Obj)} {σ : L2.St} {H : Hp} {s : Shared} {t : Bool} {a : Addr} {xs : List V} (I : Inv X pins σ H s) (h : SqB X.K t H a xs) : ∃ its : List Value, Vals xs its ∧ scAt t s.heap a its.toArray ∧ a < s.heap.objs.size := by
  cases t with
  | true =>
    obtain ⟨its, r, p, _⟩ := I.tuple h
    obtain ⟨o, ho, _⟩ := id p
    exact ⟨its, r, p, Heap.lt_size ho⟩
  | false =>
    obtain ⟨its, r, p, _⟩ := I.list h
    exact ⟨its, r, p.isList, p.lt⟩
theorem SqB.inj {X : Cx} {pins : List (Addr × Obj)} {σ : L2.St} {H : Hp} {s : Shared} {t : Bool} {a : Addr} {xs ys : List V} (I : Inv X pins σ H s) (h : SqB X.K t H a xs) (g : SqB X.K t H a ys) : xs = ys := by
  cases t with
  | true => exact I.tuple_inj h g
  | false => exact I.list_inj h g
theorem itAt.ob {t : Bool} {h : Heap} {it a : Addr} {n : Nat} (s : itAt t h it a n) : ∃ o, h.get? it = some o ∧ ∀ v, o.data ≠ .cell v := by
  cases t <;> (obtain ⟨o, e, _, d⟩ := s; exact ⟨o, e, fun v z => by rw [d] at z; cases z⟩)
theorem itAt.keep {t : Bool} {h h' : Heap} {it a : Addr} {n : Nat} (s : itAt t h it a n) (k : ∀ o, h.get? it = some o → h'.get? it = some o) : itAt t h' it a n := by
  cases t with
  | true => exact Heap.IsTupleIter.at s k
  | false => exact Heap.IsListIter.at s k
theorem draws_sc {prog : Program} {w : World} {A : Around} (hA : A.handled = none) (t : Bool) (it a : Addr) (ne : a ≠ it) (its : Array Value) :
    Draws prog w A it [it, a] its.size (fun i v => its[i]? = some v) (fun i h => itAt t h it a i ∧ scAt t h a its) := by
  cases t with
  | true => exact Draws.tuple hA it a ne its
  | false => exact Draws.list hA it a ne its
theorem begins_sc (t : Bool) (a : Addr) (its : Array Value) : Begins (.ref a) (itO t a) fun h => scAt t h a its := by
  cases t with
  | true => exact begins_tuple a its
  | false => exact begins_list a its
/-- the cells of a walk over zip(a, b) -/
structure Z2 where
  z : Addr
  TI : Addr
  TO : Addr
  i : Addr
  j : Addr
abbrev Z2.fp (Z : Z2) : List Addr := [Z.z, Z.TI, Z.TO, Z.i, Z.j]
theorem wr_fp2 {Z : Z2} {x : Addr} (h : x ∈ [Z.z, Z.TO, Z.i, Z.j]) : x ∈ Z.fp := by
  simp only [List.mem_cons, List.not_mem_nil, or_false] at h
  rcases h with e | e | e | e <;> simp [e]
/-- m turns of it are over -/
structure Z2At (t1 t2 : Bool) (Z : Z2) (a b : Addr) (m : Nat) (h : Heap) : Prop where
  zip : IsZip h Z.z Z.TI Z.TO .none
  its : IsTupOf2 h Z.TI (.ref Z.i) (.ref Z.j)
  out : ∃ u v, IsTupOf2 h Z.TO u v
  i : itAt t1 h Z.i a m
  j : itAt t2 h Z.j b m
theorem Z2At.obj {t1 t2 : Bool} {Z : Z2} {a b : Addr} {m : Nat} {h : Heap} (s : Z2At t1 t2 Z a b m h) : ∀ x ∈ Z.fp, ∃ o, h.get? x = some o ∧ ∀ v, o.data ≠ .cell v := fun x hx => by
  simp only [List.mem_cons, List.not_mem_nil, or_false] at hx
  obtain ⟨_, _, so⟩ := s.out
  rcases hx with e | e | e | e | e <;> rw [e]
  · exact ⟨_, s.zip, fun v z => nomatch z⟩
  · exact ⟨_, s.its, fun v z => nomatch z⟩
  · exact ⟨_, so, fun v z => nomatch z⟩
  · exact s.i.ob
  · exact s.j.ob
theorem Z2At.keep {t1 t2 : Bool} {Z : Z2} {a b : Addr} {m : Nat} {h h' : Heap} (s : Z2At t1 t2 Z a b m h) (kp : ∀ x ∈ Z.fp, ∀ o, h.get? x = some o → h'.get? x = some o) : Z2At t1 t2 Z a b m h' := by
  obtain ⟨u, v, so⟩ := s.out
  exact ⟨kp _ (by simp) _ s.zip, kp _ (by simp) _ s.its, ⟨u, v, kp _ (by simp) _ so⟩, s.i.keep (kp _ (by simp)), s.j.keep (kp _ (by simp))⟩
/-- the sequences as they stand at each turn, their items in a new pair -/
def It2 (K : PySem.W.Frag) (t1 t2 : Bool) (a b : Addr) : It :=
  ⟨fun i H => ∃ (xs ys : List V) (x y : V), SqB K t1 H a xs ∧ SqB K t2 H b ys ∧ xs[i]? = some x ∧ ys[i]? = some y,
    fun i H v H' => ∃ (T : Addr) (x y : V), v = .ref T ∧ H T = none ∧ H' = upd H T (.tup [x, y]) ∧ (∀ xs, SqB K t1 H a xs → xs[i]? = some x) ∧ ∀ ys, SqB K t2 H b ys → ys[i]? = some y,
    fun i H => ∃ xs ys : List V, SqB K t1 H a xs ∧ SqB K t2 H b ys ∧ xs.length = i ∧ ys.length = i⟩
/-- the library's walk over sequences that stand still, at one heap -/
def walk2 {P : Program} {w : World} {A : Around} (hA : A.handled = none) (t1 t2 : Bool) {Z : Z2} {a b : Addr} (S : ZipSep2 Z.z Z.TI Z.TO Z.i Z.j [Z.i, a] [Z.j, b]) (ne : a ≠ Z.i ∧ b ≠ Z.j) (xs ys : Array Value) :=
  WalksT.zipD2 (A := A) S (draws_sc (prog := P) (w := w) (A := A.in1) hA t1 Z.i a ne.1 xs) (draws_sc (prog := P) (w := w) (A := A.in1) hA t2 Z.j b ne.2 ys)
theorem turn_zip2 {P : Program} {w : World} {K : PySem.W.Frag} {elts : List Expr} {kk : Nat} {tpos : Pos} {t1 t2 : Bool} {Z : Z2} {a b : Addr} (S : ZipSep2 Z.z Z.TI Z.TO Z.i Z.j [Z.i, a] [Z.j, b]) (ne : a ≠ Z.i ∧ b ≠ Z.j) :
    Turn P w K (.Tuple elts kk tpos) (It2 K t1 t2 a b) Z.fp Z.z (Z2At t1 t2 Z a b) where
  mem := List.mem_cons_self
  obj := fun _ _ st => st.obj
  keep := fun _ _ _ st kp => st.keep kp
  item := by
    rintro X rfl rfl rfl hc i pins s σ H E I free st ⟨xs, ys, x, y, qx, qy, hx, hy⟩
    obtain ⟨us, ru, lu, _⟩ := qx.seq I
    obtain ⟨vs, rv, lv, _⟩ := qy.seq I
    obtain ⟨u, hu, ru1⟩ := ru.get hx
    obtain ⟨v, hv, rv1⟩ := rv.get hy
    have W := walk2 (P := X.prog) (w := X.w) (A := X.A) (I.ok.hd hc) t1 t2 S ne us.toArray vs.toArray
    have lt : i < min us.toArray.size vs.toArray.size := by
      have h1 := (List.getElem?_eq_some_iff.mp hu).1
      have h2 := (List.getElem?_eq_some_iff.mp hv).1
      simp only [List.size_toArray]
      omega
    refine W.item i s _ E lt ⟨st.zip, st.its, st.out, ⟨st.i, lu⟩, ⟨st.j, lv⟩⟩ fun T vals h' tk pt late tup mid kp => ?_
    refine ⟨.ref T, rfl, W.go elts kk tpos i T { s with heap := h', toks := tk } _ E mid fun h2 st2 kp2 => ?_⟩
    have tup2 : h2.IsTuple T vals := tup.at fun o e => kp2 _ _ (W.apart _ _ _ mid) e
    obtain ⟨u', v', hu', hv', rfl⟩ := pt
    obtain rfl : u = u' := by simpa [hu] using hu'
    obtain rfl : v = v' := by simpa [hv] using hv'
    obtain ⟨s1, s2, s3, s4, s5⟩ := st2
    have all : ∀ d o, d ∉ Z.fp → s.heap.get? d = some o → h2.get? d = some o := fun d o n e => kp2 d o (fun z => n (wr_fp2 z)) (kp d o (fun z => n (wr_fp2 z)) e)
    have new : ObjOk X.prog X.w (upd H T (.tup [x, y])) h2 T (.tup [x, y]) := ⟨by show 2 ≤ sizeLine; decide, [u, v], .cons ru1 (.cons rv1 .nil), tup2⟩
    have J : Inv X pins σ (upd H T (.tup [x, y])) { s with heap := h2, toks := tk } := I.turnedNew (ch := Z.fp) all free late new
    exact ⟨.ref T, _, J, rfl, ⟨T, x, y, rfl, I.hok.fresh late, rfl, fun l q => by rw [SqB.inj I q qx]; exact hx, fun l q => by rw [SqB.inj I q qy]; exact hy⟩, ⟨s1, s2, s3, s4.1, s5.1⟩, fun d hd => by
      obtain ⟨o, e, _⟩ := st.obj d hd
      rw [upd_ne (Nat.ne_of_lt (Nat.lt_of_lt_of_le (Heap.lt_size e) late))]
      exact (free d hd).1⟩
  done := by
    rintro X rfl rfl rfl hc i pins s σ H E I free st ⟨xs, ys, qx, qy, hx, hy⟩
    obtain ⟨us, ru, lu, _⟩ := qx.seq I
    obtain ⟨vs, rv, lv, _⟩ := qy.seq I
    have W := walk2 (P := X.prog) (w := X.w) (A := X.A) (I.ok.hd hc) t1 t2 S ne us.toArray vs.toArray
    have e : min us.toArray.size vs.toArray.size = i := by
      have h1 := ru.length
      have h2 := rv.length
      simp only [List.size_toArray]
      omega
    refine W.done s _ E (e.symm ▸ ⟨st.zip, st.its, st.out, ⟨st.i, lu⟩, ⟨st.j, lv⟩⟩) fun h' tk kp => ⟨rfl, I.turnedL (ch := Z.fp) (fun d o n q => kp d o (fun z => n (wr_fp2 z)) q) free⟩
  self := fun _ _ _ _ _ st h => wpAny_pyIter_zip st.zip h
theorem apart2 {n a b : Nat} (la : a < n) (lb : b < n) : ZipSep2 (n + 4) (n + 2) (n + 3) n (n + 1) [n, a] [n + 1, b] := by
  constructor <;> first
    | (intro e; have e' : (_ : Nat) = _ := e; omega)
    | (intro e; simp only [List.mem_cons, List.not_mem_nil, or_false] at e; rcases e with e | e <;> (have e' : (_ : Nat) = _ := e; omega))
    | simp
def iZip2 (K : PySem.W.Frag) (ta : TA) : TI := fun σ H R => ta σ H fun vs H1 => ∃ (a b : Addr) (t1 t2 : Bool) (xs ys : List V), vs = [.ref a, .ref b] ∧ SqB K t1 H1 a xs ∧ SqB K t2 H1 b ys ∧ R (It2 K t1 t2 a b) H1
theorem pi_zip2 {X : Cx} {e e2 : Expr} {ta : TA} {p pos tpos : Pos} {elts : List Expr} {kk : Nat} (K : PySem.W.Frag) (hg : Gl X "zip") (hm : X.mg "zip" = none) (ha : PA X [e, e2] ta) (hK : X.K = K := by rfl)
    (hs : starEach [e, e2] X.env = (false, eval e X.env) :: starEach [e2] X.env := by rfl) (hpl : (backTo pos (starEach [e2] X.env)).any (·.1) = false := by rfl) :
    PI X (.Tuple elts kk tpos) (.Call (.Name "zip" p) [e, e2] [] pos) (iZip2 K ta) := by
  subst hK
  constructor
  intro pins s σ H R I h
  refine Call_ (ld_blt I hg hm PyProof.Rows.boot_zip (PyProof.Rows.callWith_type1 (thn (ha.run pos pins s σ H _ I h) fun us s1 h1 => ?_) hs hpl))
  obtain ⟨vs, H1, I1, r1, a, b, t1, t2, xs, ys, rfl, qx, qy, q⟩ := h1
  obtain ⟨its, _, la, za⟩ := qx.seq I1
  obtain ⟨its2, _, lb, zb⟩ := qy.seq I1
  match us, r1 with
  | [_, _], .cons rfl (.cons rfl .nil) =>
    refine zip_begins2 (begins_sc t1 a its.toArray) (begins_sc t2 b its2.toArray) la lb fun h' hz hTI hTO h1 h2 _ kp => wpAny_pyIter_zip hz ?_
    have ia : itAt t1 h' s1.heap.objs.size a 0 := by cases t1 <;> exact ⟨_, h1, rfl, rfl⟩
    have ib : itAt t2 h' (s1.heap.objs.size + 1) b 0 := by cases t2 <;> exact ⟨_, h2, rfl, rfl⟩
    refine ⟨_, _, _, _, H1, rfl, I1.kept (t' := s1.toks) kp, turn_zip2 (K := X.K) (Z := ⟨s1.heap.objs.size + 4, s1.heap.objs.size + 2, s1.heap.objs.size + 3, s1.heap.objs.size, s1.heap.objs.size + 1⟩) (apart2 za zb) ⟨Nat.ne_of_lt za, Nat.ne_of_lt (Nat.lt_succ_of_lt zb)⟩, ⟨hz, hTI, ⟨_, _, hTO⟩, ia, ib⟩, fun d hd => ?_, q⟩
    have late : s1.heap.objs.size ≤ d := by
      simp only [List.mem_cons, List.not_mem_nil, or_false] at hd
      rcases hd with z | z | z | z | z <;> (rw [z]; first | exact Nat.le_add_right _ _ | exact Nat.le_refl _)
    exact I1.fpOk late (I1.hok.fresh late)
theorem walk_zip2 {K : PySem.W.Frag} {t1 t2 : Bool} {a b : Addr} {xs ys : List V} (e : ys.length = xs.length) : Walk (It2 K t1 t2 a b) xs.length (fun H => SqB K t1 H a xs ∧ SqB K t2 H b ys)
    (fun i H v H' => ∃ (T : Addr) (x y : V), v = .ref T ∧ H T = none ∧ H' = upd H T (.tup [x, y]) ∧ xs[i]? = some x ∧ ys[i]? = some y) := by
  refine ⟨fun i H hi q => ?_, fun H q => ⟨xs, ys, q.1, q.2, rfl, e⟩, fun i H v H' hi q y => ?_⟩
  · exact ⟨xs, ys, xs[i], ys[i]'(by omega), q.1, q.2, List.getElem?_eq_getElem _, List.getElem?_eq_getElem _⟩
  · obtain ⟨T, x, y', h1, h2, h3, h4, h5⟩ := y
    exact ⟨T, x, y', h1, h2, h3, h4 _ q.1, h5 _ q.2⟩
end My

set_option Elab.async false
set_option linter.all false
set_option maxRecDepth 100000
set_option maxHeartbeats 2000000
namespace My
open PySem PySem.Spec PyProof.Rows L2
/-! ### defs whose facts are told by names -/
abbrev DefAt (K : PySem.W.Frag) (p : He.Defn) (x qual : Str) (st : Stmt) (fd : FuncData) : Prop := FunD K x qual (defArgs st) (defBody st) (defScope st) [] [] (He.fAd K p) fd
theorem DefAt.fn {K : PySem.W.Frag} {p : He.Defn} {x qual : Str} {st : Stmt} {fd : FuncData} (D : DefAt K p x qual st fd) : Fun K x qual st (He.fAd K p) fd := by
  obtain ⟨⟨oc, od, dV, kV, doc, pm, an, cd, ct, sl, e, l, c, dfl, _⟩, kp⟩ := D
  rcases dfl with ⟨_, rfl⟩ | ⟨ne, _⟩
  · exact ⟨⟨oc, od, kV, doc, pm, an, cd, ct, sl, e, l, c⟩, kp⟩
  · exact absurd rfl ne
theorem DefAt.fc {K : PySem.W.Frag} {p : He.Defn} {x qual : Str} {st : Stmt} {fd : FuncData} (D : DefAt K p x qual st fd) : FunC K x qual st (He.fAd K p) fd (He.codeOf K p) := by
  obtain ⟨⟨oc, od, dV, kV, doc, pm, an, cd, ct, sl, e, l, c, dfl, _⟩, kp⟩ := D
  obtain ⟨c', rfl⟩ := He.codeIn_ref c
  rcases dfl with ⟨_, rfl⟩ | ⟨ne, _⟩
  · have ec : He.codeOf K p = c' := He.codeOf_eq l (by rw [e])
    rw [ec]
    exact ⟨oc, od, kV, doc, pm, an, ct, sl, e, l, c⟩
  · exact absurd rfl ne
end My

set_option Elab.async false
set_option linter.all false
set_option maxRecDepth 100000
set_option maxHeartbeats 2000000
namespace My
open PySem PySem.Spec PyProof.Rows L2
/-! ### things looked at: == of data of any depth with shallow data; any thing in a list of texts -/
/-! ### data under tables that change -/
mutual
theorem Ft.keepG {H H' : Hp} (k1 : ∀ b xs, H b = some (.tup xs) → H' b = some (.tup xs)) (k2 : ∀ b xs, H b = some (.lst xs) → H' b = some (.lst xs)) : ∀ (d : PyData) (v : V), Ft H v d → Ft H' v d
  | .none, _, .non => .non
  | .bool _, _, .bl b => .bl b
  | .int _, _, .int i => .int i
  | .str _, _, .str x => .str x
  | .list ds, _, .lst h a => .lst (k2 _ _ h) (FtA.keepG k1 k2 ds _ a)
  | .tuple ds, _, .tup h a => .tup (k1 _ _ h) (FtA.keepG k1 k2 ds _ a)
theorem FtA.keepG {H H' : Hp} (k1 : ∀ b xs, H b = some (.tup xs) → H' b = some (.tup xs)) (k2 : ∀ b xs, H b = some (.lst xs) → H' b = some (.lst xs)) : ∀ (ds : List PyData) (vs : List V), FtA H vs ds → FtA H' vs ds
  | [], _, .nil => .nil
  | d :: ds, _, .cons h a => .cons (Ft.keepG k1 k2 d _ h) (FtA.keepG k1 k2 ds _ a)
end
theorem Ft.sx {Ps : List Addr} {H H' : Hp} {d : PyData} {v : V} (h : Ft H v d) (t : TG Ps H) (s : Sx Ps H H') : Ft H' v d := Ft.keepG (s.kt t) (fun _ _ e => s.lst t e) d v h
theorem Ft.same {H H' : Hp} {d : PyData} {v : V} (h : Ft H v d) (s : Same H H') : Ft H' v d := Ft.mono s d v h
theorem Ft.to {K : PySem.W.Frag} {H : Hp} {v : V} {d : PyData} (h : Ft H v d) : Dp K H v d := Ft.dp d v h
theorem Ft.open {H : Hp} {v : V} {ds : List PyData} (h : Ft H v (.tuple ds)) : ∃ (a : Addr) (xs : List V), v = .ref a ∧ H a = some (.tup xs) ∧ FtA H xs ds := by
  cases h with
  | tup h a => exact ⟨_, _, rfl, h, a⟩
end My

set_option Elab.async false
set_option linter.all false
set_option maxRecDepth 100000
set_option maxHeartbeats 2000000
namespace My
open PySem PySem.Spec PyProof.Rows L2
/-! ### displays and slices whose own object is told; sorted(list of data) -/
def tTupF (t : TA) : TE := fun σ H Q => t σ H fun ys H1 => ys.length ≤ sizeLine ∧ ∀ (l : Addr) (o : Obj), H1 l = none → o.dict = none → Q (.ref l) (upd H1 l (.frz o (.tup ys)))
theorem pe_tupF {X : Cx} {es : List Expr} {t : TA} {n : Nat} {pos : Pos} (h : PA X es t) : PE X (.Tuple es n pos) (tTupF t) := by
  constructor
  intro pins s σ H Q I hq
  have run := h.run pos pins s σ H _ I hq
  refine wpAny_Tuple_spliced (thn run fun us s1 he => ?_)
  obtain ⟨ys, H1, I1, rv, hz, q⟩ := he
  have hu : us.length ≤ sizeLine := by
    have := rv.length
    omega
  refine ⟨hu, ?_⟩
  have new : ObjOk X.prog X.w (upd H1 s1.heap.objs.size (.frz { cls := .type "tuple", data := .seq us.toArray } (.tup ys))) (s1.heap.push { cls := .type "tuple", data := .seq us.toArray }) s1.heap.objs.size (.frz { cls := .type "tuple", data := .seq us.toArray } (.tup ys)) := ⟨Heap.get?_push_size _ rfl, hz, us, rv, IsTup.new _ _⟩
  have I2 := I1.laid (t' := s1.toks) (fun b o e => Heap.get?_push_of_some _ e) (Nat.le_refl _) new
  exact ⟨.ref s1.heap.objs.size, _, I2, rfl, q _ _ (I1.hok.fresh (Nat.le_refl _)) rfl⟩
end My

set_option Elab.async false
set_option linter.all false
set_option maxRecDepth 100000
set_option maxHeartbeats 2000000
namespace My
open PySem PySem.Spec PyProof.Rows L2
/-! ### data in a list of data -/
/-! ### questions as data -/
theorem QZ.dp {K : PySem.W.Frag} {H : Hp} {v : V} {es : List (Nat × Int)} {rc : Option (Nat × Int × Int)} (h : QZ H v es rc) : Dp K H v (qD es rc) := by
  obtain ⟨qa, ev, y, rfl, h1, ⟨ea, o, ps, rfl, ho, hea, fps⟩, fy⟩ := h
  exact .tup (.inl (.inl h1)) (.cons (.tup (.inl (.inr ⟨_, hea⟩)) (FzA.dp _ _ fps)) (.cons fy.to .nil))
/-! ### how many rows fit; the lists of a choice -/
end My

set_option Elab.async false
set_option linter.all false
set_option maxRecDepth 100000
set_option maxHeartbeats 2000000
namespace My
open PySem PySem.Spec PyProof.Rows L2
/-! ### dict(enumerate(tuple)): a turn of enumerate while its last pair T is still out -/
section
variable {prog : Program} {w : World} {A : Around} {E : Value → Shared → Prop} {s : Shared} {e it T : Addr} {fp : List Addr} {n i : Nat} {c : Int} {P : Nat → Value → Prop} {St : Nat → Heap → Prop} {old : Value} {f : Bool} {oT : Obj}
theorem enum_turn {Q : Value → Shared → Prop} (D : Draws prog w A it fp n P St) (he : IsEnumHeld s.heap e it c old T f) (hT : s.heap.get? T = some oT) (nT : T ∉ [e, it]) (st : St i s.heap) (lt : i < n) (hei : e ≠ it) (hef : e ∉ fp)
    (go : ∀ x h' tk t, P i x → IsEnumHeld h' e it (c + 1) old T true → St (i + 1) h' → IsTupOf2 h' s.heap.objs.size (.int c t) x → But [e, it] s.heap h' → Q (.ref s.heap.objs.size) { s with heap := h', toks := tk }) :
    wpAny (model prog w) A (Builtin.«enumerate.__next__» ⟨[.ref e], []⟩) (fun fin s' => ∃ v, fin = .done (.ret v) ∧ Q v s') E s := by
  have me : e ∈ [e, it] := by simp
  have mi : it ∈ [e, it] := by simp
  refine wpAny_bind (m := field (.ref e) 2) (wpAny_field he rfl (x := .ref it) rfl (wpAny_bind (m := Builtin.SmallTypes.nextOf (.ref it)) (D.item i s _ _ lt st fun x h1 t1 px s1 k1 => ?_)))
  have e1 : IsEnumHeld h1 e it c old T f := k1.extBut _ _ hei he
  have b1 : But [e, it] s.heap h1 := But.one mi k1.extBut
  refine wpAny_bind (m := field (.ref e) 3) (wpAny_field (s := { s with heap := h1, toks := t1 }) e1 rfl (x := rawInt c) rfl (wpAny_bind (m := field (.ref e) 4) (wpAny_field (s := { s with heap := h1, toks := t1 }) e1 rfl (x := .none) rfl (wpAny_bind (m := mkInt c) (wpAny_mkInt ?_)))))
  refine wpAny_bind (m := setField (.ref e) 3 (rawInt (c + 1))) (wpAny_setField_rec (s := { s with heap := h1, toks := t1 + 1 }) e1 (by simp) fun h2 e2 k2 => ?_)
  have e2' : IsEnumHeld h2 e it (c + 1) old T f := e2
  refine wpAny_bind (m := setField (.ref e) 4 .none) (wpAny_setField_rec (s := { s with heap := h2, toks := t1 + 1 }) e2' (by simp) fun h3 e3 k3 => ?_)
  have e3' : IsEnumHeld h3 e it (c + 1) old T f := e3
  have b3 : But [e, it] s.heap h3 := (b1.then (But.one me k2.extBut)).then (But.one me k3.extBut)
  have z3 : h3.objs.size = s.heap.objs.size := k3.1.trans (k2.1.trans k1.1)
  refine wpAny_bind (m := newTuple [.int c t1, x]) (wpAny_newTuple (wpAny_bind (m := Builtin.SmallTypes.ownedTupleIsFree (.ref e)) ?_))
  have tup : IsTupOf2 (h3.push { cls := .type "tuple", data := .seq #[.int c t1, x] }) h3.objs.size (.int c t1) x := Heap.get?_push_size _ rfl
  refine wpAny_tupleHeld_enum (s := { s with heap := h3.push { cls := .type "tuple", data := .seq #[.int c t1, x] }, toks := t1 + 1 }) (Heap.get?_push_of_some _ e3') (Heap.get?_push_of_some _ (b3 _ _ nT hT)) fun h4 e4 k4 => ?_
  refine (if_neg Bool.false_ne_true).symm ▸ wpAny_pure ⟨_, rfl, ?_⟩
  rw [z3] at tup ⊢
  have ne : s.heap.objs.size ≠ e := Nat.ne_of_gt (Heap.lt_size he)
  have st3 : St (i + 1) h4 := D.frame _ _ _ s1 fun b hb o q => by
    have be : b ≠ e := fun z => hef (z ▸ hb)
    exact k4.extBut _ _ be (Heap.get?_push_of_some _ (k3.extBut _ _ be (k2.extBut _ _ be q)))
  exact go x h4 (t1 + 1) t1 px e4 st3 (k4.extBut _ _ ne tup) (b3.push.then (But.one me k4.extBut))
end
section
variable {prog : Program} {w : World} {e it t d : Addr} {items : Array Value} {i : Nat}
/-- i pairs of enumerate over the tuple t were drawn; d: the dict that takes them -/
structure ET (e it t d : Addr) (items : Array Value) (i : Nat) (h : Heap) : Prop where
  pos : h.IsTupleIter it t i
  src : h.IsTuple t items
  own : (∃ old, IsEnum h e it i old) ∨ ∃ old T f oT, IsEnumHeld h e it i old T f ∧ h.get? T = some oT ∧ T ∉ [d, e, it]
theorem tupIter_kept {h h' : Heap} {a t : Addr} {i : Nat} (x : h.IsTupleIter a t i) (k : ∀ o, h.get? a = some o → h'.get? a = some o) : h'.IsTupleIter a t i := by
  obtain ⟨o, ho, r⟩ := x
  exact ⟨o, k o ho, r⟩
theorem tup_kept {h h' : Heap} {t : Addr} {items : Array Value} (x : h.IsTuple t items) (k : ∀ o, h.get? t = some o → h'.get? t = some o) : h'.IsTuple t items := by
  obtain ⟨o, ho, r⟩ := x
  exact ⟨o, k o ho, r⟩
theorem ET.kept {h h' : Heap} (x : ET e it t d items i h) (hd : d ∉ [e, it, t]) (k : ∀ b o, b ≠ d → h.get? b = some o → h'.get? b = some o) : ET e it t d items i h' := by
  have ne : ∀ b, b ∈ [e, it, t] → b ≠ d := fun b hb z => hd (z ▸ hb)
  refine ⟨tupIter_kept x.pos fun o => k _ o (ne _ (by simp)), tup_kept x.src fun o => k _ o (ne _ (by simp)), ?_⟩
  rcases x.own with ⟨old, q⟩ | ⟨old, T, f, oT, q, p, n⟩
  · exact .inl ⟨old, k _ _ (ne _ (by simp)) q⟩
  · exact .inr ⟨old, T, f, oT, k _ _ (ne _ (by simp)) q, k _ _ (fun z => n (by simp [z])) p, n⟩
theorem ET.next {A : Around} {s : Shared} {Q : Option Value → Shared → Prop} {E : Value → Shared → Prop} (hA : A.handled = none) (hei : e ≠ it) (hte : t ≠ e) (hti : t ≠ it) (hd : i < items.size → d ≠ s.heap.objs.size) (x : ET e it t d items i s.heap) (hx : i ≤ items.size)
    (go : i < items.size → ∀ k v h' tk, (∃ u, k = .int i u) → items[i]? = some v → IsTupOf2 h' s.heap.objs.size k v → ET e it t d items (i + 1) h' → But [e, it] s.heap h' → Q (some (.ref s.heap.objs.size)) { s with heap := h', toks := tk })
    (stop : i = items.size → ∀ h' tk, But [e, it] s.heap h' → Q none { s with heap := h', toks := tk }) : wpAny (model prog w) A (pyNext (.ref e)) Q E s := by
  have D : Draws prog w A.in1 it [it, t] items.size (fun i v => items[i]? = some v) (fun i h => h.IsTupleIter it t i ∧ h.IsTuple t items) := Draws.tuple (A := A.in1) (show A.in1.handled = none from hA) it t hti items
  have hef : e ∉ [it, t] := by
    simp only [List.mem_cons, List.not_mem_nil, or_false, not_or]
    exact ⟨hei, fun z => hte z.symm⟩
  have there : ∀ {b : Addr} {o : Obj}, s.heap.get? b = some o → s.heap.objs.size ≠ b := fun q => Nat.ne_of_gt (Heap.lt_size q)
  have hit : ∃ o, s.heap.get? it = some o := let ⟨o, ho, _⟩ := x.pos; ⟨o, ho⟩
  obtain ⟨oi, hoi⟩ := hit
  have cast : ((i + 1 : Nat) : Int) = (i : Int) + 1 := by omega
  by_cases g : i < items.size
  · rcases x.own with ⟨old, q⟩ | ⟨old, T, f, oT, q, p, n⟩
    · refine wpAny_pyNext_enum_itemD D q ⟨x.pos, x.src⟩ g hei hef fun v h' tk px ho st hT hsz hk => ?_
      refine go g (.int i tk) v h' (tk + 1) ⟨tk, rfl⟩ px hT ⟨st.1, st.2, .inr ⟨v, s.heap.objs.size, false, _, by rw [cast]; exact ho, hT, ?_⟩⟩ fun b o hb q => ?_
      · simp only [List.mem_cons, List.not_mem_nil, or_false, not_or]
        exact ⟨fun z => hd g z.symm, there q, there hoi⟩
      · simp only [List.mem_cons, List.not_mem_nil, or_false, not_or] at hb
        exact hk b o hb.1 hb.2 q
    · have ty : s.TypeIs (.ref e) "enumerate" := ⟨_, q, rfl⟩
      unfold pyNext
      refine wpAny_bind (wpAny_attempt (wpAny_callSpecial?_slot (name := Str.ofString "__next__") ty F.slot_enumerate_next (wpAny_call_entry F.slot_enumerate_next ty F.entry_enumerate_next (enum_turn D q p (fun z => n (List.mem_cons_of_mem _ z)) ⟨x.pos, x.src⟩ g hei hef fun v h' tk u px ho st tup k => wpAny_pure ?_) (F.args_enumerate_next_1 _))))
      have nT : T ∉ [e, it] := fun z => n (List.mem_cons_of_mem _ z)
      exact go g (.int i u) v h' tk ⟨u, rfl⟩ px tup ⟨st.1, st.2, .inr ⟨old, T, true, oT, by rw [cast]; exact ho, k _ _ nT p, n⟩⟩ k
  · have ei : i = items.size := by omega
    subst ei
    rcases x.own with ⟨old, q⟩ | ⟨old, T, f, oT, q, p, n⟩
    · exact wpAny_pyNext_enum_endD D q ⟨x.pos, x.src⟩ fun h' k => stop rfl h' s.toks (But.one (by simp) k)
    · have ty : s.TypeIs (.ref e) "enumerate" := ⟨_, q, rfl⟩
      unfold pyNext
      refine wpAny_bind (wpAny_attempt (wpAny_callSpecial?_slot (name := Str.ofString "__next__") ty F.slot_enumerate_next (wpAny_call_entry F.slot_enumerate_next ty F.entry_enumerate_next ?_ (F.args_enumerate_next_1 _))))
      refine wpAny_bind (m := field (.ref e) 2) (wpAny_field q rfl (x := .ref it) rfl (wpAny_bind (m := Builtin.SmallTypes.nextOf (.ref it)) (D.done _ _ _ ⟨x.pos, x.src⟩ fun h' z k hz => ?_)))
      obtain ⟨oz, hoz, hc⟩ := hz
      exact wpAny_bind (wpAny_isInstance (T := "StopIteration") (b := true) ⟨oz, hoz, hc⟩ isSubtype_stop (wpAny_pure (stop rfl h' s.toks (But.one (by simp) k))))
theorem pair_enumT (hei : e ≠ it) (hte : t ≠ e) (hti : t ≠ it) :
    PairArg prog w "enumerate" e [e, it, t] [e, it] items.size (fun i k v => (∃ u, k = .int i u) ∧ items[i]? = some v) (fun h => (∃ old, IsEnum h e it 0 old) ∧ h.IsTupleIter it t 0 ∧ h.IsTuple t items) := by
  refine ⟨fun s ok => let ⟨⟨_, q⟩, _⟩ := ok; ⟨_, q, rfl⟩, by decide, fun h h' ok k => ?_, fun h ok b hb => ?_, fun b hb => ?_, fun A s Q E hA ok q => let ⟨⟨_, z⟩, _⟩ := ok; getAttrOr_miss_enumerate z rfl rfl rfl enumerate_no_keys (by decide +kernel) hA q, fun A s d Q E hA ok hd hn q => ?_⟩
  · obtain ⟨⟨old, a⟩, b, c⟩ := ok
    exact ⟨⟨old, k _ _ a⟩, tupIter_kept b fun o => k _ o, tup_kept c fun o => k _ o⟩
  · obtain ⟨⟨old, a⟩, ⟨o1, b1, _⟩, ⟨o2, c1, _⟩⟩ := ok
    simp only [List.mem_cons, List.not_mem_nil, or_false] at hb
    rcases hb with z | z | z <;> rw [z]
    · exact ⟨_, a⟩
    · exact ⟨_, b1⟩
    · exact ⟨_, c1⟩
  · simp only [List.mem_cons, List.not_mem_nil, or_false] at hb ⊢
    rcases hb with z | z <;> simp [z]
  · obtain ⟨⟨old, a⟩, b, c⟩ := ok
    refine wpAny_pyIter_enum a (q e [e, it] (ET e it t d items) s.heap s.toks ⟨fun hm => hn ?_, fun i h h' st k => st.kept hn k, fun i s1 Q1 E1 hi st hds q1 => ?_, fun s1 Q1 E1 st q1 => ?_⟩ ⟨b, c, .inl ⟨old, a⟩⟩ (fun _ _ z => z) fun c hc => .inl hc)
    · simp only [List.mem_cons, List.not_mem_nil, or_false] at hm ⊢
      rcases hm with z | z <;> simp [z]
    · refine st.next hA hei hte hti (fun _ => Nat.ne_of_lt hds) (by omega) (fun _ k v h' tk hk hv tup st' kk => ?_) fun g => absurd g (by omega)
      exact q1 _ _ _ h' tk ⟨hk, hv⟩ (.inl ⟨_, tup, rfl, _, rfl⟩) st' kk
    · exact ET.next (d := d) hA hei hte hti (fun g => absurd g (by omega)) st (Nat.le_refl _) (fun g => absurd g (by omega)) fun _ h' tk k => q1 h' tk k
end
section
variable {X : Cx}
/-- the entries place: item -/
def enK : Nat → List V → List (Key × V)
  | _, [] => []
  | n, x :: xs => (Sum.inl (n : Int), x) :: enK (n + 1) xs
theorem enK_len : ∀ (xs : List V) (n : Nat), (enK n xs).length = xs.length
  | [], _ => rfl
  | x :: xs, n => congrArg (· + 1) (enK_len xs (n + 1))
theorem enK_at : ∀ (xs : List V) (n i : Nat) (x : V), xs[i]? = some x → (enK n xs)[i]? = some (Sum.inl ((n + i : Nat) : Int), x)
  | [], _, _, _, h => nomatch h
  | y :: xs, n, 0, x, h => by
    cases h
    rfl
  | y :: xs, n, i + 1, x, h => by
    have := enK_at xs (n + 1) i x h
    rw [show n + 1 + i = n + (i + 1) by omega] at this
    exact this
theorem enK_keys : ∀ (xs : List V) (n : Nat), (enK n xs).map (·.1) = (List.range' n xs.length).map fun i : Nat => (Sum.inl (i : Int) : Key)
  | [], _ => rfl
  | x :: xs, n => by
    have := enK_keys xs (n + 1)
    show (Sum.inl (n : Int) : Key) :: (enK (n + 1) xs).map (·.1) = _
    rw [this]
    rfl
theorem enK_nodup (xs : List V) (n : Nat) : ((enK n xs).map (·.1)).Nodup := by
  rw [enK_keys]
  refine List.pairwise_map.mpr ((List.nodup_range' (s := n) (n := xs.length) (step := 1)).imp fun {a b} h z => h ?_)
  have : (a : Int) = (b : Int) := Sum.inl.inj z
  omega
/-- dict(enumerate(t)), t a tuple -/
def tDictEnum (K : PySem.W.Frag) (t : TA) : TE := fun σ H Q => t σ H fun vs H1 => ∃ (a : Addr) (xs : List V), vs = [.ref a] ∧ SqT K H1 a xs ∧ xs.length ≤ 1000 ∧ ∀ p, H1 p = none → Q (.ref p) (upd H1 p (.dK (enK 0 xs)))
theorem pe_dictEnum {e : Expr} {t : TA} {p p2 pos2 pos : Pos} (K : PySem.W.Frag) (hc : X.calm = true) (ha : PA X [e] t) (hgd : Gl X "dict") (hmd : X.mg "dict" = none) (hg : Gl X "enumerate") (hm : X.mg "enumerate" = none) (hK : X.K = K := by rfl)
    (hs : starEach [e] X.env = [(false, eval e X.env)] := by rfl)
    (hs1 : starEach [.Call (.Name "enumerate" p2) [e] [] pos2] X.env = (false, eval (.Call (.Name "enumerate" p2) [e] [] pos2) X.env) :: starEach [] X.env := by rfl) :
    PE X (.Call (.Name "dict" p) [.Call (.Name "enumerate" p2) [e] [] pos2] [] pos) (tDictEnum K t) := by
  subst hK
  refine ⟨fun pins s σ H Q I h => ?_⟩
  refine wpAny_Call_Name_kw (ld_blt I hgd hmd (show bootBuiltins "dict" = some (.type "dict") by decide +kernel) ?_)
  refine PyProof.Rows.callWith_type1 ?_ hs1 rfl
  rw [hs1]
  show wpAny _ _ (spliced ((false, eval (.Call (.Name "enumerate" p2) [e] [] pos2) X.env) :: backTo pos (starEach [] X.env))) _ _ s
  refine Calls.spliced_cons ?_
  refine Call_ (ld_blt I hg hm boot_enumerate (PyProof.Rows.callWith_type1 (thn (ha.run pos2 pins s σ H _ I h) fun us s1 ⟨vs, H1, I1, r1, q1⟩ => ?_) hs rfl))
  obtain ⟨a, xs, rfl, hq, hxl, q⟩ := q1
  obtain ⟨u, rfl, ru⟩ := vals1 r1
  cases ru
  obtain ⟨its, rv, pl, hz⟩ := I1.tuple hq
  obtain ⟨oa, hoa, _⟩ := id pl
  have hal : (a : Nat) < s1.heap.objs.size := Heap.lt_size hoa
  refine call_enumT pl fun h' he hit hk => ?_
  have I2 : Inv X pins σ H1 { s1 with heap := h' } := I1.kept (t' := s1.toks) hk
  refine Calls.spliced_nil ?_
  have il : its.toArray.size = xs.length := by
    rw [List.size_toArray, ← rv.length]
  refine call_dict_loose (kvs := enK 0 xs) (pair_enumT (t := a) (items := its.toArray) (Nat.succ_ne_self s1.heap.objs.size) (fun z => absurd hal (by rw [z]; exact Nat.not_lt.mpr (Nat.le_succ _))) fun z => absurd hal (by rw [z]; exact Nat.lt_irrefl _)) (I2.ok.hd hc) ⟨⟨_, he⟩, hit, tup_kept pl fun o => hk _ o⟩ (by rw [enK_len, il]) (fun i key v hr => ?_) (by rw [il]; have := small1000 hxl; omega) fun h2' tk vs kv hd hk2 => ?_
  · obtain ⟨⟨u, rfl⟩, hv⟩ := hr
    have hv2 : its[i]? = some v := by simpa using hv
    have hi : i < xs.length := by
      rw [rv.length]
      exact (List.getElem?_eq_some_iff.mp hv2).1
    obtain ⟨v', hv', rr⟩ := rv.get (List.getElem?_eq_getElem hi)
    rw [hv2] at hv'
    cases hv'
    refine ⟨_, _, enK_at xs 0 i _ (List.getElem?_eq_getElem hi), ?_, rr⟩
    simp [keyIs, Value.isInt]
  · have hlen : (mergeK [] (enK 0 xs)).length ≤ sizeLine := by
      have z := length_mergeK (enK 0 xs) []
      rw [List.length_nil, Nat.zero_add, enK_len] at z
      have := small1000 hxl
      omega
    have hm2 : (h'.objs.size == sysModules) = false := beq_eq_false_iff_ne.mpr (Nat.ne_of_gt I2.big)
    have keep : ∀ c o, s1.heap.get? c = some o → h2'.get? c = some o := fun c o e => by
      have hlt : (c : Nat) < s1.heap.objs.size := Heap.lt_size e
      refine hk2 c o (fun hm => ?_) (hk c o e)
      simp only [List.mem_cons, List.not_mem_nil, or_false] at hm
      rcases hm with z | z
      · exact absurd hlt (by rw [z]; exact Nat.not_lt.mpr (Nat.le_succ _))
      · exact absurd hlt (by rw [z]; exact Nat.lt_irrefl _)
    have hle : s1.heap.objs.size ≤ h'.objs.size := Nat.le_of_lt (Nat.lt_of_succ_lt (Heap.lt_size he))
    have new : ObjOk X.prog X.w (upd H1 h'.objs.size (.dK (mergeK [] (enK 0 xs)))) h2' h'.objs.size (.dK (mergeK [] (enK 0 xs))) := ⟨hlen, hm2, merged [] vs, KV.merge kv .nil, hd⟩
    have I3 := I1.laid (t' := tk) keep hle new
    refine ⟨.ref h'.objs.size, _, I3, rfl, ?_⟩
    rw [merge_new _ [] (by rw [List.nil_append]; exact enK_nodup xs 0), List.nil_append]
    exact q _ (I1.hok.fresh hle)
end
end My

set_option Elab.async false
set_option linter.all false
set_option maxRecDepth 100000
set_option maxHeartbeats 2000000
namespace My
open PySem PySem.Spec PyProof.Rows L2
section
variable {X : Cx}
/-- a tracked dict as it lies in memory -/
structure DkAt (X : Cx) (h : Heap) (d : Addr) (kvs : List (Key × V)) (vs : List (Key × Value)) (ep : Nat) : Prop where
  rel : KV kvs vs
  len : vs.length = kvs.length
  fit : vs.length ≤ sizeLine
  own : (d == sysModules) = false
  lies : h.DictAt (mixKind X.prog X.w) d vs ep
theorem dk_at {pins : List (Addr × Obj)} {σ : L2.St} {H : Hp} {s : Shared} (I : Inv X pins σ H s) {d : Addr} {kvs : List (Key × V)} (h : H d = some (.dK kvs)) : ∃ vs ep, DkAt X s.heap d kvs vs ep := by
  have ⟨z, m, vs, r, o⟩ := I.hok d _ h
  have ⟨ep, lies⟩ := o.dictAt
  have l : vs.length = kvs.length := (Paired.length r).symm
  exact ⟨vs, ep, r, l, l ▸ z, m, lies⟩
/-! ### d != {} -/
def rNeD0 : R2 := fun x y H Q => ∃ (d e : Addr) (kvs : List (Key × V)), x = .ref d ∧ y = .ref e ∧ H d = some (.dK kvs) ∧ H e = some (.dK []) ∧ Q (.bl (!kvs.isEmpty)) H
theorem neD0 (hu : X.A.units + 64 < cLine) : OpR X (compareOp .NotEq) rNeD0 := by
  intro pins s σ H x y v u Q I rx ry h
  obtain ⟨d, e, kvs, rfl, rfl, hd, he, q⟩ := h
  obtain rfl : v = Value.ref d := rx
  obtain rfl : u = Value.ref e := ry
  have ⟨vs, _, D⟩ := dk_at I hd
  have ⟨us, _, G⟩ := dk_at I he
  have us0 : us = [] := List.length_eq_zero_iff.mp G.len
  have same : (vs.length == us.length && true) = kvs.isEmpty := by
    rw [Bool.and_true, D.len, G.len]
    cases kvs <;> rfl
  refine PySem.W.keq_ne (r := true) D.own G.own D.lies.dictOf G.lies.dictOf (by omega) (fun hl => ?_) ⟨.bl _, H, I, rfl, ?_⟩
  · rw [us0] at hl
    rw [List.length_eq_zero_iff.mp hl]
    exact .nil
  · rw [same]
    exact q
/-! ### [*d, ..] -/
theorem keys_rel {kvs : List (Key × V)} {vs : List (Key × Value)} (kv : KV kvs vs) : ∀ {us : List Value}, us.length = kvs.length → (∀ (i : Nat) (v : Value), us[i]? = some v → ∃ k x, vs[i]? = some (k, x) ∧ keyIs k v = true) → Vals (kvs.map fun p => kV p.1) us := by
  induction kv with
  | nil =>
    intro us hl g
    cases us with
    | nil => exact .nil
    | cons _ _ => cases hl
  | @cons p r _ _ e t ih =>
    intro us hl g
    cases us with
    | nil => cases hl
    | cons u us =>
      obtain ⟨k, x, e1, e2⟩ := g 0 u rfl
      have e3 : r = (k, x) := Option.some.inj e1
      have e4 : p.1 = k := by rw [e.1, e3]
      have hd : RelV (kV p.1) u := by
        rcases keyIs_shape e2 with ⟨i, t, e5, e6⟩ | ⟨z, t, e5, e6⟩
        · rw [e4, e5, e6]
          exact ⟨t, rfl⟩
        · rw [e4, e5, e6]
          exact ⟨t, rfl⟩
      exact .cons hd (ih (by simpa using hl) fun i v hv => g (i + 1) v hv)
def tStarD (te : TE) (t : TA) : TA := fun σ H Q => te σ H fun x H1 => ∃ (d : Addr) (kvs : List (Key × V)), x = .ref d ∧ H1 d = some (.dK kvs) ∧ t σ H1 fun ys H2 => Q (kvs.map (fun p => kV p.1) ++ ys) H2
theorem paStarD {e : Expr} {te : TE} {es : List Expr} {t : TA} {p : Pos} (hc : X.calm = true) (he : PE X e te) (hr : PA X es t) (hs : starEach (.Starred e p :: es) X.env = (true, eval e X.env) :: starEach es X.env := by rfl) : PA X (.Starred e p :: es) (tStarD te t) := by
  refine ⟨fun pos pins s σ H Q I h => ?_⟩
  refine PySem.W.items_star (thn (he.run pins s σ H _ I h) fun v s1 ⟨x, H1, I1, rx, d, kvs, ex, hd, q⟩ => ?_) hs
  subst ex
  obtain rfl : v = Value.ref d := rx
  have ⟨vs, ep, D⟩ := dk_at I1 hd
  unfold PySem.W.StarOf
  rw [notIterableAtAll]
  refine wpAny_bind (wpAny_specialOf D.lies.dictOf.typeIs PySem.F.slot_dict_iter.lookup (wpAny_pure ⟨rfl, ?_⟩))
  refine PySem.W.kdu_collect (PySem.W.kdl_dict D.own) (I1.ok.hd hc) D.lies D.fit fun h' tk acc hk hacc => ?_
  have I2 : Inv X pins σ H1 { s1 with heap := h', toks := tk } := I1.kept (t' := tk) hk
  have rv : Vals (kvs.map fun p => kV p.1) acc.toList := keys_rel D.rel (by rw [Array.length_toList, hacc.1, D.len]) fun i v hv => hacc.2 i v (by rw [← Array.getElem?_toList]; exact hv)
  exact thn (hr.run pos pins _ σ H1 _ I2 q) fun ws s3 ⟨ys, H3, I3, r3, q3⟩ => ⟨_, H3, I3, rv.append r3, q3⟩
/-! ### tuple(d.values()) -/
section
variable {prog : Program} {w : World} {A : Around} {E : Value → Shared → Prop} {s : Shared} {T : String} {r d : Addr} {n : Nat} {P : Nat → Value → Prop} {OK : Heap → Prop}
theorem meets_tuple_src (K : PySem.W.KdlSrc prog w T r d n P OK) (hn : n ≤ sizeLine) :
    MeetsIn prog w (Builtin.«tuple.__new__» ⟨[.type "tuple", .ref r], []⟩) (fun A R s => A.handled = none ∧ OK s.heap ∧ ∀ (h' : Heap) (tk : Nat) (acc : Array Value), (∀ b o, s.heap.get? b = some o → h'.get? b = some o) → ItemsOf P acc n → R (.ok (.ret (.ref h'.objs.size))) { s with heap := h'.push { cls := .type "tuple", data := .seq acc }, toks := tk }) :=
  .of_wp fun A R s ⟨hh, ok, h⟩ => by
    have hsub := sub_tuple_self
    have hinit := init_tuple_lookup
    have hmh := madeHere_tuple
    have hT := K.type s ok
    wp_walk using wpAny_typeOf hT
    rw [K.notTuple, if_neg Bool.false_ne_true]
    refine wpAny_bind (PySem.W.kdu_collect K hh ok hn fun h' tk acc hk hacc => ?_)
    show wpAny _ _ (Builtin.Tuple.tupleExact acc.toList.toArray >>= fun v => ret v) _ _ _
    unfold Builtin.Tuple.tupleExact
    refine wpAny_bind (wpAny_newObj_type ?_ (by show acc.toList.toArray.size ≤ sizeLine; rw [Array.toArray_toList, hacc.1]; exact hn))
    refine wpAny_pure ⟨_, rfl, ?_⟩
    rw [Array.toArray_toList]
    exact h h' tk acc hk hacc
theorem call_tuple_src {Q : Value → Shared → Prop} (K : PySem.W.KdlSrc prog w T r d n P OK) (hn : n ≤ sizeLine) (hh : A.handled = none) (ok : OK s.heap)
    (h : ∀ (h' : Heap) (tk : Nat) (acc : Array Value), (∀ b o, s.heap.get? b = some o → h'.get? b = some o) → ItemsOf P acc n → Q (.ref h'.objs.size) { s with heap := h'.push { cls := .type "tuple", data := .seq acc }, toks := tk }) :
    wpAny (model prog w) A (call (.type "tuple") [.ref r]) Q E s :=
  callType_newIn F.called_tuple (by decide) (F.typeCall_tuple_1 _) (F.newCall_tuple_1 _) (fun obj => F.args_object_init_2 obj _) F.entry_tuple_new (meets_tuple_src K hn) ⟨hh, ok, fun h' tk acc hk hacc => ⟨⟨_, Heap.get?_push_size _ rfl, rfl⟩, h h' tk acc hk hacc⟩⟩
end
def tTupVals (te : TE) : TE := fun σ H Q => te σ H fun x H1 => ∃ (d : Addr) (kvs : List (Key × V)), x = .ref d ∧ H1 d = some (.dK kvs) ∧ ∀ p, H1 p = none → Q (.ref p) (upd H1 p (.tup (kvs.map (·.2))))
theorem pe_tupVals {e : Expr} {te : TE} {p apos cpos pos : Pos} (hc : X.calm = true) (he : PE X e te) (hg : Gl X "tuple") (hm : X.mg "tuple" = none) (hv : bootBuiltins "tuple" = some (.type "tuple") := by decide +kernel) (hbase : attributeBase e "values" X.env (eval e X.env) = eval e X.env := by rfl) (hline : (apos.endLine == cpos.line) = true := by rfl)
    (hs : starEach [.Call (.Attribute e "values" apos) [] [] cpos] X.env = (false, eval (.Call (.Attribute e "values" apos) [] [] cpos) X.env) :: starEach [] X.env := by rfl) :
    PE X (.Call (.Name "tuple" p) [.Call (.Attribute e "values" apos) [] [] cpos] [] pos) (tTupVals te) := by
  constructor
  intro pins s σ H Q I hq
  refine wpAny_Call_Name_kw (ld_blt I hg hm hv (PyProof.Rows.callWith_type1 ?_ hs rfl))
  rw [hs]
  refine Calls.spliced_cons (rest := backTo pos (starEach [] X.env)) ?_
  refine wpAny_Call_method (T := "dict") (id := "dict.values") hbase rfl hline F.plainAttrs_dict F.slot_dict_values F.type_dict_values (thn (he.run pins s σ H _ I hq) fun u s1 hh => ?_)
  obtain ⟨x, H1, I1, rx, d, kvs, rfl, hd, q⟩ := hh
  cases rx
  have ⟨vs, ep, D⟩ := dk_at I1 hd
  have dof := D.lies.dictOf
  refine ⟨dof.typeIs, dof.mapOf.noDict, method_meetsIn F.slot_dict_values F.entry_dict_values rfl (PySem.evalArgs_none ⟨rfl, dof.typeIs, F.args_dict_values_1 _, _, meets_dict_values (mixKind X.prog X.w) d D.own, ⟨vs, dof⟩, Calls.spliced_nil ?_⟩)⟩
  -- the view, then the tuple of what it gives
  have I2 : Inv X pins σ H1 { s1 with heap := s1.heap.push { cls := .type "dict_values", data := .fields #[.ref d] } } := I1.kept (t' := s1.toks) fun _ _ => Heap.get?_push_of_some _
  refine call_tuple_src (PySem.W.kdl_values (kvs := vs) (ep := ep)) D.fit (I1.ok.hd hc) ⟨⟨_, Heap.get?_push_size _ rfl, rfl, rfl⟩, D.lies.push _⟩ fun h' tk acc hk hacc => ?_
  have ev : acc.toList = vs.map (·.2) := PySem.W.kdl_vals_eq _ (Array.length_toList.trans hacc.1) fun j v e => hacc.2 j v (Array.getElem?_toList.symm.trans e)
  have I3 : Inv X pins σ H1 { s1 with heap := h', toks := tk } := I2.kept (t' := tk) hk
  have fit : (kvs.map (·.2)).length ≤ sizeLine := by
    rw [List.length_map, ← D.len]
    exact D.fit
  have lies : IsTup (h'.push { cls := .type "tuple", data := .seq acc }) h'.objs.size acc.toList.toArray := by
    rw [Array.toArray_toList]
    exact IsTup.new h' acc
  have I4 := I3.laid (t' := tk) (o := .tup (kvs.map (·.2))) (fun b o e => Heap.get?_push_of_some _ e) (Nat.le_refl _) ⟨fit, acc.toList, vals_at D.rel ev, lies⟩
  exact ⟨.ref h'.objs.size, _, I4, rfl, q _ (I3.hok.fresh (Nat.le_refl _))⟩
end
end My

set_option Elab.async false
set_option linter.all false
set_option maxRecDepth 100000
set_option maxHeartbeats 2000000
namespace My
open PySem PySem.Spec PyProof.Rows L2
/-! ### rows by their numbers, as a dict holds them -/
abbrev Nmd := List (Nat × List Int)
abbrev nKy (n : Nat) : Key := Sum.inl (n : Int)
theorem nKy_inj {a b : Nat} (h : nKy a = nKy b) : a = b := by
  have : (a : Int) = (b : Int) := Sum.inl.inj h
  omega
inductive NmK (H : Hp) : List (Key × V) → Nmd → Prop
  | nil : NmK H [] []
  | cons {n : Nat} {r : List Int} {v : V} {kvs : List (Key × V)} {th : Nmd} : Fz H v (rowD r) → NmK H kvs th → NmK H ((nKy n, v) :: kvs) ((n, r) :: th)
section
variable {H H' : Hp} {kvs : List (Key × V)} {th : Nmd}
theorem NmK.kt (h : NmK H kvs th) (k : Kt H H') : NmK H' kvs th := by
  induction h with
  | nil => exact .nil
  | cons f _ ih => exact .cons (f.kt k) ih
theorem NmK.len (h : NmK H kvs th) : kvs.length = th.length := by
  induction h with
  | nil => rfl
  | cons _ _ ih => rw [List.length_cons, List.length_cons, ih]
theorem NmK.keys (h : NmK H kvs th) : kvs.map (·.1) = th.map fun x => nKy x.1 := by
  induction h with
  | nil => rfl
  | cons _ _ ih => rw [List.map_cons, List.map_cons, ih]
theorem NmK.vals (h : NmK H kvs th) : FzA H (kvs.map (·.2)) ((th.map (·.2)).map rowD) := by
  induction h with
  | nil => exact .nil
  | cons f _ ih => exact .cons f ih
theorem NmK.none (h : NmK H kvs th) {n : Nat} (hn : n ∉ th.map (·.1)) : valV kvs (nKy n) = Option.none := by
  refine valV_none ?_
  rw [h.keys]
  intro z
  obtain ⟨x, hx, e⟩ := List.mem_map.mp z
  exact hn (nKy_inj e ▸ List.mem_map.mpr ⟨x, hx, rfl⟩)
theorem NmK.at' (h : NmK H kvs th) : ∀ {n : Nat} {r : List Int}, (th.map (·.1)).Nodup → (n, r) ∈ th → ∃ v, valV kvs (nKy n) = some v ∧ Fz H v (rowD r) := by
  induction h with
  | nil => intro n r _ hm; cases hm
  | @cons n' r' v kvs' th' f _ ih =>
    intro n r nd hm
    rw [List.map_cons, List.nodup_cons] at nd
    rcases List.mem_cons.mp hm with z | z
    · cases z
      exact ⟨v, valV_pos rfl, f⟩
    · have ne : n' ≠ n := fun e => nd.1 (e ▸ List.mem_map.mpr ⟨(n, r), z, rfl⟩)
      obtain ⟨u, hu, fu⟩ := ih nd.2 z
      exact ⟨u, by rw [valV_neg (fun e => ne (nKy_inj e))]; exact hu, fu⟩
theorem NmK.snoc (h : NmK H kvs th) {n : Nat} {r : List Int} {v : V} (f : Fz H v (rowD r)) : NmK H (kvs ++ [(nKy n, v)]) (th ++ [(n, r)]) := by
  induction h with
  | nil => exact .cons f .nil
  | cons g _ ih => exact .cons g ih
theorem NmK.put (h : NmK H kvs th) {n : Nat} {r : List Int} {v : V} (f : Fz H v (rowD r)) (hn : n ∉ th.map (·.1)) : NmK H (putK kvs (nKy n) v) (th ++ [(n, r)]) := by
  rw [putK_new v (h.none hn)]
  exact h.snoc f
/-- without the row of the number g -/
def outT (th : Nmd) (g : Nat) : Nmd := th.filter fun x => decide (x.1 ≠ g)
theorem NmK.drop (h : NmK H kvs th) (g : Nat) : NmK H (dropK kvs (nKy g)) (outT th g) := by
  unfold dropK outT
  induction h with
  | nil => exact .nil
  | @cons n' r' v kvs' th' f _ ih =>
    rw [List.filter_cons, List.filter_cons]
    by_cases e : n' = g
    · rw [if_neg (by simp [e]), if_neg (by simp [e])]
      exact ih
    · have e2 : ¬ (nKy n' = nKy g) := fun z => e (nKy_inj z)
      rw [if_pos (by simpa using e2), if_pos (by simpa using e)]
      exact .cons f ih
/-- rows numbered from n -/
def thN : Nat → List (List Int) → Nmd
  | _, [] => []
  | n, r :: rs => (n, r) :: thN (n + 1) rs
theorem NmK.en : ∀ {rows : List (List Int)} {vs : List V} (n : Nat), FzA H vs (rows.map rowD) → NmK H (enK n vs) (thN n rows)
  | [], _, _, .nil => .nil
  | r :: rs, _, n, .cons f a => .cons f (NmK.en (n + 1) a)
theorem thN_rows : ∀ (rows : List (List Int)) (n : Nat), (thN n rows).map (·.2) = rows
  | [], _ => rfl
  | r :: rs, n => congrArg (r :: ·) (thN_rows rs (n + 1))
theorem thN_len (rows : List (List Int)) (n : Nat) : (thN n rows).length = rows.length := by
  have := congrArg List.length (thN_rows rows n)
  rw [List.length_map] at this
  exact this
theorem thN_nums : ∀ (rows : List (List Int)) (n : Nat), (thN n rows).map (·.1) = List.range' n rows.length
  | [], _ => rfl
  | r :: rs, n => congrArg (n :: ·) (thN_nums rs (n + 1))
/-- what is right of the rows that are there -/
structure NmOk (w : Nat) (th : Nmd) (n : Nat) : Prop where
  up : (th.map (·.1)).Pairwise (· < ·)
  lt : ∀ x ∈ th, x.1 < n
  row : ∀ x ∈ th, RowOk w x.2
theorem NmOk.nd {w n : Nat} (h : NmOk w th n) : (th.map (·.1)).Nodup := h.up.imp fun {a b} z => by omega
theorem NmOk.new {w n : Nat} (h : NmOk w th n) : n ∉ th.map (·.1) := fun z => by
  obtain ⟨x, hx, e⟩ := List.mem_map.mp z
  have := h.lt x hx
  omega
theorem NmOk.put {w n : Nat} (h : NmOk w th n) {r : List Int} (hr : RowOk w r) : NmOk w (th ++ [(n, r)]) (n + 1) := by
  refine ⟨?_, fun x hx => ?_, fun x hx => ?_⟩
  · rw [List.map_append, List.pairwise_append]
    refine ⟨h.up, List.pairwise_singleton _ _, fun a ha b hb => ?_⟩
    obtain ⟨x, hx, rfl⟩ := List.mem_map.mp ha
    rw [List.mem_singleton.mp hb]
    exact h.lt x hx
  · rcases List.mem_append.mp hx with z | z
    · have := h.lt x z
      omega
    · rw [List.mem_singleton.mp z]
      exact Nat.lt_succ_self n
  · rcases List.mem_append.mp hx with z | z
    · exact h.row x z
    · rw [List.mem_singleton.mp z]
      exact hr
theorem NmOk.out {w n : Nat} (h : NmOk w th n) (g : Nat) : NmOk w (outT th g) n :=
  ⟨List.Pairwise.sublist (List.filter_sublist.map _) h.up, fun x hx => h.lt x (List.mem_filter.mp hx).1, fun x hx => h.row x (List.mem_filter.mp hx).1⟩
theorem NmOk.start {w : Nat} {rows : List (List Int)} (h : RowsOk w rows) : NmOk w (thN 0 rows) rows.length := by
  refine ⟨?_, fun x hx => ?_, fun x hx => ?_⟩
  · rw [thN_nums]
    exact List.pairwise_lt_range'
  · have : x.1 ∈ (thN 0 rows).map (·.1) := List.mem_map.mpr ⟨x, hx, rfl⟩
    rw [thN_nums, List.mem_range'] at this
    obtain ⟨i, hi, e⟩ := this
    omega
  · have : x.2 ∈ (thN 0 rows).map (·.2) := List.mem_map.mpr ⟨x, hx, rfl⟩
    rw [thN_rows] at this
    exact h _ this
theorem NmOk.rows {w n : Nat} (h : NmOk w th n) : RowsOk w (th.map (·.2)) := fun r hr => by
  obtain ⟨x, hx, rfl⟩ := List.mem_map.mp hr
  exact h.row x hx
end
/-! ### the numbers sorted by a list -/
section
variable {cols one : List Nat}
def ltE (cols one : List Nat) (a b : Nat × List Int) : Prop := keyM cols a.2 one < keyM cols b.2 one ∨ (keyM cols a.2 one = keyM cols b.2 one ∧ a.1 < b.1)
theorem ltE.asymm {a b : Nat × List Int} (h : ltE cols one a b) (g : ltE cols one b a) : False := by
  rcases h with h | ⟨h, h'⟩ <;> rcases g with g | ⟨g, g'⟩
  · exact List.lt_irrefl _ (List.lt_trans h g)
  · rw [g] at h
    exact List.lt_irrefl _ h
  · rw [h] at g
    exact List.lt_irrefl _ g
  · omega
/-- ns: the numbers of the rows th, sorted by the list one and by themselves -/
def IsOrd (cols : List Nat) (th : Nmd) (one ns : List Nat) : Prop := ∃ es : Nmd, ns = es.map (·.1) ∧ es.Perm th ∧ es.Pairwise (ltE cols one)
theorem IsOrd.same {th : Nmd} {ns ms : List Nat} (a : IsOrd cols th one ns) (b : IsOrd cols th one ms) : ns = ms := by
  obtain ⟨es, rfl, p, s⟩ := a
  obtain ⟨fs, rfl, q, t⟩ := b
  rw [(p.trans q.symm).eq_of_pairwise (fun x y _ _ h g => (h.asymm g).elim) s t]
theorem IsOrd.nil : IsOrd cols [] one [] := ⟨[], rfl, .refl _, .nil⟩
theorem IsOrd.perm {th : Nmd} {ns : List Nat} (a : IsOrd cols th one ns) : ns.Perm (th.map (·.1)) := by
  obtain ⟨es, rfl, p, _⟩ := a
  exact p.map _
theorem IsOrd.len {th : Nmd} {ns : List Nat} (a : IsOrd cols th one ns) : ns.length = th.length := by
  have := a.perm.length_eq
  rw [List.length_map] at this
  exact this
theorem cut_sorted {α : Type} (p : α → Bool) : ∀ {es : List α}, es.Pairwise (fun a b => p b = true → p a = true) → es.take (es.filter p).length = es.filter p ∧ es.drop (es.filter p).length = es.filter fun a => !p a
  | [], _ => ⟨rfl, rfl⟩
  | a :: es, h => by
    obtain ⟨h1, h2⟩ := List.pairwise_cons.mp h
    rw [List.filter_cons, List.filter_cons]
    by_cases e : p a = true
    · obtain ⟨i1, i2⟩ := cut_sorted p h2
      rw [if_pos e, if_neg (by simp [e])]
      exact ⟨by rw [List.length_cons, List.take_succ_cons, i1], by rw [List.length_cons, List.drop_succ_cons, i2]⟩
    · have none : es.filter p = [] := List.filter_eq_nil_iff.mpr fun b hb z => e (h1 b hb z)
      have all : es.filter (fun a => !p a) = es := List.filter_eq_self.mpr fun b hb => by
        have : p b ≠ true := fun z => e (h1 b hb z)
        simp [this]
      rw [if_neg e, if_pos (by simp [e]), none, all]
      exact ⟨rfl, rfl⟩
/-- the keys that are not above the key of the row -/
def notAbove (cols one : List Nat) (row : List Int) (e : Nat × List Int) : Bool := !decide (keyM cols row one < keyM cols e.2 one)
theorem IsOrd.put {th es : Nmd} {n : Nat} {row : List Int} (p : es.Perm th) (s : es.Pairwise (ltE cols one)) (hn : ∀ x ∈ th, x.1 < n) :
    IsOrd cols (th ++ [(n, row)]) one ((es.map (·.1)).take (es.filter (notAbove cols one row)).length ++ [n] ++ (es.map (·.1)).drop (es.filter (notAbove cols one row)).length) := by
  have down : es.Pairwise fun a b => notAbove cols one row b = true → notAbove cols one row a = true := s.imp fun {a b} h g => by
    unfold notAbove at *
    rw [Bool.not_eq_true', decide_eq_false_iff_not] at *
    intro z
    rcases h with h | ⟨h, _⟩
    · exact g (List.lt_trans z h)
    · exact g (h ▸ z)
  obtain ⟨c1, c2⟩ := cut_sorted _ down
  refine ⟨es.filter (notAbove cols one row) ++ [(n, row)] ++ es.filter (fun e => !notAbove cols one row e), ?_, ?_, ?_⟩
  · rw [← List.map_take, ← List.map_drop, c1, c2, List.map_append, List.map_append]
    rfl
  · have q : (es.filter (notAbove cols one row) ++ es.filter (fun e => !notAbove cols one row e)).Perm es := List.filter_append_perm _ _
    have r : (es.filter (notAbove cols one row) ++ [(n, row)] ++ es.filter (fun e => !notAbove cols one row e)).Perm ((es.filter (notAbove cols one row) ++ es.filter (fun e => !notAbove cols one row e)) ++ [(n, row)]) := by
      rw [List.append_assoc, List.append_assoc]
      exact (List.perm_append_comm).append_left _
    exact r.trans ((q.trans p).append_right _)
  · rw [List.pairwise_append, List.pairwise_append]
    refine ⟨⟨s.filter _, List.pairwise_singleton _ _, fun a ha b hb => ?_⟩, s.filter _, fun a ha b hb => ?_⟩
    · obtain ⟨h1, h2⟩ := List.mem_filter.mp ha
      rw [List.mem_singleton.mp hb]
      unfold notAbove at h2
      rw [Bool.not_eq_true', decide_eq_false_iff_not] at h2
      rcases List.le_iff_lt_or_eq.mp (List.not_lt.mp h2) with z | z
      · exact .inl z
      · exact .inr ⟨z, hn a (p.mem_iff.mp h1)⟩
    · obtain ⟨g1, g2⟩ := List.mem_filter.mp hb
      unfold notAbove at g2
      rw [Bool.not_not, decide_eq_true_eq] at g2
      rcases List.mem_append.mp ha with z | z
      · obtain ⟨h1, h2⟩ := List.mem_filter.mp z
        unfold notAbove at h2
        rw [Bool.not_eq_true', decide_eq_false_iff_not] at h2
        refine .inl ?_
        rcases List.le_iff_lt_or_eq.mp (List.not_lt.mp h2) with y | y
        · exact List.lt_trans y g2
        · rw [y]
          exact g2
      · rw [List.mem_singleton.mp z]
        exact .inl g2
theorem IsOrd.out {th : Nmd} {ns : List Nat} (a : IsOrd cols th one ns) (g : Nat) : IsOrd cols (outT th g) one (ns.filter fun x => decide (x ≠ g)) := by
  obtain ⟨es, rfl, p, s⟩ := a
  refine ⟨es.filter fun x => decide (x.1 ≠ g), ?_, p.filter _, s.filter _⟩
  rw [List.filter_map]
  rfl
theorem erase_filter : ∀ {ns : List Nat} {j g : Nat}, ns.Nodup → ns[j]? = some g → ns.eraseIdx j = ns.filter fun x => decide (x ≠ g)
  | [], _, _, _, h => nomatch h
  | a :: ns, 0, g, nd, h => by
    cases h
    obtain ⟨h1, h2⟩ := List.nodup_cons.mp nd
    rw [List.eraseIdx_cons_zero, List.filter_cons, if_neg (by simp)]
    have hk : ∀ x ∈ ns, decide (x ≠ a) = true := fun x hx => by
      have : x ≠ a := fun z => h1 (z ▸ hx)
      simpa using this
    exact (List.filter_eq_self.mpr hk).symm
  | a :: ns, j + 1, g, nd, h => by
    obtain ⟨h1, h2⟩ := List.nodup_cons.mp nd
    have h3 : ns[j]? = some g := h
    have ne : a ≠ g := fun z => h1 (z ▸ List.mem_of_getElem? h3)
    rw [List.eraseIdx_cons_succ, List.filter_cons, if_pos (by simpa using ne), erase_filter h2 h3]
end
/-! ### the list by which a question is read -/
/-- one of the lists by which least is read, or none -/
def BestOf (cols : List Nat) (rows : List (List Int)) (ch : List (List Nat)) (es : List (Nat × Int)) (rc : Option (Nat × Int × Int)) : Option (List Nat) → Prop
  | none => ∀ o ∈ ch, (rows.length : Int) < priceM cols rows o es rc
  | some o => o ∈ ch ∧ (∀ o' ∈ ch, priceM cols rows o es rc ≤ priceM cols rows o' es rc) ∧ priceM cols rows o es rc ≤ rows.length
/-- how many rows are read so -/
def readN (cols : List Nat) (rows : List (List Int)) (es : List (Nat × Int)) (rc : Option (Nat × Int × Int)) : Option (List Nat) → Int
  | none => rows.length
  | some o => priceM cols rows o es rc - 1
theorem BestOf.like {cols : List Nat} {rows : List (List Int)} {ch : List (List Nat)} {es : List (Nat × Int)} {rc : Option (Nat × Int × Int)} {a b : Option (List Nat)} (h : BestOf cols rows ch es rc a) (g : BestOf cols rows ch es rc b) : a.isNone = b.isNone ∧ readN cols rows es rc a = readN cols rows es rc b := by
  match a, b, h, g with
  | none, none, _, _ => exact ⟨rfl, rfl⟩
  | none, some o, h, g =>
    have := h o g.1
    have := g.2.2
    omega
  | some o, none, h, g =>
    have := g o h.1
    have := h.2.2
    omega
  | some o, some o', h, g =>
    have h1 := h.2.1 o' g.1
    have h2 := g.2.1 o h.1
    refine ⟨rfl, ?_⟩
    show priceM cols rows o es rc - 1 = priceM cols rows o' es rc - 1
    omega
end My

set_option Elab.async false
set_option linter.all false
set_option maxRecDepth 100000
set_option maxHeartbeats 2000000
namespace My
open PySem PySem.Spec PyProof.Rows L2
/-! ### a list in order, by the places of the rows -/
section
variable {cols one : List Nat} {th : Nmd} {w n : Nat} {es : List (Nat × Int)} {rc : Option (Nat × Int × Int)}
/-- the number of the row at a place -/
def numAt (th : Nmd) (i : Nat) : Nat := (th.getD i (0, [])).1
theorem getD_at {th : Nmd} {i : Nat} (h : i < th.length) : th.getD i (0, []) = th[i] := by
  rw [List.getD_eq_getElem?_getD, List.getElem?_eq_getElem h]
  rfl
theorem rows_at {th : Nmd} {i : Nat} (h : i < th.length) : (th.map (·.2)).getD i [] = (th.getD i (0, [])).2 := by
  rw [getD_at h, List.getD_eq_getElem?_getD, List.getElem?_map, List.getElem?_eq_getElem h]
  rfl
theorem th_range (th : Nmd) : (List.range th.length).map (fun i => th.getD i (0, [])) = th := by
  refine List.ext_getElem (by rw [List.length_map, List.length_range]) fun i h1 h2 => ?_
  rw [List.getElem_map, List.getElem_range, getD_at h2]
theorem num_up (h : NmOk w th n) {a b : Nat} (hab : a < b) (hb : b < th.length) : numAt th a < numAt th b := by
  unfold numAt
  rw [getD_at hb, getD_at (by omega : a < th.length)]
  have := List.pairwise_iff_getElem.mp h.up a b (by rw [List.length_map]; omega) (by rw [List.length_map]; exact hb) hab
  rw [List.getElem_map, List.getElem_map] at this
  exact this
theorem ord_idx (h : NmOk w th n) (one : List Nat) : IsOrd cols th one ((idxM cols (th.map (·.2)) one).map (numAt th)) := by
  refine ⟨(idxM cols (th.map (·.2)) one).map fun i => th.getD i (0, []), ?_, ?_, ?_⟩
  · rw [List.map_map]
    rfl
  · have p := (idx_perm cols (th.map (·.2)) one).map fun i => th.getD i (0, [])
    rw [List.length_map, th_range] at p
    exact p
  · rw [List.pairwise_map]
    have lt : ∀ i ∈ idxM cols (th.map (·.2)) one, i < th.length := fun i hi => by
      have := (idx_perm cols (th.map (·.2)) one).mem_iff.mp hi
      rw [List.mem_range, List.length_map] at this
      exact this
    have nd : (idxM cols (th.map (·.2)) one).Nodup := (idx_perm cols (th.map (·.2)) one).nodup_iff.mpr List.nodup_range
    refine (List.Pairwise.and nd (idx_pw cols (th.map (·.2)) one)).imp_of_mem fun {a b} ha hb ⟨ne, le⟩ => ?_
    have la := lt a ha
    have lb := lt b hb
    unfold entLe entLt entAt at le
    dsimp only at le
    rw [rows_at la, rows_at lb] at le
    unfold ltE
    by_cases e : keyM cols (th.getD b (0, [])).2 one = keyM cols (th.getD a (0, [])).2 one
    · rw [if_pos e, Bool.not_eq_true', decide_eq_false_iff_not] at le
      exact .inr ⟨e.symm, num_up h (show a < b by omega) lb⟩
    · rw [if_neg e, Bool.not_eq_true', decide_eq_false_iff_not] at le
      rcases List.le_iff_lt_or_eq.mp (List.not_lt.mp le) with z | z
      · exact .inl z
      · exact absurd z.symm e
/-- the row of a number -/
def rowT (th : Nmd) (m : Nat) : List Int := ((th.find? fun x => decide (x.1 = m)).map (·.2)).getD []
theorem rowT_at : ∀ {th : Nmd} {m : Nat} {r : List Int}, (th.map (·.1)).Nodup → (m, r) ∈ th → rowT th m = r
  | [], _, _, _, h => nomatch h
  | x :: th, m, r, nd, h => by
    rw [List.map_cons, List.nodup_cons] at nd
    unfold rowT
    rcases List.mem_cons.mp h with z | z
    · rw [← z, List.find?_cons_of_pos (by simp)]
      rfl
    · have ne : ¬ x.1 = m := fun e => nd.1 (e ▸ List.mem_map.mpr ⟨(m, r), z, rfl⟩)
      rw [List.find?_cons_of_neg (by simpa using ne)]
      exact rowT_at nd.2 z
theorem rowT_mem {m : Nat} (nd : (th.map (·.1)).Nodup) (h : m ∈ th.map (·.1)) : (m, rowT th m) ∈ th := by
  obtain ⟨x, hx, rfl⟩ := List.mem_map.mp h
  rw [rowT_at (r := x.2) nd hx]
  exact hx
/-- the numbers of the rows that fit, rising -/
def fitT (cols : List Nat) (th : Nmd) (es : List (Nat × Int)) (rc : Option (Nat × Int × Int)) : List Nat := (th.filter fun x => fitsM cols x.2 es rc).map (·.1)
theorem fitT_up (h : NmOk w th n) : (fitT cols th es rc).Pairwise (· < ·) := List.Pairwise.sublist (List.filter_sublist.map _) h.up
/-- what fits of the numbers that are read by a list -/
theorem near_fits (h : NmOk w th n) (hok : QOk cols es rc) {ns : List Nat} (ho : IsOrd cols th one ns) :
    (((ns.drop (aheadM cols (th.map (·.2)) one es rc)).take (behindM cols (th.map (·.2)) one es rc - aheadM cols (th.map (·.2)) one es rc)).filter fun m => fitsM cols (rowT th m) es rc).Perm (fitT cols th es rc) := by
  obtain rfl := ho.same (ord_idx h one)
  rw [← List.map_drop, ← List.map_take, List.filter_map]
  have lt : ∀ i ∈ idxM cols (th.map (·.2)) one, i < th.length := fun i hi => by
    have := (idx_perm cols (th.map (·.2)) one).mem_iff.mp hi
    rw [List.mem_range, List.length_map] at this
    exact this
  have e1 : ((((idxM cols (th.map (·.2)) one).drop (aheadM cols (th.map (·.2)) one es rc)).take (behindM cols (th.map (·.2)) one es rc - aheadM cols (th.map (·.2)) one es rc)).filter ((fun m => fitsM cols (rowT th m) es rc) ∘ numAt th)) = (idxM cols (th.map (·.2)) one).filter fun o => fitsM cols ((th.map (·.2)).getD o []) es rc := by
    rw [← read_fits hok]
    refine List.filter_congr fun i hi => ?_
    have li := lt i (List.mem_of_mem_drop (List.mem_of_mem_take hi))
    show fitsM cols (rowT th (numAt th i)) es rc = _
    rw [rows_at li, rowT_at (r := (th.getD i (0, [])).2) h.nd (by unfold numAt; rw [getD_at li]; exact List.getElem_mem li)]
  rw [e1]
  have p := ((idx_perm cols (th.map (·.2)) one).filter fun o => fitsM cols ((th.map (·.2)).getD o []) es rc).map (numAt th)
  refine p.trans (List.Perm.of_eq ?_)
  unfold fitT
  conv => rhs; rw [← th_range th, List.filter_map, List.map_map]
  rw [List.length_map]
  refine congrArg (List.map (numAt th)) (List.filter_congr fun i hi => ?_)
  show fitsM cols ((th.map (·.2)).getD i []) es rc = fitsM cols (th.getD i (0, [])).2 es rc
  rw [rows_at (List.mem_range.mp hi)]
theorem near_len {ns : List Nat} (ho : IsOrd cols th one ns) (hok : QOk cols es rc) : (((ns.drop (aheadM cols (th.map (·.2)) one es rc)).take (behindM cols (th.map (·.2)) one es rc - aheadM cols (th.map (·.2)) one es rc)).length : Int) = priceM cols (th.map (·.2)) one es rc - 1 := by
  have h1 := ho.len
  have h2 := behind_le cols (th.map (·.2)) one es rc
  have h3 := ahead_le (rows := th.map (·.2)) (one := one) hok
  rw [List.length_map] at h2
  rw [List.length_take, List.length_drop, h1]
  unfold priceM
  omega
theorem all_fits (h : NmOk w th n) : (((th.map (·.1)).filter fun m => fitsM cols (rowT th m) es rc)) = fitT cols th es rc := by
  unfold fitT
  rw [List.filter_map]
  refine congrArg _ (List.filter_congr fun x hx => ?_)
  show fitsM cols (rowT th x.1) es rc = _
  rw [rowT_at (r := x.2) h.nd hx]
end
end My

set_option Elab.async false
set_option linter.all false
set_option maxRecDepth 100000
set_option maxHeartbeats 2000000
namespace My
open PySem PySem.Spec PyProof.Rows L2
/-! ### a list's stretch replaced: xs[lo:hi] = ys -/
section
variable {M : Model} {prog : Program} {w : World} {A : Around} {E : Value → Shared → Prop} {s : Shared}
theorem one_part {sl : Addr} {o : Obj} {fs : Array Value} {i : Nat} {x : Value} {k : Option Int} {R : Value → Shared → Prop} (e : s.heap.get? sl = some o) (hd : o.data = .fields fs) (hx : fs[i]? = some x) (p : IsPart x k) (q : R (rawPart k) s) : wpAny M A (field (.ref sl) i >>= listPart) R E s :=
  wpAny_bind (wpAny_field e hd hx (wpAny_listPart p q))
/-- the parts of a slice without a step -/
theorem parts_told {sl : Addr} {vl vu : Value} {lo hi : Option Int} {Q : Value × Value × Value → Shared → Prop} (hs : s.heap.IsSliceOf sl vl vu .none) (pl : IsPart vl lo) (pu : IsPart vu hi) (q : Q (rawPart lo, rawPart hi, .none) s) : wpAny M A (Builtin.List.listSliceParts (.ref sl)) Q E s := by
  obtain ⟨o, e, _, hd⟩ := hs
  rw [listSliceParts_eq, ← bind_assoc]
  refine wpAny_bind (one_part e hd (x := .none) rfl .none ?_)
  show wpAny M A (field (.ref sl) 0 >>= fun z => listPart z >>= fun a => field (.ref sl) 1 >>= fun z => listPart z >>= fun b => pure (a, b, Value.none)) Q E s
  rw [← bind_assoc]
  refine wpAny_bind (one_part e hd (x := vl) rfl pl ?_)
  rw [← bind_assoc]
  exact wpAny_bind (one_part e hd (x := vu) rfl pu (wpAny_pure q))
theorem no_key {sl : Addr} {Q : Option Int → Shared → Prop} (h : s.TypeIs (.ref sl) "slice") (q : Q none s) : wpAny M A (Builtin.List.listSubscript? (.ref sl)) Q E s := by
  unfold Builtin.List.listSubscript?
  refine wpAny_bind (wpAny_specialOf h slice_no_index ?_)
  exact wpAny_pure q
theorem its_told {b : Addr} {xs : Array Value} {n : Nat} {Q : Array Value → Shared → Prop} (e : s.heap.get? b = some { cls := .type "list", data := .seq xs n }) (q : Q xs s) : wpAny M A (Builtin.List.listItems (.ref b)) Q E s := by
  unfold Builtin.List.listItems
  exact wpAny_bind (wpAny_seqItems e rfl (wpAny_pure q))
theorem short_cut {xs ys : Array Value} (i j : Nat) (hij : i ≤ j) (room : xs.size + ys.size ≤ sizeLine) : (xs.extract 0 i ++ ys ++ xs.extract j xs.size).size ≤ sizeLine + 1 := by
  rw [Array.size_append, Array.size_append, Array.size_extract, Array.size_extract]
  omega
/-- what the list's method does with a slice and another list -/
theorem stretch_body {l b sl : Addr} {xs ys : Array Value} {n n2 : Nat} {vl vu : Value} {lo hi : Option Int} {a c : Int} {Q : Value → Shared → Prop}
    (e : s.heap.get? l = some { cls := .type "list", data := .seq xs n }) (e2 : s.heap.get? b = some { cls := .type "list", data := .seq ys n2 }) (ne : l ≠ b)
    (hs : s.heap.IsSliceOf sl vl vu .none) (pl : IsPart vl lo) (pu : IsPart vu hi) (hb : sliceIndices (rawPart lo) (rawPart hi) .none xs.size = pure (a, c, 1)) (room : xs.size + ys.size ≤ sizeLine)
    (q : Q .none { s with heap := s.heap.update l (Obj.mapSeq fun zs => zs.extract 0 a.toNat ++ ys ++ zs.extract (max a c).toNat zs.size) }) :
    wpAny (model prog w) A (Builtin.«list.__setitem__» ⟨[.ref l, .ref sl, .ref b], []⟩) (fun o s' => ∃ v, o = Fin.done (.ret v) ∧ Q v s') E s := by
  have ts : s.TypeIs (.ref sl) "slice" := by
    obtain ⟨o, h1, h2, _⟩ := hs
    exact ⟨o, h1, h2⟩
  have tb : s.TypeIs (.ref b) "list" := ⟨_, e2, rfl⟩
  have apart : Builtin.List.listSameRef (.ref l) (.ref b) = false := beq_eq_false_iff_ne.mpr ne
  show wpAny (model prog w) A (Builtin.List.listSubscript? (.ref sl) >>= _) _ E s
  refine wpAny_bind (no_key ts ?_)
  show wpAny (model prog w) A (typeOf (.ref sl) >>= _) _ E s
  refine wpAny_bind (wpAny_typeOf ts ?_)
  rw [if_neg (by decide)]
  refine wpAny_bind (parts_told hs pl pu ?_)
  show wpAny (model prog w) A (if Builtin.List.listSameRef (.ref l) (.ref b) = true then _ else _) _ E s
  rw [apart, if_neg Bool.false_ne_true]
  refine wpAny_bind (m := Builtin.List.listAllItems (.ref b) "must assign iterable to extended slice") ?_
  unfold Builtin.List.listAllItems
  refine wpAny_bind (wpAny_typeOf tb ?_)
  rw [if_pos (by decide)]
  refine its_told e2 ?_
  refine wpAny_bind (its_told e ?_)
  refine wpAny_bind (wpAny_of_eq hb ?_)
  show wpAny (model prog w) A (if ((1 : Int) == 1) = true then _ else _) _ E s
  rw [if_pos (by decide)]
  refine wpAny_bind (wpAny_rule ?_)
  have fits : Builtin.List.listTooLong (xs.size + ys.size) = false := notLongL room
  show wpAny (model prog w) A (if Builtin.List.listTooLong (xs.size + ys.size) = true then _ else _) _ E s
  rw [fits, if_neg Bool.false_ne_true]
  refine wpAny_bind (m := updateSeq l fun zs => zs.extract 0 a.toNat ++ ys ++ zs.extract (max a c).toNat zs.size) ?_
  refine wpAny_updateSeq (hz := Nat.le_trans (Nat.le_add_right _ _) room) (_hz' := short_cut a.toNat (max a c).toNat (by omega) room) e rfl ?_
  refine wpAny_bind (wpAny_letGo ?_)
  exact wpAny_bind (wpAny_pure (wpAny_pure ⟨_, rfl, q⟩))
/-- setItem of it -/
theorem stretch_set {l b sl : Addr} {xs ys : Array Value} {n n2 : Nat} {vl vu : Value} {lo hi : Option Int} {a c : Int} {Q : Unit → Shared → Prop}
    (e : s.heap.get? l = some { cls := .type "list", data := .seq xs n }) (e2 : s.heap.get? b = some { cls := .type "list", data := .seq ys n2 }) (ne : l ≠ b)
    (hs : s.heap.IsSliceOf sl vl vu .none) (pl : IsPart vl lo) (pu : IsPart vu hi) (hb : sliceIndices (rawPart lo) (rawPart hi) .none xs.size = pure (a, c, 1)) (room : xs.size + ys.size ≤ sizeLine)
    (q : Q () { s with heap := s.heap.update l (Obj.mapSeq fun zs => zs.extract 0 a.toNat ++ ys ++ zs.extract (max a c).toNat zs.size) }) :
    wpAny (model prog w) A (setItem (.ref l) (.ref sl) (.ref b)) Q E s := by
  have tl : s.TypeIs (.ref l) "list" := ⟨_, e, rfl⟩
  have call1 : wpAny (model prog w) A (call (.builtin "list.__setitem__") [.ref l, .ref sl, .ref b]) (fun _ => Q ()) E s :=
    wpAny_call_entry slot_list_setitem tl entry_list_setitem (stretch_body e e2 ne hs pl pu hb room q) (args_list_setitem _ _ _)
  unfold setItem
  refine wpAny_holding (wpAny_bind (wpAny_sequenceKey tl (by decide) (wpAny_bind ?_)))
  exact wpAny_callSpecial?_slot tl slot_list_setitem (wpAny_mono call1 (fun _ _ z => wpAny_pure z) fun _ _ z => z)
end
/-- the target xs[lo:hi] -/
abbrev TSlS := V → Option Int → Option Int → V → Hp → (Hp → Prop) → Prop
def gSlT (to : TE) (tl th : TO) (t : TSlS) : L2.TG := fun v σ H Q => to σ H fun o H1 => tl σ H1 fun l H2 => th σ H2 fun u H3 => t o l u v H3 fun H4 => Q σ H4
/-- xs[lo:hi] = ys; the bounds: what the slice means for so many items -/
def rSetSl : TSlS := fun o lo hi v H Q => ∃ (l b : Addr) (xs ys : List V) (a c : Nat), o = .ref l ∧ v = .ref b ∧ H l = some (.lst xs) ∧ H b = some (.lst ys) ∧ l ≠ b ∧
  sliceBounds lo hi none xs.length = ((a : Int), (c : Int), 1) ∧ a ≤ c ∧ c ≤ xs.length ∧ xs.length + ys.length ≤ sizeLine ∧ Q (upd H l (.lst (xs.take a ++ ys ++ xs.drop c)))
theorem pg_sl {X : Cx} {pos p2 : Pos} {o : Expr} {lo hi : Option Expr} {to : TE} {tl th : TO} (ho : PE X o to) (hl : PO X lo tl) (hu : PO X hi th)
    (ha : ∀ v, assign (.Subscript o (.Slice lo hi none p2) pos) X.env v = (do
      let ov ← holding [v] (eval o X.env)
      let iv ← holding [v, ov] (eval (.Slice lo hi none p2) X.env)
      standAt pos
      holding [v, ov, iv] (setItem ov iv v)
      release [iv, v, ov] []) := by intro _; rfl) : PG X (.Subscript o (.Slice lo hi none p2) pos) (gSlT to tl th rSetSl) := by
  refine ⟨fun pins s σ H v u Q I r h => ?_⟩
  rw [ha]
  refine wpAny_bind (wpAny_holding (thn (ho.run pins s σ H _ I h) fun ov s1 ⟨x, H1, I1, r1, q1⟩ => ?_))
  refine wpAny_bind (wpAny_holding (wpAny_Slice (thn (hl.run pins s1 σ H1 _ I1 q1) fun vl s2 ⟨lw, H2, I2, pl, q2⟩ => thn (hu.run pins s2 σ H2 _ I2 q2) fun vu s3 ⟨up, H3, I3, pu, q3⟩ => ?_)))
  rw [evalPart_none]
  refine wpAny_pure (wpAny_bind (wpAny_standAt (wpAny_bind (wpAny_holding ?_))))
  have I4 : Inv X pins σ H3 { s3 with heap := s3.heap.push { cls := .type "slice", data := .fields #[vl, vu, .none] } } := I3.kept (t' := s3.toks) fun b ob q => Heap.get?_push_of_some _ q
  obtain ⟨l, b, xs, ys, a, c, rfl, rfl, hL, hB, ne, hb, hac, hc, hz, q4⟩ := q3
  cases r1
  cases r
  obtain ⟨z, its, n, r4, hz4, e4⟩ := I4.lstM hL
  obtain ⟨z5, its5, n5, r5, hz5, e5⟩ := I4.lstM hB
  have lx := r4.length
  have ly := r5.length
  refine stretch_set (a := a) (c := c) e4 e5 ne (Heap.IsSliceOf.new ..) pl pu ?_ (by rw [List.size_toArray, List.size_toArray]; omega) ?_
  · rw [List.size_toArray, ← lx, ← hb]
    exact sliceIndices_raw lw up none xs.length (by simp)
  have ec : (max (a : Int) (c : Int)).toNat = c := by omega
  rw [ec, Int.toNat_natCast]
  refine wpAny_release ⟨σ, _, I4.lset (its' := its.take a ++ its5 ++ its.drop c) (t' := s3.toks) hL e4 ?_ (((r4.take a).append r5).append (r4.drop c)) ?_, q4⟩
  · refine Array.ext' ?_
    simp
    exact List.take_of_length_le (by simp)
  · simp only [List.length_append, List.length_take, List.length_drop]
    omega
end My

set_option Elab.async false
set_option linter.all false
set_option maxRecDepth 100000
set_option maxHeartbeats 1000000
namespace My
open PySem PySem.Spec PyProof.Rows L2
def topS (i : Nat) : Stmt := PySem.Challenge.pw_stretchkeep_k39_lists_kept.main.body.getD i (.Pass ⟨0, 0, 0, 0⟩)
abbrev s_picked : Stmt := topS 6
theorem sc_picked : FnScope ["columns", "row", "letters"] ["columns", "row", "letters"] (defScope s_picked) := ⟨rfl, rfl, rfl, by decide +kernel, rfl, by decide +kernel, by decide +kernel⟩
abbrev s_letters_of : Stmt := topS 8
theorem sc_letters_of : FnScope ["equals", "letter", "number"] ["equals"] (defScope s_letters_of) := ⟨rfl, rfl, rfl, by decide +kernel, rfl, by decide +kernel, by decide +kernel⟩
abbrev s_spans : Stmt := topS 9
theorem sc_spans : FnScope ["question", "equals", "reach", "letter", "wanted", "low", "high", "number"] ["question"] (defScope s_spans) := ⟨rfl, rfl, rfl, by decide +kernel, rfl, by decide +kernel, by decide +kernel⟩
abbrev s_fits : Stmt := topS 10
theorem sc_fits : FnScope ["columns", "row", "question", "wanted", "letter", "low", "high"] ["columns", "row", "question"] (defScope s_fits) := ⟨rfl, rfl, rfl, by decide +kernel, rfl, by decide +kernel, by decide +kernel⟩
abbrev s_used : Stmt := topS 12
theorem sc_used : FnScope ["one", "question", "equals", "reach", "letters", "many"] ["one", "question"] (defScope s_used) := ⟨rfl, rfl, rfl, by decide +kernel, rfl, by decide +kernel, by decide +kernel⟩
abbrev s_stretch : Stmt := topS 13
theorem sc_stretch : FnScope ["table", "one", "question", "columns", "rows", "letters", "first", "last", "keys", "ahead", "behind", "wanted", "row", "key"] ["table", "one", "question"] (defScope s_stretch) := ⟨rfl, rfl, rfl, by decide +kernel, rfl, by decide +kernel, by decide +kernel⟩
abbrev s_price_by : Stmt := topS 15
theorem sc_price_by : FnScope ["table", "one", "question", "columns", "rows", "start", "end"] ["table", "one", "question"] (defScope s_price_by) := ⟨rfl, rfl, rfl, by decide +kernel, rfl, by decide +kernel, by decide +kernel⟩
abbrev s_Rows___init__ : Stmt := inClass (topS 17) 0
theorem sc_Rows___init__ : FnScope ["self", "table", "columns", "rows"] ["self", "table"] (defScope s_Rows___init__) := ⟨rfl, rfl, rfl, by decide +kernel, rfl, by decide +kernel, by decide +kernel⟩
abbrev s_Rows_put : Stmt := inClass (topS 17) 1
theorem sc_Rows_put : FnScope ["self", "row", "number"] ["self", "row"] (defScope s_Rows_put) := ⟨rfl, rfl, rfl, by decide +kernel, rfl, by decide +kernel, by decide +kernel⟩
abbrev s_Rows_take : Stmt := inClass (topS 17) 2
theorem sc_Rows_take : FnScope ["self", "number"] ["self", "number"] (defScope s_Rows_take) := ⟨rfl, rfl, rfl, by decide +kernel, rfl, by decide +kernel, by decide +kernel⟩
abbrev s_Rows_as_table : Stmt := inClass (topS 17) 3
theorem sc_Rows_as_table : FnScope ["self"] ["self"] (defScope s_Rows_as_table) := ⟨rfl, rfl, rfl, by decide +kernel, rfl, by decide +kernel, by decide +kernel⟩
abbrev s_Kept___init__ : Stmt := inClass (topS 18) 0
theorem sc_Kept___init__ : FnScope ["self", "table", "choice", "number", "one"] ["self", "table", "choice"] (defScope s_Kept___init__) := ⟨rfl, rfl, rfl, by decide +kernel, rfl, by decide +kernel, by decide +kernel⟩
abbrev s_Kept_key_by : Stmt := inClass (topS 18) 1
theorem sc_Kept_key_by : FnScope ["self", "one", "number"] ["self", "one", "number"] (defScope s_Kept_key_by) := ⟨rfl, rfl, rfl, by decide +kernel, rfl, by decide +kernel, by decide +kernel⟩
abbrev s_Kept_enter : Stmt := inClass (topS 18) 2
theorem sc_Kept_enter : FnScope ["self", "number", "one", "order", "key", "ahead", "other"] ["self", "number"] (defScope s_Kept_enter) := ⟨rfl, rfl, rfl, by decide +kernel, rfl, by decide +kernel, by decide +kernel⟩
abbrev s_Kept_put : Stmt := inClass (topS 18) 3
theorem sc_Kept_put : FnScope ["self", "row", "number"] ["self", "row"] (defScope s_Kept_put) := ⟨rfl, rfl, rfl, by decide +kernel, rfl, by decide +kernel, by decide +kernel⟩
abbrev s_Kept_take : Stmt := inClass (topS 18) 4
theorem sc_Kept_take : FnScope ["self", "number", "one"] ["self", "number"] (defScope s_Kept_take) := ⟨rfl, rfl, rfl, by decide +kernel, rfl, by decide +kernel, by decide +kernel⟩
abbrev s_Kept_sorted_by : Stmt := inClass (topS 18) 5
theorem sc_Kept_sorted_by : FnScope ["self", "one"] ["self", "one"] (defScope s_Kept_sorted_by) := ⟨rfl, rfl, rfl, by decide +kernel, rfl, by decide +kernel, by decide +kernel⟩
abbrev s_Kept_next_number : Stmt := inClass (topS 18) 6
theorem sc_Kept_next_number : FnScope ["self"] ["self"] (defScope s_Kept_next_number) := ⟨rfl, rfl, rfl, by decide +kernel, rfl, by decide +kernel, by decide +kernel⟩
abbrev s_Kept_numbers_read : Stmt := inClass (topS 18) 7
theorem sc_Kept_numbers_read : FnScope ["self", "table", "one", "question", "start", "end"] ["self", "table", "one", "question"] (defScope s_Kept_numbers_read) := ⟨rfl, rfl, rfl, by decide +kernel, rfl, by decide +kernel, by decide +kernel⟩
abbrev s_Kept_ask : Stmt := inClass (topS 18) 8
theorem sc_Kept_ask : FnScope ["self", "question", "one", "near", "found", "table", "number"] ["self", "question"] (defScope s_Kept_ask) := ⟨rfl, rfl, rfl, by decide +kernel, rfl, by decide +kernel, by decide +kernel⟩
abbrev s_Kept_moved : Stmt := inClass (topS 18) 9
theorem sc_Kept_moved : FnScope ["self"] ["self"] (defScope s_Kept_moved) := ⟨rfl, rfl, rfl, by decide +kernel, rfl, by decide +kernel, by decide +kernel⟩
abbrev s_l_reel : Stmt := topS 20
theorem sc_l_reel : FnScope ["script", "k", "number", "stir", "found", "turn"] ["script", "k"] (defScope s_l_reel) := ⟨rfl, rfl, rfl, by decide +kernel, rfl, by decide +kernel, by decide +kernel⟩
abbrev s_l_pick : Stmt := topS 21
theorem sc_l_pick : FnScope ["reel", "many", "digit"] ["reel", "many"] (defScope s_l_pick) := ⟨rfl, rfl, rfl, by decide +kernel, rfl, by decide +kernel, by decide +kernel⟩
abbrev s_l_columns : Stmt := topS 22
theorem sc_l_columns : FnScope ["reel", "many", "left", "found", "k"] ["reel", "many"] (defScope s_l_columns) := ⟨rfl, rfl, rfl, by decide +kernel, rfl, by decide +kernel, by decide +kernel⟩
abbrev s_l_table : Stmt := topS 23
theorem sc_l_table : FnScope ["reel", "most", "rows", "columns", "tops", "many", "letter", "k", "top"] ["reel", "most", "rows"] (defScope s_l_table) := ⟨rfl, rfl, rfl, by decide +kernel, rfl, by decide +kernel, by decide +kernel⟩
abbrev s_l_one : Stmt := topS 24
theorem sc_l_one : FnScope ["reel", "columns", "left", "found", "k"] ["reel", "columns"] (defScope s_l_one) := ⟨rfl, rfl, rfl, by decide +kernel, rfl, by decide +kernel, by decide +kernel⟩
abbrev s_l_choice : Stmt := topS 25
theorem sc_l_choice : FnScope ["reel", "columns", "many", "found", "k"] ["reel", "columns", "many"] (defScope s_l_choice) := ⟨rfl, rfl, rfl, by decide +kernel, rfl, by decide +kernel, by decide +kernel⟩
abbrev s_l_same : Stmt := topS 26
theorem sc_l_same : FnScope ["told", "due", "one", "other"] ["told", "due"] (defScope s_l_same) := ⟨rfl, rfl, rfl, by decide +kernel, rfl, by decide +kernel, by decide +kernel⟩
abbrev s_l_sorted : Stmt := topS 27
theorem sc_l_sorted : FnScope ["table", "one", "columns", "rows", "found", "number", "row", "here", "at", "other", "there", "letter"] ["table", "one"] (defScope s_l_sorted) := ⟨rfl, rfl, rfl, by decide +kernel, rfl, by decide +kernel, by decide +kernel⟩
abbrev s_l_stands : Stmt := topS 28
theorem sc_l_stands : FnScope ["kept", "columns", "there", "choice", "number", "moved", "held", "numbers", "one", "table", "told", "due", "again", "found", "at"] ["kept", "columns", "there", "choice", "number", "moved", "held"] (defScope s_l_stands) := ⟨rfl, rfl, rfl, by decide +kernel, rfl, by decide +kernel, by decide +kernel⟩
abbrev s_law : Stmt := topS 29
theorem sc_law : FnScope ["script", "k", "reel", "far", "table", "choice", "kept", "held", "there", "number", "moved", "turn", "gone", "row", "found", "letter"] ["script"] (defScope s_law) := ⟨rfl, rfl, rfl, by decide +kernel, rfl, by decide +kernel, by decide +kernel⟩
structure Ad where
  f_picked : Addr
  d_picked : FuncData
  c_picked : Addr
  P_picked : Addr
  f_letters_of : Addr
  d_letters_of : FuncData
  f_spans : Addr
  d_spans : FuncData
  f_fits : Addr
  d_fits : FuncData
  f_used : Addr
  d_used : FuncData
  f_stretch : Addr
  d_stretch : FuncData
  c_stretch : Addr
  P_stretch : Addr
  f_price_by : Addr
  d_price_by : FuncData
  f_Rows___init__ : Addr
  d_Rows___init__ : FuncData
  f_Rows_put : Addr
  d_Rows_put : FuncData
  f_Rows_take : Addr
  d_Rows_take : FuncData
  f_Rows_as_table : Addr
  d_Rows_as_table : FuncData
  f_Kept___init__ : Addr
  d_Kept___init__ : FuncData
  f_Kept_key_by : Addr
  d_Kept_key_by : FuncData
  f_Kept_enter : Addr
  d_Kept_enter : FuncData
  f_Kept_put : Addr
  d_Kept_put : FuncData
  f_Kept_take : Addr
  d_Kept_take : FuncData
  f_Kept_sorted_by : Addr
  d_Kept_sorted_by : FuncData
  f_Kept_next_number : Addr
  d_Kept_next_number : FuncData
  f_Kept_numbers_read : Addr
  d_Kept_numbers_read : FuncData
  f_Kept_ask : Addr
  d_Kept_ask : FuncData
  c_Kept_ask : Addr
  P_Kept_ask : Addr
  f_Kept_moved : Addr
  d_Kept_moved : FuncData
  f_l_reel : Addr
  d_l_reel : FuncData
  f_l_pick : Addr
  d_l_pick : FuncData
  f_l_columns : Addr
  d_l_columns : FuncData
  f_l_table : Addr
  d_l_table : FuncData
  f_l_one : Addr
  d_l_one : FuncData
  f_l_choice : Addr
  d_l_choice : FuncData
  f_l_same : Addr
  d_l_same : FuncData
  f_l_sorted : Addr
  d_l_sorted : FuncData
  f_l_stands : Addr
  d_l_stands : FuncData
  f_law : Addr
  d_law : FuncData
  C_Rows : Addr
  C_Kept : Addr
  k_MOST_ROWS : Tok
abbrev Ad.Ps (Z : Ad) : List Addr := [Z.P_picked, Z.P_stretch]
abbrev Ad.Ls (Z : Ad) : List (Addr × Str) := [(Z.P_Kept_ask, lamQ "Kept.ask")]
abbrev Ad.Pl (Z : Ad) : List Addr := [Z.P_picked, Z.P_stretch, Z.P_Kept_ask]
structure Tb (base : Heap) (mg : Str → Option Value) (Z : Ad) : Prop where
  t_picked : LamX.TabB base mg Z.c_picked Z.P_picked
  t_stretch : LamX.TabB base mg Z.c_stretch Z.P_stretch
  t_Kept_ask : LamX.TabB base mg Z.c_Kept_ask Z.P_Kept_ask
structure Tx (K : PySem.W.Frag) (mg : Str → Option Value) (Z : Ad) : Prop where
  F_picked : Fun K "picked" "picked" s_picked Z.f_picked Z.d_picked
  C_picked : FunC K "picked" "picked" s_picked Z.f_picked Z.d_picked Z.c_picked
  b_picked : Binds K Z.d_picked ["columns", "row", "letters"] []
  g_picked : mg "picked" = some (.ref Z.f_picked)
  F_letters_of : Fun K "letters_of" "letters_of" s_letters_of Z.f_letters_of Z.d_letters_of
  b_letters_of : Binds K Z.d_letters_of ["equals"] []
  g_letters_of : mg "letters_of" = some (.ref Z.f_letters_of)
  F_spans : Fun K "spans" "spans" s_spans Z.f_spans Z.d_spans
  b_spans : Binds K Z.d_spans ["question"] []
  g_spans : mg "spans" = some (.ref Z.f_spans)
  F_fits : Fun K "fits" "fits" s_fits Z.f_fits Z.d_fits
  b_fits : Binds K Z.d_fits ["columns", "row", "question"] []
  g_fits : mg "fits" = some (.ref Z.f_fits)
  F_used : Fun K "used" "used" s_used Z.f_used Z.d_used
  b_used : Binds K Z.d_used ["one", "question"] []
  g_used : mg "used" = some (.ref Z.f_used)
  F_stretch : Fun K "stretch" "stretch" s_stretch Z.f_stretch Z.d_stretch
  C_stretch : FunC K "stretch" "stretch" s_stretch Z.f_stretch Z.d_stretch Z.c_stretch
  b_stretch : Binds K Z.d_stretch ["table", "one", "question"] []
  g_stretch : mg "stretch" = some (.ref Z.f_stretch)
  F_price_by : Fun K "price_by" "price_by" s_price_by Z.f_price_by Z.d_price_by
  b_price_by : Binds K Z.d_price_by ["table", "one", "question"] []
  g_price_by : mg "price_by" = some (.ref Z.f_price_by)
  F_Rows___init__ : Fun K "__init__" "Rows.__init__" s_Rows___init__ Z.f_Rows___init__ Z.d_Rows___init__
  b_Rows___init__ : Binds K Z.d_Rows___init__ ["self", "table"] []
  mk_Rows : Mk K Z.C_Rows Z.f_Rows___init__
  F_Rows_put : Fun K "put" "Rows.put" s_Rows_put Z.f_Rows_put Z.d_Rows_put
  b_Rows_put : Binds K Z.d_Rows_put ["self", "row"] []
  m_Rows_put : Meth K Z.C_Rows "put" Z.f_Rows_put
  F_Rows_take : Fun K "take" "Rows.take" s_Rows_take Z.f_Rows_take Z.d_Rows_take
  b_Rows_take : Binds K Z.d_Rows_take ["self", "number"] []
  m_Rows_take : Meth K Z.C_Rows "take" Z.f_Rows_take
  F_Rows_as_table : Fun K "as_table" "Rows.as_table" s_Rows_as_table Z.f_Rows_as_table Z.d_Rows_as_table
  b_Rows_as_table : Binds K Z.d_Rows_as_table ["self"] []
  m_Rows_as_table : Meth K Z.C_Rows "as_table" Z.f_Rows_as_table
  F_Kept___init__ : Fun K "__init__" "Kept.__init__" s_Kept___init__ Z.f_Kept___init__ Z.d_Kept___init__
  b_Kept___init__ : Binds K Z.d_Kept___init__ ["self", "table", "choice"] []
  mk_Kept : Mk K Z.C_Kept Z.f_Kept___init__
  F_Kept_key_by : Fun K "key_by" "Kept.key_by" s_Kept_key_by Z.f_Kept_key_by Z.d_Kept_key_by
  b_Kept_key_by : Binds K Z.d_Kept_key_by ["self", "one", "number"] []
  m_Kept_key_by : Meth K Z.C_Kept "key_by" Z.f_Kept_key_by
  F_Kept_enter : Fun K "enter" "Kept.enter" s_Kept_enter Z.f_Kept_enter Z.d_Kept_enter
  b_Kept_enter : Binds K Z.d_Kept_enter ["self", "number"] []
  m_Kept_enter : Meth K Z.C_Kept "enter" Z.f_Kept_enter
  F_Kept_put : Fun K "put" "Kept.put" s_Kept_put Z.f_Kept_put Z.d_Kept_put
  b_Kept_put : Binds K Z.d_Kept_put ["self", "row"] []
  m_Kept_put : Meth K Z.C_Kept "put" Z.f_Kept_put
  F_Kept_take : Fun K "take" "Kept.take" s_Kept_take Z.f_Kept_take Z.d_Kept_take
  b_Kept_take : Binds K Z.d_Kept_take ["self", "number"] []
  m_Kept_take : Meth K Z.C_Kept "take" Z.f_Kept_take
  F_Kept_sorted_by : Fun K "sorted_by" "Kept.sorted_by" s_Kept_sorted_by Z.f_Kept_sorted_by Z.d_Kept_sorted_by
  b_Kept_sorted_by : Binds K Z.d_Kept_sorted_by ["self", "one"] []
  m_Kept_sorted_by : Meth K Z.C_Kept "sorted_by" Z.f_Kept_sorted_by
  F_Kept_next_number : Fun K "next_number" "Kept.next_number" s_Kept_next_number Z.f_Kept_next_number Z.d_Kept_next_number
  b_Kept_next_number : Binds K Z.d_Kept_next_number ["self"] []
  m_Kept_next_number : Meth K Z.C_Kept "next_number" Z.f_Kept_next_number
  F_Kept_numbers_read : Fun K "numbers_read" "Kept.numbers_read" s_Kept_numbers_read Z.f_Kept_numbers_read Z.d_Kept_numbers_read
  b_Kept_numbers_read : Binds K Z.d_Kept_numbers_read ["self", "table", "one", "question"] []
  m_Kept_numbers_read : Meth K Z.C_Kept "numbers_read" Z.f_Kept_numbers_read
  F_Kept_ask : Fun K "ask" "Kept.ask" s_Kept_ask Z.f_Kept_ask Z.d_Kept_ask
  C_Kept_ask : FunC K "ask" "Kept.ask" s_Kept_ask Z.f_Kept_ask Z.d_Kept_ask Z.c_Kept_ask
  b_Kept_ask : Binds K Z.d_Kept_ask ["self", "question"] []
  m_Kept_ask : Meth K Z.C_Kept "ask" Z.f_Kept_ask
  F_Kept_moved : Fun K "moved" "Kept.moved" s_Kept_moved Z.f_Kept_moved Z.d_Kept_moved
  b_Kept_moved : Binds K Z.d_Kept_moved ["self"] []
  m_Kept_moved : Meth K Z.C_Kept "moved" Z.f_Kept_moved
  F_l_reel : Fun K "_law_reel" "_law_reel" s_l_reel Z.f_l_reel Z.d_l_reel
  b_l_reel : Binds K Z.d_l_reel ["script", "k"] []
  g_l_reel : mg "_law_reel" = some (.ref Z.f_l_reel)
  F_l_pick : Fun K "_law_pick" "_law_pick" s_l_pick Z.f_l_pick Z.d_l_pick
  b_l_pick : Binds K Z.d_l_pick ["reel", "many"] []
  g_l_pick : mg "_law_pick" = some (.ref Z.f_l_pick)
  F_l_columns : Fun K "_law_columns" "_law_columns" s_l_columns Z.f_l_columns Z.d_l_columns
  b_l_columns : Binds K Z.d_l_columns ["reel", "many"] []
  g_l_columns : mg "_law_columns" = some (.ref Z.f_l_columns)
  F_l_table : Fun K "_law_table" "_law_table" s_l_table Z.f_l_table Z.d_l_table
  b_l_table : Binds K Z.d_l_table ["reel", "most", "rows"] []
  g_l_table : mg "_law_table" = some (.ref Z.f_l_table)
  F_l_one : Fun K "_law_one" "_law_one" s_l_one Z.f_l_one Z.d_l_one
  b_l_one : Binds K Z.d_l_one ["reel", "columns"] []
  g_l_one : mg "_law_one" = some (.ref Z.f_l_one)
  F_l_choice : Fun K "_law_choice" "_law_choice" s_l_choice Z.f_l_choice Z.d_l_choice
  b_l_choice : Binds K Z.d_l_choice ["reel", "columns", "many"] []
  g_l_choice : mg "_law_choice" = some (.ref Z.f_l_choice)
  F_l_same : Fun K "_law_same" "_law_same" s_l_same Z.f_l_same Z.d_l_same
  b_l_same : Binds K Z.d_l_same ["told", "due"] []
  g_l_same : mg "_law_same" = some (.ref Z.f_l_same)
  F_l_sorted : Fun K "_law_sorted" "_law_sorted" s_l_sorted Z.f_l_sorted Z.d_l_sorted
  b_l_sorted : Binds K Z.d_l_sorted ["table", "one"] []
  g_l_sorted : mg "_law_sorted" = some (.ref Z.f_l_sorted)
  F_l_stands : Fun K "_law_stands" "_law_stands" s_l_stands Z.f_l_stands Z.d_l_stands
  b_l_stands : Binds K Z.d_l_stands ["kept", "columns", "there", "choice", "number", "moved", "held"] []
  g_l_stands : mg "_law_stands" = some (.ref Z.f_l_stands)
  F_law : Fun K "law" "law" s_law Z.f_law Z.d_law
  b_law : Binds K Z.d_law ["script"] []
  g_law : mg "law" = some (.ref Z.f_law)
  l_Kept_ask : Z.P_Kept_ask ∉ Z.Ps
  cl_Rows : Cls K Z.C_Rows
  g_Rows : mg "Rows" = some (.ref Z.C_Rows)
  n_Rows_columns : NoAttr K Z.C_Rows "columns"
  n_Rows_there : NoAttr K Z.C_Rows "there"
  n_Rows_coming : NoAttr K Z.C_Rows "coming"
  cl_Kept : Cls K Z.C_Kept
  g_Kept : mg "Kept" = some (.ref Z.C_Kept)
  n_Kept_rows : NoAttr K Z.C_Kept "rows"
  n_Kept_orders : NoAttr K Z.C_Kept "orders"
  n_Kept_moves : NoAttr K Z.C_Kept "moves"
  m_len : mg "len" = none
  m_range : mg "range" = none
  m_list : mg "list" = none
  m_sorted : mg "sorted" = none
  m_tuple : mg "tuple" = none
  m_min : mg "min" = none
  m_max : mg "max" = none
  m_enumerate : mg "enumerate" = none
  m_dict : mg "dict" = none
  m_isinstance : mg "isinstance" = none
  m_zip : mg "zip" = none
  m_int : mg "int" = none
  m_bool : mg "bool" = none
  m_str : mg "str" = none
  m_all : mg "all" = none
  c_MOST_ROWS : mg "MOST_ROWS" = some (.int 60 Z.k_MOST_ROWS)
section
variable {P : Program} {w : World} {K : PySem.W.Frag} {mg : Str → Option Value} {base : Heap} {Z : Ad}
/-! ### _law_reel -/
def spReel (K : PySem.W.Frag) : Sp := fun vs H Q _ => ∃ (a : Addr) (ns : List Int) (k : Nat), vs = [.ref a, .int k] ∧ SqL K H a (ns.map V.int) ∧ k < 1000 ∧ ∀ (n : Int) p, H p = none → Q (.ref p) (upd H p (.lst [.int n]))
theorem ok_reel (T : Tx K mg Z) : FnOk P w K mg base CX0 1 Z.f_l_reel Z.d_l_reel ["script", "k"] (spReel K) := by
  refine T.F_l_reel.ok sc_l_reel (fun vs H Q E h => ?_) (fun cdv A outer s H vs Q E hr h => ?_)
  · obtain ⟨a, ns, k, rfl, _⟩ := h
    rfl
  · obtain ⟨a, ns, k, rfl, hS, hk, q⟩ := h
    refine ⟨_, (pss_cons (ps_set (i := 2) sc_l_reel.nd rfl (.inl rfl) (pe_op op_add (pe_op op_mul pe_int (pv 1)) pe_int))
      (pss_mid (ps_if (pt_cmpR op_lt (pv 1) (pe_callB (cLenSq K) (by rfl) T.m_len (by decide +kernel) (pa_cons (pv 0) pa_nil)) (nomark _)) (pss_one (ps_set (i := 2) sc_l_reel.nd rfl (.inl rfl) (pe_ix (ixL K) (pv 0) (pv 1) (fun _ _ => rfl)))) pss_nil)
      (pss_cons (ps_if (pt_cmpR op_eq (pe_op op_mod (pv 2) pe_int) pe_int (nomark _)) (pss_one (ps_ret (pe_lst (pa_cons (pe_op op_fdiv (pv 2) pe_int) pa_nil)))) pss_nil)
      (pss_cons (ps_set (i := 3) sc_l_reel.nd rfl (.inl rfl) (pe_op op_mod (pe_op op_add (pe_op op_add (pe_op op_mul (pe_op op_mod (pv 2) pe_int) pe_int) (pe_op op_mul pe_int (pv 1))) pe_int) pe_int))
      (pss_cons (ps_set (i := 4) sc_l_reel.nd rfl (.inl rfl) pe_int)
      (pss_cons (ps_for PassesOwn.never rfl (pi_range1 (by rfl) T.m_range (pa_cons pe_int pa_nil)) (pg_name (i := 5) sc_l_reel.nd rfl (.inl rfl)) (pss_cons (ps_set (i := 3) sc_l_reel.nd rfl (.inl rfl) (pe_op op_mod (pe_op op_add (pe_op op_add (pe_op op_add (pe_op op_mul (pv 3) (pv 3)) (pe_op op_mul pe_int (pv 3))) (pe_op op_mul pe_int (pv 5))) pe_int) pe_int))
      (pss_one (ps_set (i := 4) sc_l_reel.nd rfl (.inl rfl) (pe_op op_add (pe_op op_mul (pv 4) pe_int) (pv 3))))))
      (pss_one (ps_ret (pe_lst (pa_cons (pv 4) pa_nil)))))))))), ?_⟩
    have b64 : ∀ x : Int, 0 ≤ x → x < 2147483399 → -(2 ^ 64) < x ∧ x < 2 ^ 64 := fun x h0 h1 => ⟨by omega, by omega⟩
    have em : ∀ x : Int, 0 ≤ x % 2147483399 ∧ x % 2147483399 < 2147483399 := fun x => ⟨Int.emod_nonneg _ (by decide), Int.emod_lt_of_pos _ (by decide)⟩
    refine ⟨.int k, rfl, 7, k, rfl, rfl, .inl ⟨by decide, by decide⟩, _, 4, rfl, rfl, ?_⟩
    refine ⟨fun σ H' => ∃ num : Int, σ = [some (.ref a), some (.int k), some (.int num), none, none, none] ∧ H' = H, ?_, ?_⟩
    · refine ⟨.int k, rfl, .ref a, rfl, a, _, rfl, .inl hS, _, _, rfl, rfl, _, rfl, ite2 (fun e => ?_) (fun e => ?_)⟩
      · have e1 : (k : Int) < ((ns.map V.int).length : Nat) := of_decide_eq_true e
        have e2 : k < ns.length := by
          rw [List.length_map] at e1
          omega
        refine ⟨.ref a, rfl, .int k, rfl, a, _, _, .int ns[k], rfl, rfl, hS, atI_nat (by rw [List.getElem?_map, List.getElem?_eq_getElem e2]; rfl), ?_⟩
        exact ⟨_, rfl, rfl⟩
      · exact ⟨_, rfl, rfl⟩
    · intro σ1 H1 hM
      obtain ⟨num, rfl, rfl⟩ := hM
      refine ⟨.int num, rfl, num, 5, rfl, rfl, (by show (0 : Int) < 5; decide), rfl, _, rfl, ite2 (fun e => ?_) (fun e => ?_)⟩
      · refine ⟨.int num, rfl, num, 5, rfl, rfl, ⟨by decide, by decide⟩, (by show 1 ≤ sizeLine; decide), fun p np => ?_⟩
        exact q _ p np
      · refine ⟨.int num, rfl, num, 2147483399, rfl, rfl, (by show (0 : Int) < 2147483399; decide), _, 50021, rfl, rfl, .inl (b64 _ (em _).1 (em _).2), .int k, rfl, 977, k, rfl, rfl, .inl ⟨by decide, by decide⟩, _, _, rfl, rfl, _, 31, rfl, rfl, _, 2147483399, rfl, rfl, (by show (0 : Int) < 2147483399; decide), ?_⟩
        refine ⟨60, rfl, by decide, by decide, for_range (fun i σ H' => ∃ (st fo : Int) (y : Option V), σ = [some (.ref a), some (.int k), some (.int num), some (.int st), some (.int fo), y] ∧ 0 ≤ st ∧ st < 2147483399 ∧ H' = H1) ⟨_, 0, none, rfl, (em _).1, (em _).2, rfl⟩ (fun i σ H' hi hP => ?_) (fun σ H' hP => ?_)⟩
        · obtain ⟨st, fo, y, rfl, s0, s1, rfl⟩ := hP
          refine ⟨.int st, rfl, .int st, rfl, st, st, rfl, rfl, .inl (b64 _ s0 s1), .int st, rfl, 60013, st, rfl, rfl, .inl ⟨by decide, by decide⟩, _, _, rfl, rfl, _, rfl, 29, _, rfl, rfl, .inl ⟨by decide, by decide⟩, _, _, rfl, rfl, _, 5, rfl, rfl, _, 2147483399, rfl, rfl, (by show (0 : Int) < 2147483399; decide), ?_⟩
          refine ⟨.int fo, rfl, fo, 2147483399, rfl, rfl, .inr ⟨by decide, by decide⟩, _, rfl, _, _, rfl, rfl, ?_⟩
          exact ⟨_, _, _, rfl, (em _).1, (em _).2, rfl⟩
        · obtain ⟨st, fo, y, rfl, s0, s1, rfl⟩ := hP
          refine ⟨.int fo, rfl, (by show 1 ≤ sizeLine; decide), fun p np => ?_⟩
          exact q _ p np
/-! ### _law_pick -/
def spPick (K : PySem.W.Frag) : Sp := fun vs H Q _ => ∃ (r : Addr) (n m : Int), vs = [.ref r, .int m] ∧ H r = some (.lst [.int n]) ∧ 0 < m ∧ m < 1073741824 ∧ ∀ (d n' : Int), 0 ≤ d → d < m → Q (.int d) (upd H r (.lst [.int n']))
theorem ok_pick (T : Tx K mg Z) : FnOk P w K mg base CX0 1 Z.f_l_pick Z.d_l_pick ["reel", "many"] (spPick K) := by
  refine T.F_l_pick.ok sc_l_pick (fun vs H Q E h => ?_) (fun cdv A outer s H vs Q E hr h => ?_)
  · obtain ⟨a, n, m, rfl, _⟩ := h
    rfl
  · obtain ⟨r, n, m, rfl, hS, h0, h1, q⟩ := h
    refine ⟨_, (pss_cons (ps_set (i := 2) sc_l_pick.nd rfl (.inl rfl) (pe_op op_mod (pe_ix (ixL K) (pv 0) pe_int (fun _ _ => rfl)) (pv 1)))
      (pss_cons (ps_asg (pe_op op_fdiv (pe_ix (ixL K) (pv 0) pe_int (fun _ _ => rfl)) (pv 1)) (pg_sub (pv 0) pe_int set_list))
      (pss_one (ps_ret (pv 2))))), ?_⟩
    refine ⟨.ref r, rfl, r, [.int n], 0, .int n, rfl, rfl, .inl (.inl hS), rfl, .int m, rfl, n, m, rfl, rfl, h0, ?_⟩
    refine ⟨.ref r, rfl, r, [.int n], 0, .int n, rfl, rfl, .inl (.inl hS), rfl, .int m, rfl, n, m, rfl, rfl, ⟨h0, h1⟩, ?_⟩
    refine ⟨.ref r, rfl, r, [.int n], 0, 0, rfl, rfl, hS, rfl, _, rfl, ?_⟩
    exact q _ _ (Int.emod_nonneg _ (by omega)) (Int.emod_lt_of_pos _ h0)
/-! ### _law_columns -/
def alpha : List Nat := [97, 98, 99, 100, 101, 102, 103, 104, 105, 106, 107, 108, 109, 110, 111, 112, 113, 114, 115, 116, 117, 118, 119, 120, 121, 122]
def spColumns (K : PySem.W.Frag) : Sp := fun vs H Q _ => ∃ (r : Addr) (n : Int) (m : Nat), vs = [.ref r, .int m] ∧ H r = some (.lst [.int n]) ∧ m ≤ 26 ∧ ∀ (l : List Nat) (n' : Int) (H' : Hp), Kp r H H' → H' r = some (.lst [.int n']) → Cols l → l.length = m → Q (tx l) H'
theorem ok_columns (T : Tx K mg Z) : FnOk P w K mg base CX0 2 Z.f_l_columns Z.d_l_columns ["reel", "many"] (spColumns K) := by
  have G_l_pick : FnOk P w K mg base CX0 1 Z.f_l_pick Z.d_l_pick ["reel", "many"] (spPick K) := ok_pick T
  refine T.F_l_columns.ok sc_l_columns (fun vs H Q E h => ?_) (fun cdv A outer s H vs Q E hr h => ?_)
  · obtain ⟨r, n, m, rfl, _⟩ := h
    rfl
  · obtain ⟨r, n, m, rfl, hR, hm, q⟩ := h
    refine ⟨_, (pss_cons (ps_set (i := 2) sc_l_columns.nd rfl (.inl rfl) (pe_callTy call_list_txt (by rfl) T.m_list (by decide +kernel) (pa_cons pe_str pa_nil)))
      (pss_cons (ps_set (i := 3) sc_l_columns.nd rfl (.inl rfl) (pe_lst pa_nil))
      (pss_cons (ps_for PassesOwn.never rfl (pi_range1 (by rfl) T.m_range (pa_cons (pv 1) pa_nil)) (pg_name (i := 4) sc_l_columns.nd rfl (.inl rfl)) (pss_one (ps_expr (bmK K PySem.F.plainAttrs_list PySem.F.slot_list_append PySem.F.type_list_append mt_append (pv 3) (pa_cons (bmK K PySem.F.plainAttrs_list PySem.F.slot_list_pop PySem.F.type_list_pop mt_popAt (pv 2) (pa_cons (pe_call G_l_pick (hr.mono (by omega)) (by rfl) T.g_l_pick T.F_l_pick.kp T.b_l_pick .nil pass0 (pa_cons (pv 0) (pa_cons (pe_callB (cLenSq K) (by rfl) T.m_len (by decide +kernel) (pa_cons (pv 2) pa_nil)) pa_nil))) pa_nil)) pa_nil)))))
      (pss_one (ps_ret (pe_join pe_str (pe_callB cr_sortedS (by rfl) T.m_sorted (by decide +kernel) (pa_cons (pv 3) pa_nil)))))))), ?_⟩
    have ea : (Str.ofString "abcdefghijklmnopqrstuvwxyz").cps.toList = alpha := by decide +kernel
    refine ⟨_, rfl, (by decide +kernel), fun L nL => ?_⟩
    rw [ea]
    refine ⟨Nat.zero_le _, fun F nF => ?_⟩
    have nFL : F ≠ L := fun e => by
      rw [e, upd_same] at nF
      cases nF
    have nF0 : H F = none := by
      rw [upd_ne nFL] at nF
      exact nF
    have nLr : L ≠ r := (ne_of_none hR nL).symm
    have nFr : F ≠ r := (ne_of_none hR nF0).symm
    refine ⟨.int m, rfl, m, rfl, by omega, by omega, for_range (fun i σ H' => ∃ (ll ff : List Nat) (n' : Int) (y : Option V), σ = [some (.ref r), some (.int m), some (.ref L), some (.ref F), y] ∧ Kp r H H' ∧ H' r = some (.lst [.int n']) ∧ H' L = some (.lst (ll.map sg)) ∧ H' F = some (.lst (ff.map sg)) ∧ (ll ++ ff).Perm alpha ∧ ff.length = i)
      ⟨alpha, [], n, none, rfl, ?_, ?_, ?_, ?_, ?_, rfl⟩ (fun i σ H' hi hP => ?_) (fun σ H' hP => ?_)⟩
    · exact (Kp.new Kp.rfl' nL).new nF
    · rw [upd_ne nFr.symm, upd_ne nLr.symm]
      exact hR
    · rw [upd_ne nFL.symm, upd_same]
    · rw [upd_same]
      rfl
    · rw [List.append_nil]
    · obtain ⟨ll, ff, n1, y, rfl, kp, hR1, hL, hF, hp, hl⟩ := hP
      have hlen : ll.length + ff.length = 26 := by
        have := hp.length_eq
        rw [List.length_append] at this
        exact this
      have hll : 0 < ll.length := by
        have : i < m := by omega
        omega
      refine ⟨.ref F, rfl, .inl ⟨rfl, _, .inl (.inl hF)⟩, .ref L, rfl, .inl ⟨rfl, _, .inl (.inl hL)⟩, .ref r, rfl, .ref L, rfl, L, _, rfl, .inl (.inl (.inl hL)), r, n1, _, rfl, hR1, ?_, ?_, fun d n2 d0 d1 => ?_⟩
      · rw [List.length_map]
        omega
      · rw [List.length_map]
        omega
      · rw [List.length_map] at d1
        have hd : d.toNat < ll.length := by omega
        have hL2 : (upd H' r (.lst [.int n2])) L = some (.lst (ll.map sg)) := by
          rw [upd_ne nLr]
          exact hL
        have hF2 : (upd (upd H' r (.lst [.int n2])) L (.lst ((ll.map sg).eraseIdx d.toNat))) F = some (.lst (ff.map sg)) := by
          rw [upd_ne nFL, upd_ne nFr]
          exact hF
        have hy : ll[d.toNat]? = some ll[d.toNat] := List.getElem?_eq_getElem hd
        refine ⟨L, _, d, d.toNat, sg ll[d.toNat], rfl, rfl, hL2, by omega, by omega, PySem.seqIndex_of d0 (by rw [List.length_map]; exact d1), ?_, F, _, _, rfl, rfl, hF2, ?_, ?_⟩
        · rw [List.getElem?_map, hy]
          rfl
        · rw [List.length_map]
          exact small1000 (by omega)
        · refine ⟨ll.eraseIdx d.toNat, ff ++ [ll[d.toNat]], n2, _, rfl, ?_, ?_, ?_, ?_, (popped hy ff).trans hp, by rw [List.length_append, hl]; rfl⟩
          · exact ((Kp.own kp).mut nL).mut nF0
          · rw [upd_ne nFr.symm, upd_ne nLr.symm, upd_same]
          · rw [upd_ne nFL.symm, upd_same, erase_map]
          · rw [upd_same, List.map_append]
            rfl
    · obtain ⟨ll, ff, n1, y, rfl, kp, hR1, hL, hF, hp, hl⟩ := hP
      have hm2 : ff.length = m := by
        rw [hl]
        omega
      refine ⟨⟨_, rfl⟩, .ref F, rfl, F, ff.map sS, rfl, .inl (.inl (by rw [← map_sg]; exact hF)), by rw [List.length_map]; omega, fun ys p hys hso np => ?_⟩
      obtain ⟨l, rfl, pl⟩ := perm_signs hys
      have ndA : (ll ++ ff).Nodup := hp.nodup_iff.mpr (by decide)
      have ndf : ff.Nodup := (List.nodup_append.mp ndA).2.1
      have ndl : l.Nodup := pl.nodup_iff.mpr ndf
      refine ⟨_, p, _, rfl, rfl, .inl (.inl (.inl upd_same)), ?_, ?_⟩
      · have e1 : (Str.ofString "").length = 0 := by decide +kernel
        rw [e1, Nat.mul_zero, Nat.add_zero, List.map_map]
        have e2 : ∀ k : List Nat, (k.map ((fun x : Str => x.length) ∘ sS)).sum = k.length := fun k => by
          induction k with
          | nil => rfl
          | cons a k ih =>
            rw [List.map_cons, List.sum_cons, ih, List.length_cons]
            show 1 + k.length = k.length + 1
            omega
        rw [e2, pl.length_eq]
        omega
      · rw [join_signs]
        refine q l n1 _ (kp.new np) ?_ ⟨strict_of (sorted_signs l hso) ndl, fun c hc => ?_⟩ (by rw [pl.length_eq]; exact hm2)
        · rw [upd_ne (ne_of_none hR1 np)]
          exact hR1
        · have hc2 : c ∈ alpha := hp.mem_iff.mp (List.mem_append_right _ (pl.mem_iff.mp hc))
          have : ∀ c ∈ alpha, 97 ≤ c ∧ c ≤ 122 := by decide
          exact this c hc2

/-! ### _law_table -/
def spTable (K : PySem.W.Frag) : Sp := fun vs H Q _ => ∃ (r : Addr) (n : Int) (most rn : Nat), vs = [.ref r, .int most, .int rn] ∧ H r = some (.lst [.int n]) ∧ 1 ≤ most ∧ most ≤ 26 ∧ rn ≤ 1000 ∧
  ∀ (cols : List Nat) (rows : List (List Int)) (v : V) (n' : Int) (H' : Hp), Kp r H H' → H' r = some (.lst [.int n']) → Fz H' v (tabD cols rows) → Cols cols → 1 ≤ cols.length → cols.length ≤ most → RowsOk cols.length rows → rows.length ≤ rn → Q v H'
theorem ok_table (T : Tx K mg Z) : FnOk P w K mg base CX0 3 Z.f_l_table Z.d_l_table ["reel", "most", "rows"] (spTable K) := by
  have G_l_pick : FnOk P w K mg base CX0 1 Z.f_l_pick Z.d_l_pick ["reel", "many"] (spPick K) := ok_pick T
  have G_l_columns : FnOk P w K mg base CX0 2 Z.f_l_columns Z.d_l_columns ["reel", "many"] (spColumns K) := ok_columns T
  refine T.F_l_table.ok sc_l_table (fun vs H Q E h => ?_) (fun cdv A outer s H vs Q E hr h => ?_)
  · obtain ⟨r, n, most, rn, rfl, _⟩ := h
    rfl
  · obtain ⟨r, n, most, rn, rfl, hR, hm1, hm2, hrn, q⟩ := h
    refine ⟨_, (pss_cons (ps_set (i := 3) sc_l_table.nd rfl (.inl rfl) (pe_call G_l_columns (hr.mono (by omega)) (by rfl) T.g_l_columns T.F_l_columns.kp T.b_l_columns .nil pass0 (pa_cons (pv 0) (pa_cons (pe_op op_add pe_int (pe_call G_l_pick (hr.mono (by omega)) (by rfl) T.g_l_pick T.F_l_pick.kp T.b_l_pick .nil pass0 (pa_cons (pv 0) (pa_cons (pv 1) pa_nil)))) pa_nil))))
      (pss_cons (ps_set (i := 4) sc_l_table.nd rfl (.inr rfl) (pe_lc (own := [("letter", 6)]) (tt := tYes) (by rfl) sc_l_table.nd (pi_str (pv 3)) (blkOk_by (own := [("letter", 6)]) (by kernel_rfl)) (fun _ _ _ _ _ => (pg_name (i := 6) sc_l_table.nd rfl (.inl rfl))) (fun _ _ _ _ _ => pts_nil) (fun _ _ _ _ _ => (pe_ix (ixL K) (pe_lst (pa_cons pe_int (pa_cons pe_int (pa_cons pe_int (pa_cons pe_int pa_nil))))) (pe_call G_l_pick (hr.mono (by omega)) (by rfl) T.g_l_pick T.F_l_pick.kp T.b_l_pick .nil pass0 (pa_cons (pv 0) (pa_cons pe_int pa_nil))) (fun _ _ => rfl)))))
      (pss_cons (ps_set (i := 5) sc_l_table.nd rfl (.inl rfl) (pe_call G_l_pick (hr.mono (by omega)) (by rfl) T.g_l_pick T.F_l_pick.kp T.b_l_pick .nil pass0 (pa_cons (pv 0) (pa_cons (pe_op op_add (pv 2) pe_int) pa_nil))))
      (pss_one (ps_ret (pe_tup (pa_cons (pv 3) (pa_cons (pe_callTy (cTupSq K) (by rfl) T.m_tuple (by decide +kernel) (pa_cons (pe_lc (own := [("k", 7)]) (tt := tYes) (by rfl) sc_l_table.nd (pi_range1 (by rfl) T.m_range (pa_cons (pv 5) pa_nil)) (blkOk_by (own := [("k", 7)]) (by kernel_rfl)) (fun _ _ _ _ _ => (pg_name (i := 7) sc_l_table.nd rfl (.inl rfl))) (fun _ _ _ _ _ => pts_nil) (fun _ _ _ _ _ => (pe_callTy (cTupSq K) (by rfl) T.m_tuple (by decide +kernel) (pa_cons (pe_lc (own := [("top", 8)]) (tt := tYes) (by rfl) sc_l_table.nd (piL K (pv 4)) (blkOk_by (own := [("top", 8)]) (by kernel_rfl)) (fun _ _ _ _ _ => (pg_name (i := 8) sc_l_table.nd rfl (.inl rfl))) (fun _ _ _ _ _ => pts_nil) (fun _ _ _ _ _ => (pe_call G_l_pick (hr.mono (by omega)) (by rfl) T.g_l_pick T.F_l_pick.kp T.b_l_pick .nil pass0 (pa_cons (pv 0) (pa_cons (pv 8) pa_nil))))) pa_nil)))) pa_nil)) pa_nil)))))))), ?_⟩
    -- columns
    refine ⟨.ref r, rfl, .ref r, rfl, .int most, rfl, r, n, most, rfl, hR, by omega, by omega, fun d n1 d0 d1 => ?_⟩
    have hR1 : (upd H r (.lst [.int n1])) r = some (.lst [.int n1]) := upd_same
    refine ⟨1, d, rfl, rfl, r, n1, (1 + d).toNat, by rw [Int.toNat_of_nonneg (by omega)]; rfl, hR1, by omega, fun cols n2 H2 kp2 hR2 hc hl => ?_⟩
    have hkp2 : Kp r H H2 := (Kp.own Kp.rfl').trans kp2
    -- tops
    refine ⟨tx cols, rfl, _, rfl, fun D nD => lc_it walk_str (fun i H' => ∃ (ts : List Int) (n3 : Int), Kp r H2 H' ∧ H' r = some (.lst [.int n3]) ∧ H' D = some (.lst (ts.map V.int)) ∧ ts.length = i ∧ ∀ t ∈ ts, 0 < t ∧ t ≤ 1000)
      ⟨[], n2, Kp.rfl'.new nD, by rw [upd_ne (ne_of_none hR2 nD)]; exact hR2, upd_same, rfl, fun t ht => nomatch ht⟩ (fun _ _ _ _ => trivial) (fun i x H3 H4 hi hP hY => ?_) (fun H3 hP => ?_)⟩
    · obtain ⟨ts, n3, kp3, hR3, hD3, hl3, ht3⟩ := hP
      obtain ⟨rfl, c, hc4, rfl⟩ := hY
      have nDr : D ≠ r := (ne_of_none hR2 nD).symm
      refine ⟨rfl, (by show 4 ≤ sizeLine; decide), fun L nL => ?_⟩
      have nLr : L ≠ r := (ne_of_none hR3 nL).symm
      have nLD : L ≠ D := (ne_of_none hD3 nL).symm
      have hR4 : (upd H4 L (.lst [.int 2, .int 2, .int 4, .int 1000])) r = some (.lst [.int n3]) := by
        rw [upd_ne nLr.symm]
        exact hR3
      refine ⟨.ref r, rfl, r, n3, 4, rfl, hR4, by decide, by decide, fun e n4 e0 e1 => ?_⟩
      obtain ⟨t, ht, hat⟩ := at_ints (ns := [2, 2, 4, 1000]) e0 e1
      refine ⟨L, [2, 2, 4, 1000].map V.int, e, .int t, rfl, rfl, .inl (.inl ?_), hat, ts.map V.int, ?_, ?_, ts ++ [t], n4, ?_, ?_, ?_, ?_, ?_⟩
      · rw [upd_ne nLr, upd_same]
        rfl
      · rw [upd_ne nDr, upd_ne nLD.symm]
        exact hD3
      · rw [List.length_map, hl3]
        have hi2 : i < cols.length := hi
        exact small1000 (by omega)
      · exact ((kp3.new nL).own).mut nD
      · rw [upd_ne nDr.symm, upd_same]
      · rw [upd_same, List.map_append]
        rfl
      · rw [List.length_append, hl3]
        rfl
      · intro u hu
        rcases List.mem_append.mp hu with hu | hu
        · exact ht3 u hu
        · have : ∀ z ∈ ([2, 2, 4, 1000] : List Int), 0 < z ∧ z ≤ 1000 := by decide
          rw [List.mem_singleton.mp hu]
          exact this t ht
    · obtain ⟨ts, n3, kp3, hR3, hD3, hl3, ht3⟩ := hP
      have hlt : ts.length = cols.length := hl3
      -- many
      refine ⟨.ref r, rfl, .int rn, rfl, rn, 1, rfl, rfl, r, n3, _, rfl, hR3, by omega, by omega, fun m n4 m0 m1 => ?_⟩
      have nDr : D ≠ r := (ne_of_none hR2 nD).symm
      have hD4 : (upd H3 r (.lst [.int n4])) D = some (.lst (ts.map V.int)) := by
        rw [upd_ne nDr]
        exact hD3
      have kp4 : Kp r H (upd H3 r (.lst [.int n4])) := (hkp2.trans kp3).own
      -- the rows
      refine ⟨tx cols, rfl, .int m, rfl, m, rfl, by omega, by omega, fun D2 nD2 => lc_range (fun i H' => ∃ (rows : List (List Int)) (vs : List V) (n5 : Int), Kp r H H' ∧ H' r = some (.lst [.int n5]) ∧ H' D = some (.lst (ts.map V.int)) ∧ H' D2 = some (.lst vs) ∧ FzA H' vs (rows.map rowD) ∧ RowsOk cols.length rows ∧ rows.length = i)
        ⟨[], [], n4, kp4.new nD2, ?_, ?_, upd_same, .nil, (fun _ h => nomatch h), rfl⟩ (fun i H5 hi hP => ?_) (fun H5 hP => ?_)⟩
      · rw [upd_ne (ne_of_none upd_same nD2)]
        exact upd_same
      · rw [upd_ne (ne_of_none hD4 nD2)]
        exact hD4
      · obtain ⟨rows, vs, n5, kp5, hR5, hD5, hD25, hF5, hok, hln⟩ := hP
        have nD2r : D2 ≠ r := (ne_of_none (upd_same (H := H3)) nD2).symm
        have nD2D : D2 ≠ D := (ne_of_none hD4 nD2).symm
        have nD2H : H D2 = none := Kp.none kp4 nD2r nD2
        have nDH : H D = none := Kp.none hkp2 nDr nD
        -- one row
        refine ⟨rfl, .ref D, rfl, D, rfl, ⟨_, .inl (.inl hD5)⟩, fun D3 nD3 => lc_list (xs := ts.map V.int) (fun j H' => ∃ (row : List Int) (n6 : Int), Kp r H5 H' ∧ H' r = some (.lst [.int n6]) ∧ H' D3 = some (.lst (row.map V.int)) ∧ row.length = j ∧ ∀ x ∈ row, 0 ≤ x ∧ x < 1000)
          ⟨[], n5, Kp.rfl'.new nD3, ?_, upd_same, rfl, fun _ h => nomatch h⟩ (fun j H' _ hP => ?_) (fun j x H6 hx hP => ?_) (fun H6 hP => ?_)⟩
        · rw [upd_ne (ne_of_none hR5 nD3)]
          exact hR5
        · obtain ⟨row, n6, kp6, _⟩ := hP
          exact .inl (.inl (kp6 D _ nDr hD5))
        · obtain ⟨row, n6, kp6, hR6, hD6, hl6, hx6⟩ := hP
          have nD3r : D3 ≠ r := (ne_of_none hR5 nD3).symm
          rw [List.getElem?_map] at hx
          obtain ⟨t, ht, rfl⟩ := Option.map_eq_some_iff.mp hx
          have tm : t ∈ ts := List.mem_of_getElem? ht
          have hj : j < ts.length := (List.getElem?_eq_some_iff.mp ht).1
          refine ⟨rfl, .ref r, rfl, .int t, rfl, r, n6, t, rfl, hR6, (ht3 t tm).1, by have := (ht3 t tm).2; omega, fun e n7 e0 e1 => ?_⟩
          refine ⟨row.map V.int, ?_, ?_, row ++ [e], n7, (kp6.own).mut nD3, ?_, ?_, ?_, ?_⟩
          · rw [upd_ne nD3r]
            exact hD6
          · rw [List.length_map]
            exact small1000 (by omega)
          · rw [upd_ne nD3r.symm, upd_same]
          · rw [upd_same, List.map_append]
            rfl
          · rw [List.length_append, hl6]
            rfl
          · intro u hu
            rcases List.mem_append.mp hu with hu | hu
            · exact hx6 u hu
            · rw [List.mem_singleton.mp hu]
              have := (ht3 t tm).2
              exact ⟨e0, by omega⟩
        · obtain ⟨row, n6, kp6, hR6, hD6, hl6, hx6⟩ := hP
          rw [List.length_map] at hl6
          refine ⟨D3, row.map V.int, rfl, .inl ⟨.inl (.inl hD6), fun t nt => ?_⟩⟩
          have hD26 : H6 D2 = some (.lst vs) := kp6 D2 _ nD2r hD25
          have hD62 : H6 D = some (.lst (ts.map V.int)) := kp6 D _ nDr hD5
          have ntD2 : t ≠ D2 := (ne_of_none hD26 nt).symm
          have kt : Kt H5 H6 := kp6.kt hR5
          have kt2 : Kt H6 (upd H6 t (.tup (row.map V.int))) := .new nt
          have hD27 : (upd H6 t (.tup (row.map V.int))) D2 = some (.lst vs) := by
            rw [upd_ne ntD2.symm]
            exact hD26
          refine ⟨vs, hD27, ?_, rows ++ [row], vs ++ [.ref t], n6, ?_, ?_, ?_, upd_same, ?_, ?_, by rw [List.length_append, hln]; rfl⟩
          · rw [hF5.len, List.length_map]
            exact small1000 (by omega)
          · exact ((kp5.trans kp6).new nt).mut nD2H
          · rw [upd_ne nD2r.symm, upd_ne (ne_of_none hR6 nt)]
            exact hR6
          · rw [upd_ne nD2D.symm, upd_ne (ne_of_none hD62 nt)]
            exact hD62
          · rw [List.map_append]
            exact (FzA.snoc ((hF5.kt kt).kt kt2) (row_made nt)).kt (.lst hD27)
          · intro x hx
            rcases List.mem_append.mp hx with hx | hx
            · exact hok x hx
            · rw [List.mem_singleton.mp hx]
              exact ⟨hl6.trans hlt, hx6⟩
      · obtain ⟨rows, vs, n5, kp5, hR5, hD5, hD25, hF5, hok, hln⟩ := hP
        refine ⟨D2, vs, rfl, .inl ⟨.inl (.inl hD25), fun R nR => ⟨(by show 2 ≤ sizeLine; decide), fun t nt => ?_⟩⟩⟩
        have f1 : Fz (upd H5 R (.tup vs)) (.ref R) (rowsD rows) := Fz.made nR hF5
        refine q cols rows (.ref t) n5 _ ((kp5.new nR).new nt) ?_ (Fz.made nt (.cons (.str _) (.cons f1 .nil))) hc (by omega) (by omega) hok (by omega)
        rw [upd_ne (ne_of_none (by rw [upd_ne (ne_of_none hR5 nR)]; exact hR5) nt), upd_ne (ne_of_none hR5 nR)]
        exact hR5

/-! ### letters_of -/
def spLetters (K : PySem.W.Frag) : Sp := fun vs H Q _ => ∃ (ev : V) (es : List (Nat × Int)), vs = [ev] ∧ EZ H ev es ∧ es.length ≤ 1000 ∧ ∀ (p : Addr) (H' : Hp), Same H H' → H p = none → H' p = some (.lst ((es.map (·.1)).map sg)) → Q (.ref p) H'
theorem ok_letters (T : Tx K mg Z) : FnOk P w K mg base CX0 1 Z.f_letters_of Z.d_letters_of ["equals"] (spLetters K) := by
  refine T.F_letters_of.ok sc_letters_of (fun vs H Q E h => ?_) (fun cdv A outer s H vs Q E hr h => ?_)
  · obtain ⟨ev, es, rfl, _⟩ := h
    rfl
  · obtain ⟨ev, es, rfl, fe, hel, q⟩ := h
    obtain ⟨ea, ob, ps, rfl, hob, hea, fps⟩ := fe
    have hpl : ps.length = es.length := by rw [fps.len, List.length_map]
    refine ⟨_, (pss_one (ps_ret (pe_lc (own := [("letter", 1), ("number", 2)]) (tt := tYes) (by rfl) sc_letters_of.nd (piT K (pv 0)) (blkOk_by (own := [("letter", 1), ("number", 2)]) (by kernel_rfl)) (fun _ _ _ _ _ => (pgT K (n := 2) (pgs_cons (pg_name (i := 1) sc_letters_of.nd rfl (.inl rfl)) (pgs_cons (pg_name (i := 2) sc_letters_of.nd rfl (.inl rfl)) pgs_nil)))) (fun _ _ _ _ _ => pts_nil) (fun _ _ _ _ _ => (pv 1))))), ?_⟩
    refine ⟨.ref ea, rfl, ea, rfl, ⟨_, .inl (.inr ⟨_, hea⟩)⟩, fun D nD => lc_it (walk_tup (xs := ps)) (fun i H' => Same H H' ∧ H' D = some (.lst (((es.take i).map (·.1)).map sg)))
      ⟨Same.new (Same.refl H) nD, upd_same⟩ (fun i H' _ hP => .inl (.inr ⟨_, hP.1 _ _ hea⟩)) (fun i x H3 H4 hi hP hY => ?_) (fun H3 hP => ?_)⟩
    · obtain ⟨sm, hD⟩ := hP
      obtain ⟨rfl, hx⟩ := hY
      obtain ⟨dd, hdd, fd⟩ := fps.getV hx
      rw [List.getElem?_map] at hdd
      obtain ⟨pr, hpr, rfl⟩ := Option.map_eq_some_iff.mp hdd
      have hi2 : i < es.length := (List.getElem?_eq_some_iff.mp hpr).1
      have epr : es[i] = pr := (List.getElem?_eq_some_iff.mp hpr).2
      obtain ⟨pa, ys, rfl, hpa, fy2⟩ := fd.open
      obtain ⟨c, v, rfl, fc, fv⟩ := fy2.two
      rw [fc.isStr, fv.isInt] at hpa
      refine ⟨pa, [sg pr.1, .int pr.2], rfl, .inl (.inl (sm _ _ hpa)), rfl, sg pr.1, [.int pr.2], rfl, .int pr.2, [], rfl, rfl, rfl, sg pr.1, rfl, _, hD, ?_, Same.mut sm nD, ?_⟩
      · rw [List.length_map, List.length_map, List.length_take]
        exact small1000 (by omega)
      · rw [upd_same, List.take_succ_eq_append_getElem hi2, epr, List.map_append, List.map_append]
        rfl
    · obtain ⟨sm, hD⟩ := hP
      rw [hpl, List.take_of_length_le (Nat.le_refl _)] at hD
      exact q D H3 sm nD hD

/-! ### used -/
def spUsed (K : PySem.W.Frag) : Sp := fun vs H Q _ => ∃ (one : List Nat) (qv : V) (es : List (Nat × Int)) (rc : Option (Nat × Int × Int)), vs = [tx one, qv] ∧ one.length ≤ 1000 ∧ QZ H qv es rc ∧ es.length ≤ 1000 ∧ ∀ (H' : Hp), Same H H' → Q (tx (usedM one es rc)) H'
theorem ok_used (T : Tx K mg Z) : FnOk P w K mg base CX0 2 Z.f_used Z.d_used ["one", "question"] (spUsed K) := by
  have G_letters_of : FnOk P w K mg base CX0 1 Z.f_letters_of Z.d_letters_of ["equals"] (spLetters K) := ok_letters T
  refine T.F_used.ok sc_used (fun vs H Q E h => ?_) (fun cdv A outer s H vs Q E hr h => ?_)
  · obtain ⟨one, qv, es, rc, rfl, _⟩ := h
    rfl
  · obtain ⟨one, qv, es, rc, rfl, hol, fq, hel, q⟩ := h
    obtain ⟨qa, x, y, rfl, hqa, fx, fy⟩ := fq
    have fx2 := fx
    obtain ⟨ea, ob, ps, rfl, hob, hea, fps⟩ := fx2
    refine ⟨_, (pss_cons (ps_asg (pv 1) (pgT K (n := 2) (pgs_cons (pg_name (i := 2) sc_used.nd rfl (.inl rfl)) (pgs_cons (pg_name (i := 3) sc_used.nd rfl (.inl rfl)) pgs_nil))))
      (pss_cons (ps_set (i := 4) sc_used.nd rfl (.inl rfl) (pe_call G_letters_of (hr.mono (by omega)) (by rfl) T.g_letters_of T.F_letters_of.kp T.b_letters_of .nil pass0 (pa_cons (pv 2) pa_nil)))
      (pss_cons (ps_set (i := 5) sc_used.nd rfl (.inl rfl) pe_int)
      (pss_cons (ps_while PassesOwn.never (PW.pt (pw_and (pt_cmpR op_lt (pv 5) (pe_callB call_len_str (by rfl) T.m_len (by decide +kernel) (pa_cons (pv 0) pa_nil)) (nomark _)) (pw_and1 (pt_cmpR (inSq K) (pe_ix ix_str (pv 0) (pv 5) (fun _ _ => rfl)) (pv 4) (by rfl))))) (pss_one (ps_aug (i := 5) sc_used.nd rfl (.inl rfl) pe_int ip_add)))
      (pss_mid (ps_if (PW.pt (pw_and (pt_cmpR op_notN (pv 3) pe_non (nomark _)) (pw_and1 (pt_cmpR op_eq (pe_slice sl_str (pv 0) (po_some (pv 5)) (po_some (pe_op op_add (pv 5) pe_int))) (pe_ix (ixT K) (pv 3) pe_int (fun _ _ => rfl)) (nomark _))))) (pss_one (ps_aug (i := 5) sc_used.nd rfl (.inl rfl) pe_int ip_add)) pss_nil)
      (pss_one (ps_ret (pe_slice sl_str (pv 0) po_none (po_some (pv 5)))))))))), ?_⟩
    refine ⟨.ref qa, rfl, qa, [.ref ea, y], rfl, .inl (.inl hqa), rfl, .ref ea, [y], rfl, y, [], rfl, rfl, ?_⟩
    refine ⟨.ref ea, rfl, .ref ea, es, rfl, fx, hel, fun L H1 sm nL hL => ?_⟩
    -- while
    refine ⟨fun m σ H' => ∃ k : Nat, m = one.length - k ∧ k ≤ one.length ∧ σ = [some (tx one), some (.ref qa), some (.ref ea), some y, some (.ref L), some (.int k)] ∧ H' = H1 ∧ ∀ (i : Nat) (h : i < one.length), i < k → one[i] ∈ es.map (·.1), ⟨_, 0, rfl, Nat.zero_le _, rfl, rfl, fun i _ h => absurd h (Nat.not_lt_zero _)⟩, fun m σ H' hW => ?_⟩
    obtain ⟨k, rfl, hk, rfl, rfl, hin⟩ := hW
    refine ⟨.int k, rfl, tx one, rfl, _, rfl, Nat.le_of_lt (small1000 (show one.length ≤ 1000 from hol)), _, _, rfl, rfl, _, rfl, ite2 (fun e => ?_) (fun e => ?_)⟩
    · have hkl : k < one.length := by
        have : (k : Int) < ((one.length : Nat) : Int) := of_decide_eq_true e
        omega
      have hat : atI (⟨one.toArray⟩ : Str).cps.toList (k : Int) = some one[k] := atI_nat (by simp [hkl])
      refine ⟨tx one, rfl, .int k, rfl, _, _, _, rfl, rfl, Nat.le_of_lt (small1000 (show one.length ≤ 1000 from hol)), hat, .ref L, rfl, L, _, rfl, .inl (.inl (.inl hL)), rfl, flat_signs _, _, rfl, ?_⟩
      show (if inV (sg one[k]) ((es.map (·.1)).map sg) = true then _ else _)
      rw [inV_signs]
      refine ite2 (fun e2 => ?_) (fun e2 => ?_)
      · have hm : one[k] ∈ es.map (·.1) := of_decide_eq_true e2
        refine ⟨fun σ2 H2 => σ2 = [some (tx one), some (.ref qa), some (.ref ea), some y, some (.ref L), some (.int ((k : Int) + 1))] ∧ H2 = H', fun σ2 H2 hN => ?_, ?_⟩
        · obtain ⟨rfl, rfl⟩ := hN
          refine ⟨one.length - (k + 1), by omega, k + 1, rfl, hkl, rfl, rfl, fun i h hi => ?_⟩
          by_cases e3 : i = k
          · subst e3
            exact hm
          · exact hin i h (by omega)
        · exact ⟨_, rfl, _, _, rfl, rfl, rfl, rfl⟩
      · have hno : ∀ h : k < one.length, ¬ one[k] ∈ es.map (·.1) := fun _ z => e2 (decide_eq_true z)
        have hkk : (eqPart one es).length = k := take_while_at _ _ _ hk (fun i h hi => decide_eq_true (hin i h hi)) (fun h => decide_eq_false (hno h))
        have htk : one.take k = eqPart one es := by rw [← hkk]; exact (eqPart_take one es).symm
        refine ⟨fun σ H2 => ∃ k2 : Nat, σ = [some (tx one), some (.ref qa), some (.ref ea), some y, some (.ref L), some (.int k2)] ∧ H2 = H' ∧ one.take k2 = usedM one es rc, ?_, ?_⟩
        · cases rc with
          | none =>
            obtain rfl : y = .non := fy.isNon
            refine ⟨.non, rfl, rfl, _, rfl, ite2 (fun z => ?_) (fun _ => ?_)⟩
            · exact absurd z (by simp)
            · exact ⟨k, rfl, rfl, htk⟩
          | some t3 =>
            obtain ⟨c, lo, hi⟩ := t3
            obtain ⟨ra, zs, rfl, hra, fz⟩ := Fz.open (ds := [.str ⟨#[c]⟩, .int lo, .int hi]) fy
            obtain ⟨z1, z2, z3, rfl, g1, g2, g3⟩ := fz.three
            rw [g1.isStr, g2.isInt, g3.isInt] at hra
            refine ⟨.ref ra, rfl, rfl, _, rfl, ite2 (fun _ => ?_) (fun z => ?_)⟩
            · refine ⟨tx one, rfl, .int k, rfl, _, rfl, .int k, rfl, _, 1, rfl, rfl, _, rfl, _, rfl, Nat.le_of_lt (small1000 (show one.length ≤ 1000 from hol)), .ref ra, rfl, ra, _, 0, sg c, rfl, rfl, .inl (.inl (sm _ _ hra)), rfl, rfl, _, rfl, ?_⟩
              rw [cut_one one k hk]
              refine ite2 (fun z => ?_) (fun z => ?_)
              · have z2 : (one.drop k).take 1 = [c] := tx_inj (of_decide_eq_true z)
                refine ⟨_, rfl, _, _, rfl, rfl, k + 1, rfl, rfl, ?_⟩
                show one.take (k + 1) = (if (one.drop (eqPart one es).length).take 1 = [c] then one.take ((eqPart one es).length + 1) else eqPart one es)
                rw [hkk, if_pos z2]
              · have z2 : ¬ (one.drop k).take 1 = [c] := fun z3 => z (decide_eq_true (by rw [z3]))
                refine ⟨k, rfl, rfl, ?_⟩
                show one.take k = (if (one.drop (eqPart one es).length).take 1 = [c] then one.take ((eqPart one es).length + 1) else eqPart one es)
                rw [hkk, if_neg z2]
                exact htk
            · exact absurd (by simp) z
        · intro σ2 H2 hM
          obtain ⟨k2, rfl, rfl, hk2⟩ := hM
          refine ⟨tx one, rfl, .int k2, rfl, _, rfl, _, rfl, Nat.le_of_lt (small1000 (show one.length ≤ 1000 from hol)), ?_⟩
          rw [cut_take, hk2]
          exact q _ sm
    · have hge : ¬ k < one.length := fun z => e (decide_eq_true (show (k : Int) < ((one.length : Nat) : Int) by omega))
      have hkk : (eqPart one es).length = k := take_while_at _ _ _ hk (fun i h hi => decide_eq_true (hin i h hi)) (fun h => decide_eq_false ((absurd h hge : ¬ one[k] ∈ es.map (·.1))))
      have htk : one.take k = eqPart one es := by rw [← hkk]; exact (eqPart_take one es).symm
      refine ⟨fun σ H2 => ∃ k2 : Nat, σ = [some (tx one), some (.ref qa), some (.ref ea), some y, some (.ref L), some (.int k2)] ∧ H2 = H' ∧ one.take k2 = usedM one es rc, ?_, ?_⟩
      · cases rc with
        | none =>
          obtain rfl : y = .non := fy.isNon
          refine ⟨.non, rfl, rfl, _, rfl, ite2 (fun z => ?_) (fun _ => ?_)⟩
          · exact absurd z (by simp)
          · exact ⟨k, rfl, rfl, htk⟩
        | some t3 =>
          obtain ⟨c, lo, hi⟩ := t3
          obtain ⟨ra, zs, rfl, hra, fz⟩ := Fz.open (ds := [.str ⟨#[c]⟩, .int lo, .int hi]) fy
          obtain ⟨z1, z2, z3, rfl, g1, g2, g3⟩ := fz.three
          rw [g1.isStr, g2.isInt, g3.isInt] at hra
          refine ⟨.ref ra, rfl, rfl, _, rfl, ite2 (fun _ => ?_) (fun z => ?_)⟩
          · refine ⟨tx one, rfl, .int k, rfl, _, rfl, .int k, rfl, _, 1, rfl, rfl, _, rfl, _, rfl, Nat.le_of_lt (small1000 (show one.length ≤ 1000 from hol)), .ref ra, rfl, ra, _, 0, sg c, rfl, rfl, .inl (.inl (sm _ _ hra)), rfl, rfl, _, rfl, ?_⟩
            rw [cut_one one k hk]
            refine ite2 (fun z => ?_) (fun z => ?_)
            · have z2 : (one.drop k).take 1 = [c] := tx_inj (of_decide_eq_true z)
              refine ⟨_, rfl, _, _, rfl, rfl, k + 1, rfl, rfl, ?_⟩
              show one.take (k + 1) = (if (one.drop (eqPart one es).length).take 1 = [c] then one.take ((eqPart one es).length + 1) else eqPart one es)
              rw [hkk, if_pos z2]
            · have z2 : ¬ (one.drop k).take 1 = [c] := fun z3 => z (decide_eq_true (by rw [z3]))
              refine ⟨k, rfl, rfl, ?_⟩
              show one.take k = (if (one.drop (eqPart one es).length).take 1 = [c] then one.take ((eqPart one es).length + 1) else eqPart one es)
              rw [hkk, if_neg z2]
              exact htk
          · exact absurd (by simp) z
      · intro σ2 H2 hM
        obtain ⟨k2, rfl, rfl, hk2⟩ := hM
        refine ⟨tx one, rfl, .int k2, rfl, _, rfl, _, rfl, Nat.le_of_lt (small1000 (show one.length ≤ 1000 from hol)), ?_⟩
        rw [cut_take, hk2]
        exact q _ sm

/-! ### spans -/
def spSpans (K : PySem.W.Frag) : Sp := fun vs H Q _ => ∃ (qv : V) (cols : List Nat) (es : List (Nat × Int)) (rc : Option (Nat × Int × Int)), vs = [qv] ∧ QZ H qv es rc ∧ QOk cols es rc ∧ es.length ≤ 1000 ∧
  ∀ (d : Addr) (kvs : List (Key × V)) (H' : Hp), Same H H' → H d = none → H' d = some (.dK kvs) → SpA H' kvs (spanL es rc) → Q (.ref d) H'
theorem ok_spans (T : Tx K mg Z) : FnOk P w K mg base CX0 1 Z.f_spans Z.d_spans ["question"] (spSpans K) := by
  refine T.F_spans.ok sc_spans (fun vs H Q E h => ?_) (fun cdv A outer s H vs Q E hr h => ?_)
  · obtain ⟨qv, cols, es, rc, rfl, _⟩ := h
    rfl
  · obtain ⟨qv, cols, es, rc, rfl, fq, hok, hel, q⟩ := h
    obtain ⟨qa, x, y, rfl, hqa, fx, fy⟩ := fq
    obtain ⟨ea, ob, ps, rfl, hob, hea, fps⟩ := fx
    have hndE : (es.map (·.1)).Nodup := hok.up.imp fun {a b} q => by
      have : a < b := q
      omega
    refine ⟨_, (pss_cons (ps_asg (pv 0) (pgT K (n := 2) (pgs_cons (pg_name (i := 1) sc_spans.nd rfl (.inl rfl)) (pgs_cons (pg_name (i := 2) sc_spans.nd rfl (.inl rfl)) pgs_nil))))
      (pss_cons (ps_setDc (i := 4) (own := [("letter", 3), ("number", 7)]) (tt := tYes) (by rfl) sc_spans.nd rfl rfl (sw_dict rfl rfl rfl (by decide +kernel)) (piT K (pv 1)) (blkOk_by (own := [("letter", 3), ("number", 7)]) (by kernel_rfl)) (fun _ _ _ _ _ => (pgT K (n := 2) (pgs_cons (pg_name (i := 3) sc_spans.nd rfl (.inl rfl)) (pgs_cons (pg_name (i := 7) sc_spans.nd rfl (.inl rfl)) pgs_nil)))) (fun _ _ _ _ _ => pts_nil) (fun _ _ _ _ _ => (pv 3)) (fun _ _ _ _ _ => (pe_tup (pa_cons (pv 7) (pa_cons (pv 7) pa_nil)))))
      (pss_mid (ps_if (pt_cmpR op_notN (pv 2) pe_non (nomark _)) (pss_cons (ps_asg (pv 2) (pgT K (n := 3) (pgs_cons (pg_name (i := 3) sc_spans.nd rfl (.inl rfl)) (pgs_cons (pg_name (i := 5) sc_spans.nd rfl (.inl rfl)) (pgs_cons (pg_name (i := 6) sc_spans.nd rfl (.inl rfl)) pgs_nil)))))
      (pss_one (ps_dput (hu_of hr) (pv 4) (pv 3) (pe_tup (pa_cons (pv 5) (pa_cons (pv 6) pa_nil))) rfl))) pss_nil)
      (pss_one (ps_ret (pv 4)))))), ?_⟩
    refine ⟨.ref qa, rfl, qa, [.ref ea, y], rfl, .inl (.inl hqa), rfl, .ref ea, [y], rfl, y, [], rfl, rfl, ?_⟩
    refine ⟨.ref ea, rfl, ea, rfl, ⟨_, .inl (.inr ⟨_, hea⟩)⟩, fun D nD => dc_tup (xs := ps) (fun i H' => ∃ kvs, Same H H' ∧ H' D = some (.dK kvs) ∧ SpA H' kvs ((es.take i).map fun p => (p.1, p.2, p.2)))
      ⟨[], Same.new (Same.refl H) nD, upd_same, .nil⟩ (fun i H' _ hP => ?_) (fun i x H3 hx hP => ?_) (fun H3 hP => ?_)⟩
    · obtain ⟨kvs, sm, _⟩ := hP
      exact .inl (.inr ⟨_, sm _ _ hea⟩)
    · obtain ⟨kvs, sm, hD3, fk⟩ := hP
      obtain ⟨dd, hdd, fd⟩ := fps.getV hx
      rw [List.getElem?_map] at hdd
      obtain ⟨pr, hpr, rfl⟩ := Option.map_eq_some_iff.mp hdd
      obtain ⟨pa, ys, rfl, hpa, fy2⟩ := fd.open
      obtain ⟨c, v, rfl, fc, fv⟩ := fy2.two
      rw [fc.isStr, fv.isInt] at hpa
      have hi : i < es.length := (List.getElem?_eq_some_iff.mp hpr).1
      have epr : es[i] = pr := (List.getElem?_eq_some_iff.mp hpr).2
      refine ⟨pa, [sg pr.1, .int pr.2], rfl, .inl (.inl (sm _ _ hpa)), rfl, sg pr.1, [.int pr.2], rfl, .int pr.2, [], rfl, rfl, rfl, sg pr.1, rfl, .int pr.2, rfl, .int pr.2, rfl, (by show 2 ≤ sizeLine; decide), fun tp ntp => ?_⟩
      have hD4 : (upd H3 tp (.tup [.int pr.2, .int pr.2])) D = some (.dK kvs) := keep_new hD3 ntp
      have fk4 := fk.kt (Kt.new ntp (o := .tup [.int pr.2, .int pr.2]))
      have tk : (es.take (i + 1)).map (fun p => (p.1, p.2, p.2)) = (es.take i).map (fun p => (p.1, p.2, p.2)) ++ [(pr.1, pr.2, pr.2)] := by
        rw [List.take_succ_eq_append_getElem hi, epr, List.map_append]
        rfl
      have nk : valV kvs (Sum.inr (sS pr.1)) = none := by
        refine fk.none fun hm => ?_
        rw [spanL_keys] at hm
        have hnd2 : ((es.take (i + 1)).map (·.1)).Nodup := hndE.sublist ((List.take_sublist _ _).map _)
        rw [List.take_succ_eq_append_getElem hi, epr, List.map_append] at hnd2
        exact (List.nodup_append.mp hnd2).2.2 _ hm _ (by simp) rfl
      refine ⟨kvs, Sum.inr (sS pr.1), rfl, hD4, ?_, putK kvs (Sum.inr (sS pr.1)) (.ref tp), ?_, upd_same, ?_⟩
      · rw [fk.len, List.length_map, List.length_take]
        exact small1000 (by omega)
      · exact Same.mut (Same.new sm ntp) nD
      · rw [putK_new _ nk, tk]
        exact (SpA.snoc fk4 upd_same).kt (.dct hD4)
    · obtain ⟨kvs, sm, hD3, fk⟩ := hP
      have hpl : ps.length = es.length := by
        rw [fps.len, List.length_map]
      rw [hpl, List.take_of_length_le (Nat.le_refl _)] at fk
      refine ⟨fun σ H' => ∃ (kvs' : List (Key × V)) (y3 y5 y6 : Option V), σ = [some (.ref qa), some (.ref ea), some y, y3, some (.ref D), y5, y6, none] ∧ Same H H' ∧ H' D = some (.dK kvs') ∧ SpA H' kvs' (spanL es rc), ?_, ?_⟩
      · cases rc with
        | none =>
          have ey : y = .non := fy.isNon
          subst ey
          refine ⟨.non, rfl, rfl, _, rfl, iteNS rfl ?_⟩
          refine ⟨kvs, _, _, _, rfl, sm, hD3, ?_⟩
          unfold spanL
          rw [Option.toList_none, List.append_nil]
          exact fk
        | some t3 =>
          obtain ⟨c, lo, hi⟩ := t3
          obtain ⟨ra, zs, rfl, hra, fz⟩ := Fz.open (ds := [.str ⟨#[c]⟩, .int lo, .int hi]) fy
          obtain ⟨z1, z2, z3, rfl, g1, g2, g3⟩ := fz.three
          rw [g1.isStr, g2.isInt, g3.isInt] at hra
          refine ⟨.ref ra, rfl, rfl, _, rfl, ite2 (fun _ => ?_) (fun e => ?_)⟩
          · refine ⟨.ref ra, rfl, ra, [sg c, .int lo, .int hi], rfl, .inl (.inl (sm _ _ hra)), rfl, sg c, [.int lo, .int hi], rfl, .int lo, [.int hi], rfl, .int hi, [], rfl, rfl, ?_⟩
            refine ⟨.int lo, rfl, .int hi, rfl, (by show 2 ≤ sizeLine; decide), fun tp ntp => ?_⟩
            have hD4 : (upd H3 tp (.tup [.int lo, .int hi])) D = some (.dK kvs) := keep_new hD3 ntp
            have nk : valV kvs (Sum.inr (sS c)) = none := fk.none (by
              rw [spanL_keys]
              exact (hok.rc c lo hi rfl).2.1)
            refine ⟨.ref D, rfl, sg c, rfl, D, _, rfl, DPut.k (k := Sum.inr (sS c)) hD4 (by rw [fk.len, List.length_map]; exact small1000 hel), ?_⟩
            refine ⟨_, _, _, _, rfl, Same.mut (Same.new sm ntp) nD, upd_same, ?_⟩
            rw [putK_new _ nk]
            exact (SpA.snoc (fk.kt (Kt.new ntp)) upd_same).kt (.dct hD4)
          · exact absurd (by simp) e
      · intro σ1 H1 hM
        obtain ⟨kvs', y3, y5, y6, rfl, sm1, hD1, fk1⟩ := hM
        exact ⟨.ref D, rfl, q D kvs' H1 sm1 nD hD1 fk1⟩

/-! ### fits -/
def spFits (K : PySem.W.Frag) : Sp := fun vs H Q _ => ∃ (cols : List Nat) (rv : V) (row : List Int) (qv : V) (es : List (Nat × Int)) (rc : Option (Nat × Int × Int)), vs = [tx cols, rv, qv] ∧ Fz H rv (rowD row) ∧ row.length = cols.length ∧ QZ H qv es rc ∧ QOk cols es rc ∧ es.length ≤ 1000 ∧
  ∀ (H' : Hp), Same H H' → Q (.bl (fitsM cols row es rc)) H'
theorem ok_fits (T : Tx K mg Z) : FnOk P w K mg base CX0 2 Z.f_fits Z.d_fits ["columns", "row", "question"] (spFits K) := by
  have G_spans : FnOk P w K mg base CX0 1 Z.f_spans Z.d_spans ["question"] (spSpans K) := ok_spans T
  refine T.F_fits.ok sc_fits (fun vs H Q E h => ?_) (fun cdv A outer s H vs Q E hr h => ?_)
  · obtain ⟨cols, rv, row, qv, es, rc, rfl, _⟩ := h
    rfl
  · obtain ⟨cols, rv, row, qv, es, rc, rfl, fr, hrl, fq, hok, hel, q⟩ := h
    obtain ⟨ra, rfl, hra⟩ := row_open fr
    refine ⟨_, (pss_cons (ps_set (i := 3) sc_fits.nd rfl (.inl rfl) (pe_call G_spans (hr.mono (by omega)) (by rfl) T.g_spans T.F_spans.kp T.b_spans .nil pass0 (pa_cons (pv 2) pa_nil)))
      (pss_cons (ps_lock (ps_for PassesOwn.never rfl (pi_keys (pv 3)) (pg_name (i := 4) sc_fits.nd rfl (.inl rfl)) (pss_cons (ps_asg (pe_dget (hu_of hr) (pv 3) (pv 4) (fun _ _ => rfl)) (pgT K (n := 2) (pgs_cons (pg_name (i := 5) sc_fits.nd rfl (.inl rfl)) (pgs_cons (pg_name (i := 6) sc_fits.nd rfl (.inl rfl)) pgs_nil))))
      (pss_one (ps_if (pt_not (pt_chain op_le op_le (pv 5) (pe_ix (ixT K) (pv 1) (bmK K PySem.F.plainAttrs_str PySem.F.slot_str_index PySem.F.type_str_index mt_sindex (pv 0) (pa_cons (pv 4) pa_nil)) (fun _ _ => rfl)) (pv 6))) (pss_one (ps_ret pe_bl)) pss_nil)))))
      (pss_one (ps_ret pe_bl)))), ?_⟩
    refine ⟨qv, rfl, qv, cols, es, rc, rfl, fq, hok, hel, fun d kvs H1 sm nd hd fk => ?_⟩
    have ndr : ra ≠ d := ne_of_none hra nd
    have hra1 : H1 ra = some (.tup (row.map V.int)) := sm _ _ hra
    have hback : ∀ od, Same H (upd (upd H1 d (.frz od (.dK kvs))) d (.dK kvs)) := fun od b o e => by
      have nb : b ≠ d := ne_of_none e nd
      rw [upd_ne nb, upd_ne nb]
      exact sm b o e
    refine ⟨d, .dK kvs, hd, trivial, fun od => ⟨.ref d, rfl, d, od, rfl, .inl ⟨kvs, upd_same, for_it walk_keys (fun i σ H' => ∃ y4 y5 y6 : Option V, σ = [some (tx cols), some (.ref ra), some qv, some (.ref d), y4, y5, y6] ∧ H' = upd H1 d (.frz od (.dK kvs)) ∧ ((spanL es rc).take i).all (spanFit cols row) = true)
      ⟨none, none, none, rfl, rfl, rfl⟩ (fun i σ H' _ hP => ?_) (fun i x σ H3 H4 hi hP hY => ?_) (fun σ H3 hP => ?_)⟩⟩⟩
    · obtain ⟨_, _, _, _, rfl, _⟩ := hP
      exact upd_same
    · obtain ⟨y4, y5, y6, rfl, rfl, hall⟩ := hP
      obtain ⟨rfl, k, v, hkv, rfl⟩ := hY
      obtain ⟨p, c, lo, hi2, rfl, rfl, hp, hsp⟩ := fk.get hkv
      have hm : (c, lo, hi2) ∈ spanL es rc := List.mem_of_getElem? hsp
      obtain ⟨p2, hv2, hp2⟩ := fk.look (spanL_nd hok) hm
      have hcc : c ∈ cols := SpanOk hok _ hm
      obtain ⟨orest, hocc⟩ := ix_one hcc
      have npd : p2 ≠ d := fun z => by
        rw [z, hd] at hp2
        cases hp2
      have hat := row_at hrl hcc
      have hsi : i < (spanL es rc).length := (List.getElem?_eq_some_iff.mp hsp).1
      have esi : (spanL es rc)[i] = (c, lo, hi2) := (List.getElem?_eq_some_iff.mp hsp).2
      have tk : (spanL es rc).take (i + 1) = (spanL es rc).take i ++ [(c, lo, hi2)] := by
        rw [List.take_succ_eq_append_getElem hsi, esi]
      have bad : spanFit cols row (c, lo, hi2) = false → fitsM cols row es rc = false := fun z => by
        unfold fitsM
        rw [List.all_eq_false]
        exact ⟨_, hm, by rw [z]; decide⟩
      refine ⟨.ref d, rfl, sg c, rfl, d, .ref p2, rfl, .inl ⟨kvs, Sum.inr (sS c), .inr ⟨od, upd_same⟩, rfl, hv2.symm⟩, ?_⟩
      refine ⟨p2, [.int lo, .int hi2], rfl, .inl (.inl (keep_ne hp2 npd)), rfl, .int lo, [.int hi2], rfl, .int hi2, [], rfl, rfl, ?_⟩
      refine ⟨.int lo, rfl, .ref ra, rfl, tx cols, rfl, rfl, sg c, rfl, _, _, cols.idxOf c, orest, rfl, rfl, hocc, ra, _, _, _, rfl, rfl, .inl (.inl (keep_ne hra1 ndr)), atI_nat hat, lo, _, rfl, rfl, _, rfl, ite2 (fun e => ?_) (fun e => ?_)⟩
      · have e1 : lo ≤ rowAt cols row c := of_decide_eq_true e
        refine ⟨.int hi2, rfl, _, hi2, rfl, rfl, _, rfl, ?_⟩
        by_cases e2 : rowAt cols row c ≤ hi2
        · rw [decide_eq_true e2]
          refine ⟨_, _, _, rfl, rfl, ?_⟩
          rw [tk, List.all_append, hall]
          unfold List.all
          show (true && (spanFit cols row (c, lo, hi2) && true)) = true
          unfold spanFit
          rw [decide_eq_true e1, decide_eq_true e2]
          rfl
        · rw [decide_eq_false e2]
          refine ⟨upd_same, ?_⟩
          have := q _ (hback od)
          rw [bad (by unfold spanFit; rw [decide_eq_false e2, Bool.and_false])] at this
          exact this
      · have e1 : ¬ lo ≤ rowAt cols row c := fun z => e (decide_eq_true z)
        refine ⟨_, rfl, upd_same, ?_⟩
        have := q _ (hback od)
        rw [bad (by unfold spanFit; rw [decide_eq_false e1, Bool.false_and])] at this
        exact this
    · obtain ⟨y4, y5, y6, rfl, rfl, hall⟩ := hP
      refine ⟨upd_same, ?_⟩
      have := q _ (hback od)
      rw [fk.len, List.take_of_length_le (Nat.le_refl _)] at hall
      have e : fitsM cols row es rc = true := hall
      rw [e] at this
      exact this

/-! ### picked -/
def spPicked (K : PySem.W.Frag) (Z : Ad) : Sp := fun vs H Q _ => ∃ (cols : List Nat) (rv : V) (row : List Int) (ls : List Nat), vs = [tx cols, rv, tx ls] ∧ TG Z.Ps H ∧ Fz H rv (rowD row) ∧ row.length = cols.length ∧ (∀ c ∈ ls, c ∈ cols) ∧ ls.length ≤ 1000 ∧
  ∀ (p : Addr) (H' : Hp), Sx Z.Ps H H' → TG Z.Ps H' → H p = none → H' p = some (.tup ((keyM cols row ls).map V.int)) → Q (.ref p) H'
theorem ok_picked (T : Tx K mg Z) (TB : Tb base mg Z) : FnOk P w K mg base CX0 1 Z.f_picked Z.d_picked ["columns", "row", "letters"] (spPicked K Z) := by
  refine T.C_picked.ok sc_picked (fun vs H Q E h => ?_) (fun A outer s H vs Q E hr h => ?_)
  · obtain ⟨cols, rv, row, ls, rfl, _⟩ := h
    rfl
  · obtain ⟨cols, rv, row, ls, rfl, tg, fr, hrl, hls, hll, q⟩ := h
    obtain ⟨ra, rfl, hra⟩ := row_open fr
    refine ⟨_, (pss_one (ps_ret (pe_tupG (D := (DRow Z.P_picked 0 1)) hr (by rfl) T.m_tuple (TB.t_picked) rfl (genS_by (sc := defScope s_picked) (by kernel_rfl) rfl) (pv 2) (hd_row rfl rfl rfl rfl rfl rfl rfl rfl (by decide +kernel) (by decide +kernel) rfl)))), ?_⟩
    have hP : Z.P_picked ∈ Z.Ps := by simp
    have lsl : (⟨ls.toArray⟩ : Str).cps.toList = ls := by simp
    refine ⟨tx ls, rfl, (keyM cols row ls).map V.int, ⟨tg _ hP, _, cols, ra, row, rfl, Nat.le_of_lt (small1000 (show ls.length ≤ 1000 from hll)), rfl, rfl, hra, hrl, by rw [lsl]; exact hls, ?_⟩, tg _ hP, fun G2 hT p np => ?_⟩
    · rw [lsl]
      unfold keyM
      rw [List.map_map]
      rfl
    · refine q p _ ((Tabbed.sx hP hT).new np) ((Tabbed.tg tg hT).new np) ?_ upd_same
      exact Sx.free (Tabbed.tg tg hT) (Tabbed.sx hP hT) np

/-! ### stretch -/
def spStretch (K : PySem.W.Frag) (Z : Ad) : Sp := fun vs H Q _ => ∃ (tv : V) (cols : List Nat) (rows : List (List Int)) (one : List Nat) (qv : V) (es : List (Nat × Int)) (rc : Option (Nat × Int × Int)), vs = [tv, tx one, qv] ∧ TG Z.Ps H ∧ Fz H tv (tabD cols rows) ∧ RowsOk cols.length rows ∧ rows.length ≤ 1000 ∧ one.length ≤ 1000 ∧ (∀ c ∈ one, c ∈ cols) ∧ QZ H qv es rc ∧ QOk cols es rc ∧ es.length ≤ 1000 ∧
  ∀ (p : Addr) (H' : Hp), Sx Z.Ps H H' → TG Z.Ps H' → H p = none → H' p = some (.tup [.int (aheadM cols rows one es rc : Nat), .int (behindM cols rows one es rc : Nat)]) → Q (.ref p) H'
theorem ok_stretch (T : Tx K mg Z) (TB : Tb base mg Z) : FnOk P w K mg base CX0 3 Z.f_stretch Z.d_stretch ["table", "one", "question"] (spStretch K Z) := by
  have G_used : FnOk P w K mg base CX0 2 Z.f_used Z.d_used ["one", "question"] (spUsed K) := ok_used T
  have G_spans : FnOk P w K mg base CX0 1 Z.f_spans Z.d_spans ["question"] (spSpans K) := ok_spans T
  have G_picked : FnOk P w K mg base CX0 1 Z.f_picked Z.d_picked ["columns", "row", "letters"] (spPicked K Z) := ok_picked T TB
  refine T.C_stretch.ok sc_stretch (fun vs H Q E h => ?_) (fun A outer s H vs Q E hr h => ?_)
  · obtain ⟨tv, cols, rows, one, qv, es, rc, rfl, _⟩ := h
    rfl
  · obtain ⟨tv, cols, rows, one, qv, es, rc, rfl, tg, fT, hrs, hrn, hol, hoc, fq, hok, hel, q⟩ := h
    obtain ⟨t, R, vs, rfl, ht, hRR, fvs⟩ := tab_open fT
    have hvl : vs.length = rows.length := by rw [fvs.len, List.length_map]
    refine ⟨_, (pss_cons (ps_asg (pv 0) (pgT K (n := 2) (pgs_cons (pg_name (i := 3) sc_stretch.nd rfl (.inr rfl)) (pgs_cons (pg_name (i := 4) sc_stretch.nd rfl (.inl rfl)) pgs_nil))))
      (pss_cons (ps_set (i := 5) sc_stretch.nd rfl (.inr rfl) (pe_call G_used (hr.mono (by omega)) (by rfl) T.g_used T.F_used.kp T.b_used .nil pass0 (pa_cons (pv 1) (pa_cons (pv 2) pa_nil))))
      (pss_cons (ps_set (i := 11) sc_stretch.nd rfl (.inr rfl) (pe_call G_spans (hr.mono (by omega)) (by rfl) T.g_spans T.F_spans.kp T.b_spans .nil pass0 (pa_cons (pv 2) pa_nil)))
      (pss_cons (ps_set (i := 6) sc_stretch.nd rfl (.inr rfl) (pe_tupG (D := (DWant Z.P_stretch 11 0)) hr (by rfl) T.m_tuple (TB.t_stretch) rfl (genS_by (sc := defScope s_stretch) (by kernel_rfl) rfl) (pv 5) (hd_want (.inl rfl) rfl rfl rfl rfl rfl (by decide +kernel))))
      (pss_cons (ps_set (i := 7) sc_stretch.nd rfl (.inr rfl) (pe_tupG (D := (DWant Z.P_stretch 11 1)) hr (by rfl) T.m_tuple (TB.t_stretch) rfl (genS_by (sc := defScope s_stretch) (by kernel_rfl) rfl) (pv 5) (hd_want (.inr rfl) rfl rfl rfl rfl rfl (by decide +kernel))))
      (pss_cons (ps_setLc (i := 8) (own := [("row", 12)]) (tt := tYes) (by rfl) sc_stretch.nd rfl rfl (sw_true rfl rfl rfl (by decide +kernel)) (piT K (pv 4)) (blkOk_by (own := [("row", 12)]) (by kernel_rfl)) (fun _ _ _ _ _ => (pg_name (i := 12) sc_stretch.nd rfl (.inl rfl))) (fun _ _ _ _ _ => pts_nil) (fun _ _ _ _ _ => (pe_call G_picked (hr.mono (by omega)) (by rfl) T.g_picked T.F_picked.kp T.b_picked .nil pass0 (pa_cons (pv 3) (pa_cons (pv 12) (pa_cons (pv 5) pa_nil))))))
      (pss_cons (ps_set (i := 9) sc_stretch.nd rfl (.inl rfl) (pe_callB (cLenSq K) (by rfl) T.m_len (by decide +kernel) (pa_cons (pe_lc (own := [("key", 13)]) (tt := _) (by rfl) sc_stretch.nd (piL K (pv 8)) (blkOk_by (own := [("key", 13)]) (by kernel_rfl)) (fun _ _ _ _ _ => (pg_name (i := 13) sc_stretch.nd rfl (.inl rfl))) (fun _ _ _ _ _ => (pts_one (pt_cmpR (ltTK K hr.units0) (pv 13) (pv 6) (nomark _)))) (fun _ _ _ _ _ => (pv 13))) pa_nil)))
      (pss_cons (ps_set (i := 10) sc_stretch.nd rfl (.inl rfl) (pe_callB (cLenSq K) (by rfl) T.m_len (by decide +kernel) (pa_cons (pe_lc (own := [("key", 13)]) (tt := _) (by rfl) sc_stretch.nd (piL K (pv 8)) (blkOk_by (own := [("key", 13)]) (by kernel_rfl)) (fun _ _ _ _ _ => (pg_name (i := 13) sc_stretch.nd rfl (.inl rfl))) (fun _ _ _ _ _ => (pts_one (pt_cmpR (leTK K hr.units0) (pv 13) (pv 7) (nomark _)))) (fun _ _ _ _ _ => (pv 13))) pa_nil)))
      (pss_one (ps_ret (pe_tup (pa_cons (pv 9) (pa_cons (pv 10) pa_nil))))))))))))), ?_⟩
    refine ⟨.ref t, rfl, t, [tx cols, .ref R], rfl, .inl (.inl ht), rfl, tx cols, [.ref R], rfl, .ref R, [], rfl, rfl, ?_⟩
    refine ⟨tx one, rfl, qv, rfl, one, qv, es, rc, rfl, hol, fq, hel, fun H1 sm1 => ?_⟩
    refine ⟨qv, rfl, qv, cols, es, rc, rfl, fq.kT (Same.kT sm1), hok, hel, fun d kvs H2 sm2 nd hd fk => ?_⟩
    have sm02 : Same H H2 := Same.trans sm1 sm2
    have tg2 : TG Z.Ps H2 := tg.same sm02
    have hP : Z.P_stretch ∈ Z.Ps := by simp
    have lsl : (⟨(usedM one es rc).toArray⟩ : Str).cps.toList = usedM one es rc := by simp
    have hul : (usedM one es rc).length ≤ 1000 := Nat.le_trans (used_len _ _ _) hol
    have hus : (⟨(usedM one es rc).toArray⟩ : Str).length ≤ sizeLine := Nat.le_of_lt (small1000 (show (usedM one es rc).length ≤ 1000 from hul))
    have want : ∀ (n : Int) (G : Hp) (σ : L2.St), TG Z.Ps G → G d = some (.dK kvs) → SpA G kvs (spanL es rc) → σ[11]? = some (some (.ref d)) → DWant Z.P_stretch 11 n (tx (usedM one es rc)) σ G (((usedM one es rc).map fun c => if n = 0 then (spanOf es rc c).1 else (spanOf es rc c).2).map V.int) := fun n G σ tG hG fG hσ => by
      refine ⟨tG _ hP, _, d, kvs, fun c => if n = 0 then (spanOf es rc c).1 else (spanOf es rc c).2, rfl, hus, hσ, hG, fun c hc => ?_, ?_⟩
      · rw [lsl] at hc
        obtain ⟨lo, hi, hm⟩ := used_span hc
        obtain ⟨p, h1, h2⟩ := fG.look (spanL_nd hok) hm
        refine ⟨p, lo, hi, h1, h2, ?_⟩
        show (if n = 0 then (spanOf es rc c).1 else (spanOf es rc c).2) = _
        rw [spanOf_mem (spanL_nd hok) hm]
      · rw [lsl, List.map_map]
        rfl
    -- first
    refine ⟨tx (usedM one es rc), rfl, (loM es rc (usedM one es rc)).map V.int, want 0 H2 _ tg2 hd fk rfl, tg2 _ hP, fun G3 t3 p3 n3 => ?_⟩
    have sx3 : Sx Z.Ps H2 (upd G3 p3 (.tup ((loM es rc (usedM one es rc)).map V.int))) := (Tabbed.sx hP t3).new n3
    have tg3 : TG Z.Ps (upd G3 p3 (.tup ((loM es rc (usedM one es rc)).map V.int))) := (Tabbed.tg tg2 t3).new n3
    have h33 : (upd G3 p3 (.tup ((loM es rc (usedM one es rc)).map V.int))) p3 = some (.tup ((loM es rc (usedM one es rc)).map V.int)) := upd_same
    generalize upd G3 p3 (.tup ((loM es rc (usedM one es rc)).map V.int)) = H3 at sx3 tg3 h33
    -- last
    refine ⟨tx (usedM one es rc), rfl, (hiM es rc (usedM one es rc)).map V.int, want 1 H3 _ tg3 (sx3.dct tg2 hd) (fk.kt (sx3.kt tg2)) rfl, tg3 _ hP, fun G4 t4 p4 n4 => ?_⟩
    have sx4 : Sx Z.Ps H3 (upd G4 p4 (.tup ((hiM es rc (usedM one es rc)).map V.int))) := (Tabbed.sx hP t4).new n4
    have tg4 : TG Z.Ps (upd G4 p4 (.tup ((hiM es rc (usedM one es rc)).map V.int))) := (Tabbed.tg tg3 t4).new n4
    have h44 : (upd G4 p4 (.tup ((hiM es rc (usedM one es rc)).map V.int))) p4 = some (.tup ((hiM es rc (usedM one es rc)).map V.int)) := upd_same
    generalize upd G4 p4 (.tup ((hiM es rc (usedM one es rc)).map V.int)) = H4 at sx4 tg4 h44
    have sx04 : Sx Z.Ps H H4 := ((Same.sx sm02).trans sx3).trans sx4
    have h43 : H4 p3 = some (.tup ((loM es rc (usedM one es rc)).map V.int)) := sx4.kt tg3 _ _ h33
    have kt04 : Kt H H4 := sx04.kt tg
    have hR4 := kt04 _ _ hRR
    -- keys
    refine ⟨.ref R, rfl, R, rfl, ⟨_, .inl (.inl hR4)⟩, fun D nD => lc_it (walk_tup (xs := vs)) (fun i H' => ∃ ks : List V, Sx Z.Ps H4 H' ∧ TG Z.Ps H' ∧ H' D = some (.lst ks) ∧ FzA H' ks (((rows.take i).map fun row => keyM cols row (usedM one es rc)).map rowD))
      ⟨[], Sx.rfl'.new nD, tg4.new nD, upd_same, .nil⟩ (fun i H' _ hI => ?_) (fun i x H5 H6 hi hI hY => ?_) (fun H5 hI => ?_)⟩
    · obtain ⟨ks, sx, _, _⟩ := hI
      exact .inl (.inl (sx.kt tg4 _ _ hR4))
    · obtain ⟨ks, sx5, tg5, hD5, fks⟩ := hI
      obtain ⟨rfl, ex⟩ := hY
      obtain ⟨dd, hdd, fd⟩ := fvs.getV ex
      rw [List.getElem?_map] at hdd
      obtain ⟨row, hrow, rfl⟩ := Option.map_eq_some_iff.mp hdd
      have hi2 : i < rows.length := (List.getElem?_eq_some_iff.mp hrow).1
      have erow : rows[i] = row := (List.getElem?_eq_some_iff.mp hrow).2
      have rok := hrs row (List.mem_of_getElem? hrow)
      have kt05 := kt04.trans (sx5.kt tg4)
      refine ⟨rfl, tx cols, rfl, x, rfl, tx (usedM one es rc), rfl, cols, x, row, usedM one es rc, rfl, tg5, fd.kt kt05, rok.1, fun c hc => hoc c (used_in hc), hul, fun p H7 sx7 tg7 np hp => ?_⟩
      have hD7 := sx7.lst tg5 hD5
      have fks7 := fks.kt (sx7.kt tg5)
      refine ⟨ks, hD7, ?_, ks ++ [.ref p], (sx5.trans sx7).mut nD, tg7.mut hD7, upd_same, ?_⟩
      · rw [fks.len, List.length_map, List.length_map, List.length_take]
        exact small1000 (by omega)
      · rw [List.take_succ_eq_append_getElem hi2, erow, List.map_append, List.map_append]
        exact (FzA.snoc fks7 (row_at_fz hp)).kt (Kt.lst hD7)
    · obtain ⟨ks, sx5, tg5, hD5, fks⟩ := hI
      rw [hvl, List.take_of_length_le (Nat.le_refl _)] at fks
      have hkl : ks.length = rows.length := by rw [fks.len, List.length_map, List.length_map]
      have h53 := (sx5.kt tg4) _ _ h43
      have h54 := (sx5.kt tg4) _ _ h44
      -- ahead
      refine ⟨.ref D, rfl, D, rfl, ⟨_, .inl (.inl hD5)⟩, fun D6 nD6 => lc_it (walk_list (xs := ks)) (fun i H' => ∃ cs : List V, Same H5 H' ∧ H' D6 = some (.lst cs) ∧ cs.length = ((rows.take i).filter fun row => HT.lexLt (keyM cols row (usedM one es rc)) (loM es rc (usedM one es rc))).length)
        ⟨[], Same.new (Same.refl H5) nD6, upd_same, rfl⟩ (fun i H' _ hI => ?_) (fun i x H6 H7 hi hI hY => ?_) (fun H6 hI => ?_)⟩
      · obtain ⟨cs, sm, _⟩ := hI
        exact .inl (.inl (sm _ _ hD5))
      · obtain ⟨cs, sm6, hD6, hcl⟩ := hI
        obtain ⟨rfl, ex⟩ := hY
        obtain ⟨dd, hdd, fd⟩ := fks.getV ex
        rw [List.getElem?_map] at hdd
        obtain ⟨key, hkey, rfl⟩ := Option.map_eq_some_iff.mp hdd
        rw [List.getElem?_map] at hkey
        obtain ⟨row, hrow, rfl⟩ := Option.map_eq_some_iff.mp hkey
        have hi2 : i < rows.length := (List.getElem?_eq_some_iff.mp hrow).1
        have erow : rows[i] = row := (List.getElem?_eq_some_iff.mp hrow).2
        obtain ⟨ka, rfl, hka⟩ := row_open fd
        refine ⟨rfl, .ref ka, rfl, .ref p3, rfl, ka, p3, _, _, rfl, rfl, .inl (.inl (sm6 _ _ hka)), .inl (.inl (sm6 _ _ h53)), _, rfl, ite2 (fun e => ?_) (fun e => ?_)⟩
        · refine ⟨.ref ka, rfl, cs, hD6, ?_, cs ++ [.ref ka], Same.mut sm6 nD6, upd_same, ?_⟩
          · rw [hcl]
            have := List.length_filter_le (fun row => HT.lexLt (keyM cols row (usedM one es rc)) (loM es rc (usedM one es rc))) (rows.take i)
            rw [List.length_take] at this
            exact small1000 (by omega)
          · rw [List.take_succ_eq_append_getElem hi2, erow, List.filter_append, List.filter_cons, if_pos e, List.length_append, List.length_append, hcl]
            rfl
        · refine ⟨cs, sm6, hD6, ?_⟩
          rw [List.take_succ_eq_append_getElem hi2, erow, List.filter_append, List.filter_cons, if_neg e, List.filter_nil, List.append_nil, hcl]
      · obtain ⟨cs, sm6, hD6, hcl⟩ := hI
        rw [hkl, List.take_of_length_le (Nat.le_refl _)] at hcl
        refine ⟨D6, cs, rfl, .inl (.inl (.inl hD6)), ?_⟩
        rw [hcl]
        -- behind
        refine ⟨.ref D, rfl, D, rfl, ⟨_, .inl (.inl (sm6 _ _ hD5))⟩, fun D8 nD8 => lc_it (walk_list (xs := ks)) (fun i H' => ∃ cs : List V, Same H6 H' ∧ H' D8 = some (.lst cs) ∧ cs.length = ((rows.take i).filter fun row => leK (keyM cols row (usedM one es rc)) (hiM es rc (usedM one es rc))).length)
          ⟨[], Same.new (Same.refl H6) nD8, upd_same, rfl⟩ (fun i H' _ hI => ?_) (fun i x H8 H9 hi hI hY => ?_) (fun H8 hI => ?_)⟩
        · obtain ⟨cs, sm, _⟩ := hI
          exact .inl (.inl (sm _ _ (sm6 _ _ hD5)))
        · obtain ⟨cs2, sm8, hD8, hcl2⟩ := hI
          obtain ⟨rfl, ex⟩ := hY
          obtain ⟨dd, hdd, fd⟩ := fks.getV ex
          rw [List.getElem?_map] at hdd
          obtain ⟨key, hkey, rfl⟩ := Option.map_eq_some_iff.mp hdd
          rw [List.getElem?_map] at hkey
          obtain ⟨row, hrow, rfl⟩ := Option.map_eq_some_iff.mp hkey
          have hi2 : i < rows.length := (List.getElem?_eq_some_iff.mp hrow).1
          have erow : rows[i] = row := (List.getElem?_eq_some_iff.mp hrow).2
          obtain ⟨ka, rfl, hka⟩ := row_open fd
          refine ⟨rfl, .ref ka, rfl, .ref p4, rfl, ka, p4, _, _, rfl, rfl, .inl (.inl (sm8 _ _ (sm6 _ _ hka))), .inl (.inl (sm8 _ _ (sm6 _ _ h54))), _, rfl, ite2 (fun e => ?_) (fun e => ?_)⟩
          · have e' : leK (keyM cols row (usedM one es rc)) (hiM es rc (usedM one es rc)) = true := e
            refine ⟨.ref ka, rfl, cs2, hD8, ?_, cs2 ++ [.ref ka], Same.mut sm8 nD8, upd_same, ?_⟩
            · rw [hcl2]
              have := List.length_filter_le (fun row => leK (keyM cols row (usedM one es rc)) (hiM es rc (usedM one es rc))) (rows.take i)
              rw [List.length_take] at this
              exact small1000 (by omega)
            · rw [List.take_succ_eq_append_getElem hi2, erow, List.filter_append, List.filter_cons, if_pos e', List.length_append, List.length_append, hcl2]
              rfl
          · have e' : ¬ leK (keyM cols row (usedM one es rc)) (hiM es rc (usedM one es rc)) = true := e
            refine ⟨cs2, sm8, hD8, ?_⟩
            rw [List.take_succ_eq_append_getElem hi2, erow, List.filter_append, List.filter_cons, if_neg e', List.filter_nil, List.append_nil, hcl2]
        · obtain ⟨cs2, sm8, hD8, hcl2⟩ := hI
          rw [hkl, List.take_of_length_le (Nat.le_refl _)] at hcl2
          refine ⟨D8, cs2, rfl, .inl (.inl (.inl hD8)), ?_⟩
          rw [hcl2]
          refine ⟨_, rfl, _, rfl, (by show 2 ≤ sizeLine; decide), fun pr npr => ?_⟩
          have sm58 : Same H5 H8 := Same.trans sm6 sm8
          refine q pr _ (((sx04.trans sx5).trans (Same.sx sm58)).new npr) ((tg5.same sm58).new npr) ?_ upd_same
          exact Sx.free (tg5.same sm58) ((sx04.trans sx5).trans (Same.sx sm58)) npr

/-! ### price_by -/
def spPriceBy (K : PySem.W.Frag) (Z : Ad) : Sp := fun vs H Q _ => ∃ (tv : V) (cols : List Nat) (rows : List (List Int)) (ov : Option (List Nat)) (qv : V) (es : List (Nat × Int)) (rc : Option (Nat × Int × Int)), vs = [tv, oV ov, qv] ∧ TG Z.Ps H ∧ Fz H tv (tabD cols rows) ∧ RowsOk cols.length rows ∧ rows.length ≤ 1000 ∧ (∀ o, ov = some o → o.length ≤ 1000 ∧ ∀ c ∈ o, c ∈ cols) ∧ QZ H qv es rc ∧ QOk cols es rc ∧ es.length ≤ 1000 ∧
  ∀ (H' : Hp), Sx Z.Ps H H' → TG Z.Ps H' → Q (.int (priceByM cols rows ov es rc)) H'
theorem ok_priceby (T : Tx K mg Z) (TB : Tb base mg Z) : FnOk P w K mg base CX0 4 Z.f_price_by Z.d_price_by ["table", "one", "question"] (spPriceBy K Z) := by
  have G_stretch : FnOk P w K mg base CX0 3 Z.f_stretch Z.d_stretch ["table", "one", "question"] (spStretch K Z) := ok_stretch T TB
  refine T.F_price_by.ok sc_price_by (fun vs H Q E h => ?_) (fun cdv A outer s H vs Q E hr h => ?_)
  · obtain ⟨tv, cols, rows, ov, qv, es, rc, rfl, _⟩ := h
    rfl
  · obtain ⟨tv, cols, rows, ov, qv, es, rc, rfl, tg, fT, hrs, hrn, hov, fq, hok, hel, q⟩ := h
    obtain ⟨t, R, vs, rfl, ht, hRR, fvs⟩ := tab_open fT
    have hvl : vs.length = rows.length := by rw [fvs.len, List.length_map]
    refine ⟨_, (pss_cons (ps_if (pt_cmpR op_isN (pv 1) pe_non (nomark _)) (pss_cons (ps_asg (pv 0) (pgT K (n := 2) (pgs_cons (pg_name (i := 3) sc_price_by.nd rfl (.inl rfl)) (pgs_cons (pg_name (i := 4) sc_price_by.nd rfl (.inl rfl)) pgs_nil))))
      (pss_one (ps_ret (pe_callB (cLenSq K) (by rfl) T.m_len (by decide +kernel) (pa_cons (pv 4) pa_nil))))) pss_nil)
      (pss_cons (ps_asg (pe_call G_stretch (hr.mono (by omega)) (by rfl) T.g_stretch T.F_stretch.kp T.b_stretch .nil pass0 (pa_cons (pv 0) (pa_cons (pv 1) (pa_cons (pv 2) pa_nil)))) (pgT K (n := 2) (pgs_cons (pg_name (i := 5) sc_price_by.nd rfl (.inl rfl)) (pgs_cons (pg_name (i := 6) sc_price_by.nd rfl (.inl rfl)) pgs_nil))))
      (pss_one (ps_ret (pe_op op_add (pe_op op_sub (pv 6) (pv 5)) pe_int))))), ?_⟩
    cases ov with
    | none =>
      refine ⟨.non, rfl, rfl, _, rfl, ite2 (fun _ => ?_) (fun z => ?_)⟩
      · refine ⟨.ref t, rfl, t, [tx cols, .ref R], rfl, .inl (.inl ht), rfl, tx cols, [.ref R], rfl, .ref R, [], rfl, rfl, ?_⟩
        refine ⟨.ref R, rfl, R, vs, rfl, .inr (.inl (.inl hRR)), ?_⟩
        rw [hvl]
        exact q H Sx.rfl' tg
      · exact absurd rfl z
    | some o =>
      refine ⟨tx o, rfl, rfl, _, rfl, ite2 (fun z => ?_) (fun _ => ?_)⟩
      · exact absurd z (by simp)
      · obtain ⟨hol, hoc⟩ := hov o rfl
        refine ⟨.ref t, rfl, tx o, rfl, qv, rfl, .ref t, cols, rows, o, qv, es, rc, rfl, tg, fT, hrs, hrn, hol, hoc, fq, hok, hel, fun sp H1 sx1 tg1 nsp hsp => ?_⟩
        refine ⟨sp, [.int (aheadM cols rows o es rc : Nat), .int (behindM cols rows o es rc : Nat)], rfl, .inl (.inl hsp), rfl, .int (aheadM cols rows o es rc : Nat), [.int (behindM cols rows o es rc : Nat)], rfl, .int (behindM cols rows o es rc : Nat), [], rfl, rfl, ?_⟩
        refine ⟨_, rfl, _, rfl, _, _, rfl, rfl, _, _, rfl, rfl, ?_⟩
        exact q H1 sx1 tg1

/-! ### _law_one -/
def spOne (K : PySem.W.Frag) : Sp := fun vs H Q _ => ∃ (r : Addr) (n : Int) (cols : List Nat), vs = [.ref r, tx cols] ∧ H r = some (.lst [.int n]) ∧ 0 < cols.length ∧ cols.length ≤ 26 ∧ ∀ (one rest : List Nat) (n' : Int) (H' : Hp), Kp r H H' → H' r = some (.lst [.int n']) → (rest ++ one).Perm cols → 0 < one.length → Q (tx one) H'
theorem ok_one (T : Tx K mg Z) : FnOk P w K mg base CX0 2 Z.f_l_one Z.d_l_one ["reel", "columns"] (spOne K) := by
  have G_l_pick : FnOk P w K mg base CX0 1 Z.f_l_pick Z.d_l_pick ["reel", "many"] (spPick K) := ok_pick T
  refine T.F_l_one.ok sc_l_one (fun vs H Q E h => ?_) (fun cdv A outer s H vs Q E hr h => ?_)
  · obtain ⟨r, n, cols, rfl, _⟩ := h
    rfl
  · obtain ⟨r, n, cols, rfl, hR, hc0, hc1, q⟩ := h
    refine ⟨_, (pss_cons (ps_set (i := 2) sc_l_one.nd rfl (.inl rfl) (pe_callTy call_list_txt (by rfl) T.m_list (by decide +kernel) (pa_cons (pv 1) pa_nil)))
      (pss_cons (ps_set (i := 3) sc_l_one.nd rfl (.inl rfl) pe_str)
      (pss_cons (ps_for PassesOwn.never rfl (pi_range1 (by rfl) T.m_range (pa_cons (pe_op op_add pe_int (pe_call G_l_pick (hr.mono (by omega)) (by rfl) T.g_l_pick T.F_l_pick.kp T.b_l_pick .nil pass0 (pa_cons (pv 0) (pa_cons (pe_callB call_len_str (by rfl) T.m_len (by decide +kernel) (pa_cons (pv 1) pa_nil)) pa_nil)))) pa_nil)) (pg_name (i := 4) sc_l_one.nd rfl (.inl rfl)) (pss_one (ps_set (i := 3) sc_l_one.nd rfl (.inl rfl) (pe_op op_add_str (pv 3) (bmK K PySem.F.plainAttrs_list PySem.F.slot_list_pop PySem.F.type_list_pop mt_popAt (pv 2) (pa_cons (pe_call G_l_pick (hr.mono (by omega)) (by rfl) T.g_l_pick T.F_l_pick.kp T.b_l_pick .nil pass0 (pa_cons (pv 0) (pa_cons (pe_callB (cLenSq K) (by rfl) T.m_len (by decide +kernel) (pa_cons (pv 2) pa_nil)) pa_nil))) pa_nil))))))
      (pss_one (ps_ret (pv 3)))))), ?_⟩
    refine ⟨tx cols, rfl, _, rfl, by show cols.length ≤ sizeLine; exact Nat.le_of_lt (small1000 (by omega)), fun L nL => ?_⟩
    have ea : (⟨cols.toArray⟩ : Str).cps.toList = cols := by simp
    rw [ea]
    have nLr : L ≠ r := (ne_of_none hR nL).symm
    have hR1 : (upd H L (.lst (cols.map sg))) r = some (.lst [.int n]) := keep_new hR nL
    have hlc : (⟨cols.toArray⟩ : Str).length = cols.length := by
      show cols.toArray.size = cols.length
      simp
    refine ⟨.ref r, rfl, tx cols, rfl, _, rfl, by rw [hlc]; exact Nat.le_of_lt (small1000 (by omega)), r, n, _, rfl, hR1, by rw [hlc]; omega, by rw [hlc]; omega, fun d n1 d0 d1 => ?_⟩
    rw [hlc] at d1
    refine ⟨1, d, rfl, rfl, _, rfl, by omega, by omega, ?_⟩
    refine for_range (fun i σ H' => ∃ (ll ff : List Nat) (n' : Int) (y : Option V), σ = [some (.ref r), some (tx cols), some (.ref L), some (tx ff), y] ∧ Kp r H H' ∧ H' r = some (.lst [.int n']) ∧ H' L = some (.lst (ll.map sg)) ∧ (ll ++ ff).Perm cols ∧ ff.length = i)
      ⟨cols, [], n1, none, rfl, (Kp.new Kp.rfl' nL).own, upd_same, ?_, by rw [List.append_nil], rfl⟩ (fun i σ H' hi hP => ?_) (fun σ H' hP => ?_)
    · rw [upd_ne nLr, upd_same]
    · obtain ⟨ll, ff, n2, y, rfl, kp, hR2, hL, hp, hl⟩ := hP
      have hlen : ll.length + ff.length = cols.length := by
        have := hp.length_eq
        rw [List.length_append] at this
        exact this
      have hll : 0 < ll.length := by omega
      refine ⟨tx ff, rfl, .ref L, rfl, .inl ⟨rfl, _, .inl (.inl hL)⟩, .ref r, rfl, .ref L, rfl, L, _, rfl, .inl (.inl (.inl hL)), r, n2, _, rfl, hR2, ?_, ?_, fun g n3 g0 g1 => ?_⟩
      · rw [List.length_map]
        omega
      · rw [List.length_map]
        omega
      · rw [List.length_map] at g1
        have hg : g.toNat < ll.length := by omega
        have hL2 : (upd H' r (.lst [.int n3])) L = some (.lst (ll.map sg)) := by
          rw [upd_ne nLr]
          exact hL
        have hy : ll[g.toNat]? = some ll[g.toNat] := List.getElem?_eq_getElem hg
        refine ⟨L, _, g, g.toNat, sg ll[g.toNat], rfl, rfl, hL2, by omega, by omega, PySem.seqIndex_of g0 (by rw [List.length_map]; exact g1), ?_, _, _, rfl, rfl, ?_, ?_⟩
        · rw [List.getElem?_map, hy]
          rfl
        · show ff.length + 1 ≤ sizeLine
          exact Nat.le_of_lt (small1000 (by omega))
        · refine ⟨ll.eraseIdx g.toNat, ff ++ [ll[g.toNat]], n3, some (.int (0 + (i : Nat))), ?_, (Kp.own kp).mut nL, ?_, ?_, (popped hy ff).trans hp, by rw [List.length_append, hl]; rfl⟩
          · have e1 : tx (ff ++ [ll[g.toNat]]) = .str ((⟨ff.toArray⟩ : Str) ++ (⟨[ll[g.toNat]].toArray⟩ : Str)) := by
              rw [app_txt]
            rw [e1]
            rfl
          · rw [upd_ne nLr.symm, upd_same]
          · rw [upd_same, erase_map]
    · obtain ⟨ll, ff, n2, y, rfl, kp, hR2, hL, hp, hl⟩ := hP
      exact ⟨_, rfl, q ff ll n2 _ kp hR2 hp (by omega)⟩

/-! ### _law_same -/
def spSame (n : Nat) (K : PySem.W.Frag) : Sp := fun vs H Q _ => ∃ (v u : V) (d : PyData), vs = [v, u] ∧ Ft H v d ∧ Ft H u d ∧ d.depth < n ∧ wd d ≤ 1000 ∧ ∀ (H' : Hp), Same H H' → Q (.bl true) H'
theorem ok_same (T : Tx K mg Z) : ∀ n, FnOk P w K mg base CX0 n Z.f_l_same Z.d_l_same ["told", "due"] (spSame n K) := by
  intro n
  induction n with
  | zero => exact ⟨fun vs H Q E h => by
      obtain ⟨v, u, d, rfl, _⟩ := h
      rfl, fun A outer s H args us vs Q E _ _ _ _ h => by
      obtain ⟨v, u, d, _, _, _, hd, _⟩ := h
      exact absurd hd (Nat.not_lt_zero _)⟩
  | succ n G_l_same =>
    refine T.F_l_same.ok sc_l_same (fun vs H Q E h => ?_) (fun cdv A outer s H vs Q E hr h => ?_)
    · obtain ⟨v, u, d, rfl, _⟩ := h
      rfl
    · obtain ⟨v, u, d, rfl, fv, fu, hd, hw, q⟩ := h
      refine ⟨_, (pss_cons (ps_if (pt_val (pe_callB (isiTK K) (by rfl) T.m_isinstance (by decide +kernel) (pa_cons (pv 1) (pa_cons (pe_tup (pa_cons (pe_bltn (v := .ty "tuple") (by rfl) T.m_tuple (by decide +kernel) rfl) (pa_cons (pe_bltn (v := .ty "list") (by rfl) T.m_list (by decide +kernel) rfl) pa_nil))) pa_nil)))) (pss_cons (ps_if (PW.pt (pw_or (pt_cmpR op_ne (pe_callB (isiK K) (by rfl) T.m_isinstance (by decide +kernel) (pa_cons (pv 0) (pa_cons (pe_bltn (v := .ty "tuple") (by rfl) T.m_tuple (by decide +kernel) rfl) pa_nil))) (pe_callB (isiK K) (by rfl) T.m_isinstance (by decide +kernel) (pa_cons (pv 1) (pa_cons (pe_bltn (v := .ty "tuple") (by rfl) T.m_tuple (by decide +kernel) rfl) pa_nil))) (nomark _)) (pw_or1 (pt_not (pt_val (pe_callB (isiTK K) (by rfl) T.m_isinstance (by decide +kernel) (pa_cons (pv 0) (pa_cons (pe_tup (pa_cons (pe_bltn (v := .ty "tuple") (by rfl) T.m_tuple (by decide +kernel) rfl) (pa_cons (pe_bltn (v := .ty "list") (by rfl) T.m_list (by decide +kernel) rfl) pa_nil))) pa_nil)))))))) (pss_one (ps_ret pe_bl)) pss_nil)
      (pss_cons (ps_if (pt_cmpR op_ne (pe_callB (cLenSq K) (by rfl) T.m_len (by decide +kernel) (pa_cons (pv 0) pa_nil)) (pe_callB (cLenSq K) (by rfl) T.m_len (by decide +kernel) (pa_cons (pv 1) pa_nil)) (nomark _)) (pss_one (ps_ret pe_bl)) pss_nil)
      (pss_one (ps_ret (pe_callB (allK K) (by rfl) T.m_all (by decide +kernel) (pa_cons (pe_lc (own := [("one", 2), ("other", 3)]) (tt := tYes) (by rfl) sc_l_same.nd (zipAK K (by rfl) T.m_zip (pa_cons (pv 0) (pa_cons (pv 1) pa_nil))) (blkOk_by (own := [("one", 2), ("other", 3)]) (by kernel_rfl)) (fun _ _ _ _ _ => (pgT K (n := 2) (pgs_cons (pg_name (i := 2) sc_l_same.nd rfl (.inl rfl)) (pgs_cons (pg_name (i := 3) sc_l_same.nd rfl (.inl rfl)) pgs_nil)))) (fun _ _ _ _ _ => pts_nil) (fun _ _ _ _ _ => (pe_call G_l_same (hr.mono (by omega)) (by rfl) T.g_l_same T.F_l_same.kp T.b_l_same .nil pass0 (pa_cons (pv 2) (pa_cons (pv 3) pa_nil))))) pa_nil)))))) pss_nil)
      (pss_cons (ps_if (pt_cmpR op_isN (pv 1) pe_non (nomark _)) (pss_one (ps_ret (pe_cmpR op_isN (pv 0) pe_non (nomark _)))) pss_nil)
      (pss_cons (ps_if (pt_cmpR op_ne (pe_callB (isiK K) (by rfl) T.m_isinstance (by decide +kernel) (pa_cons (pv 1) (pa_cons (pe_bltn (v := .ty "bool") (by rfl) T.m_bool (by decide +kernel) rfl) pa_nil))) (pe_callB (isiK K) (by rfl) T.m_isinstance (by decide +kernel) (pa_cons (pv 0) (pa_cons (pe_bltn (v := .ty "bool") (by rfl) T.m_bool (by decide +kernel) rfl) pa_nil))) (nomark _)) (pss_one (ps_ret pe_bl)) pss_nil)
      (pss_one (ps_ret (pe_and (pe_cmpR op_eq (pe_callB (isiK K) (by rfl) T.m_isinstance (by decide +kernel) (pa_cons (pv 0) (pa_cons (pe_bltn (v := .ty "str") (by rfl) T.m_str (by decide +kernel) rfl) pa_nil))) (pe_callB (isiK K) (by rfl) T.m_isinstance (by decide +kernel) (pa_cons (pv 1) (pa_cons (pe_bltn (v := .ty "str") (by rfl) T.m_str (by decide +kernel) rfl) pa_nil))) (nomark _)) (pe_one (pe_cmpR op_eq (pv 0) (pv 1) (nomark _))))))))), ?_⟩
      refine ⟨u, rfl, (by show 2 ≤ sizeLine; decide), fun tp ntp => ?_⟩
      have sm1 : Same H (upd H tp (.tup [.ty "tuple", .ty "list"])) := Same.new (Same.refl H) ntp
      refine ⟨u, tp, _, _, [.type "tuple", .type "list"], isTp d || isLs d, rfl, upd_same, .cons (.ty _) (.cons (.ty _) .nil), ty_ft (Ft.mono sm1 _ _ fu), kit_tl d, _, rfl, ite2 (fun e => ?_) (fun e => ?_)⟩
      · have fv1 := Ft.mono sm1 _ _ fv
        have fu1 := Ft.mono sm1 _ _ fu
        generalize upd H tp (.tup [.ty "tuple", .ty "list"]) = H1 at sm1 fv1 fu1 ⊢
        refine ⟨v, rfl, v, .ty "tuple", _, _, isTp d, rfl, .ty _, ty_ft fv1, kit_tp d, u, rfl, u, .ty "tuple", _, _, isTp d, rfl, .ty _, ty_ft fu1, kit_tp d, rfl, _, rfl, iteNS rfl ?_⟩
        refine ⟨v, rfl, (by show 2 ≤ sizeLine; decide), fun tp2 ntp2 => ?_⟩
        have sm2 : Same H1 (upd H1 tp2 (.tup [.ty "tuple", .ty "list"])) := Same.new (Same.refl H1) ntp2
        refine ⟨v, tp2, _, _, [.type "tuple", .type "list"], isTp d || isLs d, rfl, upd_same, .cons (.ty _) (.cons (.ty _) .nil), ty_ft (Ft.mono sm2 _ _ fv1), kit_tl d, _, rfl, ?_⟩
        rw [e]
        generalize upd H1 tp2 (.tup [.ty "tuple", .ty "list"]) = H2 at sm2 ⊢
        cases d with
        | list ds =>
          obtain ⟨va, xs, rfl, hva, fxs⟩ : ∃ (va : Addr) (xs : List V), v = .ref va ∧ H1 va = some (.lst xs) ∧ FtA H1 xs ds := by
            cases fv1 with
            | lst h a => exact ⟨_, _, rfl, h, a⟩
          obtain ⟨ua, ys, rfl, hua, fys⟩ : ∃ (ua : Addr) (ys : List V), u = .ref ua ∧ H1 ua = some (.lst ys) ∧ FtA H1 ys ds := by
            cases fu1 with
            | lst h a => exact ⟨_, _, rfl, h, a⟩
          have lx := fxs.len
          have ly := fys.len
          have hdn : PyData.depthAll ds + 1 < n + 1 := hd
          have hwn : max ds.length (wdA ds) ≤ 1000 := hw
          have hlen : (V.int (xs.length : Nat)) = V.int (ys.length : Nat) := by rw [lx, ly]
          refine ⟨.ref va, rfl, va, xs, rfl, .inl (.inl (.inl (sm2 _ _ hva))), .ref ua, rfl, ua, ys, rfl, .inl (.inl (.inl (sm2 _ _ hua))), rfl, _, rfl, iteNS hlen ?_⟩
          refine ⟨.ref va, rfl, .ref ua, rfl, va, ua, xs, ys, rfl, .inl ⟨.inl (.inl (sm2 _ _ hva)), .inl (.inl (sm2 _ _ hua)), fun D nD => lc_it (walk_zip (xs := xs) (ys := ys) (n := xs.length) (by omega)) (fun i H' => Same H2 H' ∧ H2 D = none ∧ H' D = some (.lst ((List.replicate i true).map V.bl)))
            ⟨Same.new (Same.refl H2) nD, nD, upd_same⟩ (fun i H' _ hP => ?_) (fun i x H3 H4 hi hP hY => ?_) (fun H3 hP => ?_)⟩⟩
          · exact ⟨.inl (.inl (hP.1 _ _ (sm2 _ _ hva))), .inl (.inl (hP.1 _ _ (sm2 _ _ hua)))⟩
          · obtain ⟨sm3, _, hD3⟩ := hP
            obtain ⟨T0, x1, x2, rfl, nT, rfl, ex1, ex2⟩ := hY
            obtain ⟨d1, hd1, f1⟩ := fxs.getV ex1
            obtain ⟨d2, hd2, f2⟩ := fys.getV ex2
            rw [hd1] at hd2
            cases hd2
            have hm : d1 ∈ ds := List.mem_of_getElem? hd1
            have sm4 : Same H1 (upd H3 T0 (.tup [x1, x2])) := Same.new (Same.trans sm2 sm3) nT
            refine ⟨T0, [x1, x2], rfl, .inl (.inl upd_same), rfl, x1, [x2], rfl, x2, [], rfl, rfl, rfl, x1, rfl, x2, rfl, x1, x2, d1, rfl, Ft.mono sm4 _ _ f1, Ft.mono sm4 _ _ f2, ?_, ?_, fun H5 sm5 => ?_⟩
            · have := depA_mem hm
              omega
            · have := wdA_mem hm
              omega
            · refine ⟨_, sm5 _ _ (keep_new hD3 nT), ?_, ?_, nD, ?_⟩
              · rw [List.length_map, List.length_replicate]
                exact small1000 (by omega)
              · exact Same.mut (Same.trans (Same.new sm3 nT) sm5) nD
              · rw [upd_same, List.replicate_succ', List.map_append]
                rfl
          · obtain ⟨sm3, _, hD3⟩ := hP
            refine ⟨D, _, rfl, .inl (.inl hD3), ?_⟩
            have ea : ((List.replicate xs.length true).all id) = true := by simp
            rw [ea]
            exact q _ (Same.trans (Same.trans sm1 sm2) sm3)
        | tuple ds =>
          obtain ⟨va, xs, rfl, hva, fxs⟩ : ∃ (va : Addr) (xs : List V), v = .ref va ∧ H1 va = some (.tup xs) ∧ FtA H1 xs ds := by
            cases fv1 with
            | tup h a => exact ⟨_, _, rfl, h, a⟩
          obtain ⟨ua, ys, rfl, hua, fys⟩ : ∃ (ua : Addr) (ys : List V), u = .ref ua ∧ H1 ua = some (.tup ys) ∧ FtA H1 ys ds := by
            cases fu1 with
            | tup h a => exact ⟨_, _, rfl, h, a⟩
          have lx := fxs.len
          have ly := fys.len
          have hdn : PyData.depthAll ds + 1 < n + 1 := hd
          have hwn : max ds.length (wdA ds) ≤ 1000 := hw
          have hlen : (V.int (xs.length : Nat)) = V.int (ys.length : Nat) := by rw [lx, ly]
          refine ⟨.ref va, rfl, va, xs, rfl, .inr (.inl (.inl (sm2 _ _ hva))), .ref ua, rfl, ua, ys, rfl, .inr (.inl (.inl (sm2 _ _ hua))), rfl, _, rfl, iteNS hlen ?_⟩
          refine ⟨.ref va, rfl, .ref ua, rfl, va, ua, xs, ys, rfl, .inr ⟨.inl (.inl (sm2 _ _ hva)), .inl (.inl (sm2 _ _ hua)), fun D nD => lc_it (walk_zipT (xs := xs) (ys := ys) (n := xs.length) rfl (by omega)) (fun i H' => Same H2 H' ∧ H2 D = none ∧ H' D = some (.lst ((List.replicate i true).map V.bl)))
            ⟨Same.new (Same.refl H2) nD, nD, upd_same⟩ (fun i H' _ hP => ?_) (fun i x H3 H4 hi hP hY => ?_) (fun H3 hP => ?_)⟩⟩
          · exact ⟨.inl (.inl (hP.1 _ _ (sm2 _ _ hva))), .inl (.inl (hP.1 _ _ (sm2 _ _ hua)))⟩
          · obtain ⟨sm3, _, hD3⟩ := hP
            obtain ⟨T0, x1, x2, rfl, nT, rfl, ex1, ex2⟩ := hY
            obtain ⟨d1, hd1, f1⟩ := fxs.getV ex1
            obtain ⟨d2, hd2, f2⟩ := fys.getV ex2
            rw [hd1] at hd2
            cases hd2
            have hm : d1 ∈ ds := List.mem_of_getElem? hd1
            have sm4 : Same H1 (upd H3 T0 (.tup [x1, x2])) := Same.new (Same.trans sm2 sm3) nT
            refine ⟨T0, [x1, x2], rfl, .inl (.inl upd_same), rfl, x1, [x2], rfl, x2, [], rfl, rfl, rfl, x1, rfl, x2, rfl, x1, x2, d1, rfl, Ft.mono sm4 _ _ f1, Ft.mono sm4 _ _ f2, ?_, ?_, fun H5 sm5 => ?_⟩
            · have := depA_mem hm
              omega
            · have := wdA_mem hm
              omega
            · refine ⟨_, sm5 _ _ (keep_new hD3 nT), ?_, ?_, nD, ?_⟩
              · rw [List.length_map, List.length_replicate]
                exact small1000 (by omega)
              · exact Same.mut (Same.trans (Same.new sm3 nT) sm5) nD
              · rw [upd_same, List.replicate_succ', List.map_append]
                rfl
          · obtain ⟨sm3, _, hD3⟩ := hP
            refine ⟨D, _, rfl, .inl (.inl hD3), ?_⟩
            have ea : ((List.replicate xs.length true).all id) = true := by simp
            rw [ea]
            exact q _ (Same.trans (Same.trans sm1 sm2) sm3)
        | none => cases e
        | bool b => cases e
        | int i => cases e
        | str x => cases e
        | dict kv => cases e
      · have fv1 := Ft.mono sm1 _ _ fv
        have fu1 := Ft.mono sm1 _ _ fu
        generalize upd H tp (.tup [.ty "tuple", .ty "list"]) = H1 at sm1 fv1 fu1 ⊢
        by_cases hdn : d = .none
        · subst hdn
          obtain rfl : v = .non := by
            cases fv1
            rfl
          obtain rfl : u = .non := by
            cases fu1
            rfl
          refine ⟨.non, rfl, rfl, _, rfl, ite2 (fun _ => ?_) (fun z => ?_)⟩
          · refine ⟨.non, rfl, rfl, ?_⟩
            rw [decide_eq_true rfl]
            exact q _ sm1
          · exact absurd (decide_eq_true rfl) z
        · obtain ⟨x, rfl, rfl, hx, hs⟩ : ∃ x, v = x ∧ u = x ∧ x ≠ .non ∧ scal x x = true := by
            cases d with
            | none => exact absurd rfl hdn
            | bool b =>
              cases fv1
              cases fu1
              exact ⟨_, rfl, rfl, (fun z => nomatch z), rfl⟩
            | int b =>
              cases fv1
              cases fu1
              exact ⟨_, rfl, rfl, (fun z => nomatch z), rfl⟩
            | str b =>
              cases fv1
              cases fu1
              exact ⟨_, rfl, rfl, (fun z => nomatch z), rfl⟩
            | list ds => exact absurd rfl e
            | tuple ds => exact absurd rfl e
            | dict kv => cases fv1
          refine ⟨_, rfl, rfl, _, rfl, ite2 (fun z => ?_) (fun z => ?_)⟩
          · exact absurd (of_decide_eq_true z) hx
          · refine ⟨_, rfl, _, .ty "bool", _, _, isBl d, rfl, .ty _, ty_ft fu1, kit_bl d, _, rfl, _, .ty "bool", _, _, isBl d, rfl, .ty _, ty_ft fv1, kit_bl d, rfl, _, rfl, iteNS rfl ?_⟩
            refine ⟨_, rfl, _, .ty "str", _, _, isSt d, rfl, .ty _, ty_ft fv1, kit_st d, _, rfl, _, .ty "str", _, _, isSt d, rfl, .ty _, ty_ft fu1, kit_st d, rfl, _, rfl, ite2 (fun _ => ?_) (fun z => ?_)⟩
            · refine ⟨_, rfl, _, rfl, hs, ?_⟩
              rw [decide_eq_true rfl]
              exact q _ sm1
            · exact absurd (decide_eq_true rfl) z

/-! ### _law_sorted -/
def spLsorted (K : PySem.W.Frag) : Sp := fun vs H Q _ => ∃ (tv : V) (cols : List Nat) (rows : List (List Int)) (one : List Nat), vs = [tv, tx one] ∧ Fz H tv (tabD cols rows) ∧ RowsOk cols.length rows ∧ rows.length ≤ 1000 ∧ one.length ≤ 1000 ∧ (∀ c ∈ one, c ∈ cols) ∧
  ∀ (p : Addr) (H' : Hp), Same H H' → H p = none → H' p = some (.lst ((sortM cols rows one).map V.int)) → Q (.ref p) H'
theorem ok_lsorted (T : Tx K mg Z) : FnOk P w K mg base CX0 1 Z.f_l_sorted Z.d_l_sorted ["table", "one"] (spLsorted K) := by
  refine T.F_l_sorted.ok sc_l_sorted (fun vs H Q E h => ?_) (fun cdv A outer s H vs Q E hr h => ?_)
  · obtain ⟨tv, cols, rows, one, rfl, _⟩ := h
    rfl
  · obtain ⟨tv, cols, rows, one, rfl, fT, hrs, hrn, hol, hoc, q⟩ := h
    obtain ⟨t, R, vs, rfl, ht, hRR, fvs⟩ := tab_open fT
    have hvl : vs.length = rows.length := by rw [fvs.len, List.length_map]
    refine ⟨_, (pss_cons (ps_asg (pv 0) (pgT K (n := 2) (pgs_cons (pg_name (i := 2) sc_l_sorted.nd rfl (.inr rfl)) (pgs_cons (pg_name (i := 3) sc_l_sorted.nd rfl (.inr rfl)) pgs_nil))))
      (pss_cons (ps_set (i := 4) sc_l_sorted.nd rfl (.inl rfl) (pe_lst pa_nil))
      (pss_cons (ps_for PassesOwn.never rfl (enumTK K (by rfl) T.m_enumerate (pa_cons (pv 3) pa_nil)) (pgT K (n := 2) (pgs_cons (pg_name (i := 5) sc_l_sorted.nd rfl (.inl rfl)) (pgs_cons (pg_name (i := 6) sc_l_sorted.nd rfl (.inr rfl)) pgs_nil))) (pss_cons (ps_setLc (i := 7) (own := [("letter", 11)]) (tt := tYes) (by rfl) sc_l_sorted.nd rfl rfl (sw_true rfl rfl rfl (by decide +kernel)) (pi_str (pv 1)) (blkOk_by (own := [("letter", 11)]) (by kernel_rfl)) (fun _ _ _ _ _ => (pg_name (i := 11) sc_l_sorted.nd rfl (.inl rfl))) (fun _ _ _ _ _ => pts_nil) (fun _ _ _ _ _ => (pe_ix (ixT K) (pv 6) (bmK K PySem.F.plainAttrs_str PySem.F.slot_str_index PySem.F.type_str_index mt_sindex (pv 2) (pa_cons (pv 11) pa_nil)) (fun _ _ => rfl))))
      (pss_cons (ps_set (i := 8) sc_l_sorted.nd rfl (.inl rfl) pe_int)
      (pss_cons (ps_for PassesOwn.never rfl (piL K (pv 4)) (pg_name (i := 9) sc_l_sorted.nd rfl (.inr rfl)) (pss_cons (ps_setLc (i := 10) (own := [("letter", 11)]) (tt := tYes) (by rfl) sc_l_sorted.nd rfl rfl (sw_true rfl rfl rfl (by decide +kernel)) (pi_str (pv 1)) (blkOk_by (own := [("letter", 11)]) (by kernel_rfl)) (fun _ _ _ _ _ => (pg_name (i := 11) sc_l_sorted.nd rfl (.inl rfl))) (fun _ _ _ _ _ => pts_nil) (fun _ _ _ _ _ => (pe_ix (ixT K) (pe_ix (ixT K) (pv 3) (pv 9) (fun _ _ => rfl)) (bmK K PySem.F.plainAttrs_str PySem.F.slot_str_index PySem.F.type_str_index mt_sindex (pv 2) (pa_cons (pv 11) pa_nil)) (fun _ _ => rfl))))
      (pss_one (ps_set (i := 8) sc_l_sorted.nd rfl (.inl rfl) (pe_op op_add (pv 8) (pe_callTy call_int1 (by rfl) T.m_int (by decide +kernel) (pa_cons (pe_cmpR (leLK K hr) (pv 10) (pv 7) (nomark _)) pa_nil)))))))
      (pss_one (ps_expr (bmK K PySem.F.plainAttrs_list PySem.F.slot_list_insert PySem.F.type_list_insert mt_insert (pv 4) (pa_cons (pv 8) (pa_cons (pv 5) pa_nil)))))))))
      (pss_one (ps_ret (pv 4)))))), ?_⟩
    refine ⟨.ref t, rfl, t, [tx cols, .ref R], rfl, .inl (.inl ht), rfl, tx cols, [.ref R], rfl, .ref R, [], rfl, rfl, ?_⟩
    refine ⟨(by show 0 ≤ sizeLine; decide), fun F nF => ?_⟩
    have hR1 : (upd H F (.lst [])) R = some (.tup vs) := keep_new hRR nF
    have look : ∀ (row : List Int), RowOk cols.length row → ∀ c ∈ one, (row.map V.int)[cols.idxOf c]? = some (.int (rowAt cols row c)) := fun row rok c hc => row_at rok.1 (hoc c hc)
    refine ⟨.ref R, rfl, R, vs, rfl, .inl (.inl hR1), for_it (walk_et (xs := vs)) (fun i σ H' => ∃ (fd : List Nat) (y5 y6 y7 y8 y9 y10 y11 : Option V), σ = [some (.ref t), some (tx one), some (tx cols), some (.ref R), some (.ref F), y5, y6, y7, y8, y9, y10, y11] ∧ Same H H' ∧ H' F = some (.lst ((fd.map fun n : Nat => (n : Int)).map V.int)) ∧ fd.Perm (List.range i) ∧ (fd.map (entAt cols rows one)).Pairwise fun a b => entLe a b = true)
      ⟨[], none, none, none, none, none, none, none, rfl, Same.new (Same.refl H) nF, upd_same, List.Perm.refl _, List.Pairwise.nil⟩ (fun i σ H' _ hP => ?_) (fun i x σ H3 H4 hi hP hY => ?_) (fun σ H3 hP => ?_)⟩
    · obtain ⟨_, _, _, _, _, _, _, _, _, sm, _⟩ := hP
      exact .inl (.inl (sm _ _ hRR))
    · obtain ⟨fd, y5, y6, y7, y8, y9, y10, y11, rfl, sm3, hF3, hpm, hso⟩ := hP
      obtain ⟨T0, x1, x2, rfl, nT, rfl, ex1, ex2⟩ := hY
      have e1 : x1 = .int (i : Nat) := (Option.some.inj ex1).symm
      subst e1
      obtain ⟨d, hd, fdd⟩ := fvs.getV ex2
      rw [List.getElem?_map] at hd
      obtain ⟨row, hrow, rfl⟩ := Option.map_eq_some_iff.mp hd
      have hi2 : i < rows.length := (List.getElem?_eq_some_iff.mp hrow).1
      have erow : rows.getD i [] = row := by rw [List.getD_eq_getElem?_getD, hrow]; rfl
      have rok := hrs row (List.mem_of_getElem? hrow)
      obtain ⟨ra, rfl, hra⟩ := row_open fdd
      have hfl : fd.length = i := by
        have := hpm.length_eq
        rw [List.length_range] at this
        exact this
      have sm4 : Same H (upd H3 T0 (.tup [.int (i : Nat), .ref ra])) := Same.new sm3 nT
      have hF4 : (upd H3 T0 (.tup [.int (i : Nat), .ref ra])) F = some (.lst ((fd.map fun n : Nat => (n : Int)).map V.int)) := keep_new hF3 nT
      have hT4 : (upd H3 T0 (.tup [.int (i : Nat), .ref ra])) T0 = some (.tup [.int (i : Nat), .ref ra]) := upd_same
      generalize upd H3 T0 (.tup [.int (i : Nat), .ref ra]) = H4 at sm4 hF4 hT4 ⊢
      refine ⟨T0, [.int (i : Nat), .ref ra], rfl, .inl (.inl hT4), rfl, .int (i : Nat), [.ref ra], rfl, .ref ra, [], rfl, rfl, ?_⟩
      -- here
      refine ⟨tx one, rfl, _, rfl, fun D nD => lc_it walk_str (fun j H' => Same H4 H' ∧ H' D = some (.lst (((one.take j).map (rowAt cols row)).map V.int)))
        ⟨Same.new (Same.refl H4) nD, upd_same⟩ (fun _ _ _ _ => trivial) (fun j x H5 H6 hj hP hY => ?_) (fun H5 hP => ?_)⟩
      · obtain ⟨sm5, hD5⟩ := hP
        obtain ⟨rfl, c, hc, rfl⟩ := hY
        have hj2 : j < one.length := by simpa using hj
        have hcj : one[j] = c := by
          have : one[j]? = some c := by simpa using hc
          exact (List.getElem?_eq_some_iff.mp this).2
        have hco : c ∈ one := hcj ▸ List.getElem_mem hj2
        obtain ⟨orest, hocc⟩ := ix_one (hoc c hco)
        refine ⟨rfl, .ref ra, rfl, tx cols, rfl, rfl, sg c, rfl, _, _, cols.idxOf c, orest, rfl, rfl, hocc, ra, _, _, _, rfl, rfl, .inl (.inl (sm5 _ _ (sm4 _ _ hra))), atI_nat (look row rok c hco), _, hD5, ?_, Same.mut sm5 nD, ?_⟩
        · rw [List.length_map, List.length_map, List.length_take]
          exact small1000 (by omega)
        · rw [upd_same, List.take_succ_eq_append_getElem hj2, hcj, List.map_append, List.map_append]
          rfl
      · obtain ⟨sm5, hD5⟩ := hP
        have hn : (⟨one.toArray⟩ : Str).cps.size = one.length := by simp
        rw [hn, List.take_of_length_le (Nat.le_refl _)] at hD5
        have hD5' : H5 D = some (.lst ((entAt cols rows one i).1.map V.int)) := by
          rw [hD5]
          unfold entAt keyM
          rw [erow]
        have hF5 := sm5 _ _ hF4
        have sm05 := Same.trans sm4 sm5
        -- the others
        refine ⟨.ref F, rfl, F, rfl, ⟨_, .inl (.inl hF5)⟩, for_it (walk_list (xs := (fd.map fun n : Nat => (n : Int)).map V.int)) (fun j σ H' => ∃ (y9 y10 : Option V), σ = [some (.ref t), some (tx one), some (tx cols), some (.ref R), some (.ref F), some (.int (i : Nat)), some (.ref ra), some (.ref D), some (.int (((fd.take j).filter fun o => !decide ((entAt cols rows one i).1 < (entAt cols rows one o).1)).length : Nat)), y9, y10, y11] ∧ Same H5 H')
          ⟨y9, y10, rfl, Same.refl H5⟩ (fun j σ H' _ hP => ?_) (fun j x σ H6 H7 hj hP hY => ?_) (fun σ H6 hP => ?_)⟩
        · obtain ⟨_, _, _, sm⟩ := hP
          exact .inl (.inl (sm _ _ hF5))
        · obtain ⟨y9', y10', rfl, sm6⟩ := hP
          obtain ⟨rfl, ex⟩ := hY
          rw [List.getElem?_map, List.getElem?_map] at ex
          obtain ⟨oI, hoI, rfl⟩ := Option.map_eq_some_iff.mp ex
          obtain ⟨o, ho, rfl⟩ := Option.map_eq_some_iff.mp hoI
          have hj2 : j < fd.length := (List.getElem?_eq_some_iff.mp ho).1
          have hoj : fd[j] = o := (List.getElem?_eq_some_iff.mp ho).2
          have hor : o < i := List.mem_range.mp (hpm.mem_iff.mp (List.mem_of_getElem? ho))
          have ho2 : o < rows.length := by omega
          obtain ⟨v, hv, fv⟩ := fvs.get (i := o) (d := rowD rows[o]) (by rw [List.getElem?_map, List.getElem?_eq_getElem ho2]; rfl)
          have eo : rows.getD o [] = rows[o] := by rw [List.getD_eq_getElem?_getD, List.getElem?_eq_getElem ho2]; rfl
          have rok2 := hrs rows[o] (List.getElem_mem ho2)
          obtain ⟨rb, rfl, hrb⟩ := row_open fv
          have sm06 := Same.trans sm05 sm6
          refine ⟨tx one, rfl, _, rfl, fun D2 nD2 => lc_it walk_str (fun j H' => Same H7 H' ∧ H' D2 = some (.lst (((one.take j).map (rowAt cols rows[o])).map V.int)))
            ⟨Same.new (Same.refl H7) nD2, upd_same⟩ (fun _ _ _ _ => trivial) (fun m x Hx Hy hm hP hY => ?_) (fun Hz hP => ?_)⟩
          · obtain ⟨sm7, hD7⟩ := hP
            obtain ⟨rfl, c, hc, rfl⟩ := hY
            have hm2 : m < one.length := by simpa using hm
            have hcm : one[m] = c := by
              have : one[m]? = some c := by simpa using hc
              exact (List.getElem?_eq_some_iff.mp this).2
            have hco : c ∈ one := hcm ▸ List.getElem_mem hm2
            obtain ⟨orest, hocc⟩ := ix_one (hoc c hco)
            refine ⟨rfl, .ref R, rfl, .int (o : Nat), rfl, R, vs, _, .ref rb, rfl, rfl, .inl (.inl (sm7 _ _ (sm06 _ _ hRR))), atI_nat hv, tx cols, rfl, rfl, sg c, rfl, _, _, cols.idxOf c, orest, rfl, rfl, hocc, rb, _, _, _, rfl, rfl, .inl (.inl (sm7 _ _ (sm06 _ _ hrb))), atI_nat (look rows[o] rok2 c hco), _, hD7, ?_, Same.mut sm7 nD2, ?_⟩
            · rw [List.length_map, List.length_map, List.length_take]
              exact small1000 (by omega)
            · rw [upd_same, List.take_succ_eq_append_getElem hm2, hcm, List.map_append, List.map_append]
              rfl
          · obtain ⟨sm7, hD7⟩ := hP
            have hn : (⟨one.toArray⟩ : Str).cps.size = one.length := by simp
            rw [hn, List.take_of_length_le (Nat.le_refl _)] at hD7
            have hD7' : Hz D2 = some (.lst ((entAt cols rows one o).1.map V.int)) := by
              rw [hD7]
              unfold entAt keyM
              rw [eo]
            refine ⟨_, rfl, .ref D2, rfl, .ref D, rfl, D2, D, _, _, rfl, rfl, .inl (.inl hD7'), .inl (.inl (sm7 _ _ (sm6 _ _ hD5'))), .inr ⟨_, rfl, _, _, rfl, rfl, ?_⟩⟩
            refine ⟨some (.int (o : Nat)), some (.ref D2), ?_, Same.trans sm6 sm7⟩
            have cnt : (((fd.take (j + 1)).filter fun o => !decide ((entAt cols rows one i).1 < (entAt cols rows one o).1)).length : Int) = ((fd.take j).filter fun o => !decide ((entAt cols rows one i).1 < (entAt cols rows one o).1)).length + (if (!decide ((entAt cols rows one i).1 < (entAt cols rows one o).1)) = true then 1 else 0) := by
              rw [List.take_succ_eq_append_getElem hj2, hoj, List.filter_append, List.filter_cons, List.length_append, List.filter_nil]
              split <;> simp
            rw [cnt]
            rfl
        · obtain ⟨y9', y10', rfl, sm6⟩ := hP
          rw [List.length_map, List.length_map, List.take_of_length_le (Nat.le_refl _)]
          have hF6 := sm6 _ _ hF5
          obtain ⟨q1, q2⟩ := put_in (cols := cols) (rows := rows) (one := one) hpm hso
          have hnl : (fd.filter fun o => !decide ((entAt cols rows one i).1 < (entAt cols rows one o).1)).length ≤ fd.length := List.length_filter_le _ _
          generalize (fd.filter fun o => !decide ((entAt cols rows one i).1 < (entAt cols rows one o).1)).length = n at q1 q2 hnl ⊢
          refine ⟨.ref F, rfl, .inl ⟨rfl, _, .inl (.inl hF6)⟩, .int (n : Nat), rfl, .int (i : Nat), rfl, F, _, (n : Int), .int (i : Nat), rfl, rfl, hF6, ?_, by omega, by omega, ?_⟩
          · rw [List.length_map, List.length_map]
            exact small1000 (by omega)
          · refine ⟨fd.take n ++ [i] ++ fd.drop n, _, _, _, _, _, _, _, rfl, Same.mut (Same.trans sm05 sm6) nF, ?_, q1, q2⟩
            rw [upd_same, Int.toNat_natCast]
            simp only [List.map_append, List.map_take, List.map_drop, List.map_cons, List.map_nil]
    · obtain ⟨fd, y5, y6, y7, y8, y9, y10, y11, rfl, sm3, hF3, hpm, hso⟩ := hP
      rw [hvl] at hpm
      rw [sortM_one hpm hso] at hF3
      exact ⟨_, rfl, q F H3 sm3 nF hF3⟩

/-! ### Rows -/
abbrev rwF1 (cols : List Nat) : List (Str × V) := [("columns", tx cols)]
abbrev rwF2 (cols : List Nat) (td : Addr) : List (Str × V) := [("columns", tx cols), ("there", .ref td)]
abbrev rwF3 (cols : List Nat) (td : Addr) (n : Nat) : List (Str × V) := [("columns", tx cols), ("there", .ref td), ("coming", .int (n : Int))]
theorem rwF1_put (cols : List Nat) : putF "columns" (tx cols) ([] : List (Str × V)) = rwF1 cols := by kernel_rfl
theorem rwF2_put (cols : List Nat) (td : Addr) : putF "there" (.ref td) (rwF1 cols) = rwF2 cols td := by kernel_rfl
theorem rwF3_put (cols : List Nat) (td : Addr) (n : Nat) : putF "coming" (.int (n : Int)) (rwF2 cols td) = rwF3 cols td n := by kernel_rfl
theorem rwF3_columns (cols : List Nat) (td : Addr) (n : Nat) : (rwF3 cols td n).lookup ("columns" : Str) = some (tx cols) := by kernel_rfl
theorem rwF3_there (cols : List Nat) (td : Addr) (n : Nat) : (rwF3 cols td n).lookup ("there" : Str) = some (.ref td) := by kernel_rfl
theorem rwF3_coming (cols : List Nat) (td : Addr) (n : Nat) : (rwF3 cols td n).lookup ("coming" : Str) = some (.int (n : Int)) := by kernel_rfl
theorem rwF_put_coming (cols : List Nat) (td : Addr) (n : Nat) : putF "coming" (.int ((n : Int) + 1)) (rwF3 cols td n) = rwF3 cols td (n + 1) := by kernel_rfl
theorem rwF3_no_put (cols : List Nat) (td : Addr) (n : Nat) : (rwF3 cols td n).lookup ("put" : Str) = none := by kernel_rfl
theorem rwF3_no_take (cols : List Nat) (td : Addr) (n : Nat) : (rwF3 cols td n).lookup ("take" : Str) = none := by kernel_rfl
theorem rwF3_no_as_table (cols : List Nat) (td : Addr) (n : Nat) : (rwF3 cols td n).lookup ("as_table" : Str) = none := by kernel_rfl
/-- the rows th stand at r, in the dict td; n: the next number -/
def RowsAt (C : Addr) (H : Hp) (r td : Addr) (cols : List Nat) (th : Nmd) (n : Nat) : Prop := ∃ (dx : Addr) (kvs : List (Key × V)), H r = some (.ins C dx (rwF3 cols td n)) ∧ H td = some (.dK kvs) ∧ NmK H kvs th
/-- the same, walked or not -/
def RowsRd (C : Addr) (H : Hp) (r td : Addr) (cols : List Nat) (th : Nmd) (n : Nat) : Prop := ∃ (dx : Addr) (kvs : List (Key × V)), H r = some (.ins C dx (rwF3 cols td n)) ∧ Rd H td (.dK kvs) ∧ NmK H kvs th
theorem RowsAt.rd {C : Addr} {H : Hp} {r td : Addr} {cols : List Nat} {th : Nmd} {n : Nat} (h : RowsAt C H r td cols th n) : RowsRd C H r td cols th n := by
  obtain ⟨dx, kvs, h1, h2, h3⟩ := h
  exact ⟨dx, kvs, h1, .inl h2, h3⟩
theorem RowsAt.ne {C : Addr} {H : Hp} {r td : Addr} {cols : List Nat} {th : Nmd} {n : Nat} (h : RowsAt C H r td cols th n) : r ≠ td := by
  obtain ⟨dx, kvs, h1, h2, h3⟩ := h
  intro z
  rw [z, h2] at h1
  cases h1
theorem RowsAt.keep {C : Addr} {H H' : Hp} {r td : Addr} {cols : List Nat} {th : Nmd} {n : Nat} (h : RowsAt C H r td cols th n) (k1 : ∀ o, H r = some o → H' r = some o) (k2 : ∀ o, H td = some o → H' td = some o) (k : Kt H H') : RowsAt C H' r td cols th n := by
  obtain ⟨dx, kvs, h1, h2, h3⟩ := h
  exact ⟨dx, kvs, k1 _ h1, k2 _ h2, h3.kt k⟩
theorem RowsRd.keep {C : Addr} {H H' : Hp} {r td : Addr} {cols : List Nat} {th : Nmd} {n : Nat} (h : RowsRd C H r td cols th n) (k1 : ∀ o, H r = some o → H' r = some o) (k2 : ∀ o, H td = some o → H' td = some o) (k : Kt H H') : RowsRd C H' r td cols th n := by
  obtain ⟨dx, kvs, h1, h2, h3⟩ := h
  exact ⟨dx, kvs, k1 _ h1, h2.imp (k2 _) (fun ⟨o, e⟩ => ⟨o, k2 _ e⟩), h3.kt k⟩
theorem RowsRd.sx {C : Addr} {H H' : Hp} {r td : Addr} {cols : List Nat} {th : Nmd} {n : Nat} {L : List Addr} (h : RowsRd C H r td cols th n) (s : Sx L H H') (n1 : r ∉ L) (n2 : td ∉ L) (k : Kt H H') : RowsRd C H' r td cols th n := h.keep (fun o e => s _ _ n1 e) (fun o e => s _ _ n2 e) k
theorem RowsAt.sx {C : Addr} {H H' : Hp} {r td : Addr} {cols : List Nat} {th : Nmd} {n : Nat} {L : List Addr} (h : RowsAt C H r td cols th n) (s : Sx L H H') (n1 : r ∉ L) (n2 : td ∉ L) (k : Kt H H') : RowsAt C H' r td cols th n := h.keep (fun o e => s _ _ n1 e) (fun o e => s _ _ n2 e) k
def spRowsInit (K : PySem.W.Frag) (Z : Ad) : Sp := fun vs H Q _ => ∃ (p dx : Addr) (tv : V) (cols : List Nat) (rows : List (List Int)), vs = [.ref p, tv] ∧ H p = some (.ins Z.C_Rows dx []) ∧ Fz H tv (tabD cols rows) ∧ rows.length ≤ 1000 ∧
  ∀ (td : Addr) (H' : Hp), Kp p H H' → H td = none → RowsAt Z.C_Rows H' p td cols (thN 0 rows) rows.length → Q .non H'
theorem ok_rowsinit (T : Tx K mg Z) : FnOk P w K mg base CX0 1 Z.f_Rows___init__ Z.d_Rows___init__ ["self", "table"] (spRowsInit K Z) := by
  refine T.F_Rows___init__.ok sc_Rows___init__ (fun vs H Q E h => ?_) (fun cdv A outer s H vs Q E hr h => ?_)
  · obtain ⟨p, dx, tv, cols, rows, rfl, _⟩ := h
    rfl
  · obtain ⟨p, dx, tv, cols, rows, rfl, hp, fT, hrn, q⟩ := h
    obtain ⟨t, R, vs, rfl, ht, hRR, fvs⟩ := tab_open fT
    have hvl : vs.length = rows.length := by rw [fvs.len, List.length_map]
    refine ⟨_, (pss_cons (ps_asg (pv 1) (pgT K (n := 2) (pgs_cons (pg_name (i := 2) sc_Rows___init__.nd rfl (.inl rfl)) (pgs_cons (pg_name (i := 3) sc_Rows___init__.nd rfl (.inl rfl)) pgs_nil))))
      (pss_cons (ps_fld (pv 0) (pv 2) rfl)
      (pss_cons (ps_fld (pv 0) (pe_dictEnum K (by rfl) (pa_cons (pv 3) pa_nil) (by rfl) T.m_dict (by rfl) T.m_enumerate) rfl)
      (pss_one (ps_fld (pv 0) (pe_callB (cLenSq K) (by rfl) T.m_len (by decide +kernel) (pa_cons (pv 3) pa_nil)) rfl))))), ?_⟩
    have neR : R ≠ p := fun z => by
      rw [z, hp] at hRR
      cases hRR
    refine ⟨.ref t, rfl, t, [tx cols, .ref R], rfl, .inl (.inl ht), rfl, tx cols, [.ref R], rfl, .ref R, [], rfl, rfl, ?_⟩
    -- self.columns
    refine ⟨tx cols, rfl, .ref p, rfl, p, Z.C_Rows, dx, [], rfl, hp, T.cl_Rows, T.n_Rows_columns, (by show 0 < 1000; decide), ?_⟩
    rw [rwF1_put]
    have kp1 : Kp p H (upd H p (.ins Z.C_Rows dx (rwF1 cols))) := Kp.own Kp.rfl'
    have hp1 : (upd H p (.ins Z.C_Rows dx (rwF1 cols))) p = some (.ins Z.C_Rows dx (rwF1 cols)) := upd_same
    generalize upd H p (.ins Z.C_Rows dx (rwF1 cols)) = H1 at kp1 hp1 ⊢
    -- self.there
    refine ⟨.ref R, rfl, R, vs, rfl, .inl (.inl (kp1 _ _ neR hRR)), by omega, fun td ntd => ?_⟩
    have ntp : td ≠ p := fun z => by
      rw [z, hp1] at ntd
      cases ntd
    have kp2 : Kp p H (upd H1 td (.dK (enK 0 vs))) := kp1.new ntd
    have hp2 : (upd H1 td (.dK (enK 0 vs))) p = some (.ins Z.C_Rows dx (rwF1 cols)) := keep_new hp1 ntd
    have hd2 : (upd H1 td (.dK (enK 0 vs))) td = some (.dK (enK 0 vs)) := upd_same
    have nt0 : H td = none := Kp.none kp1 ntp ntd
    generalize upd H1 td (.dK (enK 0 vs)) = H2 at kp2 hp2 hd2 ⊢
    refine ⟨.ref p, rfl, p, Z.C_Rows, dx, _, rfl, hp2, T.cl_Rows, T.n_Rows_there, (by show 1 < 1000; decide), ?_⟩
    rw [rwF2_put]
    have kp3 : Kp p H (upd H2 p (.ins Z.C_Rows dx (rwF2 cols td))) := kp2.own
    have hp3 : (upd H2 p (.ins Z.C_Rows dx (rwF2 cols td))) p = some (.ins Z.C_Rows dx (rwF2 cols td)) := upd_same
    have hd3 : (upd H2 p (.ins Z.C_Rows dx (rwF2 cols td))) td = some (.dK (enK 0 vs)) := keep_ne hd2 ntp
    generalize upd H2 p (.ins Z.C_Rows dx (rwF2 cols td)) = H3 at kp3 hp3 hd3 ⊢
    -- self.coming
    refine ⟨.ref R, rfl, R, vs, rfl, .inr (.inl (.inl (kp3 _ _ neR hRR))), .ref p, rfl, p, Z.C_Rows, dx, _, rfl, hp3, T.cl_Rows, T.n_Rows_coming, (by show 2 < 1000; decide), ?_⟩
    rw [hvl, rwF3_put]
    have ktp : Kt H (upd H3 p (.ins Z.C_Rows dx (rwF3 cols td rows.length))) := fun b xs e => kp3.own _ _ (fun z => by rw [z, hp] at e; cases e) e
    refine q td _ kp3.own nt0 ⟨dx, enK 0 vs, upd_same, keep_ne hd3 ntp, (NmK.en 0 fvs).kt ktp⟩
def spRowsPut (K : PySem.W.Frag) (Z : Ad) : Sp := fun vs H Q _ => ∃ (r td : Addr) (rv : V) (cols : List Nat) (th : Nmd) (n : Nat) (row : List Int), vs = [.ref r, rv] ∧ RowsAt Z.C_Rows H r td cols th n ∧ NmOk cols.length th n ∧ th.length < 60 ∧ Fz H rv (rowD row) ∧
  ∀ (H' : Hp), Sx [r, td] H H' → Kt H H' → RowsAt Z.C_Rows H' r td cols (th ++ [(n, row)]) (n + 1) → Q (.int (n : Int)) H'
theorem ok_rowsput (T : Tx K mg Z) : FnOk P w K mg base CX0 1 Z.f_Rows_put Z.d_Rows_put ["self", "row"] (spRowsPut K Z) := by
  refine T.F_Rows_put.ok sc_Rows_put (fun vs H Q E h => ?_) (fun cdv A outer s H vs Q E hr h => ?_)
  · obtain ⟨r, td, rv, cols, th, n, row, rfl, _⟩ := h
    rfl
  · obtain ⟨r, td, rv, cols, th, n, row, rfl, hR, hok, hlt, fr, q⟩ := h
    have nrt := hR.ne
    obtain ⟨dx, kvs, hr0, htd, nm⟩ := hR
    obtain ⟨ra, rfl, hra⟩ := row_open fr
    refine ⟨_, (pss_cons (ps_if (pt_cmpR op_ge (pe_callB call_lenD (by rfl) T.m_len (by decide +kernel) (pa_cons (fldK K (pv 0) rfl) pa_nil)) (pe_glob (v := .int 60) (by rfl) T.c_MOST_ROWS ⟨_, rfl⟩) (nomark _)) (pss_one ps_never) pss_nil)
      (pss_cons (ps_set (i := 2) sc_Rows_put.nd rfl (.inl rfl) (fldK K (pv 0) rfl))
      (pss_cons (ps_dput (hu_of hr) (fldK K (pv 0) rfl) (pv 2) (pe_callTy (cTupSq K) (by rfl) T.m_tuple (by decide +kernel) (pa_cons (pv 1) pa_nil)) rfl)
      (pss_cons (ps_fldaug (pv 0) pe_int in_add)
      (pss_one (ps_ret (pv 2))))))), ?_⟩
    have hkl := nm.len
    refine ⟨.ref r, rfl, r, Z.C_Rows, dx, _, _, rfl, hr0, T.cl_Rows, T.n_Rows_there, rwF3_there _ _ _, td, kvs, rfl, htd, _, _, rfl, rfl, _, rfl, ite2 (fun z => ?_) fun _ => ?_⟩
    · have := of_decide_eq_true z
      omega
    refine ⟨.ref r, rfl, r, Z.C_Rows, dx, _, _, rfl, hr0, T.cl_Rows, T.n_Rows_coming, rwF3_coming _ _ _, ?_⟩
    -- self.there[number] = tuple(row)
    refine ⟨.ref ra, rfl, ra, _, rfl, .inr ⟨.inl (.inl hra), ?_⟩⟩
    refine ⟨.ref r, rfl, r, Z.C_Rows, dx, _, _, rfl, hr0, T.cl_Rows, T.n_Rows_there, rwF3_there _ _ _, _, rfl, td, _, rfl, .inl ⟨kvs, nKy n, htd, rfl, Nat.lt_of_le_of_lt (Nat.le_of_eq hkl) (small1000 (by omega)), rfl⟩, ?_⟩
    have hr1 : (upd H td (.dK (putK kvs (nKy n) (.ref ra)))) r = some (.ins Z.C_Rows dx (rwF3 cols td n)) := keep_ne hr0 nrt
    have ht1 : (upd H td (.dK (putK kvs (nKy n) (.ref ra)))) td = some (.dK (putK kvs (nKy n) (.ref ra))) := upd_same
    have sx1 : Sx [r, td] H (upd H td (.dK (putK kvs (nKy n) (.ref ra)))) := fun b o nb e => keep_ne e fun z => nb (by rw [z]; simp)
    generalize upd H td (.dK (putK kvs (nKy n) (.ref ra))) = H1 at hr1 ht1 sx1 ⊢
    -- self.coming += 1
    refine ⟨.ref r, rfl, r, Z.C_Rows, dx, _, _, rfl, hr1, T.cl_Rows, T.n_Rows_coming, rwF3_coming _ _ _, _, _, rfl, rfl, dx, _, hr1, (by show 3 < 1000; decide), ?_⟩
    rw [rwF_put_coming]
    have sx2 : Sx [r, td] H (upd H1 r (.ins Z.C_Rows dx (rwF3 cols td (n + 1)))) := fun b o nb e => keep_ne (sx1 _ _ nb e) fun z => nb (by rw [z]; simp)
    have kt2 : Kt H (upd H1 r (.ins Z.C_Rows dx (rwF3 cols td (n + 1)))) := fun b xs e => sx2 b _ (by
      simp only [List.mem_cons, List.not_mem_nil, or_false, not_or]
      exact ⟨fun z => (by rw [z, hr0] at e; cases e), fun z => (by rw [z, htd] at e; cases e)⟩) e
    exact ⟨_, rfl, q _ sx2 kt2 ⟨dx, _, upd_same, keep_ne ht1 (Ne.symm nrt), (nm.put fr hok.new).kt kt2⟩⟩
def spRowsTake (K : PySem.W.Frag) (Z : Ad) : Sp := fun vs H Q _ => ∃ (r td : Addr) (cols : List Nat) (th : Nmd) (n g : Nat), vs = [.ref r, .int (g : Int)] ∧ RowsAt Z.C_Rows H r td cols th n ∧ NmOk cols.length th n ∧ g ∈ th.map (·.1) ∧
  ∀ (H' : Hp), Sx [td] H H' → Kt H H' → RowsAt Z.C_Rows H' r td cols (outT th g) n → Q .non H'
theorem ok_rowstake (T : Tx K mg Z) : FnOk P w K mg base CX0 1 Z.f_Rows_take Z.d_Rows_take ["self", "number"] (spRowsTake K Z) := by
  refine T.F_Rows_take.ok sc_Rows_take (fun vs H Q E h => ?_) (fun cdv A outer s H vs Q E hr h => ?_)
  · obtain ⟨r, td, cols, th, n, g, rfl, _⟩ := h
    rfl
  · obtain ⟨r, td, cols, th, n, g, rfl, hR, hok, hg, q⟩ := h
    have nrt := hR.ne
    obtain ⟨dx, kvs, hr0, htd, nm⟩ := hR
    refine ⟨_, (pss_cons (ps_if (pt_cmp (pc_dnotin (hu_of hr) (pv 1) (fldK K (pv 0) rfl))) (pss_one ps_never) pss_nil)
      (pss_one (ps_ddel (fldK K (pv 0) rfl) (pv 1)))), ?_⟩
    obtain ⟨x, hx, ex⟩ := List.mem_map.mp hg
    obtain ⟨v, hv, _⟩ := nm.at' (n := g) (r := x.2) hok.nd (by rw [← ex]; exact hx)
    refine ⟨_, rfl, .ref r, rfl, r, Z.C_Rows, dx, _, _, rfl, hr0, T.cl_Rows, T.n_Rows_there, rwF3_there _ _ _, td, some v, rfl, .inl ⟨kvs, nKy g, .inl htd, rfl, hv.symm⟩, _, rfl, ite2 (fun z => absurd z (by simp)) fun _ => ?_⟩
    refine ⟨.ref r, rfl, r, Z.C_Rows, dx, _, _, rfl, hr0, T.cl_Rows, T.n_Rows_there, rwF3_there _ _ _, _, rfl, td, kvs, nKy g, rfl, htd, rfl, by rw [hv]; rfl, ?_⟩
    have sx1 : Sx [td] H (upd H td (.dK (dropK kvs (nKy g)))) := fun b o nb e => keep_ne e fun z => nb (by rw [z]; simp)
    have kt1 : Kt H (upd H td (.dK (dropK kvs (nKy g)))) := Kt.dct htd
    exact q _ sx1 kt1 ⟨dx, _, keep_ne hr0 nrt, upd_same, (nm.drop g).kt kt1⟩
def spAsTable (K : PySem.W.Frag) (Z : Ad) : Sp := fun vs H Q _ => ∃ (r td : Addr) (cols : List Nat) (th : Nmd) (n : Nat), vs = [.ref r] ∧ RowsAt Z.C_Rows H r td cols th n ∧
  ∀ (t : Addr) (H' : Hp), Same H H' → H t = none → Fz H' (.ref t) (tabD cols (th.map (·.2))) → Q (.ref t) H'
theorem ok_astable (T : Tx K mg Z) : FnOk P w K mg base CX0 1 Z.f_Rows_as_table Z.d_Rows_as_table ["self"] (spAsTable K Z) := by
  refine T.F_Rows_as_table.ok sc_Rows_as_table (fun vs H Q E h => ?_) (fun cdv A outer s H vs Q E hr h => ?_)
  · obtain ⟨r, td, cols, th, n, rfl, _⟩ := h
    rfl
  · obtain ⟨r, td, cols, th, n, rfl, hR, q⟩ := h
    obtain ⟨dx, kvs, hr0, htd, nm⟩ := hR
    refine ⟨_, (pss_one (ps_ret (pe_tup (pa_cons (fldK K (pv 0) rfl) (pa_cons (pe_tupVals (by rfl) (fldK K (pv 0) rfl) (by rfl) T.m_tuple) pa_nil))))), ?_⟩
    refine ⟨.ref r, rfl, r, Z.C_Rows, dx, _, _, rfl, hr0, T.cl_Rows, T.n_Rows_columns, rwF3_columns _ _ _, .ref r, rfl, r, Z.C_Rows, dx, _, _, rfl, hr0, T.cl_Rows, T.n_Rows_there, rwF3_there _ _ _, td, kvs, rfl, htd, fun R nR => ?_⟩
    refine ⟨(by show 2 ≤ sizeLine; decide), fun t nt => ?_⟩
    have sm : Same H (upd (upd H R (.tup (kvs.map (·.2)))) t (.tup [tx cols, .ref R])) := Same.new (Same.new (Same.refl H) nR) nt
    refine q t _ sm (Same.free (Same.new (Same.refl H) nR) nt) (.tup upd_same (.cons (.str _) (.cons (.tup (keep_new upd_same nt) (nm.vals.kt (Same.kt sm))) .nil)))

/-! ### Kept -/
abbrev kpF1 (r : Addr) : List (Str × V) := [("rows", .ref r)]
abbrev kpF2 (r : Addr) (od : Addr) : List (Str × V) := [("rows", .ref r), ("orders", .ref od)]
abbrev kpF3 (r : Addr) (od : Addr) (mv : Int) : List (Str × V) := [("rows", .ref r), ("orders", .ref od), ("moves", .int mv)]
theorem kpF1_put (r : Addr) : putF "rows" (.ref r) ([] : List (Str × V)) = kpF1 r := by kernel_rfl
theorem kpF2_put (r : Addr) (od : Addr) : putF "orders" (.ref od) (kpF1 r) = kpF2 r od := by kernel_rfl
theorem kpF3_put (r : Addr) (od : Addr) (mv : Int) : putF "moves" (.int mv) (kpF2 r od) = kpF3 r od mv := by kernel_rfl
theorem kpF3_again (r : Addr) (od : Addr) (mv mv' : Int) : putF "moves" (.int mv') (kpF3 r od mv) = kpF3 r od mv' := by kernel_rfl
theorem kpF1_rows (r : Addr) : (kpF1 r).lookup ("rows" : Str) = some (.ref r) := by kernel_rfl
theorem kpF2_rows (r : Addr) (od : Addr) : (kpF2 r od).lookup ("rows" : Str) = some (.ref r) := by kernel_rfl
theorem kpF2_orders (r : Addr) (od : Addr) : (kpF2 r od).lookup ("orders" : Str) = some (.ref od) := by kernel_rfl
theorem kpF3_rows (r : Addr) (od : Addr) (mv : Int) : (kpF3 r od mv).lookup ("rows" : Str) = some (.ref r) := by kernel_rfl
theorem kpF3_orders (r : Addr) (od : Addr) (mv : Int) : (kpF3 r od mv).lookup ("orders" : Str) = some (.ref od) := by kernel_rfl
theorem kpF3_moves (r : Addr) (od : Addr) (mv : Int) : (kpF3 r od mv).lookup ("moves" : Str) = some (.int mv) := by kernel_rfl
/-- what a method may lean on of the instance, while it is made and behind -/
structure KpF (r od : Addr) (fs : List (Str × V)) : Prop where
  rows : fs.lookup ("rows" : Str) = some (.ref r)
  orders : fs.lookup ("orders" : Str) = some (.ref od)
  key_by : fs.lookup ("key_by" : Str) = none
  enter : fs.lookup ("enter" : Str) = none
theorem kpF2_ok (r od : Addr) : KpF r od (kpF2 r od) := ⟨by kernel_rfl, by kernel_rfl, by kernel_rfl, by kernel_rfl⟩
theorem kpF3_ok (r od : Addr) (mv : Int) : KpF r od (kpF3 r od mv) := ⟨by kernel_rfl, by kernel_rfl, by kernel_rfl, by kernel_rfl⟩
/-- the dict of the lists of a choice -/
def ordK (ch : List (List Nat)) (ls : List Addr) : List (Key × V) := (ch.zip ls).map fun q => ((Sum.inr (txS q.1) : Key), V.ref q.2)
theorem ordK_val : ∀ {ch : List (List Nat)} {ls : List Addr} {i : Nat} {o : List Nat} {l : Addr}, ch.Nodup → ch[i]? = some o → ls[i]? = some l → valV (ordK ch ls) (Sum.inr (txS o)) = some (.ref l)
  | [], _, _, _, _, _, h, _ => nomatch h
  | _ :: _, [], _, _, _, _, _, h => nomatch h
  | c :: ch, a :: ls, 0, o, l, _, h, g => by
    cases h
    cases g
    exact valV_pos rfl
  | c :: ch, a :: ls, i + 1, o, l, nd, h, g => by
    obtain ⟨n1, n2⟩ := List.nodup_cons.mp nd
    have h' : ch[i]? = some o := h
    have ne : ¬ ((Sum.inr (txS c) : Key) = Sum.inr (txS o)) := fun z => n1 ((txS_inj (Sum.inr.inj z)) ▸ List.mem_of_getElem? h')
    exact (valV_neg ne).trans (ordK_val n2 h' g)
theorem ordK_keys : ∀ {ch : List (List Nat)} {ls : List Addr}, ls.length = ch.length → (ordK ch ls).map (fun kv => kV kv.1) = ch.map tx
  | [], [], _ => rfl
  | c :: ch, a :: ls, h => by
    have := ordK_keys (ch := ch) (ls := ls) (by simpa using h)
    exact congrArg (tx c :: ·) this
theorem ordK_len {ch : List (List Nat)} {ls : List Addr} (h : ls.length = ch.length) : (ordK ch ls).length = ch.length := by
  have := congrArg List.length (ordK_keys h)
  rw [List.length_map, List.length_map] at this
  exact this
/-- the lists at ls, each sorted as f tells of it -/
def OrdsTo (H : Hp) (cols : List Nat) (f : Nat → Nmd) (ch : List (List Nat)) (ls : List Addr) : Prop := ∀ (i : Nat) (o : List Nat) (l : Addr), ch[i]? = some o → ls[i]? = some l → ∃ ns : List Nat, H l = some (.lst (ns.map nV)) ∧ IsOrd cols (f i) o ns
theorem OrdsTo.keep {H H' : Hp} {cols : List Nat} {f : Nat → Nmd} {ch : List (List Nat)} {ls : List Addr} (h : OrdsTo H cols f ch ls) (k : ∀ b ∈ ls, ∀ o, H b = some o → H' b = some o) : OrdsTo H' cols f ch ls := fun i o l ho hl => by
  obtain ⟨ns, h1, h2⟩ := h i o l ho hl
  exact ⟨ns, k _ (List.mem_of_getElem? hl) _ h1, h2⟩
structure ChL (cols : List Nat) (ch : List (List Nat)) : Prop where
  nd : ch.Nodup
  ok : ∀ o ∈ ch, o.length ≤ 1000 ∧ ∀ c ∈ o, c ∈ cols
  len : ch.length ≤ 60
def spKeyBy (K : PySem.W.Frag) (Z : Ad) : Sp := fun vs H Q _ => ∃ (p dx r td od : Addr) (fs : List (Str × V)) (cols : List Nat) (th : Nmd) (n m : Nat) (row : List Int) (o : List Nat), vs = [.ref p, tx o, .int (m : Int)] ∧ TG Z.Ps H ∧ H p = some (.ins Z.C_Kept dx fs) ∧ KpF r od fs ∧ RowsRd Z.C_Rows H r td cols th n ∧ NmOk cols.length th n ∧ (m, row) ∈ th ∧ o.length ≤ 1000 ∧ (∀ c ∈ o, c ∈ cols) ∧
  ∀ (q : Addr) (H' : Hp), Sx Z.Ps H H' → TG Z.Ps H' → H q = none → H' q = some (.tup ((keyM cols row o).map V.int)) → Q (.ref q) H'
theorem ok_keyby (T : Tx K mg Z) (TB : Tb base mg Z) : FnOk P w K mg base CX0 2 Z.f_Kept_key_by Z.d_Kept_key_by ["self", "one", "number"] (spKeyBy K Z) := by
  have G_picked : FnOk P w K mg base CX0 1 Z.f_picked Z.d_picked ["columns", "row", "letters"] (spPicked K Z) := ok_picked T TB
  refine T.F_Kept_key_by.ok sc_Kept_key_by (fun vs H Q E h => ?_) (fun cdv A outer s H vs Q E hr h => ?_)
  · obtain ⟨p, dx, r, td, od, fs, cols, th, n, m, row, o, rfl, _⟩ := h
    rfl
  · obtain ⟨p, dx, r, td, od, fs, cols, th, n, m, row, o, rfl, tg, hp, hf, hR, hok, hm, hol, hoc, q⟩ := h
    obtain ⟨dr, kvs, hr0, hd, nm⟩ := hR
    refine ⟨_, (pss_one (ps_ret (pe_call G_picked (hr.mono (by omega)) (by rfl) T.g_picked T.F_picked.kp T.b_picked .nil pass0 (pa_cons (fldK K (fldK K (pv 0) rfl) rfl) (pa_cons (pe_dget (hu_of hr) (fldK K (fldK K (pv 0) rfl) rfl) (pv 2) (fun _ _ => rfl)) (pa_cons (pv 1) pa_nil)))))), ?_⟩
    obtain ⟨v, hv, fv⟩ := nm.at' hok.nd hm
    refine ⟨.ref p, rfl, p, Z.C_Kept, dx, _, _, rfl, hp, T.cl_Kept, T.n_Kept_rows, hf.rows, r, Z.C_Rows, dr, _, _, rfl, hr0, T.cl_Rows, T.n_Rows_columns, rwF3_columns _ _ _, ?_⟩
    refine ⟨.ref p, rfl, p, Z.C_Kept, dx, _, _, rfl, hp, T.cl_Kept, T.n_Kept_rows, hf.rows, r, Z.C_Rows, dr, _, _, rfl, hr0, T.cl_Rows, T.n_Rows_there, rwF3_there _ _ _, _, rfl, td, v, rfl, .inl ⟨kvs, nKy m, hd, rfl, hv.symm⟩, ?_⟩
    exact ⟨tx o, rfl, cols, v, row, o, rfl, tg, fv, (hok.row _ hm).1, hoc, hol, q⟩
def spEnter (K : PySem.W.Frag) (Z : Ad) : Sp := fun vs H Q _ => ∃ (p dx r td od : Addr) (fs : List (Str × V)) (cols : List Nat) (tha th : Nmd) (nn n : Nat) (row : List Int) (ch : List (List Nat)) (ls : List Addr), vs = [.ref p, .int (n : Int)] ∧ TG Z.Ps H ∧ H p = some (.ins Z.C_Kept dx fs) ∧ KpF r od fs ∧ RowsRd Z.C_Rows H r td cols tha nn ∧ NmOk cols.length tha nn ∧ (n, row) ∈ tha ∧ (∀ x ∈ th, x ∈ tha ∧ x.1 < n) ∧ th.length ≤ 100 ∧
  H od = some (.dK (ordK ch ls)) ∧ ls.length = ch.length ∧ ls.Nodup ∧ ChL cols ch ∧ OrdsTo H cols (fun _ => th) ch ls ∧
  ∀ (H' : Hp), Sx (ls ++ Z.Ps) H H' → TG Z.Ps H' → OrdsTo H' cols (fun _ => th ++ [(n, row)]) ch ls → Q .non H'
set_option maxHeartbeats 4000000 in
theorem ok_enter (T : Tx K mg Z) (TB : Tb base mg Z) : FnOk P w K mg base CX0 3 Z.f_Kept_enter Z.d_Kept_enter ["self", "number"] (spEnter K Z) := by
  have G_Kept_key_by : FnOk P w K mg base CX0 2 Z.f_Kept_key_by Z.d_Kept_key_by ["self", "one", "number"] (spKeyBy K Z) := ok_keyby T TB
  refine T.F_Kept_enter.ok sc_Kept_enter (fun vs H Q E h => ?_) (fun cdv A outer s H vs Q E hr h => ?_)
  · obtain ⟨p, dx, r, td, od, fs, cols, tha, th, nn, n, row, ch, ls, rfl, _⟩ := h
    rfl
  · obtain ⟨p, dx, r, td, od, fs, cols, tha, th, nn, n, row, ch, ls, rfl, tg, hp, hf, hR, hok, hn, hth, hthl, hod, hll, hlnd, hch, hor, q⟩ := h
    refine ⟨_, (pss_one (ps_for PassesOwn.never rfl (piL K (pe_callTy (call_list_dK rfl) (by rfl) T.m_list (by decide +kernel) (pa_cons (fldK K (pv 0) rfl) pa_nil))) (pg_name (i := 2) sc_Kept_enter.nd rfl (.inr rfl)) (pss_cons (ps_set (i := 3) sc_Kept_enter.nd rfl (.inl rfl) (pe_dget (hu_of hr) (fldK K (pv 0) rfl) (pv 2) (fun _ _ => rfl)))
      (pss_cons (ps_set (i := 4) sc_Kept_enter.nd rfl (.inr rfl) (pe_meth (pv 0) T.cl_Kept T.m_Kept_key_by G_Kept_key_by (hr.mono (by omega)) T.b_Kept_key_by .nil pass0 (pa_cons (pv 2) (pa_cons (pv 1) pa_nil))))
      (pss_cons (ps_setLc (i := 5) (own := [("other", 6)]) (tt := _) (by rfl) sc_Kept_enter.nd rfl rfl (sw_true rfl rfl rfl (by decide +kernel)) (piL K (pv 3)) (blkOk_by (own := [("other", 6)]) (by kernel_rfl)) (fun _ _ _ _ _ => (pg_name (i := 6) sc_Kept_enter.nd rfl (.inl rfl))) (fun _ _ _ _ _ => (pts_one (pt_cmpR (leTK K hr.units0) (pe_meth (pv 0) T.cl_Kept T.m_Kept_key_by G_Kept_key_by (hr.mono (by omega)) T.b_Kept_key_by .nil pass0 (pa_cons (pv 2) (pa_cons (pv 6) pa_nil))) (pv 4) (nomark _)))) (fun _ _ _ _ _ => (pv 6)))
      (pss_one (ps_expr (bmK K PySem.F.plainAttrs_list PySem.F.slot_list_insert PySem.F.type_list_insert mt_insert (pv 3) (pa_cons (pe_callB (cLenSq K) (by rfl) T.m_len (by decide +kernel) (pa_cons (pv 5) pa_nil)) (pa_cons (pv 1) pa_nil)))))))))), ?_⟩
    obtain ⟨dr, kvs, hr0, hd, nm⟩ := id hR
    have lsP : ∀ l ∈ ls, l ∉ Z.Ps := fun l hl => by
      obtain ⟨i, hi, e⟩ := List.getElem_of_mem hl
      obtain ⟨ns, h1, _⟩ := hor i _ l (List.getElem?_eq_getElem (by omega : i < ch.length)) (by rw [List.getElem?_eq_getElem hi, e])
      exact tg.not h1 fun q z => nomatch z
    have off : ∀ {b : Addr} {u : HO}, H b = some u → (∀ xs, u ≠ .lst xs) → (∀ q, u ≠ .tbl q) → b ∉ ls ++ Z.Ps := fun {b u} e n1 n2 z => by
      rcases List.mem_append.mp z with y | y
      · obtain ⟨i, hi, ei⟩ := List.getElem_of_mem y
        obtain ⟨ns, h1, _⟩ := hor i _ b (List.getElem?_eq_getElem (by omega : i < ch.length)) (by rw [List.getElem?_eq_getElem hi, ei])
        rw [e] at h1
        exact n1 _ (Option.some.inj h1)
      · exact tg.not e n2 y
    have hrL : r ∉ ls ++ Z.Ps := off hr0 (fun _ z => nomatch z) (fun _ z => nomatch z)
    have htL : td ∉ ls ++ Z.Ps := by
      rcases hd with h1 | ⟨f, h1⟩
      · exact off h1 (fun _ z => nomatch z) (fun _ z => nomatch z)
      · exact off h1 (fun _ z => nomatch z) (fun _ z => nomatch z)
    -- list(self.orders)
    refine ⟨.ref p, rfl, p, Z.C_Kept, dx, _, _, rfl, hp, T.cl_Kept, T.n_Kept_orders, hf.orders, od, ordK ch ls, rfl, hod, fun L nL => ?_⟩
    rw [ordK_keys hll]
    have hL1 : (upd H L (.lst (ch.map tx))) L = some (.lst (ch.map tx)) := upd_same
    have sm1 : Same H (upd H L (.lst (ch.map tx))) := Same.new (Same.refl H) nL
    have Lls : L ∉ ls ++ Z.Ps := fun z => by
      rcases List.mem_append.mp z with y | y
      · obtain ⟨i, hi, ei⟩ := List.getElem_of_mem y
        obtain ⟨ns, h1, _⟩ := hor i _ L (List.getElem?_eq_getElem (by omega : i < ch.length)) (by rw [List.getElem?_eq_getElem hi, ei])
        rw [nL] at h1
        cases h1
      · exact tg.free nL y
    generalize upd H L (.lst (ch.map tx)) = H1 at hL1 sm1 ⊢
    refine ⟨L, rfl, ⟨_, .inl (.inl hL1)⟩, for_it (walk_list (xs := ch.map tx)) (fun i σ H' => ∃ y2 y3 y4 y5 y6 : Option V, σ = [some (.ref p), some (.int (n : Int)), y2, y3, y4, y5, y6] ∧ Sx (ls ++ Z.Ps) H1 H' ∧ TG Z.Ps H' ∧ OrdsTo H' cols (fun j => if j < i then th ++ [(n, row)] else th) ch ls)
      ⟨_, _, _, _, _, rfl, Sx.rfl', tg.same sm1, hor.keep fun b _ o e => sm1 _ _ e⟩ (fun i σ H' _ hP => ?_) (fun i x σ H3 H2 hi hP hY => ?_) (fun σ H2 hP => ?_)⟩
    · obtain ⟨_, _, _, _, _, _, sx, _⟩ := hP
      exact .inl (.inl (sx _ _ Lls hL1))
    · obtain ⟨y2, y3, y4, y5, y6, rfl, sx2, tg2, or2⟩ := hP
      obtain ⟨rfl, hx⟩ := hY
      rw [List.getElem?_map] at hx
      obtain ⟨o, ho, rfl⟩ := Option.map_eq_some_iff.mp hx
      have hi2 : i < ch.length := (List.getElem?_eq_some_iff.mp ho).1
      obtain ⟨l, hl⟩ : ∃ l, ls[i]? = some l := ⟨ls[i]'(by omega), List.getElem?_eq_getElem (by omega)⟩
      obtain ⟨ns, hl2, ord⟩ := or2 i o l ho hl
      dsimp only at ord
      rw [if_neg (Nat.lt_irrefl i)] at ord
      obtain ⟨es, rfl, pm, srt⟩ := ord
      have hom := hch.ok o (List.mem_of_getElem? ho)
      have hesl : es.length ≤ 100 := by rw [pm.length_eq]; exact hthl
      have old : ∀ {b : Addr} {u : HO}, H b = some u → (∀ xs, u ≠ .lst xs) → (∀ q, u ≠ .tbl q) → H2 b = some u := fun e n1 n2 => sx2 _ _ (off e n1 n2) (sm1 _ _ e)
      have hp2 := old hp (fun _ z => nomatch z) (fun _ z => nomatch z)
      have hod2 := old hod (fun _ z => nomatch z) (fun _ z => nomatch z)
      have kt2 : Kt H H2 := fun b xs e => old e (fun _ z => nomatch z) (fun _ z => nomatch z)
      have hR2 : RowsRd Z.C_Rows H2 r td cols tha nn := hR.sx ((Same.sx sm1).trans sx2) hrL htL kt2
      -- order, key
      refine ⟨.ref p, rfl, p, Z.C_Kept, dx, _, _, rfl, hp2, T.cl_Kept, T.n_Kept_orders, hf.orders, tx o, rfl, od, .ref l, rfl, .inl ⟨ordK ch ls, Sum.inr (txS o), .inl hod2, rfl, (ordK_val hch.nd ho hl).symm⟩, ?_⟩
      refine ⟨.ref p, rfl, p, dx, _, rfl, hp2, hf.key_by, tx o, rfl, _, rfl, p, dx, r, td, od, fs, cols, tha, nn, n, row, o, rfl, tg2, hp2, hf, hR2, hok, hn, hom.1, hom.2, fun kq H4 sx4 tg4 nkq hkq => ?_⟩
      have kt4 := sx4.kt tg2
      have hl4 := sx4.lst tg2 hl2
      have hp4 := sx4 _ _ (tg2.not hp2 fun q z => nomatch z) hp2
      have hR4 : RowsRd Z.C_Rows H4 r td cols tha nn := hR2.sx sx4 (fun z => hrL (List.mem_append_right _ z)) (fun z => htL (List.mem_append_right _ z)) kt4
      -- ahead
      refine ⟨.ref l, rfl, l, rfl, ⟨_, .inl (.inl hl4)⟩, fun D nD => lc_it (walk_list (xs := (es.map (·.1)).map nV)) (fun k H' => Sx Z.Ps H4 H' ∧ TG Z.Ps H' ∧ H' D = some (.lst ((((es.take k).filter (notAbove cols o row)).map (·.1)).map nV)))
        ⟨Sx.new Sx.rfl' nD, tg4.new nD, upd_same⟩ (fun k H' _ hP => .inl (.inl (hP.1.lst tg4 hl4))) (fun k x H6 H5 hk hP hY => ?_) (fun H5 hP => ?_)⟩
      · obtain ⟨sx5, tg5, hD5⟩ := hP
        obtain ⟨rfl, hx⟩ := hY
        rw [List.getElem?_map, List.getElem?_map] at hx
        obtain ⟨e, he0, rfl⟩ := Option.map_eq_some_iff.mp hx
        obtain ⟨e, he, rfl⟩ := Option.map_eq_some_iff.mp he0
        obtain ⟨hk2, ek⟩ := List.getElem?_eq_some_iff.mp he
        have hem : e ∈ th := pm.mem_iff.mp (List.mem_of_getElem? he)
        have hp5 := sx5 _ _ (tg4.not hp4 fun q z => nomatch z) hp4
        have hR5 : RowsRd Z.C_Rows H5 r td cols tha nn := hR4.sx sx5 (fun z => hrL (List.mem_append_right _ z)) (fun z => htL (List.mem_append_right _ z)) (sx5.kt tg4)
        refine ⟨rfl, .ref p, rfl, p, dx, _, rfl, hp5, hf.key_by, tx o, rfl, _, rfl, p, dx, r, td, od, fs, cols, tha, nn, e.1, e.2, o, rfl, tg5, hp5, hf, hR5, hok, (hth e hem).1, hom.1, hom.2, fun kq2 H7 sx7 tg7 nkq2 hkq2 => ?_⟩
        refine ⟨.ref kq, rfl, kq2, kq, keyM cols e.2 o, keyM cols row o, rfl, rfl, .inl (.inl hkq2), .inl (.inl ((sx5.trans sx7).kt tg4 _ _ hkq)), _, rfl, ?_⟩
        have hD7 := sx7.lst tg5 hD5
        have eb : leK (keyM cols e.2 o) (keyM cols row o) = notAbove cols o row e := leK_le _ _
        show (if leK (keyM cols e.2 o) (keyM cols row o) = true then _ else _)
        rw [eb]
        refine ite2 (fun z => ?_) (fun z => ?_)
        · refine ⟨nV e.1, rfl, _, hD7, ?_, Sx.mut (sx5.trans sx7) nD, TG.put tg7 (tg4.free nD), ?_⟩
          · rw [List.length_map, List.length_map]
            have := List.length_filter_le (notAbove cols o row) (es.take k)
            rw [List.length_take] at this
            exact small1000 (by omega)
          · rw [upd_same, List.take_succ_eq_append_getElem hk2, ek, List.filter_append, List.filter_cons, if_pos z, List.map_append, List.map_append]
            rfl
        · refine ⟨sx5.trans sx7, tg7, ?_⟩
          rw [hD7, List.take_succ_eq_append_getElem hk2, ek, List.filter_append, List.filter_cons, if_neg z, List.filter_nil, List.append_nil]
      obtain ⟨sx5, tg5, hD5⟩ := hP
      rw [List.length_map, List.length_map, List.take_of_length_le (Nat.le_refl _)] at hD5
      have hl5 := sx5.lst tg4 hl4
      -- order.insert(len(ahead), number)
      refine ⟨.ref l, rfl, .inl ⟨rfl, _, .inl (.inl hl5)⟩, .ref D, rfl, D, _, rfl, .inl (.inl (.inl hD5)), _, rfl, l, _, _, _, rfl, rfl, hl5, ?_, ?_, ?_, ?_⟩
      · rw [List.length_map, List.length_map]
        exact small1000 (by omega)
      · omega
      · rw [List.length_map, List.length_map]
        have := List.length_filter_le (notAbove cols o row) es
        omega
      have hlP := lsP l (List.mem_of_getElem? hl)
      have sx6 : Sx (ls ++ Z.Ps) H1 (upd H5 l (.lst (((es.map (·.1)).map nV).take ((((((es.filter (notAbove cols o row)).map (·.1)).map nV).length : Nat) : Int).toNat) ++ [V.int (n : Int)] ++ ((es.map (·.1)).map nV).drop ((((((es.filter (notAbove cols o row)).map (·.1)).map nV).length : Nat) : Int).toNat)))) := fun b u nb e => keep_ne (sx5 b _ (fun z => nb (List.mem_append_right _ z)) (sx4 b _ (fun z => nb (List.mem_append_right _ z)) (sx2 b _ nb e))) fun z => nb (by rw [z]; exact List.mem_append_left _ (List.mem_of_getElem? hl))
      refine ⟨_, _, _, _, _, rfl, sx6, TG.put tg5 hlP, fun j o' l' ho' hl' => ?_⟩
      by_cases ej : j = i
      · subst ej
        rw [ho] at ho'
        cases ho'
        rw [hl] at hl'
        cases hl'
        dsimp only
        rw [if_pos (Nat.lt_succ_self j)]
        have ins := IsOrd.put (cols := cols) (one := o) (row := row) pm srt (n := n) fun x hx => (hth x hx).2
        refine ⟨_, ?_, ins⟩
        rw [upd_same, Int.toNat_natCast, List.length_map, List.length_map, List.map_append, List.map_append, List.map_take, List.map_drop]
        rfl
      · obtain ⟨ns', h1, h2⟩ := or2 j o' l' ho' hl'
        have ne : l' ≠ l := fun z => ej ((List.getElem?_inj (show j < ls.length by
          have := (List.getElem?_eq_some_iff.mp hl').1
          omega) hlnd).mp (by rw [hl', hl, z]))
        refine ⟨ns', keep_ne (sx5.lst tg4 (sx4.lst tg2 h1)) ne, ?_⟩
        have e1 : (if j < i + 1 then th ++ [(n, row)] else th) = if j < i then th ++ [(n, row)] else th := by
          by_cases hj : j < i
          · rw [if_pos hj, if_pos (by omega)]
          · rw [if_neg hj, if_neg (by omega)]
        dsimp only
        rw [e1]
        exact h2
    · obtain ⟨y2, y3, y4, y5, y6, rfl, sx2, tg2, or2⟩ := hP
      refine q H2 ((Same.sx sm1).trans sx2) tg2 fun i o l ho hl => ?_
      obtain ⟨ns, h1, h2⟩ := or2 i o l ho hl
      dsimp only at h2
      rw [List.length_map, if_pos ((List.getElem?_eq_some_iff.mp ho).1)] at h2
      exact ⟨ns, h1, h2⟩

/-! ### a keeper of lists, made; rows put and taken -/
theorem NmK.get {H : Hp} {kvs : List (Key × V)} {th : Nmd} (h : NmK H kvs th) : ∀ {i : Nat} {k : Key} {v : V}, kvs[i]? = some (k, v) → ∃ n r, th[i]? = some (n, r) ∧ k = nKy n := by
  induction h with
  | nil => intro i k v e; cases e
  | @cons n r v kvs th f _ ih =>
    intro i k v e
    cases i with
    | zero =>
      cases e
      exact ⟨n, r, rfl, rfl⟩
    | succ i => exact ih (i := i) e
theorem ordK_snoc {ch : List (List Nat)} {ls : List Addr} (h : ls.length = ch.length) (o : List Nat) (l : Addr) : ordK (ch ++ [o]) (ls ++ [l]) = ordK ch ls ++ [((Sum.inr (txS o) : Key), V.ref l)] := by
  unfold ordK
  rw [List.zip_append h.symm, List.map_append]
  rfl
theorem ordK_none {ch : List (List Nat)} {ls : List Addr} {o : List Nat} (h : o ∉ ch) : valV (ordK ch ls) (Sum.inr (txS o)) = none := by
  refine valV_none fun z => ?_
  unfold ordK at z
  rw [List.map_map] at z
  obtain ⟨q, hq, e⟩ := List.mem_map.mp z
  have e1 : txS q.1 = txS o := Sum.inr.inj e
  have := (List.of_mem_zip hq).1
  rw [txS_inj e1] at this
  exact h this
/-- the places of a keeper -/
structure KAd where
  p : Addr
  r : Addr
  td : Addr
  od : Addr
  ls : List Addr
abbrev KAd.F (k : KAd) : List Addr := k.p :: k.r :: k.td :: k.od :: k.ls
structure KeptAt (CK CR : Addr) (H : Hp) (k : KAd) (cols : List Nat) (th : Nmd) (n : Nat) (ch : List (List Nat)) (mv : Int) : Prop where
  self : ∃ dx, H k.p = some (.ins CK dx (kpF3 k.r k.od mv))
  rows : RowsAt CR H k.r k.td cols th n
  dict : H k.od = some (.dK (ordK ch k.ls))
  len : k.ls.length = ch.length
  nd : k.ls.Nodup
  ords : OrdsTo H cols (fun _ => th) ch k.ls
  npr : k.p ≠ k.r
  nto : k.td ≠ k.od
section
variable {CK CR : Addr} {H H' : Hp} {k : KAd} {cols : List Nat} {th : Nmd} {n : Nat} {ch : List (List Nat)} {mv : Int}
theorem KeptAt.keep (h : KeptAt CK CR H k cols th n ch mv) (s : ∀ b ∈ k.F, ∀ o, H b = some o → H' b = some o) (kt : Kt H H') : KeptAt CK CR H' k cols th n ch mv :=
  ⟨h.self.imp fun _ e => s _ (by simp) _ e, h.rows.keep (s _ (by simp)) (s _ (by simp)) kt, s _ (by simp) _ h.dict, h.len, h.nd, h.ords.keep fun b hb => s _ (by simp [hb]), h.npr, h.nto⟩
theorem KeptAt.at (h : KeptAt CK CR H k cols th n ch mv) {b : Addr} (hb : b ∈ k.F) : ∃ o, H b = some o ∧ ((∃ C dx fs, o = .ins C dx fs) ∨ (∃ kvs, o = .dK kvs) ∨ ∃ xs, o = .lst xs) := by
  obtain ⟨dx, hs⟩ := h.self
  obtain ⟨dr, kvs, hr, hd, _⟩ := h.rows
  simp only [KAd.F, List.mem_cons] at hb
  rcases hb with z | z | z | z | z
  · exact ⟨_, z ▸ hs, .inl ⟨_, _, _, rfl⟩⟩
  · exact ⟨_, z ▸ hr, .inl ⟨_, _, _, rfl⟩⟩
  · exact ⟨_, z ▸ hd, .inr (.inl ⟨_, rfl⟩)⟩
  · exact ⟨_, z ▸ h.dict, .inr (.inl ⟨_, rfl⟩)⟩
  · obtain ⟨i, hi, e⟩ := List.getElem_of_mem z
    obtain ⟨ns, h1, _⟩ := h.ords i _ b (List.getElem?_eq_getElem (by have := h.len; omega : i < ch.length)) (by rw [List.getElem?_eq_getElem hi, e])
    exact ⟨_, h1, .inr (.inr ⟨_, rfl⟩)⟩
theorem KeptAt.noTup (h : KeptAt CK CR H k cols th n ch mv) {b : Addr} {xs : List V} (e : H b = some (.tup xs)) : b ∉ k.F := fun hb => by
  obtain ⟨o, h1, h2⟩ := h.at hb
  rw [e] at h1
  cases h1
  rcases h2 with ⟨_, _, _, z⟩ | ⟨_, z⟩ | ⟨_, z⟩ <;> cases z
theorem KeptAt.noTbl {Ps : List Addr} (h : KeptAt CK CR H k cols th n ch mv) (t : TG Ps H) {b : Addr} (hb : b ∈ k.F) : b ∉ Ps := by
  obtain ⟨o, h1, h2⟩ := h.at hb
  refine t.not h1 fun q z => ?_
  rw [z] at h2
  rcases h2 with ⟨_, _, _, z⟩ | ⟨_, z⟩ | ⟨_, z⟩ <;> cases z
theorem KeptAt.kt {Ps : List Addr} (h : KeptAt CK CR H k cols th n ch mv) (t : TG Ps H) (s : Sx (k.F ++ Ps) H H') : Kt H H' := fun b xs e => s b _ (fun z => (List.mem_append.mp z).elim (h.noTup e) (t.not e fun q z => nomatch z)) e
theorem KeptAt.free {Ps : List Addr} (h : KeptAt CK CR H k cols th n ch mv) {b : Addr} (e : H b = none) : b ∉ k.F := fun hb => by
  obtain ⟨o, h1, _⟩ := h.at hb
  rw [e] at h1
  cases h1
end
def spKeptInit (K : PySem.W.Frag) (Z : Ad) : Sp := fun vs H Q _ => ∃ (p dx : Addr) (tv : V) (cols : List Nat) (rows : List (List Int)) (ca : Addr) (ch : List (List Nat)), vs = [.ref p, tv, .ref ca] ∧ TG Z.Ps H ∧ H p = some (.ins Z.C_Kept dx []) ∧ Fz H tv (tabD cols rows) ∧ RowsOk cols.length rows ∧ rows.length ≤ 60 ∧ H ca = some (.tup (ch.map tx)) ∧ ChL cols ch ∧
  ∀ (k : KAd) (H' : Hp), k.p = p → Sx (p :: Z.Ps) H H' → TG Z.Ps H' → (∀ b ∈ k.F, b ≠ p → H b = none) → KeptAt Z.C_Kept Z.C_Rows H' k cols (thN 0 rows) rows.length ch 0 → Q .non H'
set_option maxHeartbeats 4000000 in
theorem ok_keptinit (T : Tx K mg Z) (TB : Tb base mg Z) : FnOk P w K mg base CX0 4 Z.f_Kept___init__ Z.d_Kept___init__ ["self", "table", "choice"] (spKeptInit K Z) := by
  have G_Rows___init__ : FnOk P w K mg base CX0 1 Z.f_Rows___init__ Z.d_Rows___init__ ["self", "table"] (spRowsInit K Z) := ok_rowsinit T
  have G_Kept_enter : FnOk P w K mg base CX0 3 Z.f_Kept_enter Z.d_Kept_enter ["self", "number"] (spEnter K Z) := ok_enter T TB
  refine T.F_Kept___init__.ok sc_Kept___init__ (fun vs H Q E h => ?_) (fun cdv A outer s H vs Q E hr h => ?_)
  · obtain ⟨p, dx, tv, cols, rows, ca, ch, rfl, _⟩ := h
    rfl
  · obtain ⟨p, dx, tv, cols, rows, ca, ch, rfl, tg, hp, fT, hrs, hrn, hca, hch, q⟩ := h
    refine ⟨_, (pss_cons (ps_fld (pv 0) (pe_make T.mk_Rows G_Rows___init__ (hr.mono (by omega)) (by rfl) T.g_Rows T.b_Rows___init__ .nil pass0 (pa_cons (pv 1) pa_nil)) rfl)
      (pss_cons (ps_fld (pv 0) (pe_dc (own := [("one", 4)]) (tt := tYes) (by rfl) sc_Kept___init__.nd (piT K (pv 2)) (blkOk_by (own := [("one", 4)]) (by kernel_rfl)) (fun _ _ _ _ _ => (pg_name (i := 4) sc_Kept___init__.nd rfl (.inl rfl))) (fun _ _ _ _ _ => pts_nil) (fun _ _ _ _ _ => (pv 4)) (fun _ _ _ _ _ => (pe_lst pa_nil))) rfl)
      (pss_cons (ps_lock (ps_for PassesOwn.never rfl (pi_keys (fldK K (fldK K (pv 0) rfl) rfl)) (pg_name (i := 3) sc_Kept___init__.nd rfl (.inl rfl)) (pss_one (ps_expr (pe_meth (pv 0) T.cl_Kept T.m_Kept_enter G_Kept_enter (hr.mono (by omega)) T.b_Kept_enter .nil pass0 (pa_cons (pv 3) pa_nil))))))
      (pss_one (ps_fld (pv 0) pe_int rfl))))), ?_⟩
    have pP : p ∉ Z.Ps := tg.not hp fun q z => nomatch z
    have ncp : ca ≠ p := fun z => by
      rw [z, hp] at hca
      cases hca
    -- self.rows
    refine ⟨tv, rfl, fun r dx0 nr ndx nex => ?_⟩
    have sm1 : Same H (upd (upd H dx0 (.own r)) r (.ins Z.C_Rows dx0 [])) := fun b o e => by
      rw [upd_ne (ne_of_none e nr), upd_ne (ne_of_none e ndx)]
      exact e
    have hr1 : (upd (upd H dx0 (.own r)) r (.ins Z.C_Rows dx0 [])) r = some (.ins Z.C_Rows dx0 []) := upd_same
    generalize upd (upd H dx0 (.own r)) r (.ins Z.C_Rows dx0 []) = H1 at sm1 hr1 ⊢
    refine ⟨r, dx0, tv, cols, rows, rfl, hr1, fT.kt (Same.kt sm1), by omega, fun td H2 kp2 ntd1 hR2 => ⟨rfl, ?_⟩⟩
    have ntd : H td = none := Same.free sm1 ntd1
    have sm2 : Same H H2 := fun b o e => kp2 b o (ne_of_none e nr) (sm1 b o e)
    have npr : p ≠ r := ne_of_none hp nr
    have nptd : p ≠ td := ne_of_none hp ntd
    have hp2 := sm2 _ _ hp
    refine ⟨.ref p, rfl, p, Z.C_Kept, dx, [], rfl, hp2, T.cl_Kept, T.n_Kept_rows, (by show 0 < 1000; decide), ?_⟩
    rw [kpF1_put]
    have sx3 : Sx (p :: Z.Ps) H (upd H2 p (.ins Z.C_Kept dx (kpF1 r))) := fun b o nb e => keep_ne (sm2 b o e) fun z => nb (by rw [z]; exact List.mem_cons_self)
    have tg3 : TG Z.Ps (upd H2 p (.ins Z.C_Kept dx (kpF1 r))) := TG.put (tg.same sm2) pP
    have hp3 : (upd H2 p (.ins Z.C_Kept dx (kpF1 r))) p = some (.ins Z.C_Kept dx (kpF1 r)) := upd_same
    have kt23 : Kt H2 (upd H2 p (.ins Z.C_Kept dx (kpF1 r))) := fun b xs e => keep_ne e fun z => by
      rw [z, hp2] at e
      cases e
    have hR3 : RowsAt Z.C_Rows (upd H2 p (.ins Z.C_Kept dx (kpF1 r))) r td cols (thN 0 rows) rows.length := hR2.keep (fun o e => keep_ne e npr.symm) (fun o e => keep_ne e nptd.symm) kt23
    generalize upd H2 p (.ins Z.C_Kept dx (kpF1 r)) = H3 at sx3 tg3 hp3 hR3 ⊢
    have hca3 := sx3 _ _ (fun z => (List.mem_cons.mp z).elim ncp (tg.not hca fun q z => nomatch z)) hca
    -- self.orders
    refine ⟨.ref ca, rfl, ca, rfl, ⟨_, .inl (.inl hca3)⟩, fun D nD => dc_tup (xs := ch.map tx) (fun i H' => ∃ ls : List Addr, ls.length = i ∧ Same H3 H' ∧ H' D = some (.dK (ordK (ch.take i) ls)) ∧ ls.Nodup ∧ ∀ l ∈ ls, H' l = some (.lst []) ∧ H3 l = none ∧ l ≠ D)
      ⟨[], rfl, Same.new (Same.refl H3) nD, (by rw [upd_same, List.take_zero]; rfl), List.nodup_nil, (fun l h => nomatch h)⟩ (fun i H' _ hP => ?_) (fun i x H4 hx hP => ?_) (fun H4 hP => ?_)⟩
    · obtain ⟨_, _, sm, _⟩ := hP
      exact .inl (.inl (sm _ _ hca3))
    · obtain ⟨ls, hll, sm4, hD4, hnd, hls⟩ := hP
      rw [List.getElem?_map] at hx
      obtain ⟨o, ho, rfl⟩ := Option.map_eq_some_iff.mp hx
      obtain ⟨hi, ei⟩ := List.getElem?_eq_some_iff.mp ho
      have tkl : (ch.take i).length = i := by
        rw [List.length_take]
        omega
      have tk : ch.take (i + 1) = ch.take i ++ [o] := by rw [List.take_succ_eq_append_getElem hi, ei]
      have out : o ∉ ch.take i := fun z => by
        have nd2 : (ch.take (i + 1)).Nodup := hch.nd.sublist (List.take_sublist _ _)
        rw [tk] at nd2
        exact (List.nodup_append.mp nd2).2.2 o z o (by simp) rfl
      refine ⟨rfl, tx o, rfl, Nat.zero_le _, fun l nl => ?_⟩
      have hD5 : (upd H4 l (.lst [])) D = some (.dK (ordK (ch.take i) ls)) := keep_new hD4 nl
      have nlD : l ≠ D := (ne_of_none hD4 nl).symm
      refine ⟨_, Sum.inr (txS o), rfl, hD5, ?_, ls ++ [l], by rw [List.length_append, hll]; rfl, Same.mut (Same.new sm4 nl) nD, ?_, ?_, fun a ha => ?_⟩
      · rw [ordK_len (by rw [hll, tkl]), tkl]
        have := hch.len
        exact small1000 (by omega)
      · rw [upd_same, putK_new _ (ordK_none out), tk, ordK_snoc (by rw [hll, tkl])]
      · refine List.nodup_append.mpr ⟨hnd, by simp, fun a ha b hb z => ?_⟩
        rw [List.mem_singleton.mp hb] at z
        have := (hls a ha).1
        rw [z, nl] at this
        cases this
      · rcases List.mem_append.mp ha with z | z
        · obtain ⟨h1, h2, h3⟩ := hls a z
          exact ⟨keep_ne (keep_new h1 nl) h3, h2, h3⟩
        · rw [List.mem_singleton.mp z]
          exact ⟨keep_ne upd_same nlD, Same.free sm4 nl, nlD⟩
    obtain ⟨ls, hll, sm4, hD4, hnd, hls⟩ := hP
    rw [List.length_map] at hll hD4
    rw [List.take_of_length_le (Nat.le_refl _)] at hD4
    have nDp : D ≠ p := (ne_of_none hp3 nD).symm
    have hp4 := sm4 _ _ hp3
    refine ⟨.ref p, rfl, p, Z.C_Kept, dx, _, rfl, hp4, T.cl_Kept, T.n_Kept_orders, (by show 1 < 1000; decide), ?_⟩
    rw [kpF2_put]
    have sx5 : Sx (p :: Z.Ps) H (upd H4 p (.ins Z.C_Kept dx (kpF2 r D))) := fun b o nb e => keep_ne (sm4 _ _ (sx3 b o nb e)) fun z => nb (by rw [z]; exact List.mem_cons_self)
    have tg5 : TG Z.Ps (upd H4 p (.ins Z.C_Kept dx (kpF2 r D))) := TG.put (tg3.same sm4) pP
    have hp5 : (upd H4 p (.ins Z.C_Kept dx (kpF2 r D))) p = some (.ins Z.C_Kept dx (kpF2 r D)) := upd_same
    have kt45 : Kt H4 (upd H4 p (.ins Z.C_Kept dx (kpF2 r D))) := fun b xs e => keep_ne e fun z => by
      rw [z, hp4] at e
      cases e
    have hR5 : RowsAt Z.C_Rows (upd H4 p (.ins Z.C_Kept dx (kpF2 r D))) r td cols (thN 0 rows) rows.length := hR3.keep (fun o e => keep_ne (sm4 _ _ e) npr.symm) (fun o e => keep_ne (sm4 _ _ e) nptd.symm) ((Same.kt sm4).trans kt45)
    have hD5 : (upd H4 p (.ins Z.C_Kept dx (kpF2 r D))) D = some (.dK (ordK ch ls)) := keep_ne hD4 nDp
    have lsp : ∀ l ∈ ls, l ≠ p := fun l hl z => by
      have := (hls l hl).2.1
      rw [z, hp3] at this
      cases this
    have hl5 : ∀ l ∈ ls, (upd H4 p (.ins Z.C_Kept dx (kpF2 r D))) l = some (.lst []) := fun l hl => keep_ne (hls l hl).1 (lsp l hl)
    generalize upd H4 p (.ins Z.C_Kept dx (kpF2 r D)) = H5 at sx5 tg5 hp5 hR5 hD5 hl5 ⊢
    have hok := NmOk.start hrs
    obtain ⟨dr, kvs, hr5, ht5, nm5⟩ := id hR5
    have ntD : td ≠ D := fun z => by
      obtain ⟨_, _, _, h3, _⟩ := hR3
      rw [z, nD] at h3
      cases h3
    have free0 : ∀ {b : Addr}, H3 b = none → b ≠ p → H b = none := fun {b} e ne => by
      cases eb : H b with
      | none => rfl
      | some o =>
        by_cases hbP : b ∈ Z.Ps
        · exact absurd hbP (tg3.free e)
        · have := sx3 b o (fun z => (List.mem_cons.mp z).elim ne hbP) eb
          rw [e] at this
          cases this
    have ls0 : ∀ l ∈ ls, H l = none := fun l hl => free0 (hls l hl).2.1 (lsp l hl)
    have D0 : H D = none := free0 nD nDp
    -- for number in self.rows.there
    refine ⟨td, .dK kvs, ht5, trivial, fun od0 => ?_⟩
    have tL : (upd H5 td (.frz od0 (.dK kvs))) td = some (.frz od0 (.dK kvs)) := upd_same
    have kL : ∀ {b : Addr} {o : HO}, b ≠ td → H5 b = some o → (upd H5 td (.frz od0 (.dK kvs))) b = some o := fun ne e => keep_ne e ne
    have tgL : TG Z.Ps (upd H5 td (.frz od0 (.dK kvs))) := TG.put tg5 (tg5.not ht5 fun q z => nomatch z)
    have ktL : Kt H5 (upd H5 td (.frz od0 (.dK kvs))) := Kt.dct ht5
    generalize upd H5 td (.frz od0 (.dK kvs)) = HL at tL kL tgL ktL ⊢
    have hpL := kL nptd hp5
    have hrL := kL (fun z => by rw [z, ht5] at hr5; cases hr5) hr5
    have hDL := kL ntD.symm hD5
    have lst : ∀ l ∈ ls, l ≠ td := fun l hl z => by
      have := hl5 l hl
      rw [z, ht5] at this
      cases this
    have hRL : RowsRd Z.C_Rows HL r td cols (thN 0 rows) rows.length := ⟨dr, kvs, hrL, .inr ⟨od0, tL⟩, nm5.kt ktL⟩
    have lsP : ∀ l ∈ ls, l ∉ Z.Ps := fun l hl => tg5.not (hl5 l hl) fun q z => nomatch z
    have offs : ∀ {b : Addr} {u : HO}, HL b = some u → (∀ xs, u ≠ .lst xs) → (∀ q, u ≠ .tbl q) → b ∉ ls ++ Z.Ps := fun {b u} e n1 n2 z => by
      rcases List.mem_append.mp z with y | y
      · have := kL (lst b y) (hl5 b y)
        rw [e] at this
        exact n1 _ (Option.some.inj this)
      · exact tgL.not e n2 y
    have tln : (thN 0 rows).length = rows.length := thN_len rows 0
    refine ⟨.ref p, rfl, p, Z.C_Kept, dx, _, _, rfl, hpL, T.cl_Kept, T.n_Kept_rows, kpF2_rows _ _, r, Z.C_Rows, dr, _, _, rfl, hrL, T.cl_Rows, T.n_Rows_there, rwF3_there _ _ _, td, od0, rfl, .inl ⟨kvs, tL, for_it walk_keys (fun i σ H' => ∃ y3 y4 : Option V, σ = [some (.ref p), some tv, some (.ref ca), y3, y4] ∧ Sx (ls ++ Z.Ps) HL H' ∧ TG Z.Ps H' ∧ OrdsTo H' cols (fun _ => (thN 0 rows).take i) ch ls)
      ⟨_, _, rfl, Sx.rfl', tgL, fun i o l ho hl => ⟨[], kL (lst l (List.mem_of_getElem? hl)) (hl5 l (List.mem_of_getElem? hl)), by rw [List.take_zero]; exact IsOrd.nil⟩⟩ (fun i σ H' _ hP => ?_) (fun i x σ H7 H6 hi hP hY => ?_) (fun σ H6 hP => ?_)⟩⟩
    · obtain ⟨_, _, _, sx, _⟩ := hP
      exact sx _ _ (offs tL (fun _ z => nomatch z) (fun _ z => nomatch z)) tL
    · obtain ⟨y3, y4, rfl, sx6, tg6, or6⟩ := hP
      obtain ⟨rfl, kk, v, hkv, rfl⟩ := hY
      obtain ⟨m, row, hm, rfl⟩ := nm5.get hkv
      obtain ⟨him, eim⟩ := List.getElem?_eq_some_iff.mp hm
      have hp6 := sx6 _ _ (offs hpL (fun _ z => nomatch z) (fun _ z => nomatch z)) hpL
      have hD6 := sx6 _ _ (offs hDL (fun _ z => nomatch z) (fun _ z => nomatch z)) hDL
      have kt6 : Kt HL H6 := fun b xs e => sx6 _ _ (offs e (fun _ z => nomatch z) (fun _ z => nomatch z)) e
      have hR6 := hRL.sx sx6 (offs hrL (fun _ z => nomatch z) (fun _ z => nomatch z)) (offs tL (fun _ z => nomatch z) (fun _ z => nomatch z)) kt6
      refine ⟨.ref p, rfl, p, dx, _, rfl, hp6, (kpF2_ok r D).enter, _, rfl, p, dx, r, td, D, kpF2 r D, cols, thN 0 rows, (thN 0 rows).take i, rows.length, m, row, ch, ls, rfl, tg6, hp6, kpF2_ok r D, hR6, hok, List.mem_of_getElem? hm, fun x hx => ?_, ?_, hD6, hll, hnd, hch, or6, fun H8 sx8 tg8 or8 => ?_⟩
      · refine ⟨List.mem_of_mem_take hx, ?_⟩
        obtain ⟨j, hj, ej⟩ := List.getElem_of_mem hx
        rw [List.length_take] at hj
        rw [List.getElem_take] at ej
        have h1 := List.pairwise_iff_getElem.mp hok.up j i (by rw [List.length_map]; omega) (by rw [List.length_map]; omega) (by omega)
        rw [List.getElem_map, List.getElem_map, ej, eim] at h1
        exact h1
      · rw [List.length_take]
        omega
      · refine ⟨_, _, rfl, sx6.trans sx8, tg8, ?_⟩
        rw [List.take_succ_eq_append_getElem him, eim]
        exact or8
    · obtain ⟨y3, y4, rfl, sx6, tg6, or6⟩ := hP
      have hkl : kvs.length = (thN 0 rows).length := nm5.len
      rw [hkl, List.take_of_length_le (Nat.le_refl _)] at or6
      have tL6 := sx6 _ _ (offs tL (fun _ z => nomatch z) (fun _ z => nomatch z)) tL
      refine ⟨tL6, ?_⟩
      have hp6 := sx6 _ _ (offs hpL (fun _ z => nomatch z) (fun _ z => nomatch z)) hpL
      have hD6 := sx6 _ _ (offs hDL (fun _ z => nomatch z) (fun _ z => nomatch z)) hDL
      have hr6 := sx6 _ _ (offs hrL (fun _ z => nomatch z) (fun _ z => nomatch z)) hrL
      have kt6 : Kt HL H6 := fun b xs e => sx6 _ _ (offs e (fun _ z => nomatch z) (fun _ z => nomatch z)) e
      have nrt : r ≠ td := hR5.ne
      -- self.moves
      have hp7 : (upd H6 td (.dK kvs)) p = some (.ins Z.C_Kept dx (kpF2 r D)) := keep_ne hp6 nptd
      refine ⟨.ref p, rfl, p, Z.C_Kept, dx, _, rfl, hp7, T.cl_Kept, T.n_Kept_moves, (by show 2 < 1000; decide), ?_⟩
      rw [kpF3_put]
      have kt7 : Kt H6 (upd (upd H6 td (.dK kvs)) p (.ins Z.C_Kept dx (kpF3 r D 0))) := fun b xs e => keep_ne (keep_ne e fun z => by rw [z, tL6] at e; cases e) fun z => by
        rw [z, hp6] at e
        cases e
      refine q ⟨p, r, td, D, ls⟩ _ rfl (fun b o nb e => ?_) (TG.put (TG.put tg6 (tgL.not tL fun q z => nomatch z)) pP) (fun b hb ne => ?_) ⟨⟨dx, upd_same⟩, ⟨dr, kvs, keep_ne (keep_ne hr6 nrt) npr.symm, keep_ne upd_same nptd.symm, ((nm5.kt ktL).kt kt6).kt kt7⟩, keep_ne (keep_ne hD6 ntD.symm) nDp, hll, hnd, or6.keep fun b hb o e => keep_ne (keep_ne e (lst b hb)) (lsp b hb), npr, ntD⟩
      · have nbp : b ≠ p := fun z => nb (by rw [z]; exact List.mem_cons_self)
        have nbt : b ≠ td := ne_of_none e ntd
        have e5 := sx5 b o nb e
        refine keep_ne (keep_ne (sx6 b o (fun z => ?_) (kL nbt e5)) nbt) nbp
        rcases List.mem_append.mp z with y | y
        · rw [ls0 b y] at e
          cases e
        · exact nb (List.mem_cons_of_mem _ y)
      · simp only [KAd.F, List.mem_cons] at hb
        rcases hb with z | z | z | z | z
        · exact absurd z ne
        · rw [z]
          exact nr
        · rw [z]
          exact ntd
        · rw [z]
          exact D0
        · exact ls0 b z
def spKeptPut (K : PySem.W.Frag) (Z : Ad) : Sp := fun vs H Q _ => ∃ (k : KAd) (rv : V) (cols : List Nat) (th : Nmd) (n : Nat) (ch : List (List Nat)) (mv : Int) (row : List Int), vs = [.ref k.p, rv] ∧ TG Z.Ps H ∧ KeptAt Z.C_Kept Z.C_Rows H k cols th n ch mv ∧ NmOk cols.length th n ∧ th.length < 60 ∧ ChL cols ch ∧ Fz H rv (rowD row) ∧ RowOk cols.length row ∧
  ∀ (H' : Hp), Sx (k.F ++ Z.Ps) H H' → TG Z.Ps H' → KeptAt Z.C_Kept Z.C_Rows H' k cols (th ++ [(n, row)]) (n + 1) ch (mv + ch.length) → Q (.int (n : Int)) H'
set_option maxHeartbeats 4000000 in
theorem ok_keptput (T : Tx K mg Z) (TB : Tb base mg Z) : FnOk P w K mg base CX0 4 Z.f_Kept_put Z.d_Kept_put ["self", "row"] (spKeptPut K Z) := by
  have G_Rows_put : FnOk P w K mg base CX0 1 Z.f_Rows_put Z.d_Rows_put ["self", "row"] (spRowsPut K Z) := ok_rowsput T
  have G_Kept_enter : FnOk P w K mg base CX0 3 Z.f_Kept_enter Z.d_Kept_enter ["self", "number"] (spEnter K Z) := ok_enter T TB
  refine T.F_Kept_put.ok sc_Kept_put (fun vs H Q E h => ?_) (fun cdv A outer s H vs Q E hr h => ?_)
  · obtain ⟨k, rv, cols, th, n, ch, mv, row, rfl, _⟩ := h
    rfl
  · obtain ⟨k, rv, cols, th, n, ch, mv, row, rfl, tg, kp, hok, hlt, hch, fr, hrow, q⟩ := h
    refine ⟨_, (pss_cons (ps_set (i := 2) sc_Kept_put.nd rfl (.inl rfl) (pe_meth (fldK K (pv 0) rfl) T.cl_Rows T.m_Rows_put G_Rows_put (hr.mono (by omega)) T.b_Rows_put .nil pass0 (pa_cons (pv 1) pa_nil)))
      (pss_cons (ps_expr (pe_meth (pv 0) T.cl_Kept T.m_Kept_enter G_Kept_enter (hr.mono (by omega)) T.b_Kept_enter .nil pass0 (pa_cons (pv 2) pa_nil)))
      (pss_cons (ps_fldaug (pv 0) (pe_callB call_lenD (by rfl) T.m_len (by decide +kernel) (pa_cons (fldK K (pv 0) rfl) pa_nil)) in_add)
      (pss_one (ps_ret (pv 2)))))), ?_⟩
    obtain ⟨dx, hp⟩ := kp.self
    obtain ⟨dr, kvs, hr0, htd, nm⟩ := id kp.rows
    have nptd : k.p ≠ k.td := fun z => by
      rw [z, htd] at hp
      cases hp
    have nrod : k.r ≠ k.od := fun z => by
      rw [z, kp.dict] at hr0
      cases hr0
    have npod : k.p ≠ k.od := fun z => by
      rw [z, kp.dict] at hp
      cases hp
    have lsn : ∀ l ∈ k.ls, l ≠ k.p ∧ l ≠ k.r ∧ l ≠ k.td ∧ l ≠ k.od := fun l hl => by
      obtain ⟨i, hi, e⟩ := List.getElem_of_mem hl
      obtain ⟨ns, h1, _⟩ := kp.ords i _ l (List.getElem?_eq_getElem (by have := kp.len; omega : i < ch.length)) (by rw [List.getElem?_eq_getElem hi, e])
      refine ⟨fun z => ?_, fun z => ?_, fun z => ?_, fun z => ?_⟩
      · rw [z, hp] at h1
        cases h1
      · rw [z, hr0] at h1
        cases h1
      · rw [z, htd] at h1
        cases h1
      · rw [z, kp.dict] at h1
        cases h1
    -- number = self.rows.put(row)
    refine ⟨.ref k.p, rfl, k.p, Z.C_Kept, dx, _, _, rfl, hp, T.cl_Kept, T.n_Kept_rows, kpF3_rows _ _ _, k.r, dr, _, rfl, hr0, rwF3_no_put _ _ _, rv, rfl, k.r, k.td, rv, cols, th, n, row, rfl, kp.rows, hok, hlt, fr, fun H1 sx1 kt1 hR1 => ?_⟩
    have n1 : ∀ {b : Addr}, b ≠ k.r → b ≠ k.td → b ∉ [k.r, k.td] := fun h1 h2 z => by
      simp only [List.mem_cons, List.not_mem_nil, or_false] at z
      exact z.elim h1 h2
    have hp1 := sx1 _ _ (n1 kp.npr nptd) hp
    have hod1 := sx1 _ _ (n1 nrod.symm kp.nto.symm) kp.dict
    have tg1 : TG Z.Ps H1 := fun b hb => by
      obtain ⟨ps, h1, h2⟩ := tg b hb
      exact ⟨ps, sx1 _ _ (n1 (fun z => kp.noTbl tg (b := k.r) (by simp) (z ▸ hb)) (fun z => kp.noTbl tg (b := k.td) (by simp) (z ▸ hb))) h1, h2⟩
    have or1 : OrdsTo H1 cols (fun _ => th) ch k.ls := kp.ords.keep fun b hb o e => sx1 _ _ (n1 (lsn b hb).2.1 (lsn b hb).2.2.1) e
    -- self.enter(number)
    refine ⟨.ref k.p, rfl, k.p, dx, _, rfl, hp1, (kpF3_ok _ _ _).enter, _, rfl, k.p, dx, k.r, k.td, k.od, _, cols, th ++ [(n, row)], th, n + 1, n, row, ch, k.ls, rfl, tg1, hp1, kpF3_ok _ _ _, hR1.rd, hok.put hrow, by simp, fun x hx => ⟨List.mem_append_left _ hx, hok.lt x hx⟩, by omega, hod1, kp.len, kp.nd, hch, or1, fun H2 sx2 tg2 or2 => ?_⟩
    have n2 : ∀ {b : Addr} {o : HO}, H1 b = some o → (∀ q, o ≠ .tbl q) → b ∉ k.ls → H2 b = some o := fun {b o} e h1 h2 => sx2 _ _ (fun z => (List.mem_append.mp z).elim h2 (tg1.not e h1)) e
    have hp2 := n2 hp1 (fun _ z => nomatch z) (fun z => (lsn _ z).1 rfl)
    have hod2 := n2 hod1 (fun _ z => nomatch z) (fun z => (lsn _ z).2.2.2 rfl)
    obtain ⟨dr1, kvs1, hr1, ht1, nm1⟩ := id hR1
    have hr2 := n2 hr1 (fun _ z => nomatch z) (fun z => (lsn _ z).2.1 rfl)
    have ht2 := n2 ht1 (fun _ z => nomatch z) (fun z => (lsn _ z).2.2.1 rfl)
    -- self.moves += len(self.orders)
    refine ⟨.ref k.p, rfl, k.p, Z.C_Kept, dx, _, _, rfl, hp2, T.cl_Kept, T.n_Kept_moves, kpF3_moves _ _ _, .ref k.p, rfl, k.p, Z.C_Kept, dx, _, _, rfl, hp2, T.cl_Kept, T.n_Kept_orders, kpF3_orders _ _ _, k.od, ordK ch k.ls, rfl, hod2, _, _, rfl, rfl, dx, _, hp2, (by show 3 < 1000; decide), ?_⟩
    rw [kpF3_again, ordK_len kp.len]
    have kt3 : Kt H (upd H2 k.p (.ins Z.C_Kept dx (kpF3 k.r k.od (mv + (ch.length : Nat))))) := fun b xs e => keep_ne (n2 (kt1 _ _ e) (fun _ z => nomatch z) (fun z => kp.noTup e (by simp [z]))) fun z => by
      rw [z, hp] at e
      cases e
    have sx3 : Sx (k.F ++ Z.Ps) H (upd H2 k.p (.ins Z.C_Kept dx (kpF3 k.r k.od (mv + (ch.length : Nat))))) := fun b o nb e => by
      have nF : b ∉ k.F := fun z => nb (List.mem_append_left _ z)
      have nP : b ∉ Z.Ps := fun z => nb (List.mem_append_right _ z)
      simp only [KAd.F, List.mem_cons, not_or] at nF
      exact keep_ne (sx2 _ _ (fun z => (List.mem_append.mp z).elim nF.2.2.2.2 nP) (sx1 _ _ (n1 nF.2.1 nF.2.2.1) e)) nF.1
    refine ⟨_, rfl, q _ sx3 (TG.put tg2 (kp.noTbl tg (by simp))) ⟨⟨dx, upd_same⟩, ⟨dr1, kvs1, keep_ne hr2 kp.npr.symm, keep_ne ht2 nptd.symm, nm1.kt fun b xs e => ?_⟩, keep_ne hod2 npod.symm, kp.len, kp.nd, or2.keep fun b hb o e => keep_ne e (lsn b hb).1, kp.npr, kp.nto⟩⟩
    refine keep_ne (n2 e (fun _ z => nomatch z) fun z => ?_) fun z => ?_
    · obtain ⟨i, hi, ei⟩ := List.getElem_of_mem z
      obtain ⟨ns, h1, _⟩ := or1 i _ b (List.getElem?_eq_getElem (by have := kp.len; omega : i < ch.length)) (by rw [List.getElem?_eq_getElem hi, ei])
      rw [e] at h1
      cases h1
    · rw [z, hp1] at e
      cases e
def spKeptTake (K : PySem.W.Frag) (Z : Ad) : Sp := fun vs H Q _ => ∃ (k : KAd) (cols : List Nat) (th : Nmd) (n : Nat) (ch : List (List Nat)) (mv : Int) (g : Nat), vs = [.ref k.p, .int (g : Int)] ∧ TG Z.Ps H ∧ KeptAt Z.C_Kept Z.C_Rows H k cols th n ch mv ∧ NmOk cols.length th n ∧ g ∈ th.map (·.1) ∧ ChL cols ch ∧
  ∀ (H' : Hp), Sx (k.F ++ Z.Ps) H H' → TG Z.Ps H' → KeptAt Z.C_Kept Z.C_Rows H' k cols (outT th g) n ch (mv + ch.length) → Q .non H'
set_option maxHeartbeats 4000000 in
theorem ok_kepttake (T : Tx K mg Z) (TB : Tb base mg Z) : FnOk P w K mg base CX0 4 Z.f_Kept_take Z.d_Kept_take ["self", "number"] (spKeptTake K Z) := by
  have G_Rows_take : FnOk P w K mg base CX0 1 Z.f_Rows_take Z.d_Rows_take ["self", "number"] (spRowsTake K Z) := ok_rowstake T
  refine T.F_Kept_take.ok sc_Kept_take (fun vs H Q E h => ?_) (fun cdv A outer s H vs Q E hr h => ?_)
  · obtain ⟨k, cols, th, n, ch, mv, g, rfl, _⟩ := h
    rfl
  · obtain ⟨k, cols, th, n, ch, mv, g, rfl, tg, kp, hok, hg, hch, q⟩ := h
    refine ⟨_, (pss_cons (ps_expr (pe_meth (fldK K (pv 0) rfl) T.cl_Rows T.m_Rows_take G_Rows_take (hr.mono (by omega)) T.b_Rows_take .nil pass0 (pa_cons (pv 1) pa_nil)))
      (pss_cons (ps_for PassesOwn.never rfl (piL K (pe_callTy (call_list_dK rfl) (by rfl) T.m_list (by decide +kernel) (pa_cons (fldK K (pv 0) rfl) pa_nil))) (pg_name (i := 2) sc_Kept_take.nd rfl (.inl rfl)) (pss_one (ps_expr (bmK K PySem.F.plainAttrs_list PySem.F.slot_list_remove PySem.F.type_list_remove mt_remove (pe_dget (hu_of hr) (fldK K (pv 0) rfl) (pv 2) (fun _ _ => rfl)) (pa_cons (pv 1) pa_nil)))))
      (pss_one (ps_fldaug (pv 0) (pe_callB call_lenD (by rfl) T.m_len (by decide +kernel) (pa_cons (fldK K (pv 0) rfl) pa_nil)) in_add)))), ?_⟩
    obtain ⟨dx, hp⟩ := kp.self
    obtain ⟨dr, kvs, hr0, htd, nm⟩ := id kp.rows
    have nptd : k.p ≠ k.td := fun z => by
      rw [z, htd] at hp
      cases hp
    have npod : k.p ≠ k.od := fun z => by
      rw [z, kp.dict] at hp
      cases hp
    have lsn : ∀ l ∈ k.ls, l ≠ k.p ∧ l ≠ k.r ∧ l ≠ k.td ∧ l ≠ k.od := fun l hl => by
      obtain ⟨i, hi, e⟩ := List.getElem_of_mem hl
      obtain ⟨ns, h1, _⟩ := kp.ords i _ l (List.getElem?_eq_getElem (by have := kp.len; omega : i < ch.length)) (by rw [List.getElem?_eq_getElem hi, e])
      refine ⟨fun z => ?_, fun z => ?_, fun z => ?_, fun z => ?_⟩
      · rw [z, hp] at h1
        cases h1
      · rw [z, hr0] at h1
        cases h1
      · rw [z, htd] at h1
        cases h1
      · rw [z, kp.dict] at h1
        cases h1
    refine ⟨.ref k.p, rfl, k.p, Z.C_Kept, dx, _, _, rfl, hp, T.cl_Kept, T.n_Kept_rows, kpF3_rows _ _ _, k.r, dr, _, rfl, hr0, rwF3_no_take _ _ _, _, rfl, k.r, k.td, cols, th, n, g, rfl, kp.rows, hok, hg, fun H1 sx1 kt1 hR1 => ?_⟩
    have n1 : ∀ {b : Addr}, b ≠ k.td → b ∉ [k.td] := fun h z => h (List.mem_singleton.mp z)
    have hp1 := sx1 _ _ (n1 nptd) hp
    have hod1 := sx1 _ _ (n1 kp.nto.symm) kp.dict
    have tg1 : TG Z.Ps H1 := fun b hb => by
      obtain ⟨ps, h1, h2⟩ := tg b hb
      exact ⟨ps, sx1 _ _ (n1 fun z => kp.noTbl tg (b := k.td) (by simp) (z ▸ hb)) h1, h2⟩
    have or1 : OrdsTo H1 cols (fun _ => th) ch k.ls := kp.ords.keep fun b hb o e => sx1 _ _ (n1 (lsn b hb).2.2.1) e
    -- list(self.orders)
    refine ⟨.ref k.p, rfl, k.p, Z.C_Kept, dx, _, _, rfl, hp1, T.cl_Kept, T.n_Kept_orders, kpF3_orders _ _ _, k.od, ordK ch k.ls, rfl, hod1, fun L nL => ?_⟩
    rw [ordK_keys kp.len]
    have hL2 : (upd H1 L (.lst (ch.map tx))) L = some (.lst (ch.map tx)) := upd_same
    have sm2 : Same H1 (upd H1 L (.lst (ch.map tx))) := Same.new (Same.refl H1) nL
    have Lls : L ∉ k.ls := fun z => by
      obtain ⟨i, hi, ei⟩ := List.getElem_of_mem z
      obtain ⟨ns, h1, _⟩ := or1 i _ L (List.getElem?_eq_getElem (by have := kp.len; omega : i < ch.length)) (by rw [List.getElem?_eq_getElem hi, ei])
      rw [nL] at h1
      cases h1
    generalize upd H1 L (.lst (ch.map tx)) = H2 at hL2 sm2 ⊢
    have hp2 := sm2 _ _ hp1
    have hod2 := sm2 _ _ hod1
    refine ⟨L, rfl, ⟨_, .inl (.inl hL2)⟩, for_it (walk_list (xs := ch.map tx)) (fun i σ H' => ∃ y2 : Option V, σ = [some (.ref k.p), some (.int (g : Int)), y2] ∧ Sx k.ls H2 H' ∧ OrdsTo H' cols (fun j => if j < i then outT th g else th) ch k.ls)
      ⟨_, rfl, Sx.rfl', or1.keep fun b _ o e => sm2 _ _ e⟩ (fun i σ H' _ hP => ?_) (fun i x σ H4 H3 hi hP hY => ?_) (fun σ H3 hP => ?_)⟩
    · obtain ⟨_, _, sx, _⟩ := hP
      exact .inl (.inl (sx _ _ Lls hL2))
    · obtain ⟨y2, rfl, sx3, or3⟩ := hP
      obtain ⟨rfl, hx⟩ := hY
      rw [List.getElem?_map] at hx
      obtain ⟨o, ho, rfl⟩ := Option.map_eq_some_iff.mp hx
      have hi2 : i < ch.length := (List.getElem?_eq_some_iff.mp ho).1
      obtain ⟨l, hl⟩ : ∃ l, k.ls[i]? = some l := ⟨k.ls[i]'(by have := kp.len; omega), List.getElem?_eq_getElem (by have := kp.len; omega)⟩
      obtain ⟨ns, hl3, ord⟩ := or3 i o l ho hl
      dsimp only at ord
      rw [if_neg (Nat.lt_irrefl i)] at ord
      have hp3 := sx3 _ _ (fun z => (lsn _ z).1 rfl) hp2
      have hod3 := sx3 _ _ (fun z => (lsn _ z).2.2.2 rfl) hod2
      have nsn : ns.Nodup := ord.perm.nodup_iff.mpr hok.nd
      have gin : g ∈ ns := ord.perm.mem_iff.mpr hg
      obtain ⟨j, hj, ej⟩ := List.getElem_of_mem gin
      have hjg : ns[j]? = some g := by rw [List.getElem?_eq_getElem hj, ej]
      have enV : ns.map nV = (ns.map fun x : Nat => (x : Int)).map V.int := by rw [List.map_map]; rfl
      rw [enV] at hl3
      refine ⟨.ref k.p, rfl, k.p, Z.C_Kept, dx, _, _, rfl, hp3, T.cl_Kept, T.n_Kept_orders, kpF3_orders _ _ _, tx o, rfl, k.od, .ref l, rfl, .inl ⟨ordK ch k.ls, Sum.inr (txS o), .inl hod3, rfl, (ordK_val hch.nd ho hl).symm⟩, ?_⟩
      refine ⟨.inl ⟨rfl, _, .inl (.inl hl3)⟩, _, rfl, l, _, (g : Int), j, rfl, rfl, hl3, by rw [List.getElem?_map, hjg]; rfl, fun m hm e => ?_, ?_⟩
      · rw [List.getElem?_map] at e
        obtain ⟨a, ha, ea⟩ := Option.map_eq_some_iff.mp e
        have : a = g := by omega
        rw [this] at ha
        have := (List.getElem?_inj (show m < ns.length by omega) nsn).mp (ha.trans hjg.symm)
        omega
      · refine ⟨_, rfl, fun b u nb e => keep_ne (sx3 b u nb e) fun z => nb (by rw [z]; exact List.mem_of_getElem? hl), fun j' o' l' ho' hl' => ?_⟩
        dsimp only
        by_cases ej' : j' = i
        · subst ej'
          rw [ho] at ho'
          cases ho'
          rw [hl] at hl'
          cases hl'
          rw [if_pos (Nat.lt_succ_self j')]
          refine ⟨_, ?_, ord.out g⟩
          rw [upd_same, ← erase_filter nsn hjg, erase_map, List.map_map]
          rfl
        · obtain ⟨ns', h1, h2⟩ := or3 j' o' l' ho' hl'
          have ne : l' ≠ l := fun z => ej' ((List.getElem?_inj (show j' < k.ls.length from (List.getElem?_eq_some_iff.mp hl').1) kp.nd).mp (by rw [hl', hl, z]))
          refine ⟨ns', keep_ne h1 ne, ?_⟩
          have e1 : (if j' < i + 1 then outT th g else th) = if j' < i then outT th g else th := by
            by_cases hj : j' < i
            · rw [if_pos hj, if_pos (by omega)]
            · rw [if_neg hj, if_neg (by omega)]
          rw [e1]
          exact h2
    · obtain ⟨y2, rfl, sx3, or3⟩ := hP
      have hp3 := sx3 _ _ (fun z => (lsn _ z).1 rfl) hp2
      have hod3 := sx3 _ _ (fun z => (lsn _ z).2.2.2 rfl) hod2
      obtain ⟨dr1, kvs1, hr1, ht1, nm1⟩ := id hR1
      have hr3 := sx3 _ _ (fun z => (lsn _ z).2.1 rfl) (sm2 _ _ hr1)
      have ht3 := sx3 _ _ (fun z => (lsn _ z).2.2.1 rfl) (sm2 _ _ ht1)
      have tg3 : TG Z.Ps H3 := fun b hb => by
        obtain ⟨ps, h1, h2⟩ := tg1 b hb
        exact ⟨ps, sx3 _ _ (fun z => kp.noTbl tg (b := b) (by simp [z]) hb) (sm2 _ _ h1), h2⟩
      refine ⟨.ref k.p, rfl, k.p, Z.C_Kept, dx, _, _, rfl, hp3, T.cl_Kept, T.n_Kept_moves, kpF3_moves _ _ _, .ref k.p, rfl, k.p, Z.C_Kept, dx, _, _, rfl, hp3, T.cl_Kept, T.n_Kept_orders, kpF3_orders _ _ _, k.od, ordK ch k.ls, rfl, hod3, _, _, rfl, rfl, dx, _, hp3, (by show 3 < 1000; decide), ?_⟩
      rw [kpF3_again, ordK_len kp.len]
      have sx4 : Sx (k.F ++ Z.Ps) H (upd H3 k.p (.ins Z.C_Kept dx (kpF3 k.r k.od (mv + (ch.length : Nat))))) := fun b o nb e => by
        have nF : b ∉ k.F := fun z => nb (List.mem_append_left _ z)
        simp only [KAd.F, List.mem_cons, not_or] at nF
        exact keep_ne (sx3 _ _ nF.2.2.2.2 (sm2 _ _ (sx1 _ _ (n1 nF.2.2.1) e))) nF.1
      refine q _ sx4 (TG.put tg3 (kp.noTbl tg (by simp))) ⟨⟨dx, upd_same⟩, ⟨dr1, kvs1, keep_ne hr3 kp.npr.symm, keep_ne ht3 nptd.symm, nm1.kt fun b xs e => ?_⟩, keep_ne hod3 npod.symm, kp.len, kp.nd, fun i o l ho hl => ?_, kp.npr, kp.nto⟩
      · refine keep_ne (sx3 _ _ (fun z => ?_) (sm2 _ _ e)) fun z => ?_
        · obtain ⟨i, hi, ei⟩ := List.getElem_of_mem z
          obtain ⟨ns, h1, _⟩ := or1 i _ b (List.getElem?_eq_getElem (by have := kp.len; omega : i < ch.length)) (by rw [List.getElem?_eq_getElem hi, ei])
          rw [e] at h1
          cases h1
        · rw [z, hp1] at e
          cases e
      · obtain ⟨ns, h1, h2⟩ := or3 i o l ho hl
        dsimp only at h2
        rw [List.length_map, if_pos ((List.getElem?_eq_some_iff.mp ho).1)] at h2
        exact ⟨ns, keep_ne h1 (lsn l (List.mem_of_getElem? hl)).1, h2⟩

/-! ### Kept.sorted_by, Kept.moved -/
def spSortedBy (K : PySem.W.Frag) (Z : Ad) : Sp := fun vs H Q _ => ∃ (k : KAd) (cols : List Nat) (th : Nmd) (n : Nat) (ch : List (List Nat)) (mv : Int) (o : List Nat), vs = [.ref k.p, tx o] ∧ KeptAt Z.C_Kept Z.C_Rows H k cols th n ch mv ∧ ch.Nodup ∧ o ∈ ch ∧
  ∀ (L : Addr) (ns : List Nat) (H' : Hp), Same H H' → H L = none → H' L = some (.lst (ns.map nV)) → IsOrd cols th o ns → Q (.ref L) H'
theorem ok_sortedby (T : Tx K mg Z) : FnOk P w K mg base CX0 1 Z.f_Kept_sorted_by Z.d_Kept_sorted_by ["self", "one"] (spSortedBy K Z) := by
  refine T.F_Kept_sorted_by.ok sc_Kept_sorted_by (fun vs H Q E h => ?_) (fun cdv A outer s H vs Q E hr h => ?_)
  · obtain ⟨k, cols, th, n, ch, mv, o, rfl, _⟩ := h
    rfl
  · obtain ⟨k, cols, th, n, ch, mv, o, rfl, kp, hnd, ho, q⟩ := h
    refine ⟨_, (pss_one (ps_ret (pe_callTy (cListSq K) (by rfl) T.m_list (by decide +kernel) (pa_cons (pe_dget (hu_of hr) (fldK K (pv 0) rfl) (pv 1) (fun _ _ => rfl)) pa_nil)))), ?_⟩
    obtain ⟨dx, hp⟩ := kp.self
    obtain ⟨i, hi, ei⟩ := List.getElem_of_mem ho
    have ho' : ch[i]? = some o := by rw [List.getElem?_eq_getElem hi, ei]
    obtain ⟨l, hl⟩ : ∃ l, k.ls[i]? = some l := ⟨k.ls[i]'(by have := kp.len; omega), List.getElem?_eq_getElem (by have := kp.len; omega)⟩
    obtain ⟨ns, h1, h2⟩ := kp.ords i o l ho' hl
    refine ⟨.ref k.p, rfl, k.p, Z.C_Kept, dx, _, _, rfl, hp, T.cl_Kept, T.n_Kept_orders, kpF3_orders _ _ _, tx o, rfl, k.od, .ref l, rfl, .inl ⟨ordK ch k.ls, Sum.inr (txS o), .inl kp.dict, rfl, (ordK_val hnd ho' hl).symm⟩, ?_⟩
    exact ⟨l, _, rfl, .inl (.inl (.inl h1)), fun L nL => q L ns _ (Same.new (Same.refl H) nL) nL upd_same h2⟩
def spMoved (K : PySem.W.Frag) (Z : Ad) : Sp := fun vs H Q _ => ∃ (k : KAd) (cols : List Nat) (th : Nmd) (n : Nat) (ch : List (List Nat)) (mv : Int), vs = [.ref k.p] ∧ KeptAt Z.C_Kept Z.C_Rows H k cols th n ch mv ∧ Q (.int mv) H
theorem ok_moved (T : Tx K mg Z) : FnOk P w K mg base CX0 1 Z.f_Kept_moved Z.d_Kept_moved ["self"] (spMoved K Z) := by
  refine T.F_Kept_moved.ok sc_Kept_moved (fun vs H Q E h => ?_) (fun cdv A outer s H vs Q E hr h => ?_)
  · obtain ⟨k, cols, th, n, ch, mv, rfl, _⟩ := h
    rfl
  · obtain ⟨k, cols, th, n, ch, mv, rfl, kp, q⟩ := h
    refine ⟨_, (pss_one (ps_ret (fldK K (pv 0) rfl))), ?_⟩
    obtain ⟨dx, hp⟩ := kp.self
    exact ⟨.ref k.p, rfl, k.p, Z.C_Kept, dx, _, _, rfl, hp, T.cl_Kept, T.n_Kept_moves, kpF3_moves _ _ _, q⟩

/-! ### what the laws on keepers need -/
theorem kpF3_no_sorted_by (r od : Addr) (mv : Int) : (kpF3 r od mv).lookup ("sorted_by" : Str) = none := by kernel_rfl
theorem kpF3_no_ask (r od : Addr) (mv : Int) : (kpF3 r od mv).lookup ("ask" : Str) = none := by kernel_rfl
theorem kpF3_no_take (r od : Addr) (mv : Int) : (kpF3 r od mv).lookup ("take" : Str) = none := by kernel_rfl
theorem kpF3_no_put (r od : Addr) (mv : Int) : (kpF3 r od mv).lookup ("put" : Str) = none := by kernel_rfl
theorem kpF3_no_moved (r od : Addr) (mv : Int) : (kpF3 r od mv).lookup ("moved" : Str) = none := by kernel_rfl
theorem nV_map (l : List Nat) : l.map nV = (l.map fun x : Nat => (x : Int)).map V.int := by
  rw [List.map_map]
  rfl
theorem ints_up {a b : List Nat} (h : (a.map fun x : Nat => (x : Int)).Perm (b.map fun x : Nat => (x : Int))) (ha : a.Pairwise (· < ·)) (hb : b.Pairwise (· < ·)) : a = b := by
  have e := ints_one (l := a.map fun x : Nat => (x : Int)) (k := b.map fun x : Nat => (x : Int)) (List.pairwise_map.mpr (ha.imp fun {x y} z => by omega)) (List.pairwise_map.mpr (hb.imp fun {x y} z => by omega)) h
  have e2 := congrArg (List.map Int.toNat) e
  rw [List.map_map, List.map_map] at e2
  have id1 : ∀ l : List Nat, l.map (Int.toNat ∘ fun x : Nat => (x : Int)) = l := fun l => by
    conv => rhs; rw [← List.map_id l]
    exact List.map_congr_left fun x _ => Int.toNat_natCast x
  rwa [id1, id1] at e2
theorem num_at {th : Nmd} {i : Nat} (h : i < th.length) : (th.map (·.1))[i]? = some (numAt th i) := by
  rw [List.getElem?_map, List.getElem?_eq_getElem h]
  unfold numAt
  rw [getD_at h]
  rfl
theorem eqv_nums (a b : List Nat) : PyData.eqv (.list (a.map fun x : Nat => PyData.int x)) (.list (b.map fun x : Nat => PyData.int x)) = true ↔ a = b := by
  have key : ∀ a b : List Nat, PyData.eqvAll (a.map fun x : Nat => PyData.int x) (b.map fun x : Nat => PyData.int x) = true ↔ a = b := fun a => by
    induction a with
    | nil =>
      intro b
      cases b with
      | nil => exact ⟨fun _ => rfl, fun _ => rfl⟩
      | cons y b => exact ⟨fun z => (by cases z), fun z => (by cases z)⟩
    | cons x a ih =>
      intro b
      cases b with
      | nil => exact ⟨fun z => (by cases z), fun z => (by cases z)⟩
      | cons y b =>
        show (PyData.eqv (.int x) (.int y) && PyData.eqvAll (a.map fun x : Nat => PyData.int x) (b.map fun x : Nat => PyData.int x)) = true ↔ _
        rw [Bool.and_eq_true, ih b]
        show (((x : Int) == (y : Int)) = true ∧ _) ↔ _
        rw [beq_iff_eq]
        constructor
        · rintro ⟨h1, h2⟩
          rw [h2, show x = y by omega]
        · intro h
          cases h
          exact ⟨rfl, rfl⟩
  exact key a b
theorem dp_nums {K : PySem.W.Frag} {H : Hp} : ∀ l : List Nat, DpAll K H (l.map nV) (l.map fun x : Nat => PyData.int x)
  | [] => .nil
  | x :: l => .cons (.int _) (dp_nums l)
theorem shaped_nums (l : List Nat) : SeqAt.shaped (.list (l.map fun x : Nat => PyData.int x)) = true := by
  have e : (l.map fun x : Nat => PyData.int x) = (l.map fun x : Nat => (x : Int)).map PyData.int := by rw [List.map_map]; rfl
  rw [e]
  exact shaped_ints _
theorem tab_kp' {r P : Addr} {q : Str} {H H' : Hp} {xs : List V} (t : LamX.TabS H P q) (hr : H r = some (.lst xs)) (k : Kp r H H') : LamX.TabS H' P q := by
  obtain ⟨ps, h1, h2, h3⟩ := t
  refine ⟨ps, k _ _ (fun z => by rw [z, hr] at h1; cases h1) h1, h2, fun pos cv e => ?_⟩
  obtain ⟨c, e1, e2⟩ := h3 pos cv e
  exact ⟨c, e1, k _ _ (fun z => by
    rw [z, hr] at e2
    have e3 := Option.some.inj e2
    unfold LamX.CodeO at e3
    cases e3) e2⟩

/-! ### asked of the lists -/
theorem kpF3_no_numbers_read (r od : Addr) (mv : Int) : (kpF3 r od mv).lookup ("numbers_read" : Str) = none := by kernel_rfl
def spNumbersRead (K : PySem.W.Frag) (Z : Ad) : Sp := fun vs H Q _ => ∃ (k : KAd) (tv qv : V) (ov : Option (List Nat)) (cols : List Nat) (th : Nmd) (n : Nat) (ch : List (List Nat)) (mv : Int) (es : List (Nat × Int)) (rc : Option (Nat × Int × Int)), vs = [.ref k.p, tv, oV ov, qv] ∧ TG Z.Ps H ∧ KeptAt Z.C_Kept Z.C_Rows H k cols th n ch mv ∧ NmOk cols.length th n ∧ th.length ≤ 60 ∧ ChL cols ch ∧ Fz H tv (tabD cols (th.map (·.2))) ∧ (∀ o, ov = some o → o ∈ ch) ∧ QZ H qv es rc ∧ QOk cols es rc ∧ es.length ≤ 1000 ∧
  ∀ (L : Addr) (near : List Nat) (H' : Hp), Sx Z.Ps H H' → TG Z.Ps H' → H' L = some (.lst (near.map nV)) → (near.length : Int) = readN cols (th.map (·.2)) es rc ov → (∀ m ∈ near, m ∈ th.map (·.1)) → ((near.filter fun m => fitsM cols (rowT th m) es rc).Perm (fitT cols th es rc)) → Q (.ref L) H'
theorem ok_numbersread (T : Tx K mg Z) (TB : Tb base mg Z) : FnOk P w K mg base CX0 4 Z.f_Kept_numbers_read Z.d_Kept_numbers_read ["self", "table", "one", "question"] (spNumbersRead K Z) := by
  have G_stretch : FnOk P w K mg base CX0 3 Z.f_stretch Z.d_stretch ["table", "one", "question"] (spStretch K Z) := ok_stretch T TB
  refine T.F_Kept_numbers_read.ok sc_Kept_numbers_read (fun vs H Q E h => ?_) (fun cdv A outer s H vs Q E hr h => ?_)
  · obtain ⟨k, tv, qv, ov, cols, th, n, ch, mv, es, rc, rfl, _⟩ := h
    rfl
  · obtain ⟨k, tv, qv, ov, cols, th, n, ch, mv, es, rc, rfl, tg, kp, hok, htl, hch, fT, hov, fq, hqok, hel, q⟩ := h
    refine ⟨_, (pss_cons (ps_if (pt_cmpR op_isN (pv 2) pe_non (nomark _)) (pss_one (ps_ret (pe_callTy (call_list_dK rfl) (by rfl) T.m_list (by decide +kernel) (pa_cons (fldK K (fldK K (pv 0) rfl) rfl) pa_nil)))) pss_nil)
      (pss_cons (ps_asg (pe_call G_stretch (hr.mono (by omega)) (by rfl) T.g_stretch T.F_stretch.kp T.b_stretch .nil pass0 (pa_cons (pv 1) (pa_cons (pv 2) (pa_cons (pv 3) pa_nil)))) (pgT K (n := 2) (pgs_cons (pg_name (i := 4) sc_Kept_numbers_read.nd rfl (.inl rfl)) (pgs_cons (pg_name (i := 5) sc_Kept_numbers_read.nd rfl (.inl rfl)) pgs_nil))))
      (pss_one (ps_ret (pe_slice (slLK K) (pe_dget (hu_of hr) (fldK K (pv 0) rfl) (pv 2) (fun _ _ => rfl)) (po_some (pv 4)) (po_some (pv 5))))))), ?_⟩
    obtain ⟨dx, hp⟩ := kp.self
    obtain ⟨dr, kvs, hr0, htd, nm⟩ := id kp.rows
    cases ov with
    | none =>
      refine ⟨.non, rfl, rfl, _, rfl, ite2 (fun _ => ?_) (fun z => absurd rfl z)⟩
      refine ⟨.ref k.p, rfl, k.p, Z.C_Kept, dx, _, _, rfl, hp, T.cl_Kept, T.n_Kept_rows, kpF3_rows _ _ _, k.r, Z.C_Rows, dr, _, _, rfl, hr0, T.cl_Rows, T.n_Rows_there, rwF3_there _ _ _, k.td, kvs, rfl, htd, fun L nL => ?_⟩
      have ek : kvs.map (fun kv => kV kv.1) = (th.map (·.1)).map nV := by
        have := congrArg (List.map kV) nm.keys
        rw [List.map_map, List.map_map] at this
        rw [List.map_map]
        exact this
      rw [ek]
      refine q L (th.map (·.1)) _ (Sx.new Sx.rfl' nL) (tg.new nL) upd_same (by rw [List.length_map]; show _ = ((th.map (·.2)).length : Int); rw [List.length_map]) (fun m h => h) ?_
      rw [all_fits hok]
    | some o =>
      refine ⟨tx o, rfl, rfl, _, rfl, ite2 (fun z => absurd z (by simp)) (fun _ => ?_)⟩
      have ho := hov o rfl
      obtain ⟨hol, hoc⟩ := hch.ok o ho
      refine ⟨tv, rfl, tx o, rfl, qv, rfl, tv, cols, th.map (·.2), o, qv, es, rc, rfl, tg, fT, hok.rows, by rw [List.length_map]; omega, hol, hoc, fq, hqok, hel, fun sp H1 sx1 tg1 nsp hsp => ?_⟩
      refine ⟨sp, [.int (aheadM cols (th.map (·.2)) o es rc : Nat), .int (behindM cols (th.map (·.2)) o es rc : Nat)], rfl, .inl (.inl hsp), rfl, .int (aheadM cols (th.map (·.2)) o es rc : Nat), [.int (behindM cols (th.map (·.2)) o es rc : Nat)], rfl, .int (behindM cols (th.map (·.2)) o es rc : Nat), [], rfl, rfl, ?_⟩
      obtain ⟨i, hi, ei⟩ := List.getElem_of_mem ho
      have ho' : ch[i]? = some o := by rw [List.getElem?_eq_getElem hi, ei]
      obtain ⟨l, hl⟩ : ∃ l, k.ls[i]? = some l := ⟨k.ls[i]'(by have := kp.len; omega), List.getElem?_eq_getElem (by have := kp.len; omega)⟩
      obtain ⟨ns, h1, h2⟩ := kp.ords i o l ho' hl
      have hp1 := sx1 _ _ (kp.noTbl tg (by simp)) hp
      have hod1 := sx1.dct tg kp.dict
      have hl1 := sx1.lst tg h1
      refine ⟨.ref k.p, rfl, k.p, Z.C_Kept, dx, _, _, rfl, hp1, T.cl_Kept, T.n_Kept_orders, kpF3_orders _ _ _, tx o, rfl, k.od, .ref l, rfl, .inl ⟨ordK ch k.ls, Sum.inr (txS o), .inl hod1, rfl, (ordK_val hch.nd ho' hl).symm⟩, ?_⟩
      refine ⟨.int (aheadM cols (th.map (·.2)) o es rc : Nat), rfl, _, rfl, .int (behindM cols (th.map (·.2)) o es rc : Nat), rfl, _, rfl, l, _, rfl, .inl (.inl hl1), fun S nS => ?_⟩
      have hnl := h2.len
      have hbl := behind_le cols (th.map (·.2)) o es rc
      rw [List.length_map] at hbl
      rw [cutV_nat _ _ _ (ahead_le hqok) (by rw [List.length_map, hnl]; exact hbl), ← List.map_drop, ← List.map_take]
      refine q S _ _ (sx1.new nS) (tg1.new nS) upd_same (near_len h2 hqok) (fun m hm => ?_) (near_fits hok hqok h2)
      exact h2.perm.mem_iff.mp (List.mem_of_mem_drop (List.mem_of_mem_take hm))
/-- the first by which least is read, of those looked at -/
structure FirstOf (f : Option (List Nat) → Int) (opts : List (Option (List Nat))) (i : Nat) (ov : Option (List Nat)) : Prop where
  at' : ∃ j, j < i ∧ opts[j]? = some ov ∧ ∀ (m : Nat) (o : Option (List Nat)), m < j → opts[m]? = some o → f ov < f o
  le : ∀ (m : Nat) (o : Option (List Nat)), m < i → opts[m]? = some o → f ov ≤ f o
theorem FirstOf.start {f : Option (List Nat) → Int} {opts : List (Option (List Nat))} {ov : Option (List Nat)} (h : opts[0]? = some ov) : FirstOf f opts 1 ov := by
  refine ⟨⟨0, by omega, h, fun m o hm => by omega⟩, fun m o hm e => ?_⟩
  have : m = 0 := by omega
  rw [this, h] at e
  cases e
  exact Int.le_refl _
theorem FirstOf.stay {f : Option (List Nat) → Int} {opts : List (Option (List Nat))} {i : Nat} {ov x : Option (List Nat)} (h : FirstOf f opts i ov) (hx : opts[i]? = some x) (g : ¬ f x < f ov) : FirstOf f opts (i + 1) ov := by
  obtain ⟨j, hj, e, l⟩ := h.at'
  refine ⟨⟨j, by omega, e, l⟩, fun m o hm e' => ?_⟩
  by_cases z : m = i
  · rw [z, hx] at e'
    cases e'
    omega
  · exact h.le m o (by omega) e'
theorem FirstOf.go {f : Option (List Nat) → Int} {opts : List (Option (List Nat))} {i : Nat} {ov x : Option (List Nat)} (h : FirstOf f opts i ov) (hx : opts[i]? = some x) (g : f x < f ov) : FirstOf f opts (i + 1) x := by
  refine ⟨⟨i, by omega, hx, fun m o hm e => ?_⟩, fun m o hm e' => ?_⟩
  · have := h.le m o hm e
    omega
  · by_cases z : m = i
    · rw [z, hx] at e'
      cases e'
      exact Int.le_refl _
    · have := h.le m o (by omega) e'
      omega
theorem FirstOf.best {cols : List Nat} {rows : List (List Int)} {ch : List (List Nat)} {es : List (Nat × Int)} {rc : Option (Nat × Int × Int)} {ov : Option (List Nat)} (h : FirstOf (fun o => priceByM cols rows o es rc) (ch.map some ++ [none]) (ch.length + 1) ov) : BestOf cols rows ch es rc ov := by
  obtain ⟨j, hj, e, l⟩ := h.at'
  have at1 : ∀ {m : Nat} {o : List Nat}, ch[m]? = some o → (ch.map some ++ [none])[m]? = some (some o) := fun {m o} e => by
    have hm := (List.getElem?_eq_some_iff.mp e).1
    rw [List.getElem?_append_left (by rw [List.length_map]; exact hm), List.getElem?_map, e]
    rfl
  have last : (ch.map some ++ [none])[ch.length]? = some none := by
    rw [List.getElem?_append_right (by rw [List.length_map]; exact Nat.le_refl _), List.length_map, Nat.sub_self]
    rfl
  match ov, e, l, h.le with
  | none, e, l, le =>
    intro o ho
    obtain ⟨m, hm, em⟩ := List.getElem_of_mem ho
    have hmo : ch[m]? = some o := by rw [List.getElem?_eq_getElem hm, em]
    refine l m (some o) (Nat.lt_of_lt_of_le hm ?_) (at1 hmo)
    apply Nat.le_of_not_lt
    intro z
    rw [at1 (List.getElem?_eq_getElem z)] at e
    cases e
  | some o, e, l, le =>
    refine ⟨?_, fun o' ho' => ?_, le ch.length none (Nat.lt_succ_self _) last⟩
    · have := List.mem_of_getElem? e
      rcases List.mem_append.mp this with z | z
      · obtain ⟨a, ha, ea⟩ := List.mem_map.mp z
        cases ea
        exact ha
      · cases List.mem_singleton.mp z
    · obtain ⟨m, hm, em⟩ := List.getElem_of_mem ho'
      have hmo : ch[m]? = some o' := by rw [List.getElem?_eq_getElem hm, em]
      exact le m (some o') (by omega) (at1 hmo)
def spKeptAsk (K : PySem.W.Frag) (Z : Ad) : Sp := fun vs H Q _ => ∃ (k : KAd) (qv : V) (cols : List Nat) (th : Nmd) (n : Nat) (ch : List (List Nat)) (mv : Int) (es : List (Nat × Int)) (rc : Option (Nat × Int × Int)), vs = [.ref k.p, qv] ∧ TG Z.Ps H ∧ LamX.TabS H Z.P_Kept_ask (lamQ "Kept.ask") ∧ KeptAt Z.C_Kept Z.C_Rows H k cols th n ch mv ∧ NmOk cols.length th n ∧ th.length ≤ 60 ∧ ChL cols ch ∧ QZ H qv es rc ∧ QOk cols es rc ∧ es.length ≤ 1000 ∧
  ∀ (t an : Addr) (ov : Option (List Nat)) (H' : Hp), Sx (Z.P_Kept_ask :: Z.Ps) H H' → TG Z.Ps H' → LamX.TabS H' Z.P_Kept_ask (lamQ "Kept.ask") → H t = none → H an = none → H' t = some (.tup [.ref an, oV ov, .int (readN cols (th.map (·.2)) es rc ov)]) → H' an = some (.lst ((fitT cols th es rc).map nV)) → BestOf cols (th.map (·.2)) ch es rc ov → Q (.ref t) H'
set_option maxHeartbeats 4000000 in
theorem ok_keptask (T : Tx K mg Z) (TB : Tb base mg Z) : FnOk P w K mg base CX0 7 Z.f_Kept_ask Z.d_Kept_ask ["self", "question"] (spKeptAsk K Z) := by
  have G_Rows_as_table : FnOk P w K mg base CX0 1 Z.f_Rows_as_table Z.d_Rows_as_table ["self"] (spAsTable K Z) := ok_astable T
  have G_price_by : FnOk P w K mg base CX0 4 Z.f_price_by Z.d_price_by ["table", "one", "question"] (spPriceBy K Z) := ok_priceby T TB
  have G_Kept_numbers_read : FnOk P w K mg base CX0 4 Z.f_Kept_numbers_read Z.d_Kept_numbers_read ["self", "table", "one", "question"] (spNumbersRead K Z) := ok_numbersread T TB
  have G_fits : FnOk P w K mg base CX0 2 Z.f_fits Z.d_fits ["columns", "row", "question"] (spFits K) := ok_fits T
  refine T.C_Kept_ask.ok sc_Kept_ask (fun vs H Q E h => ?_) (fun A outer s H vs Q E hr h => ?_)
  · obtain ⟨k, qv, cols, th, n, ch, mv, es, rc, rfl, _⟩ := h
    rfl
  · obtain ⟨k, qv, cols, th, n, ch, mv, es, rc, rfl, tg, tab, kp, hok, htl, hch, fq, hqok, hel, q⟩ := h
    refine ⟨_, (pss_cons (ps_set (i := 5) sc_Kept_ask.nd rfl (.inr rfl) (pe_meth0 (fldK K (pv 0) rfl) T.cl_Rows T.m_Rows_as_table G_Rows_as_table (hr.mono (by omega)) T.b_Rows_as_table .nil pass0))
      (pss_cons (ps_set (i := 2) sc_Kept_ask.nd rfl (.inl rfl) (pe_minLam (N := ["other", "table", "question"]) (fr := ["table", "question"]) (js := [5, 1]) (k := 4) K (by rfl) (hr.mono (by omega)) (by rfl) T.m_min (TB.t_Kept_ask) rfl (lamT_by (by kernel_rfl) (by kernel_rfl) (by kernel_rfl) (by rfl) (fun _ _ _ _ => rfl)) rfl op_lt (pa_cons (pe_lst (paStarD (by rfl) (fldK K (pv 0) rfl) (pa_cons pe_non pa_nil))) pa_nil) (fun _ _ _ _ _ hr => (pe_call G_price_by (hr.mono (by omega)) (by rfl) T.g_price_by T.F_price_by.kp T.b_price_by .nil pass0 (pa_cons (pv 1) (pa_cons (pv 0) (pa_cons (pv 2) pa_nil)))))))
      (pss_cons (ps_set (i := 3) sc_Kept_ask.nd rfl (.inl rfl) (pe_meth (pv 0) T.cl_Kept T.m_Kept_numbers_read G_Kept_numbers_read (hr.mono (by omega)) T.b_Kept_numbers_read .nil pass0 (pa_cons (pv 5) (pa_cons (pv 2) (pa_cons (pv 1) pa_nil)))))
      (pss_cons (ps_setLc (i := 4) (own := [("number", 6)]) (tt := _) (by rfl) sc_Kept_ask.nd rfl rfl (sw_true rfl rfl rfl (by decide +kernel)) (piL K (pv 3)) (blkOk_by (own := [("number", 6)]) (by kernel_rfl)) (fun _ _ _ _ _ => (pg_name (i := 6) sc_Kept_ask.nd rfl (.inl rfl))) (fun _ _ _ _ _ => (pts_one (pt_val (pe_call G_fits (hr.mono (by omega)) (by rfl) T.g_fits T.F_fits.kp T.b_fits .nil pass0 (pa_cons (fldK K (fldK K (pv 0) rfl) rfl) (pa_cons (pe_dget (hu_of hr) (fldK K (fldK K (pv 0) rfl) rfl) (pv 6) (fun _ _ => rfl)) (pa_cons (pv 1) pa_nil))))))) (fun _ _ _ _ _ => (pv 6)))
      (pss_one (ps_ret (pe_tup (pa_cons (pe_callB cr_sortedI (by rfl) T.m_sorted (by decide +kernel) (pa_cons (pv 4) pa_nil)) (pa_cons (pv 2) (pa_cons (pe_callB (cLenSq K) (by rfl) T.m_len (by decide +kernel) (pa_cons (pv 3) pa_nil)) pa_nil)))))))))), ?_⟩
    obtain ⟨dx, hp⟩ := kp.self
    obtain ⟨dr, kvs, hr0, htd, nm⟩ := id kp.rows
    have tgP := tab_tg tab tg
    -- table
    refine ⟨.ref k.p, rfl, k.p, Z.C_Kept, dx, _, _, rfl, hp, T.cl_Kept, T.n_Kept_rows, kpF3_rows _ _ _, k.r, dr, _, rfl, hr0, rwF3_no_as_table _ _ _, k.r, k.td, cols, th, n, rfl, kp.rows, fun t H1 sm1 nt fT => ?_⟩
    have tg1 := tg.same sm1
    have tab1 := tab_same tab sm1
    have hp1 := sm1 _ _ hp
    have hod1 := sm1 _ _ kp.dict
    have fq1 := fq.kT (Same.kT sm1)
    -- one
    refine ⟨.ref k.p, rfl, k.p, Z.C_Kept, dx, _, _, rfl, hp1, T.cl_Kept, T.n_Kept_orders, kpF3_orders _ _ _, k.od, ordK ch k.ls, rfl, hod1, ?_⟩
    rw [ordK_keys kp.len]
    have hcl := hch.len
    refine ⟨?_, fun L nL => ?_⟩
    · rw [List.length_append, List.length_map]
      exact Nat.le_of_lt (small1000 (show ch.length + 1 ≤ 1000 by omega))
    have eopt : ch.map tx ++ [V.non] = (ch.map some ++ [none]).map oV := by
      rw [List.map_append, List.map_map]
      rfl
    show _ ∧ _
    rw [eopt]
    have hopl : (ch.map some ++ [none]).length = ch.length + 1 := by rw [List.length_append, List.length_map]; rfl
    have opin : ∀ ov ∈ ch.map some ++ [none], ∀ o, ov = some o → o ∈ ch := fun ov hov o e => by
      rcases List.mem_append.mp hov with z | z
      · obtain ⟨a, ha, ea⟩ := List.mem_map.mp z
        rw [← ea] at e
        cases e
        exact ha
      · rw [List.mem_singleton.mp z] at e
        cases e
    have opok : ∀ ov ∈ ch.map some ++ [none], ∀ o, ov = some o → o.length ≤ 1000 ∧ ∀ c ∈ o, c ∈ cols := fun ov hov o e => hch.ok o (opin ov hov o e)
    obtain ⟨o0, ho0⟩ : ∃ o0, (ch.map some ++ [none])[0]? = some o0 := ⟨_, List.getElem?_eq_getElem (by omega)⟩
    have smL := Same.new (o := .lst ((ch.map some ++ [none]).map oV)) sm1 nL
    have hLL : (upd H1 L (.lst ((ch.map some ++ [none]).map oV))) L = some (.lst ((ch.map some ++ [none]).map oV)) := upd_same
    have fTL : Fz (upd H1 L (.lst ((ch.map some ++ [none]).map oV))) (.ref t) (tabD cols (th.map (·.2))) := fT.kt (Kt.new nL)
    generalize hopt : ch.map some ++ [none] = opts at hopl opin opok ho0 smL hLL fTL ⊢
    generalize upd H1 L (.lst (opts.map oV)) = HL at smL hLL fTL ⊢
    have tgL := tg.same smL
    have tabL := tab_same tab smL
    refine ⟨tabL, L, opts.map oV, oV o0, rfl, .inl (.inl hLL), by rw [List.getElem?_map, ho0]; rfl, fun c' H2 sx2 tab2 hco => ?_⟩
    have tg2 : TG Z.Ps H2 := fun b hb => by
      obtain ⟨ps, h1, h2⟩ := tgL b hb
      exact ⟨ps, sx2 _ _ (fun z => T.l_Kept_ask (z ▸ hb)) h1, h2⟩
    have sxL2 : Sx (Z.P_Kept_ask :: Z.Ps) HL H2 := fun b o nb e => sx2 b o (fun z => nb (by rw [z]; exact List.mem_cons_self)) e
    have tgPL := tab_tg tabL tgL
    have ktL2 := sxL2.kT tgPL
    have hL2 := sxL2.lst tgPL hLL
    have fT2 := fTL.kt ktL2.1
    have fq2 := (fq.kT (Same.kT smL)).kT ktL2
    have hrows := hok.rows
    have hrl : (th.map (·.2)).length ≤ 1000 := by rw [List.length_map]; omega
    refine ⟨fun i b kk H3 => ∃ ov, b = oV ov ∧ kk = .int (priceByM cols (th.map (·.2)) ov es rc) ∧ FirstOf (fun o => priceByM cols (th.map (·.2)) o es rc) opts i ov ∧ Sx Z.Ps H2 H3 ∧ TG Z.Ps H3, fun i b kk H3 hW => ?_, .inl (.inl hL2), ?_, fun i x b kk H3 hx hW => ?_, fun b kk H3 hW => ?_⟩
    · obtain ⟨_, _, _, _, sx3, _⟩ := hW
      exact ⟨.inl (.inl (sx3.lst tg2 hL2)), sx3 _ _ (tg2.not hco fun q z => by unfold LamX.CodeO at z; cases z) hco⟩
    · exact ⟨.ref t, rfl, oV o0, rfl, qv, rfl, .ref t, cols, th.map (·.2), o0, qv, es, rc, rfl, tg2, fT2, hrows, hrl, opok o0 (List.mem_of_getElem? ho0), fq2, hqok, hel, fun H4 sx4 tg4 => ⟨o0, rfl, rfl, .start ho0, sx4, tg4⟩⟩
    · obtain ⟨ov, rfl, rfl, fo, sx3, tg3⟩ := hW
      rw [List.getElem?_map] at hx
      obtain ⟨ox, hox, rfl⟩ := Option.map_eq_some_iff.mp hx
      have kt3 := sx3.kT tg2
      refine ⟨.ref t, rfl, oV ox, rfl, qv, rfl, .ref t, cols, th.map (·.2), ox, qv, es, rc, rfl, tg3, fT2.kt kt3.1, hrows, hrl, opok ox (List.mem_of_getElem? hox), fq2.kT kt3, hqok, hel, fun H4 sx4 tg4 => ?_⟩
      refine ⟨_, _, rfl, rfl, _, rfl, ?_⟩
      by_cases e : priceByM cols (th.map (·.2)) ox es rc < priceByM cols (th.map (·.2)) ov es rc
      · rw [decide_eq_true e]
        exact ⟨ox, rfl, rfl, fo.go hox e, sx3.trans sx4, tg4⟩
      · rw [decide_eq_false e]
        exact ⟨ov, rfl, rfl, fo.stay hox e, sx3.trans sx4, tg4⟩
    obtain ⟨ov, rfl, rfl, fo, sx3, tg3⟩ := hW
    have ovin : ov ∈ opts := by
      obtain ⟨j, _, e, _⟩ := fo.at'
      exact List.mem_of_getElem? e
    have best : BestOf cols (th.map (·.2)) ch es rc ov := by
      rw [List.length_map, hopl, ← hopt] at fo
      exact fo.best
    have sxA : Sx (Z.P_Kept_ask :: Z.Ps) H H3 := fun b o nb e => sx3 b o (fun z => nb (List.mem_cons_of_mem _ z)) (sxL2 b o nb (smL b o e))
    have ktA := sxA.kT tgP
    have kpA := kp.keep (fun b hb o e => sxA b o (kp.noTbl tgP hb) e) ktA.1
    have tabA := tab_sx tab2 tg2 sx3 T.l_Kept_ask
    obtain ⟨dx', hpA⟩ := kpA.self
    -- near
    refine ⟨.ref k.p, rfl, k.p, dx', _, rfl, hpA, kpF3_no_numbers_read _ _ _, .ref t, rfl, oV ov, rfl, qv, rfl, k, .ref t, qv, ov, cols, th, n, ch, mv, es, rc, rfl, tg3, kpA, hok, htl, hch, fT2.kt (sx3.kt tg2), opin ov ovin, fq.kT ktA, hqok, hel, fun Ln near H5 sx5 tg5 hLn hnl hnm hnf => ?_⟩
    have kt5 := sx5.kT tg3
    have kp5 := kpA.keep (fun b hb o e => sx5 b o (kpA.noTbl tg3 hb) e) kt5.1
    have fq5 := (fq.kT ktA).kT kt5
    have hnl60 : near.length ≤ 60 := by
      have nb : readN cols (th.map (·.2)) es rc ov ≤ ((th.map (·.2)).length : Int) := by
        match ov, best with
        | none, _ => exact Int.le_refl _
        | some o, b =>
          have := b.2.2
          show priceM cols (th.map (·.2)) o es rc - 1 ≤ _
          omega
      rw [List.length_map] at nb
      omega
    obtain ⟨dx5, hp5⟩ := kp5.self
    obtain ⟨dr5, kvs5, hr5, ht5, nm5⟩ := id kp5.rows
    -- found
    refine ⟨.ref Ln, rfl, Ln, rfl, ⟨_, .inl (.inl hLn)⟩, fun D nD => lc_it (walk_list (xs := near.map nV)) (fun i H' => Same H5 H' ∧ H' D = some (.lst (((near.take i).filter fun m => fitsM cols (rowT th m) es rc).map nV)))
      ⟨Same.new (Same.refl H5) nD, upd_same⟩ (fun i H' _ hP => .inl (.inl (hP.1 _ _ hLn))) (fun i x H7 H6 hi hP hY => ?_) (fun H6 hP => ?_)⟩
    · obtain ⟨sm6, hD6⟩ := hP
      obtain ⟨rfl, hx⟩ := hY
      rw [List.getElem?_map] at hx
      obtain ⟨m, hm, rfl⟩ := Option.map_eq_some_iff.mp hx
      obtain ⟨hi2, ei⟩ := List.getElem?_eq_some_iff.mp hm
      have hmt := rowT_mem hok.nd (hnm m (List.mem_of_getElem? hm))
      obtain ⟨v, hv, fv⟩ := nm5.at' hok.nd hmt
      refine ⟨rfl, .ref k.p, rfl, k.p, Z.C_Kept, dx5, _, _, rfl, sm6 _ _ hp5, T.cl_Kept, T.n_Kept_rows, kpF3_rows _ _ _, k.r, Z.C_Rows, dr5, _, _, rfl, sm6 _ _ hr5, T.cl_Rows, T.n_Rows_columns, rwF3_columns _ _ _, ?_⟩
      refine ⟨.ref k.p, rfl, k.p, Z.C_Kept, dx5, _, _, rfl, sm6 _ _ hp5, T.cl_Kept, T.n_Kept_rows, kpF3_rows _ _ _, k.r, Z.C_Rows, dr5, _, _, rfl, sm6 _ _ hr5, T.cl_Rows, T.n_Rows_there, rwF3_there _ _ _, nV m, rfl, k.td, v, rfl, .inl ⟨kvs5, nKy m, .inl (sm6 _ _ ht5), rfl, hv.symm⟩, ?_⟩
      refine ⟨qv, rfl, cols, v, rowT th m, qv, es, rc, rfl, fv.kt (Same.kt sm6), (hok.row _ hmt).1, fq5.kT (Same.kT sm6), hqok, hel, fun H8 sm8 => ⟨_, rfl, ite2 (fun z => ?_) (fun z => ?_)⟩⟩
      · have hD8 := sm8 _ _ hD6
        refine ⟨nV m, rfl, _, hD8, ?_, Same.mut (Same.trans sm6 sm8) nD, ?_⟩
        · rw [List.length_map]
          have := List.length_filter_le (fun m => fitsM cols (rowT th m) es rc) (near.take i)
          rw [List.length_take] at this
          exact small1000 (by omega)
        · rw [upd_same, List.take_succ_eq_append_getElem hi2, ei, List.filter_append, List.filter_cons, if_pos z, List.map_append]
          rfl
      · refine ⟨Same.trans sm6 sm8, ?_⟩
        rw [sm8 _ _ hD6, List.take_succ_eq_append_getElem hi2, ei, List.filter_append, List.filter_cons, if_neg z, List.filter_nil, List.append_nil]
    obtain ⟨sm6, hD6⟩ := hP
    rw [List.length_map, List.take_of_length_le (Nat.le_refl _)] at hD6
    have enV : ∀ l : List Nat, l.map nV = (l.map fun x : Nat => (x : Int)).map V.int := fun l => by rw [List.map_map]; rfl
    rw [enV] at hD6
    refine ⟨.ref D, rfl, D, _, rfl, .inl (.inl hD6), fun ns' R hpm hso nR => ?_⟩
    have ens : ns' = (fitT cols th es rc).map fun x : Nat => (x : Int) := by
      refine ints_one hso ?_ (hpm.trans (hnf.map _))
      rw [List.pairwise_map]
      exact (fitT_up hok).imp fun {a b} z => by omega
    rw [ens, ← enV]
    have hLn7 := keep_new (o := .lst ((fitT cols th es rc).map nV)) (sm6 _ _ hLn) nR
    refine ⟨oV ov, rfl, .ref Ln, rfl, Ln, _, rfl, .inl (.inl (.inl hLn7)), (by show 3 ≤ sizeLine; decide), fun u nu => ?_⟩
    have sm8 : Same H5 (upd (upd H6 R (.lst ((fitT cols th es rc).map nV))) u (.tup [.ref R, oV ov, .int ((near.map nV).length : Nat)])) := Same.new (Same.new sm6 nR) nu
    have sxF := (sxA.trans (fun b o nb e => sx5 b o (fun z => nb (List.mem_cons_of_mem _ z)) e)).trans (Same.sx sm8)
    refine q u R ov _ sxF (tg5.same sm8) (tab_same (tab_sx tabA tg3 sx5 T.l_Kept_ask) sm8) ?_ ?_ ?_ (keep_new upd_same nu) best
    · exact Sx.free (tab_tg (tab_sx tabA tg3 sx5 T.l_Kept_ask) tg5) (sxA.trans (fun b o nb e => sx5 b o (fun z => nb (List.mem_cons_of_mem _ z)) e)) (Same.free (Same.new sm6 nR) nu)
    · exact Sx.free (tab_tg (tab_sx tabA tg3 sx5 T.l_Kept_ask) tg5) (sxA.trans (fun b o nb e => sx5 b o (fun z => nb (List.mem_cons_of_mem _ z)) e)) (Same.free sm6 nR)
    · rw [upd_same, List.length_map, hnl]

/-! ### _law_choice -/
def spKChoice (K : PySem.W.Frag) : Sp := fun vs H Q _ => ∃ (r : Addr) (n : Int) (cols : List Nat) (m : Nat), vs = [.ref r, tx cols, .int m] ∧ H r = some (.lst [.int n]) ∧ 0 < cols.length ∧ cols.length ≤ 26 ∧ cols.Nodup ∧ m ≤ 20 ∧
  ∀ (ch : List (List Nat)) (p : Addr) (n' : Int) (H' : Hp), Kp r H H' → H' r = some (.lst [.int n']) → H' p = some (.tup (ch.map tx)) → ChOk cols ch → ch.length ≤ m → Q (.ref p) H'
theorem ok_kchoice (T : Tx K mg Z) : FnOk P w K mg base CX0 3 Z.f_l_choice Z.d_l_choice ["reel", "columns", "many"] (spKChoice K) := by
  have G_l_pick : FnOk P w K mg base CX0 1 Z.f_l_pick Z.d_l_pick ["reel", "many"] (spPick K) := ok_pick T
  have G_l_one : FnOk P w K mg base CX0 2 Z.f_l_one Z.d_l_one ["reel", "columns"] (spOne K) := ok_one T
  refine T.F_l_choice.ok sc_l_choice (fun vs H Q E h => ?_) (fun cdv A outer s H vs Q E hr h => ?_)
  · obtain ⟨r, n, cols, m, rfl, _⟩ := h
    rfl
  · obtain ⟨r, n, cols, m, rfl, hR, hc0, hc1, hnd, hm, q⟩ := h
    refine ⟨_, (pss_cons (ps_set (i := 3) sc_l_choice.nd rfl (.inl rfl) (pe_callTy (cDictSq K) (by rfl) T.m_dict (by decide +kernel) (pa_cons (pe_lc (own := [("k", 4)]) (tt := tYes) (by rfl) sc_l_choice.nd (pi_range1 (by rfl) T.m_range (pa_cons (pe_call G_l_pick (hr.mono (by omega)) (by rfl) T.g_l_pick T.F_l_pick.kp T.b_l_pick .nil pass0 (pa_cons (pv 0) (pa_cons (pe_op op_add (pv 2) pe_int) pa_nil))) pa_nil)) (blkOk_by (own := [("k", 4)]) (by kernel_rfl)) (fun _ _ _ _ _ => (pg_name (i := 4) sc_l_choice.nd rfl (.inl rfl))) (fun _ _ _ _ _ => pts_nil) (fun _ _ _ _ _ => (pe_tup (pa_cons (pe_call G_l_one (hr.mono (by omega)) (by rfl) T.g_l_one T.F_l_one.kp T.b_l_one .nil pass0 (pa_cons (pv 0) (pa_cons (pv 1) pa_nil))) (pa_cons pe_bl pa_nil))))) pa_nil)))
      (pss_one (ps_ret (pe_callTy (cTupSq K) (by rfl) T.m_tuple (by decide +kernel) (pa_cons (pe_callB (call_sortedD rfl) (by rfl) T.m_sorted (by decide +kernel) (pa_cons (pv 3) pa_nil)) pa_nil))))), ?_⟩
    refine ⟨.ref r, rfl, .int m, rfl, m, 1, rfl, rfl, r, n, _, rfl, hR, by omega, by omega, fun d n1 d0 d1 => ?_⟩
    have hR1 : (upd H r (.lst [.int n1])) r = some (.lst [.int n1]) := upd_same
    have kp1 : Kp r H (upd H r (.lst [.int n1])) := Kp.own Kp.rfl'
    generalize upd H r (.lst [.int n1]) = H1 at hR1 kp1 ⊢
    refine ⟨d, rfl, by omega, by omega, fun D nD => lc_range (fun i H' => ∃ (n2 : Int) (vs : List V) (os : List (List Nat)), Kp r H1 H' ∧ H' r = some (.lst [.int n2]) ∧ H' D = some (.lst vs) ∧ FzA H' vs (os.map chD) ∧ os.length = i ∧ ∀ o ∈ os, OneOk cols o)
      ⟨n1, [], [], Kp.new Kp.rfl' nD, keep_new hR1 nD, upd_same, .nil, rfl, (fun o h => nomatch h)⟩ (fun i H2 hi hP => ?_) (fun H2 hP => ?_)⟩
    · obtain ⟨n2, vs, os, kp2, hR2, hD2, fA, hol, hoo⟩ := hP
      have nDr : D ≠ r := (ne_of_none hR1 nD).symm
      refine ⟨rfl, .ref r, rfl, tx cols, rfl, r, n2, cols, rfl, hR2, by omega, by omega, fun one rest n3 H3 kp3 hR3 hperm hone => ?_⟩
      refine ⟨(by show 2 ≤ sizeLine; decide), fun tp ntp => ?_⟩
      have hD3 : (upd H3 tp (.tup [tx one, .bl true])) D = some (.lst vs) := keep_new (kp3 _ _ nDr hD2) ntp
      have kt3 : Kt H2 (upd H3 tp (.tup [tx one, .bl true])) := (kp3.kt hR2).trans (Kt.new ntp)
      have ftp : Fz (upd H3 tp (.tup [tx one, .bl true])) (.ref tp) (chD one) := Fz.made ntp (.cons (.str _) (.cons (.bl _) .nil))
      refine ⟨vs, hD3, ?_, n3, vs ++ [.ref tp], os ++ [one], ((kp2.trans kp3).new ntp).mut nD, keep_ne (keep_new hR3 ntp) nDr.symm, upd_same, ?_, by rw [List.length_append, hol]; rfl, fun o ho => ?_⟩
      · have := fA.len
        rw [List.length_map] at this
        exact small1000 (by omega)
      · rw [List.map_append]
        exact (fA.kt (kt3.trans (Kt.lst hD3))).snoc (ftp.kt (Kt.lst hD3))
      · rcases List.mem_append.mp ho with z | z
        · exact hoo o z
        · rw [List.mem_singleton.mp z]
          exact one_ok hnd hperm hone
    obtain ⟨n2, vs, os, kp2, hR2, hD2, fA, hol, hoo⟩ := hP
    obtain ⟨pas, rfl, hpas⟩ := ch_pairs (K := K) fA
    refine ⟨D, pas, _, rfl, .inl (.inl hD2), hpas, fun e ne => ?_⟩
    obtain ⟨ks, hks, hksl, hkf⟩ := merge_choice hoo
    refine ⟨.ref e, rfl, e, _, ks, rfl, .inl upd_same, hks, by omega, fun ys p hyp hys np => ?_⟩
    obtain ⟨ch, rfl, hch, hchl⟩ := hkf ys hyp hys
    rw [ch_tx]
    refine ⟨p, _, rfl, .inl ⟨.inl (.inl upd_same), fun u nu => ?_⟩⟩
    exact q ch u n2 _ ((((kp1.trans kp2).new ne).new np).new nu) (keep_new (keep_new (keep_new hR2 ne) np) nu) upd_same hch (by omega)

/-! ### Kept.next_number -/
theorem kpF3_no_next_number (r od : Addr) (mv : Int) : (kpF3 r od mv).lookup ("next_number" : Str) = none := by kernel_rfl
def spNext (K : PySem.W.Frag) (Z : Ad) : Sp := fun vs H Q _ => ∃ (k : KAd) (cols : List Nat) (th : Nmd) (n : Nat) (ch : List (List Nat)) (mv : Int), vs = [.ref k.p] ∧ KeptAt Z.C_Kept Z.C_Rows H k cols th n ch mv ∧ Q (.int (n : Int)) H
theorem ok_next (T : Tx K mg Z) : FnOk P w K mg base CX0 1 Z.f_Kept_next_number Z.d_Kept_next_number ["self"] (spNext K Z) := by
  refine T.F_Kept_next_number.ok sc_Kept_next_number (fun vs H Q E h => ?_) (fun cdv A outer s H vs Q E hr h => ?_)
  · obtain ⟨k, cols, th, n, ch, mv, rfl, _⟩ := h
    rfl
  · obtain ⟨k, cols, th, n, ch, mv, rfl, kp, q⟩ := h
    refine ⟨_, (pss_one (ps_ret (fldK K (fldK K (pv 0) rfl) rfl))), ?_⟩
    obtain ⟨dx, hp⟩ := kp.self
    obtain ⟨dr, kvs, hr0, _, _⟩ := kp.rows
    exact ⟨.ref k.p, rfl, k.p, Z.C_Kept, dx, _, _, rfl, hp, T.cl_Kept, T.n_Kept_rows, kpF3_rows _ _ _, k.r, Z.C_Rows, dr, _, _, rfl, hr0, T.cl_Rows, T.n_Rows_coming, rwF3_coming _ _ _, q⟩

/-! ### one keeper, and what the law keeps of it -/
structure OneK (CK CR : Addr) (H : Hp) (k : KAd) (d : Addr) (cols : List Nat) (th : Nmd) (n : Nat) (ch : List (List Nat)) (mv : Int) : Prop where
  kp : KeptAt CK CR H k cols th n ch mv
  ok : NmOk cols.length th n
  dd : ∃ kvs, H d = some (.dK kvs) ∧ NmK H kvs th
  nd : d ∉ k.F
theorem OneK.keep {CK CR : Addr} {H H' : Hp} {k : KAd} {d : Addr} {cols : List Nat} {th : Nmd} {n : Nat} {ch : List (List Nat)} {mv : Int} (h : OneK CK CR H k d cols th n ch mv) (s : ∀ b ∈ d :: k.F, ∀ o, H b = some o → H' b = some o) (kt : Kt H H') : OneK CK CR H' k d cols th n ch mv :=
  ⟨h.kp.keep (fun b hb => s b (List.mem_cons_of_mem _ hb)) kt, h.ok, (by
    obtain ⟨kvs, h1, h2⟩ := h.dd
    exact ⟨kvs, s _ List.mem_cons_self _ h1, h2.kt kt⟩), h.nd⟩
theorem OneK.kind {CK CR : Addr} {H : Hp} {k : KAd} {d : Addr} {cols : List Nat} {th : Nmd} {n : Nat} {ch : List (List Nat)} {mv : Int} (h : OneK CK CR H k d cols th n ch mv) {b : Addr} (hb : b ∈ d :: k.F) : ∃ o, H b = some o ∧ ((∃ C dx fs, o = .ins C dx fs) ∨ (∃ kvs, o = .dK kvs) ∨ ∃ xs, o = .lst xs) := by
  rcases List.mem_cons.mp hb with z | z
  · obtain ⟨kvs, h1, _⟩ := h.dd
    exact ⟨_, z ▸ h1, .inr (.inl ⟨_, rfl⟩)⟩
  · exact h.kp.at z
/-! ### how a law on one keeper stands -/
structure StK (Z : Ad) (H0 : Hp) (r d ca : Addr) (k : KAd) (cols : List Nat) (ch : List (List Nat)) (H : Hp) (th : Nmd) (n : Nat) (mv : Int) : Prop where
  sx : Sx (Z.P_Kept_ask :: Z.Ps) H0 H
  tg : TG Z.Ps H
  tab : LamX.TabS H Z.P_Kept_ask (lamQ "Kept.ask")
  hr : ∃ rn, H r = some (.lst [.int rn])
  o : OneK Z.C_Kept Z.C_Rows H k d cols th n ch mv
  hca : H ca = some (.tup (ch.map tx))
  new : ∀ b ∈ r :: d :: k.F, H0 b = none
  nr : r ∉ d :: k.F
theorem mem_rdk {α : Type} {c r d : α} {F G : List α} : c ∈ r :: d :: (F ++ G) ↔ c ∈ r :: d :: F ∨ c ∈ G := by
  rw [List.mem_cons, List.mem_cons, List.mem_append, List.mem_cons, List.mem_cons, or_assoc, or_assoc]
section
variable {H0 : Hp} {r d ca : Addr} {k : KAd} {cols : List Nat} {ch : List (List Nat)} {H H' : Hp} {th th' : Nmd} {n n' : Nat} {mv mv' : Int}
theorem StK.kind (s : StK Z H0 r d ca k cols ch H th n mv) {b : Addr} (hb : b ∈ r :: d :: k.F) : ∃ o, H b = some o ∧ ((∃ C dx fs, o = .ins C dx fs) ∨ (∃ kvs, o = .dK kvs) ∨ ∃ xs, o = .lst xs) := by
  rcases List.mem_cons.mp hb with z | z
  · obtain ⟨rn, h⟩ := s.hr
    exact ⟨_, z ▸ h, .inr (.inr ⟨_, rfl⟩)⟩
  · exact s.o.kind z
theorem StK.off (s : StK Z H0 r d ca k cols ch H th n mv) {b : Addr} {o : HO} (e : H b = some o) (n1 : ∀ C dx fs, o ≠ .ins C dx fs) (n2 : ∀ kvs, o ≠ .dK kvs) (n3 : ∀ xs, o ≠ .lst xs) : b ∉ r :: d :: k.F := fun z => by
  obtain ⟨o', g1, g2⟩ := s.kind z
  rw [e] at g1
  cases g1
  rcases g2 with ⟨_, _, _, g⟩ | ⟨_, g⟩ | ⟨_, g⟩
  · exact n1 _ _ _ g
  · exact n2 _ g
  · exact n3 _ g
theorem StK.free (s : StK Z H0 r d ca k cols ch H th n mv) {b : Addr} (e : H b = none) : b ∉ r :: d :: k.F := fun z => by
  obtain ⟨o', g1, _⟩ := s.kind z
  rw [e] at g1
  cases g1
theorem StK.kT (s : StK Z H0 r d ca k cols ch H th n mv) (sx : Sx (r :: d :: (k.F ++ Z.P_Kept_ask :: Z.Ps)) H H') : KT H H' := by
  have tgP := tab_tg s.tab s.tg
  exact ⟨fun b xs e => sx b _ (fun z => (mem_rdk.mp z).elim (s.off e (fun _ _ _ z => nomatch z) (fun _ z => nomatch z) (fun _ z => nomatch z)) (tgP.not e fun q z => nomatch z)) e,
    fun b o xs e => sx b _ (fun z => (mem_rdk.mp z).elim (s.off e (fun _ _ _ z => nomatch z) (fun _ z => nomatch z) (fun _ z => nomatch z)) (tgP.not e fun q z => nomatch z)) e⟩
theorem StK.lst (s : StK Z H0 r d ca k cols ch H th n mv) (sx : Sx (r :: d :: (k.F ++ Z.P_Kept_ask :: Z.Ps)) H H') {b : Addr} {xs : List V} (nb : b ∉ r :: d :: k.F) (e : H b = some (.lst xs)) : H' b = some (.lst xs) :=
  sx b _ (fun z => (mem_rdk.mp z).elim nb ((tab_tg s.tab s.tg).not e fun q z => nomatch z)) e
theorem StK.tabx (s : StK Z H0 r d ca k cols ch H th n mv) (nP : Z.P_Kept_ask ∉ Z.Ps) (sx : Sx (r :: d :: (k.F ++ Z.Ps)) H H') : LamX.TabS H' Z.P_Kept_ask (lamQ "Kept.ask") := by
  obtain ⟨ps, h1, h2, h3⟩ := s.tab
  refine ⟨ps, sx _ _ (fun z => (mem_rdk.mp z).elim (s.off h1 (fun _ _ _ z => nomatch z) (fun _ z => nomatch z) (fun _ z => nomatch z)) nP) h1, h2, fun pos cv e => ?_⟩
  obtain ⟨c, e1, e2⟩ := h3 pos cv e
  exact ⟨c, e1, sx _ _ (fun z => (mem_rdk.mp z).elim (s.off e2 (fun _ _ _ z => by unfold LamX.CodeO at z; cases z) (fun _ z => by unfold LamX.CodeO at z; cases z) (fun _ z => by unfold LamX.CodeO at z; cases z)) (s.tg.not e2 fun q z => by unfold LamX.CodeO at z; cases z)) e2⟩
theorem StK.go (s : StK Z H0 r d ca k cols ch H th n mv) (sx : Sx (r :: d :: (k.F ++ Z.P_Kept_ask :: Z.Ps)) H H') (tg : TG Z.Ps H') (tab : LamX.TabS H' Z.P_Kept_ask (lamQ "Kept.ask")) (hr : ∃ rn, H' r = some (.lst [.int rn])) (o : OneK Z.C_Kept Z.C_Rows H' k d cols th' n' ch mv') : StK Z H0 r d ca k cols ch H' th' n' mv' :=
  ⟨fun c o nb e => sx c o (fun z => (mem_rdk.mp z).elim (fun z => by rw [s.new c z] at e; cases e) nb) (s.sx c o nb e), tg, tab, hr, o, (s.kT sx).1 _ _ s.hca, s.new, s.nr⟩
theorem StK.asked (s : StK Z H0 r d ca k cols ch H th n mv) (sx : Sx (Z.P_Kept_ask :: Z.Ps) H H') (tg : TG Z.Ps H') (tab : LamX.TabS H' Z.P_Kept_ask (lamQ "Kept.ask")) : StK Z H0 r d ca k cols ch H' th n mv := by
  have sx' : Sx (r :: d :: (k.F ++ Z.P_Kept_ask :: Z.Ps)) H H' := sx.more fun b h => mem_rdk.mpr (.inr h)
  have tgP := tab_tg s.tab s.tg
  have kk : ∀ b ∈ r :: d :: k.F, ∀ o, H b = some o → H' b = some o := fun b hb o e => sx b o (fun z => by
    obtain ⟨o', g1, g2⟩ := s.kind hb
    refine tgP.not g1 (fun q e => ?_) z
    rw [e] at g2
    rcases g2 with ⟨_, _, _, g⟩ | ⟨_, g⟩ | ⟨_, g⟩ <;> cases g) e
  obtain ⟨rn, hr⟩ := s.hr
  exact s.go sx' tg tab ⟨rn, kk _ List.mem_cons_self _ hr⟩ (s.o.keep (fun b hb => kk b (List.mem_cons_of_mem _ hb)) (s.kT sx').1)
theorem StK.same (s : StK Z H0 r d ca k cols ch H th n mv) (k' : Same H H') : StK Z H0 r d ca k cols ch H' th n mv := s.asked (Same.sx k') (s.tg.same k') (tab_same s.tab k')
theorem StK.kp (s : StK Z H0 r d ca k cols ch H th n mv) {rn : Int} (k' : Kp r H H') (hr : H' r = some (.lst [.int rn])) : StK Z H0 r d ca k cols ch H' th n mv := by
  obtain ⟨rn0, h0⟩ := s.hr
  exact s.go (fun c o nb e => k' c o (fun z => nb (by rw [z]; exact List.mem_cons_self)) e) (s.tg.kp h0 k') (tab_kp' s.tab h0 k') ⟨rn, hr⟩ (s.o.keep (fun b hb o e => k' b o (fun z => s.nr (z ▸ hb)) e) (k'.kt h0))
theorem StK.done (s : StK Z H0 r d ca k cols ch H th n mv) (nP : Z.P_Kept_ask ∉ Z.Ps) {n1 : Int} (sx : Sx (r :: d :: (k.F ++ Z.Ps)) H H') (tg : TG Z.Ps H') (hr : H' r = some (.lst [.int n1])) (o : OneK Z.C_Kept Z.C_Rows H' k d cols th' n' ch mv') : StK Z H0 r d ca k cols ch H' th' n' mv' :=
  s.go (sx.more fun b h => (mem_rdk.mp h).elim (fun z => mem_rdk.mpr (.inl z)) fun z => mem_rdk.mpr (.inr (List.mem_cons_of_mem _ z))) tg (s.tabx nP sx) ⟨n1, hr⟩ o
end

/-! ### _law_stands -/
section
variable {H0 : Hp} {r d ca h : Addr} {k : KAd} {cols : List Nat} {ch : List (List Nat)} {H H' : Hp} {th : Nmd} {n : Nat} {mv : Int}
theorem StK.kpH (s : StK Z H0 r d ca k cols ch H th n mv) {xs : List V} (k' : Kp h H H') (hh : H h = some (.lst xs)) (n0 : H0 h = none) (off : h ∉ r :: d :: k.F) : StK Z H0 r d ca k cols ch H' th n mv := by
  have st : ∀ b ∈ r :: d :: k.F, ∀ o, H b = some o → H' b = some o := fun b hb o e => k' b o (fun z => off (z ▸ hb)) e
  obtain ⟨rn, h0⟩ := s.hr
  exact ⟨fun c o nb e => k' c o (fun z => by rw [z, n0] at e; cases e) (s.sx c o nb e), s.tg.kp hh k', tab_kp' s.tab hh k', ⟨rn, st _ List.mem_cons_self _ h0⟩, s.o.keep (fun b hb => st b (List.mem_cons_of_mem _ hb)) (k'.kt hh), k'.kt hh _ _ s.hca, s.new, s.nr⟩
/-- the places that change while a law looks at a keeper -/
abbrev LH (Z : Ad) (h r d : Addr) (k : KAd) : List Addr := h :: r :: d :: (k.F ++ Z.P_Kept_ask :: Z.Ps)
theorem StK.freeH (s : StK Z H0 r d ca k cols ch H th n mv) {xs : List V} (hh : H h = some (.lst xs)) {b : Addr} (e : H b = none) : b ∉ LH Z h r d k := fun z => by
  rcases List.mem_cons.mp z with z | z
  · rw [z, hh] at e
    cases e
  rcases mem_rdk.mp z with z | z
  · exact s.free e z
  · exact (tab_tg s.tab s.tg).free e z
theorem Kp.sxH {h : Addr} {L : List Addr} {H H' : Hp} (k : Kp h H H') : Sx (h :: L) H H' := fun b o nb e => k b o (fun z => nb (z ▸ List.mem_cons_self)) e
theorem sx_in {Z : Ad} {h r d : Addr} {k : KAd} {b : Addr} (hb : b ∈ Z.P_Kept_ask :: Z.Ps) : b ∈ LH Z h r d k := List.mem_cons_of_mem _ (mem_rdk.mpr (.inr hb))
end
/-- the numbers by a list -/
def numsBy (cols : List Nat) (th : Nmd) (o : List Nat) : List Nat := (idxM cols (th.map (·.2)) o).map (numAt th)
abbrev nmD (ns : List Nat) : PyData := .list (ns.map fun x : Nat => PyData.int x)
theorem flA_nums {L : List Addr} {H : Hp} : ∀ ns : List Nat, FlA L H (ns.map nV) (ns.map fun x : Nat => PyData.int x)
  | [] => .nil
  | x :: ns => .cons (.int _) (flA_nums ns)
theorem flA_ints {L L' : List Addr} {H : Hp} : ∀ {ns : List Nat} {xs : List V}, FlA L H xs (ns.map fun x : Nat => PyData.int x) → FlA L' H xs (ns.map fun x : Nat => PyData.int x)
  | [], _, .nil => .nil
  | _ :: _, _, .cons (.int _) t => .cons (.int _) (flA_ints t)
theorem Fl.openL {L : List Addr} {H : Hp} {v : V} {ds : List PyData} (h : Fl L H v (.list ds)) : ∃ (a : Addr) (xs : List V), v = .ref a ∧ a ∉ L ∧ H a = some (.lst xs) ∧ FlA L H xs ds := by
  cases h with
  | lst h a =>
    obtain ⟨h1, h2⟩ := hid_some.mp h
    exact ⟨_, _, rfl, h1, h2, a⟩
theorem at_two (xs : List V) (u v : V) : atI (xs ++ [u] ++ [v]) (-2) = some u := by
  have hl : (xs ++ [u] ++ [v]).length = xs.length + 2 := by simp
  unfold atI L2.ixN
  rw [if_neg (by decide), hl, if_pos (by omega)]
  have e : ((-2 : Int) + ((xs.length + 2 : Nat) : Int)).toNat = xs.length := by omega
  show (xs ++ [u] ++ [v])[((-2 : Int) + ((xs.length + 2 : Nat) : Int)).toNat]? = some u
  rw [e]
  simp
theorem dep_nums (ns : List Nat) : (nmD ns).depth < 3 := by
  have key : ∀ ns : List Nat, PyData.depthAll (ns.map fun x : Nat => PyData.int x) ≤ 1 := fun ns => by
    induction ns with
    | nil => exact Nat.zero_le _
    | cons x ns ih =>
      show max (PyData.depth (.int x)) (PyData.depthAll (ns.map fun x : Nat => PyData.int x)) ≤ 1
      exact Nat.max_le.mpr ⟨Nat.zero_le _, ih⟩
  show PyData.depthAll (ns.map fun x : Nat => PyData.int x) + 1 < 3
  have := key ns
  omega
theorem bounds_two (m : Nat) : sliceBounds none (some (-2)) none (m + 2) = (((0 : Nat) : Int), ((m : Nat) : Int), 1) := by
  unfold sliceBounds
  simp only [Option.getD_none]
  rw [if_pos (by decide), if_pos (by decide : (1 : Int) > 0)]
  congr 1
  congr 1
  omega
theorem nmD_ls (ns : List Nat) : nmD ns = lsD (ns.map fun x : Nat => (x : Int)) := by
  unfold lsD
  rw [List.map_map]
  rfl
theorem nmD_lss (os : List (List Nat)) : os.map nmD = (os.map fun ns => ns.map fun x : Nat => (x : Int)).map lsD := by
  rw [List.map_map]
  exact List.map_congr_left fun ns _ => nmD_ls ns
/-- what is held: nothing, or lists told and lists like them -/
def Held (L : List Addr) (H : Hp) (hs : List V) : Prop := hs = [] ∨ ∃ (u v : V) (os : List (List Nat)), hs = [u, v] ∧ Fl L H u (.list (os.map nmD)) ∧ Fl L H v (.list (os.map nmD))
theorem Held.keep {L : List Addr} {H H' : Hp} {hs : List V} (h : Held L H hs) (k : ∀ b o, b ∉ L → H b = some o → H' b = some o) : Held L H' hs := by
  rcases h with h | ⟨u, v, os, h1, h2, h3⟩
  · exact .inl h
  · exact .inr ⟨u, v, os, h1, h2.keep k, h3.keep k⟩
def spStands (K : PySem.W.Frag) (Z : Ad) : Sp := fun vs H Q _ => ∃ (H0 : Hp) (r d ca h : Addr) (k : KAd) (cols : List Nat) (ch : List (List Nat)) (th : Nmd) (n : Nat) (mv : Int) (hs : List V), vs = [.ref k.p, tx cols, .ref d, .ref ca, .int (n : Int), .int mv, .ref h] ∧ StK Z H0 r d ca k cols ch H th n mv ∧ th.length ≤ 60 ∧ ChL cols ch ∧ H h = some (.lst hs) ∧ H0 h = none ∧ h ∉ r :: d :: k.F ∧ Held (LH Z h r d k) H hs ∧
  ∀ (hs' : List V) (H' : Hp), Sx (h :: Z.P_Kept_ask :: Z.Ps) H H' → StK Z H0 r d ca k cols ch H' th n mv → H' h = some (.lst hs') → Held (LH Z h r d k) H' hs' → Q (.bl true) H'
set_option maxHeartbeats 8000000 in
theorem ok_lstands (T : Tx K mg Z) (TB : Tb base mg Z) : FnOk P w K mg base CX0 8 Z.f_l_stands Z.d_l_stands ["kept", "columns", "there", "choice", "number", "moved", "held"] (spStands K Z) := by
  have G_l_sorted : FnOk P w K mg base CX0 1 Z.f_l_sorted Z.d_l_sorted ["table", "one"] (spLsorted K) := ok_lsorted T
  have G_l_same : FnOk P w K mg base CX0 3 Z.f_l_same Z.d_l_same ["told", "due"] (spSame 3 K) := ok_same T 3
  have G_Kept_sorted_by : FnOk P w K mg base CX0 1 Z.f_Kept_sorted_by Z.d_Kept_sorted_by ["self", "one"] (spSortedBy K Z) := ok_sortedby T
  have G_Kept_ask : FnOk P w K mg base CX0 7 Z.f_Kept_ask Z.d_Kept_ask ["self", "question"] (spKeptAsk K Z) := ok_keptask T TB
  have G_Kept_next_number : FnOk P w K mg base CX0 1 Z.f_Kept_next_number Z.d_Kept_next_number ["self"] (spNext K Z) := ok_next T
  have G_Kept_moved : FnOk P w K mg base CX0 1 Z.f_Kept_moved Z.d_Kept_moved ["self"] (spMoved K Z) := ok_moved T
  refine T.F_l_stands.ok sc_l_stands (fun vs H Q E h => ?_) (fun cdv A outer s H vs Q E hr h => ?_)
  · obtain ⟨H0, r, d, ca, h, k, cols, ch, th, n, mv, hs, rfl, _⟩ := h
    rfl
  · obtain ⟨H0, r, d, ca, h, k, cols, ch, th, n, mv, hs, rfl, st, htl, hch, hh, n0, off, held, q⟩ := h
    refine ⟨_, (pss_cons (ps_set (i := 7) sc_l_stands.nd rfl (.inr rfl) (pe_callB (call_sortedDI rfl) (by rfl) T.m_sorted (by decide +kernel) (pa_cons (pv 2) pa_nil)))
      (pss_cons (ps_set (i := 9) sc_l_stands.nd rfl (.inl rfl) (pe_tup (pa_cons (pv 1) (pa_cons (pe_callTy (cTupSq K) (by rfl) T.m_tuple (by decide +kernel) (pa_cons (pe_lc (own := [("one", 8)]) (tt := tYes) (by rfl) sc_l_stands.nd (piL K (pv 7)) (blkOk_by (own := [("one", 8)]) (by kernel_rfl)) (fun _ _ _ _ _ => (pg_name (i := 8) sc_l_stands.nd rfl (.inl rfl))) (fun _ _ _ _ _ => pts_nil) (fun _ _ _ _ _ => (pe_dget (hu_of hr) (pv 2) (pv 8) (fun _ _ => rfl)))) pa_nil)) pa_nil))))
      (pss_cons (ps_expr (bmK K PySem.F.plainAttrs_list PySem.F.slot_list_append PySem.F.type_list_append mt_append (pv 6) (pa_cons (pe_lc (own := [("one", 8)]) (tt := tYes) (by rfl) sc_l_stands.nd (piT K (pv 3)) (blkOk_by (own := [("one", 8)]) (by kernel_rfl)) (fun _ _ _ _ _ => (pg_name (i := 8) sc_l_stands.nd rfl (.inl rfl))) (fun _ _ _ _ _ => pts_nil) (fun _ _ _ _ _ => (pe_meth (pv 0) T.cl_Kept T.m_Kept_sorted_by G_Kept_sorted_by (hr.mono (by omega)) T.b_Kept_sorted_by .nil pass0 (pa_cons (pv 8) pa_nil)))) pa_nil)))
      (pss_cons (ps_expr (bmK K PySem.F.plainAttrs_list PySem.F.slot_list_append PySem.F.type_list_append mt_append (pv 6) (pa_cons (pe_lc (own := [("told", 10)]) (tt := tYes) (by rfl) sc_l_stands.nd (piL K (pe_ix (ixL K) (pv 6) (pe_un un_neg pe_int) (fun _ _ => rfl))) (blkOk_by (own := [("told", 10)]) (by kernel_rfl)) (fun _ _ _ _ _ => (pg_name (i := 10) sc_l_stands.nd rfl (.inl rfl))) (fun _ _ _ _ _ => pts_nil) (fun _ _ _ _ _ => (pe_callTy (cListSq K) (by rfl) T.m_list (by decide +kernel) (pa_cons (pv 10) pa_nil)))) pa_nil)))
      (pss_cons (ps_for PassesOwn.never rfl (pi_zip2 K (by rfl) T.m_zip (pa_cons (pv 3) (pa_cons (pe_ix (ixL K) (pv 6) (pe_un un_neg pe_int) (fun _ _ => rfl)) pa_nil))) (pgT K (n := 2) (pgs_cons (pg_name (i := 8) sc_l_stands.nd rfl (.inl rfl)) (pgs_cons (pg_name (i := 10) sc_l_stands.nd rfl (.inl rfl)) pgs_nil))) (pss_one (ps_if (pt_cmpR (neDK K hr.units) (pv 10) (pe_lc (own := [("at", 14)]) (tt := tYes) (by rfl) sc_l_stands.nd (piL K (pe_call G_l_sorted (hr.mono (by omega)) (by rfl) T.g_l_sorted T.F_l_sorted.kp T.b_l_sorted .nil pass0 (pa_cons (pv 9) (pa_cons (pv 8) pa_nil)))) (blkOk_by (own := [("at", 14)]) (by kernel_rfl)) (fun _ _ _ _ _ => (pg_name (i := 14) sc_l_stands.nd rfl (.inl rfl))) (fun _ _ _ _ _ => pts_nil) (fun _ _ _ _ _ => (pe_ix (ixL K) (pv 7) (pv 14) (fun _ _ => rfl)))) (nomark _)) (pss_one (ps_ret pe_bl)) pss_nil)))
      (pss_cons (ps_for PassesOwn.never rfl (piT K (pv 3)) (pg_name (i := 8) sc_l_stands.nd rfl (.inl rfl)) (pss_cons (ps_setLc (i := 11) (own := [("at", 14)]) (tt := tYes) (by rfl) sc_l_stands.nd rfl rfl (sw_true rfl rfl rfl (by decide +kernel)) (piL K (pe_call G_l_sorted (hr.mono (by omega)) (by rfl) T.g_l_sorted T.F_l_sorted.kp T.b_l_sorted .nil pass0 (pa_cons (pv 9) (pa_cons (pv 8) pa_nil)))) (blkOk_by (own := [("at", 14)]) (by kernel_rfl)) (fun _ _ _ _ _ => (pg_name (i := 14) sc_l_stands.nd rfl (.inl rfl))) (fun _ _ _ _ _ => pts_nil) (fun _ _ _ _ _ => (pe_ix (ixL K) (pv 7) (pv 14) (fun _ _ => rfl))))
      (pss_one (ps_for PassesOwn.never rfl (pi_range1 (by rfl) T.m_range (pa_cons pe_int pa_nil)) (pg_name (i := 12) sc_l_stands.nd rfl (.inl rfl)) (pss_cons (ps_set (i := 13) sc_l_stands.nd rfl (.inl rfl) (pe_meth (pv 0) T.cl_Kept T.m_Kept_sorted_by G_Kept_sorted_by (hr.mono (by omega)) T.b_Kept_sorted_by .nil pass0 (pa_cons (pv 8) pa_nil)))
      (pss_cons (ps_if (pt_not (pt_val (pe_call G_l_same (hr.mono (by omega)) (by rfl) T.g_l_same T.F_l_same.kp T.b_l_same .nil pass0 (pa_cons (pv 13) (pa_cons (pv 11) pa_nil))))) (pss_one (ps_ret pe_bl)) pss_nil)
      (pss_cons (ps_expr (pe_bm0 PySem.F.plainAttrs_list PySem.F.slot_list_reverse PySem.F.type_list_reverse mt_reverse (pv 13)))
      (pss_one (ps_expr (bmK K PySem.F.plainAttrs_list PySem.F.slot_list_append PySem.F.type_list_append mt_append (pv 13) (pa_cons pe_int pa_nil)))))))))))
      (pss_cons (ps_if (PW.pt (pw_or (pt_not (pt_val (pe_call G_l_same (hr.mono (by omega)) (by rfl) T.g_l_same T.F_l_same.kp T.b_l_same .nil pass0 (pa_cons (pe_ix (ixT K) (pe_meth (pv 0) T.cl_Kept T.m_Kept_ask G_Kept_ask (hr.mono (by omega)) T.b_Kept_ask .nil pass0 (pa_cons (pe_tup (pa_cons (pe_tupF pa_nil) (pa_cons pe_non pa_nil))) pa_nil)) pe_int (fun _ _ => rfl)) (pa_cons (pv 7) pa_nil))))) (pw_or (pt_cmpR (neDK K hr.units) (pe_ix (ixL K) (pv 6) pe_int (fun _ _ => rfl)) (pe_ix (ixL K) (pv 6) pe_int (fun _ _ => rfl)) (nomark _)) (pw_or1 (pt_cmpR (neDK K hr.units) (pe_ix (ixL K) (pv 6) (pe_un un_neg pe_int) (fun _ _ => rfl)) (pe_ix (ixL K) (pv 6) (pe_un un_neg pe_int) (fun _ _ => rfl)) (nomark _)))))) (pss_one (ps_ret pe_bl)) pss_nil)
      (pss_cons (ps_asg (pe_lst pa_nil) (pg_sl (pv 6) po_none (po_some (pe_un un_neg pe_int))))
      (pss_one (ps_ret (pe_call G_l_same (hr.mono (by omega)) (by rfl) T.g_l_same T.F_l_same.kp T.b_l_same .nil pass0 (pa_cons (pe_lst (pa_cons (pe_meth0 (pv 0) T.cl_Kept T.m_Kept_next_number G_Kept_next_number (hr.mono (by omega)) T.b_Kept_next_number .nil pass0) (pa_cons (pe_meth0 (pv 0) T.cl_Kept T.m_Kept_moved G_Kept_moved (hr.mono (by omega)) T.b_Kept_moved .nil pass0) pa_nil))) (pa_cons (pe_lst (pa_cons (pv 4) (pa_cons (pv 5) pa_nil))) pa_nil))))))))))))), ?_⟩
    have hok := st.o.ok
    have nums_nd := hok.nd
    have hrows := hok.rows
    obtain ⟨kvs, hd, nm⟩ := st.o.dd
    have keyE : kvs.map (·.1) = ((th.map (·.1)).map fun x : Nat => (x : Int)).map Sum.inl := by
      rw [nm.keys, List.map_map, List.map_map]
      rfl
    have keyL : ((th.map (·.1)).map fun x : Nat => (x : Int)).length < 64 := by
      rw [List.length_map, List.length_map]
      omega
    -- numbers
    refine ⟨.ref d, rfl, d, kvs, (th.map (·.1)).map fun x : Nat => (x : Int), rfl, .inl hd, keyE, keyL, fun ys N hperm hso nN => ?_⟩
    have eys : ys = (th.map (·.1)).map fun x : Nat => (x : Int) := by
      refine ints_one hso ?_ hperm
      rw [List.pairwise_map]
      exact hok.up.imp fun {a b} z => by omega
    rw [eys, ← nV_map]
    have sm1 : Same H (upd H N (.lst ((th.map (·.1)).map nV))) := Same.new (Same.refl H) nN
    have hN1 : (upd H N (.lst ((th.map (·.1)).map nV))) N = some (.lst ((th.map (·.1)).map nV)) := upd_same
    have NF := st.freeH hh nN
    generalize upd H N (.lst ((th.map (·.1)).map nV)) = H1 at sm1 hN1 ⊢
    have hd1 := sm1 _ _ hd
    have nm1 := nm.kt (Same.kt sm1)
    -- table
    refine ⟨tx cols, rfl, .ref N, rfl, N, rfl, ⟨_, .inl (.inl hN1)⟩, fun D nD => lc_it (walk_list (xs := (th.map (·.1)).map nV)) (fun i H' => Same H1 H' ∧ ∃ vs, H' D = some (.lst vs) ∧ FzA H' vs (((th.take i).map (·.2)).map rowD))
      ⟨Same.new (Same.refl H1) nD, [], upd_same, (by rw [List.take_zero]; exact .nil)⟩ (fun i H' _ hP => .inl (.inl (hP.1 _ _ hN1))) (fun i x H6 H5 hi hP hY => ?_) (fun H2 hP => ?_)⟩
    · obtain ⟨sm5, vs, hD5, fA⟩ := hP
      obtain ⟨rfl, hx⟩ := hY
      rw [List.getElem?_map, List.getElem?_map] at hx
      obtain ⟨m0, hm0, rfl⟩ := Option.map_eq_some_iff.mp hx
      obtain ⟨e, he, rfl⟩ := Option.map_eq_some_iff.mp hm0
      obtain ⟨hi2, ei⟩ := List.getElem?_eq_some_iff.mp he
      obtain ⟨v, hv, fv⟩ := nm1.at' (n := e.1) (r := e.2) nums_nd (List.mem_of_getElem? he)
      refine ⟨rfl, .ref d, rfl, nV e.1, rfl, d, v, rfl, .inl ⟨kvs, nKy e.1, .inl (sm5 _ _ hd1), rfl, hv.symm⟩, _, hD5, ?_, Same.mut sm5 nD, vs ++ [v], upd_same, ?_⟩
      · have := fA.len
        rw [List.length_map, List.length_map, List.length_take] at this
        exact small1000 (by omega)
      · rw [List.take_succ_eq_append_getElem hi2, ei, List.map_append, List.map_append]
        exact (fA.kt (Kt.lst hD5)).snoc ((fv.kt (Same.kt sm5)).kt (Kt.lst hD5))
    obtain ⟨sm2, vs2, hD2, fA⟩ := hP
    rw [List.length_map, List.length_map, List.take_of_length_le (Nat.le_refl _)] at fA
    refine ⟨D, vs2, rfl, .inl ⟨.inl (.inl hD2), fun R nR => ⟨(by show 2 ≤ sizeLine; decide), fun t nt => ?_⟩⟩⟩
    have sm3 : Same H (upd (upd H2 R (.tup vs2)) t (.tup [tx cols, .ref R])) := Same.new (Same.new (Same.trans sm1 sm2) nR) nt
    have fT3 : Fz (upd (upd H2 R (.tup vs2)) t (.tup [tx cols, .ref R])) (.ref t) (tabD cols (th.map (·.2))) := .tup upd_same (.cons (.str _) (.cons (.tup (keep_new upd_same nt) (fA.kt ((Kt.new nR).trans (Kt.new nt)))) .nil))
    have hN3 : (upd (upd H2 R (.tup vs2)) t (.tup [tx cols, .ref R])) N = some (.lst ((th.map (·.1)).map nV)) := keep_new (keep_new (sm2 _ _ hN1) nR) nt
    generalize upd (upd H2 R (.tup vs2)) t (.tup [tx cols, .ref R]) = H3 at sm3 fT3 hN3 ⊢
    have st3 := st.same sm3
    have sx3 : Sx (h :: Z.P_Kept_ask :: Z.Ps) H H3 := Same.sx sm3
    have hh3 := sm3 _ _ hh
    have held3 := held.keep fun b o _ e => sm3 b o e
    clear sm1 sm2 sm3 hN1 hd1 nm1 hD2 fA st hh held hd nm keyE keyL
    -- held.append(what the keeper tells by each list)
    have kid : ∀ {G G' : Hp} {xs : List V}, G h = some (.lst xs) → StK Z H0 r d ca k cols ch G th n mv → ∀ {b : Addr}, G b = none → b ∉ LH Z h r d k := fun e s _ z => s.freeH e z
    refine ⟨.ref h, rfl, .inl ⟨rfl, _, .inl (.inl hh3)⟩, .ref ca, rfl, ca, rfl, ⟨_, .inl (.inl st3.hca)⟩, fun A nA => lc_it (walk_tup (xs := ch.map tx)) (fun i H' => Same H3 H' ∧ ∃ vs, H' A = some (.lst vs) ∧ FlA (A :: LH Z h r d k) H' vs ((ch.take i).map fun o => nmD (numsBy cols th o)))
      ⟨Same.new (Same.refl H3) nA, [], upd_same, .nil⟩ (fun i H' _ hP => .inl (.inl (hP.1 _ _ st3.hca))) (fun i x H6 H5 hi hP hY => ?_) (fun H4 hP => ?_)⟩
    · obtain ⟨sm5, vs, hA5, fA⟩ := hP
      obtain ⟨rfl, hx⟩ := hY
      rw [List.getElem?_map] at hx
      obtain ⟨o, ho, rfl⟩ := Option.map_eq_some_iff.mp hx
      obtain ⟨hi2, ei⟩ := List.getElem?_eq_some_iff.mp ho
      have st5 := st3.same sm5
      obtain ⟨dx, hp⟩ := st5.o.kp.self
      refine ⟨rfl, .ref k.p, rfl, k.p, dx, _, rfl, hp, kpF3_no_sorted_by _ _ _, tx o, rfl, k, cols, th, n, ch, mv, o, rfl, st5.o.kp, hch.nd, List.mem_of_getElem? ho, fun L ns H7 sm7 nL hL ord => ?_⟩
      have ens : ns = numsBy cols th o := ord.same (ord_idx hok o)
      subst ens
      have nLA : L ∉ A :: LH Z h r d k := fun z => (List.mem_cons.mp z).elim (fun z => by rw [z, hA5] at nL; cases nL) (st5.freeH (sm5 _ _ hh3) nL)
      refine ⟨vs, sm7 _ _ hA5, ?_, Same.mut (Same.trans sm5 sm7) nA, vs ++ [.ref L], upd_same, ?_⟩
      · have := fA.len
        rw [List.length_map, List.length_take] at this
        have := hch.len
        exact small1000 (by omega)
      · rw [List.take_succ_eq_append_getElem hi2, ei, List.map_append]
        have off1 : ∀ b o, b ∉ A :: LH Z h r d k → H7 b = some o → (upd H7 A (.lst (vs ++ [.ref L]))) b = some o := fun b o nb e => keep_ne e fun z => nb (z ▸ List.mem_cons_self)
        refine ((fA.same sm7).keep off1).app (.cons ((Fl.lst nLA hL ?_).keep off1) .nil)
        exact flA_nums _
    obtain ⟨sm4, vsA, hA4, fA⟩ := hP
    rw [List.length_map, List.take_of_length_le (Nat.le_refl _)] at fA
    have st4 := st3.same sm4
    have hh4 := sm4 _ _ hh3
    have hsl : hs.length ≤ 2 := by
      rcases held3 with z | ⟨_, _, _, z, _⟩
      · rw [z]; decide
      · rw [z]; exact Nat.le_refl 2
    have nA' := st3.freeH hh3 nA
    refine ⟨h, hs, .ref A, rfl, rfl, hh4, small1000 (by omega), ?_⟩
    have k5 : Kp h H4 (upd H4 h (.lst (hs ++ [.ref A]))) := Kp.own Kp.rfl'
    have hh5 : (upd H4 h (.lst (hs ++ [.ref A]))) h = some (.lst (hs ++ [.ref A])) := upd_same
    have st5 := st4.kpH k5 hh4 n0 off
    have sx5 := (sx3.trans (Same.sx sm4)).trans k5.sxH
    have fA5 : FlA (LH Z h r d k) (upd H4 h (.lst (hs ++ [.ref A]))) vsA (ch.map fun o => nmD (numsBy cols th o)) := (fA.keep fun b o nb e => k5 b o (fun z => nb (by rw [z]; exact List.mem_cons_of_mem _ List.mem_cons_self)) e).sub fun b hb => List.mem_cons_of_mem _ hb
    have hA5 := k5 _ _ (fun z => nA' (by rw [z]; exact List.mem_cons_self)) hA4
    have held5 : Held (LH Z h r d k) (upd H4 h (.lst (hs ++ [.ref A]))) hs := held3.keep fun b o nb e => k5 b o (fun z => nb (by rw [z]; exact List.mem_cons_self)) (sm4 b o e)
    have hN5 := k5 _ _ (fun z => NF (by rw [z]; exact List.mem_cons_self)) (sm4 _ _ hN3)
    have fT5 := (fT3.kt (Same.kt sm4)).kt (Kt.lst (o := .lst (hs ++ [.ref A])) hh4)
    generalize upd H4 h (.lst (hs ++ [.ref A])) = H5 at hh5 st5 sx5 fA5 hA5 held5 hN5 fT5 ⊢
    clear k5 st4 st3 hh4 hh3 held3 hA4 fA hN3 fT3 sm4
    -- held.append(lists like those)
    refine ⟨.ref h, rfl, .inl ⟨rfl, _, .inl (.inl hh5)⟩, .ref h, rfl, 1, rfl, h, hs ++ [.ref A], -1, .ref A, rfl, rfl, .inl (.inl hh5), atI_last _ _, A, rfl, ⟨_, .inl (.inl hA5)⟩, fun B nB => lc_it (walk_list (xs := vsA)) (fun i H' => Same H5 H' ∧ ∃ vs, H' B = some (.lst vs) ∧ FlA (B :: LH Z h r d k) H' vs ((ch.map fun o => nmD (numsBy cols th o)).take i))
      ⟨Same.new (Same.refl H5) nB, [], upd_same, .nil⟩ (fun i H' _ hP => .inl (.inl (hP.1 _ _ hA5))) (fun i x H7 H6 hi hP hY => ?_) (fun H6 hP => ?_)⟩
    · obtain ⟨sm6, vs, hB6, fB⟩ := hP
      obtain ⟨rfl, hx⟩ := hY
      obtain ⟨dt, hdt, fx⟩ := fA5.getV hx
      rw [List.getElem?_map] at hdt
      obtain ⟨o, ho, rfl⟩ := Option.map_eq_some_iff.mp hdt
      obtain ⟨hi2, ei⟩ := List.getElem?_eq_some_iff.mp ho
      obtain ⟨l0, xs0, rfl, nl0, hl0, fl0⟩ := Fl.openL fx
      refine ⟨rfl, _, rfl, l0, xs0, rfl, .inl (.inl (.inl (sm6 _ _ hl0))), fun l nl => ?_⟩
      have nLB : l ∉ B :: LH Z h r d k := fun z => (List.mem_cons.mp z).elim (fun z => by rw [z, hB6] at nl; cases nl) ((st5.same sm6).freeH (sm6 _ _ hh5) nl)
      refine ⟨vs, keep_new hB6 nl, ?_, Same.mut (Same.new sm6 nl) nB, vs ++ [.ref l], upd_same, ?_⟩
      · have := fB.len
        rw [List.length_take, List.length_map] at this
        have := hch.len
        exact small1000 (by omega)
      · have hi3 : i < (ch.map fun o => nmD (numsBy cols th o)).length := by rw [List.length_map]; exact hi2
        rw [List.take_succ_eq_append_getElem hi3, List.getElem_map, ei]
        have off1 : ∀ b o, b ∉ B :: LH Z h r d k → (upd H6 l (.lst xs0)) b = some o → (upd (upd H6 l (.lst xs0)) B (.lst (vs ++ [.ref l]))) b = some o := fun b o nb e => keep_ne e fun z => nb (z ▸ List.mem_cons_self)
        have fl6 : FlA (B :: LH Z h r d k) H6 xs0 ((numsBy cols th o).map fun x : Nat => PyData.int x) := flA_ints (fl0.same sm6)
        exact ((fB.same (Same.new (Same.refl H6) nl)).keep off1).app (.cons ((Fl.newL nLB nl fl6).keep off1) .nil)
    obtain ⟨sm6, vsB, hB6, fB⟩ := hP
    have lA : vsA.length = ch.length := by rw [fA5.len, List.length_map]
    rw [lA, List.take_of_length_le (by rw [List.length_map]; exact Nat.le_refl _)] at fB
    have st6 := st5.same sm6
    have hh6 := sm6 _ _ hh5
    have nB' := st5.freeH hh5 nB
    refine ⟨h, hs ++ [.ref A], .ref B, rfl, rfl, hh6, small1000 (by rw [List.length_append]; show hs.length + 1 ≤ _; omega), ?_⟩
    have k7 : Kp h H6 (upd H6 h (.lst (hs ++ [.ref A] ++ [.ref B]))) := Kp.own Kp.rfl'
    have hh7 : (upd H6 h (.lst (hs ++ [.ref A] ++ [.ref B]))) h = some (.lst (hs ++ [.ref A] ++ [.ref B])) := upd_same
    have st7 := st6.kpH k7 hh6 n0 off
    have sx7 := (sx5.trans (Same.sx sm6)).trans k7.sxH
    have kk7 : ∀ b o, b ∉ LH Z h r d k → H5 b = some o → (upd H6 h (.lst (hs ++ [.ref A] ++ [.ref B]))) b = some o := fun b o nb e => k7 b o (fun z => nb (by rw [z]; exact List.mem_cons_self)) (sm6 b o e)
    have hA7 := kk7 _ _ nA' hA5
    have fA7 := fA5.keep kk7
    have gA7 : Fl (LH Z h r d k) (upd H6 h (.lst (hs ++ [.ref A] ++ [.ref B]))) (.ref A) (.list (ch.map fun o => nmD (numsBy cols th o))) := Fl.lst nA' hA7 fA7
    have fB7 : FlA (LH Z h r d k) (upd H6 h (.lst (hs ++ [.ref A] ++ [.ref B]))) vsB (ch.map fun o => nmD (numsBy cols th o)) := (fB.keep fun b o nb e => k7 b o (fun z => nb (by rw [z]; exact List.mem_cons_of_mem _ List.mem_cons_self)) e).sub fun b hb => List.mem_cons_of_mem _ hb
    have hB7 := k7 _ _ (fun z => nB' (by rw [z]; exact List.mem_cons_self)) hB6
    have gB7 : Fl (LH Z h r d k) (upd H6 h (.lst (hs ++ [.ref A] ++ [.ref B]))) (.ref B) (.list (ch.map fun o => nmD (numsBy cols th o))) := Fl.lst nB' hB7 fB7
    have held7 := held5.keep kk7
    have hN7 := kk7 _ _ NF hN5
    have fT7 := (fT5.kt (Same.kt sm6)).kt (Kt.lst (o := .lst (hs ++ [.ref A] ++ [.ref B])) hh6)
    generalize upd H6 h (.lst (hs ++ [.ref A] ++ [.ref B])) = H7 at hh7 st7 sx7 hA7 fA7 gA7 gB7 held7 hN7 fT7 ⊢
    clear k7 kk7 st6 st5 hh6 hh5 held5 hB6 hB7 fB fB7 hN5 fT5 fA5 hA5 sm6
    have hlen := hch.len
    have hrl : (th.map (·.2)).length ≤ 1000 := by rw [List.length_map]; omega
    have due : ∀ {G : Hp} {o : List Nat} {p : Addr}, G p = some (.lst ((sortM cols (th.map (·.2)) o).map V.int)) → G p = some (.lst ((idxM cols (th.map (·.2)) o).map nV)) := fun {G o p} e => by
      rw [e, idx_sort, List.map_map]
      rfl
    have ilt : ∀ {o : List Nat} {i m : Nat}, (idxM cols (th.map (·.2)) o)[i]? = some m → m < th.length := fun {o i m} e => by
      have := (idx_perm cols (th.map (·.2)) o).mem_iff.mp (List.mem_of_getElem? e)
      rw [List.mem_range, List.length_map] at this
      exact this
    have il : ∀ o, (idxM cols (th.map (·.2)) o).length = th.length := fun o => by
      rw [(idx_perm cols (th.map (·.2)) o).length_eq, List.length_range, List.length_map]
    -- what was told ahead
    refine ⟨.ref ca, rfl, .ref h, rfl, 2, rfl, h, hs ++ [.ref A] ++ [.ref B], -2, .ref A, rfl, rfl, .inl (.inl hh7), at_two _ _ _, ca, A, true, false, ch.map tx, vsA, rfl, .inl (.inl st7.hca), .inl (.inl hA7), for_it (walk_zip2 (xs := ch.map tx) (ys := vsA) (by rw [lA, List.length_map])) (fun i σ H' => ∃ y8 y10 y11 y12 y13 y14 : Option V, σ = [some (.ref k.p), some (tx cols), some (.ref d), some (.ref ca), some (.int (n : Int)), some (.int mv), some (.ref h), some (.ref N), y8, some (.ref t), y10, y11, y12, y13, y14] ∧ Same H7 H')
      ⟨_, _, _, _, _, _, rfl, Same.refl H7⟩ (fun i σ H' _ hP => ?_) (fun i x σ H8 H9 hi hP hY => ?_) (fun σ H8 hP => ?_)⟩
    · obtain ⟨_, _, _, _, _, _, _, sm⟩ := hP
      exact ⟨.inl (.inl (sm _ _ st7.hca)), .inl (.inl (sm _ _ hA7))⟩
    · obtain ⟨y8, y10, y11, y12, y13, y14, rfl, sm8⟩ := hP
      obtain ⟨T0, x1, x2, rfl, nT, rfl, ex1, ex2⟩ := hY
      rw [List.getElem?_map] at ex1
      obtain ⟨o, ho, rfl⟩ := Option.map_eq_some_iff.mp ex1
      obtain ⟨d2, hd2, f2⟩ := fA7.getV ex2
      rw [List.getElem?_map, ho] at hd2
      cases hd2
      have hoc := hch.ok o (List.mem_of_getElem? ho)
      have sm9 := Same.new (o := .tup [tx o, x2]) sm8 nT
      refine ⟨T0, [tx o, x2], rfl, .inl (.inl upd_same), rfl, tx o, [x2], rfl, x2, [], rfl, rfl, ?_⟩
      generalize upd H8 T0 (.tup [tx o, x2]) = H9 at sm9 ⊢
      refine ⟨x2, rfl, .ref t, rfl, tx o, rfl, .ref t, cols, th.map (·.2), o, rfl, fT7.kt (Same.kt sm9), hrows, hrl, hoc.1, hoc.2, fun p H10 sm10 np hp => ⟨p, rfl, ⟨_, .inl (.inl (due hp))⟩, fun E nE => lc_it (walk_list (xs := (idxM cols (th.map (·.2)) o).map nV)) (fun j H' => Same H10 H' ∧ H' E = some (.lst ((((idxM cols (th.map (·.2)) o).take j).map (numAt th)).map nV)))
        ⟨Same.new (Same.refl H10) nE, upd_same⟩ (fun j H' _ hP => .inl (.inl (hP.1 _ _ (due hp)))) (fun j x H12 H11 hj hP hY => ?_) (fun H11 hP => ?_)⟩⟩
      · obtain ⟨sm11, hE11⟩ := hP
        obtain ⟨rfl, hx⟩ := hY
        rw [List.getElem?_map] at hx
        obtain ⟨m, hm, rfl⟩ := Option.map_eq_some_iff.mp hx
        obtain ⟨hj2, ej⟩ := List.getElem?_eq_some_iff.mp hm
        have hN11 := sm11 _ _ (sm10 _ _ (sm9 _ _ hN7))
        refine ⟨rfl, .ref N, rfl, nV m, rfl, N, _, m, nV (numAt th m), rfl, rfl, .inl (.inl hN11), atI_nat (by rw [List.getElem?_map, num_at (ilt hm)]; rfl), _, hE11, ?_, Same.mut sm11 nE, ?_⟩
        · rw [List.length_map, List.length_map, List.length_take]
          have := il o
          exact small1000 (by omega)
        · rw [upd_same, List.take_succ_eq_append_getElem hj2, ej, List.map_append, List.map_append]
          rfl
      · obtain ⟨sm11, hE11⟩ := hP
        rw [List.length_map, List.take_of_length_le (Nat.le_refl _)] at hE11
        have same2 : (!PyData.eqv (nmD (numsBy cols th o)) (nmD (numsBy cols th o))) = false := by
          rw [(eqv_nums _ _).mpr rfl]
          rfl
        have sm12 := Same.trans (Same.trans sm9 sm10) sm11
        refine ⟨_, _, (Fl.to (Fl.same f2 sm12)).to, .lst (.inl (.inl hE11)) (dp_nums _), shaped_nums _, shaped_nums _, _, rfl, ite2 (fun z => ?_) fun _ => ?_⟩
        · exact absurd (same2.symm.trans z) (by simp)
        · exact ⟨_, _, _, _, _, _, rfl, sm12⟩
    obtain ⟨y8, y10, y11, y12, y13, y14, rfl, sm8⟩ := hP
    have st8 := st7.same sm8
    have sx8 := sx7.trans (Same.sx sm8)
    have hh8 := sm8 _ _ hh7
    have gA8 := gA7.same sm8
    have gB8 := gB7.same sm8
    have held8 := held7.keep fun b o _ e => sm8 b o e
    have hN8 := sm8 _ _ hN7
    have fT8 := fT7.kt (Same.kt sm8)
    clear sm8 st7 hh7 gA7 gB7 held7 hN7 fT7 hA7 fA7
    -- told again
    refine ⟨.ref ca, rfl, ca, rfl, ⟨_, .inl (.inl st8.hca)⟩, for_it (walk_tup (xs := ch.map tx)) (fun i σ H' => ∃ y8 y10 y11 y12 y13 y14 : Option V, σ = [some (.ref k.p), some (tx cols), some (.ref d), some (.ref ca), some (.int (n : Int)), some (.int mv), some (.ref h), some (.ref N), y8, some (.ref t), y10, y11, y12, y13, y14] ∧ Same H8 H')
      ⟨_, _, _, _, _, _, rfl, Same.refl H8⟩ (fun i σ H' _ hP => ?_) (fun i x σ H10 H9 hi hP hY => ?_) (fun σ H9 hP => ?_)⟩
    · obtain ⟨_, _, _, _, _, _, _, sm⟩ := hP
      exact .inl (.inl (sm _ _ st8.hca))
    · obtain ⟨y8, y10, y11, y12, y13, y14, rfl, sm9⟩ := hP
      obtain ⟨rfl, ex1⟩ := hY
      rw [List.getElem?_map] at ex1
      obtain ⟨o, ho, rfl⟩ := Option.map_eq_some_iff.mp ex1
      have hoc := hch.ok o (List.mem_of_getElem? ho)
      refine ⟨.ref t, rfl, tx o, rfl, .ref t, cols, th.map (·.2), o, rfl, fT8.kt (Same.kt sm9), hrows, hrl, hoc.1, hoc.2, fun p H10 sm10 np hp => ⟨p, rfl, ⟨_, .inl (.inl (due hp))⟩, fun E nE => lc_it (walk_list (xs := (idxM cols (th.map (·.2)) o).map nV)) (fun j H' => Same H10 H' ∧ H' E = some (.lst ((((idxM cols (th.map (·.2)) o).take j).map (numAt th)).map nV)))
        ⟨Same.new (Same.refl H10) nE, upd_same⟩ (fun j H' _ hP => .inl (.inl (hP.1 _ _ (due hp)))) (fun j x H12 H11 hj hP hY => ?_) (fun H11 hP => ?_)⟩⟩
      · obtain ⟨sm11, hE11⟩ := hP
        obtain ⟨rfl, hx⟩ := hY
        rw [List.getElem?_map] at hx
        obtain ⟨m, hm, rfl⟩ := Option.map_eq_some_iff.mp hx
        obtain ⟨hj2, ej⟩ := List.getElem?_eq_some_iff.mp hm
        have hN11 := sm11 _ _ (sm10 _ _ (sm9 _ _ hN8))
        refine ⟨rfl, .ref N, rfl, nV m, rfl, N, _, m, nV (numAt th m), rfl, rfl, .inl (.inl hN11), atI_nat (by rw [List.getElem?_map, num_at (ilt hm)]; rfl), _, hE11, ?_, Same.mut sm11 nE, ?_⟩
        · rw [List.length_map, List.length_map, List.length_take]
          have := il o
          exact small1000 (by omega)
        · rw [upd_same, List.take_succ_eq_append_getElem hj2, ej, List.map_append, List.map_append]
          rfl
      · obtain ⟨sm11, hE11⟩ := hP
        rw [List.length_map, List.take_of_length_le (Nat.le_refl _)] at hE11
        have sm12 := Same.trans (Same.trans sm9 sm10) sm11
        refine ⟨2, rfl, by decide, by decide, for_range (fun j2 σ H' => ∃ y12 y13 : Option V, σ = [some (.ref k.p), some (tx cols), some (.ref d), some (.ref ca), some (.int (n : Int)), some (.int mv), some (.ref h), some (.ref N), some (tx o), some (.ref t), y10, some (.ref E), y12, y13, y14] ∧ Same H11 H')
          ⟨_, _, rfl, Same.refl H11⟩ (fun j2 σ H13 hj2 hP => ?_) (fun σ H13 hP => ?_)⟩
        · obtain ⟨y12, y13, rfl, sm13⟩ := hP
          have st13 := st8.same (Same.trans sm12 sm13)
          obtain ⟨dx, hp⟩ := st13.o.kp.self
          refine ⟨.ref k.p, rfl, k.p, dx, _, rfl, hp, kpF3_no_sorted_by _ _ _, tx o, rfl, k, cols, th, n, ch, mv, o, rfl, st13.o.kp, hch.nd, List.mem_of_getElem? ho, fun L ns H14 sm14 nL hL ord => ?_⟩
          have ens : ns = numsBy cols th o := ord.same (ord_idx hok o)
          subst ens
          have hE14 := sm14 _ _ (sm13 _ _ hE11)
          have ln : (numsBy cols th o).length ≤ 60 := by
            unfold numsBy
            rw [List.length_map, il]
            exact htl
          refine ⟨.ref L, rfl, .ref E, rfl, .ref L, .ref E, nmD (numsBy cols th o), rfl, .lst hL (flA_nums (L := []) _).to, .lst hE14 (flA_nums (L := []) _).to, dep_nums _, ?_, fun H15 sm15 => ⟨true, rfl, ite2 (fun z => absurd z (by simp)) fun _ => ?_⟩⟩
          · rw [nmD_ls]
            show wd (.list _) ≤ 1000
            rw [wd_ints, List.length_map]
            omega
          have hL15 := sm15 _ _ hL
          refine ⟨.ref L, rfl, .inl ⟨rfl, _, .inl (.inl hL15)⟩, L, _, rfl, rfl, hL15, ?_⟩
          have sm16 : Same H11 (upd H15 L (.lst ((numsBy cols th o).map nV).reverse)) := fun b o e => keep_ne (sm15 _ _ (sm14 _ _ (sm13 _ _ e))) fun z => by
            rw [z] at e
            rw [sm13 _ _ e] at nL
            cases nL
          refine ⟨.ref L, rfl, .inl ⟨rfl, _, .inl (.inl upd_same)⟩, L, _, _, rfl, rfl, upd_same, ?_, ?_⟩
          · rw [List.length_reverse, List.length_map]
            exact small1000 (by omega)
          · refine ⟨_, _, rfl, fun b o e => keep_ne (sm16 _ _ e) fun z => ?_⟩
            rw [z] at e
            rw [sm13 _ _ e] at nL
            cases nL
        · obtain ⟨y12, y13, rfl, sm13⟩ := hP
          exact ⟨_, _, _, _, _, _, rfl, Same.trans sm12 sm13⟩
    obtain ⟨y8, y10, y11, y12, y13, y14, rfl, sm9⟩ := hP
    have st9 := st8.same sm9
    have sx9 := sx8.trans (Same.sx sm9)
    have hh9 := sm9 _ _ hh8
    have gA9 := gA8.same sm9
    have gB9 := gB8.same sm9
    have held9 := held8.keep fun b o _ e => sm9 b o e
    have hN9 := sm9 _ _ hN8
    clear sm9 st8 hh8 gA8 gB8 held8 hN8 fT8
    -- asked
    obtain ⟨dx, hp⟩ := st9.o.kp.self
    refine ⟨.ref k.p, rfl, k.p, dx, _, rfl, hp, kpF3_no_ask _ _ _, (by show 0 ≤ sizeLine; decide), fun e0 o0 ne0 ho0 => ⟨(by show 2 ≤ sizeLine; decide), fun qa nqa => ?_⟩⟩
    have smq : Same H9 (upd (upd H9 e0 (.frz o0 (.tup []))) qa (.tup [.ref e0, .non])) := Same.new (Same.new (Same.refl H9) ne0) nqa
    have fq : QZ (upd (upd H9 e0 (.frz o0 (.tup []))) qa (.tup [.ref e0, .non])) (.ref qa) [] none := QZ.made nqa (EZ.made (ps := []) (es := []) ne0 ho0 .nil) .non
    generalize upd (upd H9 e0 (.frz o0 (.tup []))) qa (.tup [.ref e0, .non]) = H10 at smq fq ⊢
    have st10 := st9.same smq
    have qok : QOk cols [] none := ⟨.nil, (fun p h => nomatch h), Nat.zero_le _, fun c lo hi h => nomatch h⟩
    refine ⟨k, .ref qa, cols, th, n, ch, mv, [], none, rfl, st10.tg, st10.tab, st10.o.kp, hok, htl, hch, fq, qok, (by decide), fun t3 an ov H11 sx11 tg11 tab11 nt3 nan ht3 han best => ⟨t3, _, 0, .ref an, rfl, rfl, .inl (.inl ht3), rfl, .ref N, rfl, ?_⟩⟩
    have allF : fitT cols th [] none = th.map (·.1) := by
      unfold fitT
      exact congrArg _ (List.filter_eq_self.mpr fun x _ => rfl)
    rw [allF] at han
    have st11 := st10.asked sx11 tg11 tab11
    have kk11 : ∀ b o, b ∉ LH Z h r d k → H9 b = some o → H11 b = some o := fun b o nb e => sx11 b o (fun z => nb (sx_in z)) (smq b o e)
    have hN11 := kk11 _ _ NF hN9
    have hh11 : H11 h = some (.lst (hs ++ [.ref A] ++ [.ref B])) := sx11 _ _ (tab_tg st10.tab st10.tg |>.not (smq _ _ hh9) fun q z => nomatch z) (smq _ _ hh9)
    have gA11 := gA9.keep kk11
    have gB11 := gB9.keep kk11
    have held11 := held9.keep kk11
    have lw : wd (nmD (th.map (·.1))) ≤ 1000 := by
      rw [nmD_ls]
      show wd (.list _) ≤ 1000
      rw [wd_ints, List.length_map, List.length_map]
      omega
    refine ⟨.ref an, .ref N, nmD (th.map (·.1)), rfl, .lst han (flA_nums (L := []) _).to, .lst hN11 (flA_nums (L := []) _).to, dep_nums _, lw, fun H12 sm12 => ⟨true, rfl, ite2 (fun z => absurd z (by simp)) fun _ => ?_⟩⟩
    have st12 := st11.same sm12
    have sx12 := ((sx9.trans (Same.sx smq)).trans (sx11.more fun b hb => List.mem_cons_of_mem _ hb)).trans (Same.sx sm12)
    have hh12 := sm12 _ _ hh11
    have gA12 := gA11.same sm12
    have gB12 := gB11.same sm12
    have held12 := held11.keep fun b o _ e => sm12 b o e
    clear held11 gA11 gB11 hh11 hN11 kk11 st11 han ht3 best fq smq sx11 tg11 tab11 st10 hp hN9 held9 gA9 gB9 hh9 st9
    -- what is held
    have alike : ∀ os : List (List Nat), (!PyData.eqv (.list (os.map nmD)) (.list (os.map nmD))) = false := fun os => by
      rw [nmD_lss, eqv_lss]
      rfl
    have shp : ∀ os : List (List Nat), SeqAt.shaped (.list (os.map nmD)) = true := fun os => by
      rw [nmD_lss]
      exact shaped_lss _
    have eAB : (ch.map fun o => nmD (numsBy cols th o)) = (ch.map (numsBy cols th)).map nmD := by rw [List.map_map]; rfl
    rw [eAB] at gA12 gB12
    obtain ⟨u, v, os, hu, hv, fu, fv⟩ : ∃ (u v : V) (os : List (List Nat)), atI (hs ++ [.ref A] ++ [.ref B]) 0 = some u ∧ atI (hs ++ [.ref A] ++ [.ref B]) 1 = some v ∧ Ft H12 u (.list (os.map nmD)) ∧ Ft H12 v (.list (os.map nmD)) := by
      rcases held12 with z | ⟨u, v, os, z, f1, f2⟩
      · subst z
        exact ⟨.ref A, .ref B, _, rfl, rfl, gA12.to, gB12.to⟩
      · subst z
        exact ⟨u, v, os, rfl, rfl, f1.to, f2.to⟩
    refine ⟨.ref h, rfl, h, _, 0, u, rfl, rfl, .inl (.inl hh12), hu, .ref h, rfl, h, _, 1, v, rfl, rfl, .inl (.inl hh12), hv, _, _, fu.to, fv.to, shp _, shp _, _, rfl, ite2 (fun z => ?_) fun _ => ?_⟩
    · rw [alike] at z
      cases z
    refine ⟨.ref h, rfl, 2, rfl, h, _, -2, .ref A, rfl, rfl, .inl (.inl hh12), at_two _ _ _, .ref h, rfl, 1, rfl, h, _, -1, .ref B, rfl, rfl, .inl (.inl hh12), atI_last _ _, _, _, gA12.to.to, gB12.to.to, shp _, shp _, _, rfl, ite2 (fun z => ?_) fun _ => ?_⟩
    · rw [alike] at z
      cases z
    -- held[:-2] = []
    refine ⟨(by show 0 ≤ sizeLine; decide), fun E nE => ?_⟩
    have hE : (upd H12 E (.lst [])) E = some (.lst []) := upd_same
    have sm13 : Same H12 (upd H12 E (.lst [])) := Same.new (Same.refl H12) nE
    generalize upd H12 E (.lst []) = H13 at hE sm13 ⊢
    have hl2 : (hs ++ [V.ref A] ++ [V.ref B]).length = hs.length + 2 := by simp
    refine ⟨.ref h, rfl, 2, rfl, _, rfl, h, E, hs ++ [.ref A] ++ [.ref B], [], 0, hs.length, rfl, rfl, sm13 _ _ hh12, hE, (ne_of_none hh12 nE), ?_, Nat.zero_le _, by omega, ?_, ?_⟩
    · rw [hl2]
      exact bounds_two _
    · rw [hl2]
      exact Nat.le_of_lt (small1000 (by show hs.length + 2 + 0 ≤ 1000; omega))
    have e9 : (hs ++ [V.ref A] ++ [V.ref B]).take 0 ++ [] ++ (hs ++ [V.ref A] ++ [V.ref B]).drop hs.length = [.ref A, .ref B] := by simp
    rw [e9]
    have k14 : Kp h H13 (upd H13 h (.lst [.ref A, .ref B])) := Kp.own Kp.rfl'
    have hh14 : (upd H13 h (.lst [.ref A, .ref B])) h = some (.lst [.ref A, .ref B]) := upd_same
    have st14 := (st12.same sm13).kpH k14 (sm13 _ _ hh12) n0 off
    have sx14 := (sx12.trans (Same.sx sm13)).trans k14.sxH
    have kk14 : ∀ b o, b ∉ LH Z h r d k → H12 b = some o → (upd H13 h (.lst [.ref A, .ref B])) b = some o := fun b o nb e => k14 b o (fun z => nb (by rw [z]; exact List.mem_cons_self)) (sm13 _ _ e)
    have gA14 := gA12.keep kk14
    have gB14 := gB12.keep kk14
    generalize upd H13 h (.lst [.ref A, .ref B]) = H14 at st14 sx14 hh14 gA14 gB14 ⊢
    obtain ⟨dx, hp⟩ := st14.o.kp.self
    refine ⟨.ref k.p, rfl, k.p, dx, _, rfl, hp, kpF3_no_next_number _ _ _, k, cols, th, n, ch, mv, rfl, st14.o.kp, .ref k.p, rfl, k.p, dx, _, rfl, hp, kpF3_no_moved _ _ _, k, cols, th, n, ch, mv, rfl, st14.o.kp, (by show 2 ≤ sizeLine; decide), fun l1 nl1 => ?_⟩
    refine ⟨_, rfl, _, rfl, (by show 2 ≤ sizeLine; decide), fun l2 nl2 => ⟨.ref l1, .ref l2, .list [.int n, .int mv], rfl, .lst (keep_new upd_same nl2) (.cons (.int _) (.cons (.int _) .nil)), .lst upd_same (.cons (.int _) (.cons (.int _) .nil)), ?_, ?_, fun H15 sm15 => ?_⟩⟩
    · show max (PyData.depth (.int n)) (max (PyData.depth (.int mv)) 0) + 1 < 3
      exact Nat.lt_of_le_of_lt (Nat.le_refl _) (by show 0 + 1 < 3; decide)
    · show max 2 (max 0 (max 0 0)) ≤ 1000
      decide
    have sm16 : Same H14 H15 := Same.trans (Same.new (Same.new (Same.refl H14) nl1) nl2) sm15
    exact q [.ref A, .ref B] H15 (sx14.trans (Same.sx sm16)) (st14.same sm16) (sm16 _ _ hh14) (.inr ⟨_, _, _, rfl, gA14.same sm16, gB14.same sm16⟩)

/-! ### the law -/
def spLaw (K : PySem.W.Frag) (Z : Ad) : Sp := fun vs H Q _ => ∃ (a : Addr) (ns : List Int), vs = [.ref a] ∧ SqL K H a (ns.map V.int) ∧ ns.length ≤ 63 ∧ (∀ P ∈ Z.Ps, GxR.TabG H P) ∧ LamX.TabS H Z.P_Kept_ask (lamQ "Kept.ask") ∧ ∀ H', Q (.bl true) H'
/-- how the law stands at a turn -/
structure StW (Z : Ad) (H0 : Hp) (r d ca h t R : Addr) (k : KAd) (cols : List Nat) (ch : List (List Nat)) (H : Hp) (th : Nmd) (n : Nat) (mv : Int) : Prop where
  st : StK Z H0 r d ca k cols ch H th n mv
  hh : ∃ hs, H h = some (.lst hs) ∧ Held (LH Z h r d k) H hs
  n0 : H0 h = none
  ht : H t = some (.tup [tx cols, .ref R])
  off : h ∉ r :: d :: k.F
theorem StW.done {H0 : Hp} {r d ca h t R : Addr} {k : KAd} {cols : List Nat} {ch : List (List Nat)} {H H' : Hp} {th th' : Nmd} {n n' : Nat} {mv mv' : Int} (s : StW Z H0 r d ca h t R k cols ch H th n mv) (nP : Z.P_Kept_ask ∉ Z.Ps) {n1 : Int} (sx : Sx (r :: d :: (k.F ++ Z.Ps)) H H') (tg : TG Z.Ps H') (hr : H' r = some (.lst [.int n1])) (o : OneK Z.C_Kept Z.C_Rows H' k d cols th' n' ch mv') : StW Z H0 r d ca h t R k cols ch H' th' n' mv' := by
  have more : ∀ b ∈ r :: d :: (k.F ++ Z.Ps), b ∈ r :: d :: (k.F ++ Z.P_Kept_ask :: Z.Ps) := fun b hb => (mem_rdk.mp hb).elim (fun z => mem_rdk.mpr (.inl z)) fun z => mem_rdk.mpr (.inr (List.mem_cons_of_mem _ z))
  obtain ⟨hs, h1, h2⟩ := s.hh
  exact ⟨s.st.done nP sx tg hr o, ⟨hs, s.st.lst (sx.more more) s.off h1, h2.keep fun b o nb e => sx b o (fun z => nb (List.mem_cons_of_mem _ (more b z))) e⟩, s.n0, (s.st.kT (sx.more more)).1 _ _ s.ht, s.off⟩
theorem StW.look {H0 : Hp} {r d ca h t R : Addr} {k : KAd} {cols : List Nat} {ch : List (List Nat)} {H H' : Hp} {th : Nmd} {n : Nat} {mv : Int} (s : StW Z H0 r d ca h t R k cols ch H th n mv) (sx : Sx (h :: Z.P_Kept_ask :: Z.Ps) H H') (st : StK Z H0 r d ca k cols ch H' th n mv) (hh : ∃ hs, H' h = some (.lst hs) ∧ Held (LH Z h r d k) H' hs) : StW Z H0 r d ca h t R k cols ch H' th n mv := by
  obtain ⟨hs, h1, _⟩ := s.hh
  exact ⟨st, hh, s.n0, sx _ _ (fun z => (List.mem_cons.mp z).elim (fun z => by
    have h2 := s.ht
    rw [z, h1] at h2
    cases h2) ((tab_tg s.st.tab s.st.tg).not s.ht fun q z => nomatch z)) s.ht, s.off⟩
set_option maxHeartbeats 16000000 in
theorem ok_law (T : Tx K mg Z) (TB : Tb base mg Z) : FnOk P w K mg base CX0 9 Z.f_law Z.d_law ["script"] (spLaw K Z) := by
  have G_l_reel : FnOk P w K mg base CX0 1 Z.f_l_reel Z.d_l_reel ["script", "k"] (spReel K) := ok_reel T
  have G_l_pick : FnOk P w K mg base CX0 1 Z.f_l_pick Z.d_l_pick ["reel", "many"] (spPick K) := ok_pick T
  have G_l_table : FnOk P w K mg base CX0 3 Z.f_l_table Z.d_l_table ["reel", "most", "rows"] (spTable K) := ok_table T
  have G_l_choice : FnOk P w K mg base CX0 3 Z.f_l_choice Z.d_l_choice ["reel", "columns", "many"] (spKChoice K) := ok_kchoice T
  have G_Kept___init__ : FnOk P w K mg base CX0 4 Z.f_Kept___init__ Z.d_Kept___init__ ["self", "table", "choice"] (spKeptInit K Z) := ok_keptinit T TB
  have G_Kept_put : FnOk P w K mg base CX0 4 Z.f_Kept_put Z.d_Kept_put ["self", "row"] (spKeptPut K Z) := ok_keptput T TB
  have G_Kept_take : FnOk P w K mg base CX0 4 Z.f_Kept_take Z.d_Kept_take ["self", "number"] (spKeptTake K Z) := ok_kepttake T TB
  have G_l_stands : FnOk P w K mg base CX0 8 Z.f_l_stands Z.d_l_stands ["kept", "columns", "there", "choice", "number", "moved", "held"] (spStands K Z) := ok_lstands T TB
  refine T.F_law.ok sc_law (fun vs H Q E h => ?_) (fun cdv A outer s H vs Q E hr h => ?_)
  · obtain ⟨a, ns, rfl, _⟩ := h
    rfl
  · obtain ⟨a, ns, rfl, hS, hlen, tgA, tabA, q⟩ := h
    have tg : TG Z.Ps H := tgA
    refine ⟨_, (pss_cons (ps_for PassesOwn.never rfl (pi_range1 (by rfl) T.m_range (pa_cons pe_int pa_nil)) (pg_name (i := 1) sc_law.nd rfl (.inl rfl)) (pss_cons (ps_set (i := 2) sc_law.nd rfl (.inr rfl) (pe_call G_l_reel (hr.mono (by omega)) (by rfl) T.g_l_reel T.F_l_reel.kp T.b_l_reel .nil pass0 (pa_cons (pv 0) (pa_cons (pv 1) pa_nil))))
      (pss_cons (ps_set (i := 3) sc_law.nd rfl (.inl rfl) (pe_callTy call_int1 (by rfl) T.m_int (by decide +kernel) (pa_cons (pe_cmpR op_eq (pe_op op_mod (pe_callB (cLenSq K) (by rfl) T.m_len (by decide +kernel) (pa_cons (pv 0) pa_nil)) pe_int) pe_int (nomark _)) pa_nil)))
      (pss_cons (ps_set (i := 4) sc_law.nd rfl (.inl rfl) (pe_call G_l_table (hr.mono (by omega)) (by rfl) T.g_l_table T.F_l_table.kp T.b_l_table .nil pass0 (pa_cons (pv 2) (pa_cons (pe_op op_add pe_int (pv 3)) (pa_cons pe_int pa_nil)))))
      (pss_cons (ps_set (i := 5) sc_law.nd rfl (.inl rfl) (pe_call G_l_choice (hr.mono (by omega)) (by rfl) T.g_l_choice T.F_l_choice.kp T.b_l_choice .nil pass0 (pa_cons (pv 2) (pa_cons (pe_ix (ixT K) (pv 4) pe_int (fun _ _ => rfl)) (pa_cons (pe_op op_add pe_int (pe_op op_mul pe_int (pv 3))) pa_nil)))))
      (pss_cons (ps_set (i := 6) sc_law.nd rfl (.inl rfl) (pe_make T.mk_Kept G_Kept___init__ (hr.mono (by omega)) (by rfl) T.g_Kept T.b_Kept___init__ .nil pass0 (pa_cons (pv 4) (pa_cons (pv 5) pa_nil))))
      (pss_cons (ps_set (i := 7) sc_law.nd rfl (.inl rfl) (pe_lst pa_nil))
      (pss_cons (ps_set (i := 8) sc_law.nd rfl (.inl rfl) (pe_dictEnum K (by rfl) (pa_cons (pe_ix (ixT K) (pv 4) pe_int (fun _ _ => rfl)) pa_nil) (by rfl) T.m_dict (by rfl) T.m_enumerate))
      (pss_cons (ps_set (i := 9) sc_law.nd rfl (.inl rfl) (pe_callB call_lenD (by rfl) T.m_len (by decide +kernel) (pa_cons (pv 8) pa_nil)))
      (pss_cons (ps_set (i := 10) sc_law.nd rfl (.inl rfl) pe_int)
      (pss_cons (ps_if (pt_not (pt_val (pe_call G_l_stands (hr.mono (by omega)) (by rfl) T.g_l_stands T.F_l_stands.kp T.b_l_stands .nil pass0 (pa_cons (pv 6) (pa_cons (pe_ix (ixT K) (pv 4) pe_int (fun _ _ => rfl)) (pa_cons (pv 8) (pa_cons (pv 5) (pa_cons (pv 9) (pa_cons (pv 10) (pa_cons (pv 7) pa_nil)))))))))) (pss_one (ps_ret pe_bl)) pss_nil)
      (pss_one (ps_for PassesOwn.never rfl (pi_range1 (by rfl) T.m_range (pa_cons (pe_call G_l_pick (hr.mono (by omega)) (by rfl) T.g_l_pick T.F_l_pick.kp T.b_l_pick .nil pass0 (pa_cons (pv 2) (pa_cons pe_int pa_nil))) pa_nil)) (pg_name (i := 11) sc_law.nd rfl (.inl rfl)) (pss_mid (ps_if (PW.pt (pw_and (pt_cmpR (neD0 hr.units) (pv 8) pe_dnewK (nomark _)) (pw_and1 (pt_cmpR op_eq (pe_call G_l_pick (hr.mono (by omega)) (by rfl) T.g_l_pick T.F_l_pick.kp T.b_l_pick .nil pass0 (pa_cons (pv 2) (pa_cons pe_int pa_nil))) pe_int (nomark _))))) (pss_cons (ps_set (i := 12) sc_law.nd rfl (.inl rfl) (pe_ix (ixL K) (pe_callB (call_sortedDI rfl) (by rfl) T.m_sorted (by decide +kernel) (pa_cons (pv 8) pa_nil)) (pe_call G_l_pick (hr.mono (by omega)) (by rfl) T.g_l_pick T.F_l_pick.kp T.b_l_pick .nil pass0 (pa_cons (pv 2) (pa_cons (pe_callB call_lenD (by rfl) T.m_len (by decide +kernel) (pa_cons (pv 8) pa_nil)) pa_nil))) (fun _ _ => rfl)))
      (pss_cons (ps_if (pt_cmpR op_notN (pe_meth (pv 6) T.cl_Kept T.m_Kept_take G_Kept_take (hr.mono (by omega)) T.b_Kept_take .nil pass0 (pa_cons (pv 12) pa_nil)) pe_non (nomark _)) (pss_one (ps_ret pe_bl)) pss_nil)
      (pss_one (ps_expr (pe_dpop1 (pv 8) (pv 12) ⟨rfl, rfl, rfl, rfl⟩))))) (pss_cons (ps_set (i := 13) sc_law.nd rfl (.inl rfl) (pe_callTy (cTupSq K) (by rfl) T.m_tuple (by decide +kernel) (pa_cons (pe_lc (own := [("letter", 15)]) (tt := tYes) (by rfl) sc_law.nd (pi_str (pe_ix (ixT K) (pv 4) pe_int (fun _ _ => rfl))) (blkOk_by (own := [("letter", 15)]) (by kernel_rfl)) (fun _ _ _ _ _ => (pg_name (i := 15) sc_law.nd rfl (.inl rfl))) (fun _ _ _ _ _ => pts_nil) (fun _ _ _ _ _ => (pe_call G_l_pick (hr.mono (by omega)) (by rfl) T.g_l_pick T.F_l_pick.kp T.b_l_pick .nil pass0 (pa_cons (pv 2) (pa_cons pe_int pa_nil))))) pa_nil)))
      (pss_mid (ps_if (PW.pt (pw_and (pt_cmpR (neD0 hr.units) (pv 8) pe_dnewK (nomark _)) (pw_and1 (pt_cmpR op_eq (pe_call G_l_pick (hr.mono (by omega)) (by rfl) T.g_l_pick T.F_l_pick.kp T.b_l_pick .nil pass0 (pa_cons (pv 2) (pa_cons pe_int pa_nil))) pe_int (nomark _))))) (pss_one (ps_set (i := 13) sc_law.nd rfl (.inl rfl) (pe_dget (hu_of hr) (pv 8) (pe_ix (ixL K) (pe_callB (call_sortedDI rfl) (by rfl) T.m_sorted (by decide +kernel) (pa_cons (pv 8) pa_nil)) (pe_call G_l_pick (hr.mono (by omega)) (by rfl) T.g_l_pick T.F_l_pick.kp T.b_l_pick .nil pass0 (pa_cons (pv 2) (pa_cons (pe_callB call_lenD (by rfl) T.m_len (by decide +kernel) (pa_cons (pv 8) pa_nil)) pa_nil))) (fun _ _ => rfl)) (fun _ _ => rfl)))) pss_nil)
      (pss_cons (ps_set (i := 14) sc_law.nd rfl (.inl rfl) (pe_meth (pv 6) T.cl_Kept T.m_Kept_put G_Kept_put (hr.mono (by omega)) T.b_Kept_put .nil pass0 (pa_cons (pv 13) pa_nil)))
      (pss_cons (ps_if (PW.pt (pw_or (pt_val (pe_callB (isiK K) (by rfl) T.m_isinstance (by decide +kernel) (pa_cons (pv 14) (pa_cons (pe_bltn (v := .ty "bool") (by rfl) T.m_bool (by decide +kernel) rfl) pa_nil)))) (pw_or1 (pt_cmpR op_ne (pv 14) (pv 9) (nomark _))))) (pss_one (ps_ret pe_bl)) pss_nil)
      (pss_cons (ps_dput (hu_of hr) (pv 8) (pv 9) (pv 13) rfl)
      (pss_one (ps_set (i := 9) sc_law.nd rfl (.inl rfl) (pe_op op_add (pv 9) pe_int)))))))))
      (pss_cons (ps_set (i := 10) sc_law.nd rfl (.inl rfl) (pe_op op_add (pv 10) (pe_callB (cLenSq K) (by rfl) T.m_len (by decide +kernel) (pa_cons (pv 5) pa_nil))))
      (pss_one (ps_if (pt_not (pt_val (pe_call G_l_stands (hr.mono (by omega)) (by rfl) T.g_l_stands T.F_l_stands.kp T.b_l_stands .nil pass0 (pa_cons (pv 6) (pa_cons (pe_ix (ixT K) (pv 4) pe_int (fun _ _ => rfl)) (pa_cons (pv 8) (pa_cons (pv 5) (pa_cons (pv 9) (pa_cons (pv 10) (pa_cons (pv 7) pa_nil)))))))))) (pss_one (ps_ret pe_bl)) pss_nil)))))))))))))))))
      (pss_one (ps_ret pe_bl))), ?_⟩
    refine ⟨2, rfl, by decide, by decide, for_range (fun i σ H' => ∃ y1 y2 y3 y4 y5 y6 y7 y8 y9 y10 y11 y12 y13 y14 y15 : Option V, σ = [some (.ref a), y1, y2, y3, y4, y5, y6, y7, y8, y9, y10, y11, y12, y13, y14, y15] ∧ SqL K H' a (ns.map V.int) ∧ TG Z.Ps H' ∧ LamX.TabS H' Z.P_Kept_ask (lamQ "Kept.ask")) ⟨none, none, none, none, none, none, none, none, none, none, none, none, none, none, none, rfl, hS, tg, tabA⟩ (fun i σ H0 hi hP => ?_) (fun σ H0 hP => q H0)⟩
    obtain ⟨y1, y2, y3, y4, y5, y6, y7, y8, y9, y10, y11, y12, y13, y14, y15, rfl, hS0, tg0, tab0⟩ := hP
    -- reel
    refine ⟨.ref a, rfl, _, rfl, a, ns, i, by rw [Int.zero_add]; rfl, hS0, by omega, fun n0 r nr => ?_⟩
    have sm1 : Same H0 (upd H0 r (.lst [.int n0])) := Same.new (Same.refl H0) nr
    have hR1 : (upd H0 r (.lst [.int n0])) r = some (.lst [.int n0]) := upd_same
    generalize upd H0 r (.lst [.int n0]) = H1 at sm1 hR1 ⊢
    -- far
    refine ⟨.ref a, rfl, a, _, rfl, .inl (Sx.seqL tg0 (Same.sx sm1) hS0), _, 8, rfl, rfl, (by show (0 : Int) < 8; decide), rfl, .inr ⟨_, rfl, ?_⟩⟩
    obtain ⟨fn, hfn, efn⟩ : ∃ fn : Nat, fn ≤ 1 ∧ (if decide (V.int (((ns.map V.int).length : Int) % 8) = V.int 5) = true then (1 : Int) else 0) = fn := by
      split
      · exact ⟨1, Nat.le_refl _, rfl⟩
      · exact ⟨0, Nat.zero_le _, rfl⟩
    show gName 3 (.int (if decide (V.int (((ns.map V.int).length : Int) % 8) = V.int 5) = true then (1 : Int) else 0)) _ H1 _
    rw [efn]
    -- table
    refine ⟨.ref r, rfl, _, rfl, 5, fn, rfl, rfl, r, n0, 5 + fn, 12, rfl, hR1, by omega, by omega, by decide, fun cols rows tv n3 H3 kp3 hR3 fT3 hc hc1 hc6 hrs hrl => ?_⟩
    have sm3 : Same H0 H3 := Same.kpN sm1 nr kp3
    obtain ⟨t, R, vs, rfl, ht3, hRR3, fvs3⟩ := tab_open fT3
    have hvl : vs.length = rows.length := by rw [fvs3.len, List.length_map]
    -- columns, choice
    refine ⟨.ref r, rfl, .ref t, rfl, t, [tx cols, .ref R], 0, tx cols, rfl, rfl, .inl (.inl ht3), rfl, _, rfl, 4, fn, rfl, rfl, .inl ⟨by decide, by decide⟩, 4, (4 * fn : Nat), rfl, rfl, r, n3, cols, 4 + 4 * fn, rfl, hR3, by omega, by omega, hc.nd, by omega, fun ch ca n4 H4 kp4 hR4 hca4 okc hcl => ?_⟩
    have sm4 : Same H0 H4 := Same.kpN sm3 nr kp4
    have kt4 := kp4.kt hR3
    have fT4 := fT3.kt kt4
    have hRR4 := kt4 _ _ hRR3
    have ht4 := kt4 _ _ ht3
    have fvs4 := fvs3.kt kt4
    have hch : ChL cols ch := ⟨okc.nd, fun o ho => ⟨Nat.le_trans (okc.ok o ho).len (by omega), (okc.ok o ho).sub⟩, by omega⟩
    clear sm1 sm3 hR1 hR3 kp3 kp4 fT3 ht3 hRR3 fvs3
    have tg4 := tg0.same sm4
    have tab4 := tab_same tab0 sm4
    -- kept
    refine ⟨.ref t, rfl, .ref ca, rfl, fun p dx0 np ndx nex => ?_⟩
    have sm5 : Same H4 (upd (upd H4 dx0 (.own p)) p (.ins Z.C_Kept dx0 [])) := fun b o e => by
      rw [upd_ne (ne_of_none e np), upd_ne (ne_of_none e ndx)]
      exact e
    have hp5 : (upd (upd H4 dx0 (.own p)) p (.ins Z.C_Kept dx0 [])) p = some (.ins Z.C_Kept dx0 []) := upd_same
    generalize upd (upd H4 dx0 (.own p)) p (.ins Z.C_Kept dx0 []) = H5 at sm5 hp5 ⊢
    refine ⟨p, dx0, .ref t, cols, rows, ca, ch, rfl, tg4.same sm5, hp5, fT4.kt (Same.kt sm5), hrs, by omega, sm5 _ _ hca4, hch, fun k H6 ek sx6 tg6 hfree kp6 => ⟨rfl, ?_⟩⟩
    have free4 : ∀ b ∈ k.F, H4 b = none := fun b hb => by
      by_cases e : b = p
      · rw [e]
        exact np
      · cases e7 : H4 b with
        | none => rfl
        | some o =>
          have := hfree b hb e
          rw [sm5 _ _ e7] at this
          cases this
    have sx46 : Sx Z.Ps H4 H6 := fun b o nb e => sx6 b o (fun z => (List.mem_cons.mp z).elim (ne_of_none e np) nb) (sm5 b o e)
    have kt6 := sx46.kt tg4
    have hR6 := sx46.lst tg4 hR4
    have tab6 := tab_sx tab4 tg4 sx46 T.l_Kept_ask
    have hca6 := kt6 _ _ hca4
    have hRR6 := kt6 _ _ hRR4
    have fvs6 := fvs4.kt kt6
    -- held
    refine ⟨(by show 0 ≤ sizeLine; decide), fun h nh => ?_⟩
    have sm7 : Same H6 (upd H6 h (.lst [])) := Same.new (Same.refl H6) nh
    have hh7 : (upd H6 h (.lst [])) h = some (.lst []) := upd_same
    have hnF : h ∉ k.F := fun z => by
      obtain ⟨o, h1, _⟩ := kp6.at z
      rw [nh] at h1
      cases h1
    have hnr : h ≠ r := fun z => by
      rw [z, hR6] at nh
      cases nh
    generalize upd H6 h (.lst []) = H7 at sm7 hh7 ⊢
    have kp7 := kp6.keep (fun b _ o e => sm7 _ _ e) (Same.kt sm7)
    -- there
    refine ⟨.ref t, rfl, t, [tx cols, .ref R], 1, .ref R, rfl, rfl, .inl (.inl (sm7 _ _ (kt6 _ _ ht4))), rfl, R, vs, rfl, .inl (.inl (sm7 _ _ hRR6)), by omega, fun d nd => ?_⟩
    have sm8 : Same H7 (upd H7 d (.dK (enK 0 vs))) := Same.new (Same.refl H7) nd
    have hd8 : (upd H7 d (.dK (enK 0 vs))) d = some (.dK (enK 0 vs)) := upd_same
    have nm8 := (NmK.en 0 (fvs6.kt (Same.kt sm7))).kt (Same.kt sm8)
    have hdh : h ≠ d := ne_of_none hh7 nd
    generalize upd H7 d (.dK (enK 0 vs)) = H8 at sm8 hd8 nm8 ⊢
    have hh8 := sm8 _ _ hh7
    have sm68 := Same.trans sm7 sm8
    have hlen : ((enK 0 vs).length : Int) = (rows.length : Nat) := by rw [nm8.len, thN_len]
    refine ⟨.ref d, rfl, d, enK 0 vs, rfl, hd8, ?_⟩
    rw [hlen]
    have dnF : d ∉ k.F := fun z => by
      obtain ⟨o, h1, _⟩ := kp7.at z
      rw [nd] at h1
      cases h1
    have n0' : ∀ b, H4 b = none → H0 b = none := fun b h => by
      cases e : H0 b with
      | none => rfl
      | some o => rw [sm4 _ _ e] at h; cases h
    have st8 : StK Z H0 r d ca k cols ch H8 (thN 0 rows) rows.length 0 := by
      refine ⟨((Same.sx sm4).trans sx46).trans (Same.sx sm68) |>.cons _, tg6.same sm68, tab_same tab6 sm68, ⟨_, sm68 _ _ hR6⟩, ⟨kp7.keep (fun b _ o e => sm8 _ _ e) (Same.kt sm8), NmOk.start hrs, ⟨_, hd8, nm8⟩, dnF⟩, sm68 _ _ hca6, fun b hb => ?_, fun z => ?_⟩
      · rcases List.mem_cons.mp hb with z | hb
        · exact z ▸ nr
        rcases List.mem_cons.mp hb with z | hb
        · rw [z]
          have nd6 : H6 d = none := by
            cases e : H6 d with
            | none => rfl
            | some o => rw [sm7 _ _ e] at nd; cases nd
          exact n0' _ (Sx.free tg6 sx46 nd6)
        · exact n0' _ (free4 b hb)
      · rcases List.mem_cons.mp z with z | z
        · rw [← z, sm7 _ _ hR6] at nd
          cases nd
        · rw [free4 _ z] at hR4
          cases hR4
    have sw8 : StW Z H0 r d ca h t R k cols ch H8 (thN 0 rows) rows.length 0 := ⟨st8, ⟨[], hh8, .inl rfl⟩, n0' _ (Sx.free tg6 sx46 nh), sm68 _ _ (kt6 _ _ ht4), fun z => by
      rcases List.mem_cons.mp z with z | z
      · exact hnr z
      · exact (List.mem_cons.mp z).elim hdh hnF⟩
    clear st8 hh8 sm68 hR6 tab6 hca6 hRR6 fvs6 sm7 sm8 hd8 nm8 hlen dnF kt6 sx46 free4 sx6 tg6 hfree kp6 kp7 hp5 sm5 fT4 hRR4 fvs4 hR4 hca4 kt4 sm4 tg4 tab4 hnF hnr hdh hh7
    subst ek
    -- stands
    obtain ⟨hs, hh, held⟩ := sw8.hh
    refine ⟨.ref k.p, rfl, .ref t, rfl, t, [tx cols, .ref R], 0, tx cols, rfl, rfl, .inl (.inl sw8.ht), rfl, .ref d, rfl, .ref ca, rfl, _, rfl, _, rfl, .ref h, rfl, H0, r, d, ca, h, k, cols, ch, thN 0 rows, rows.length, 0, hs, rfl, sw8.st, by rw [thN_len]; omega, hch, hh, sw8.n0, sw8.off, held, fun hs2 H9 sx9 st9 hh9 held9 => ⟨true, rfl, ite2 (fun z => absurd z (by simp)) fun _ => ?_⟩⟩
    have sw9 := sw8.look sx9 st9 ⟨hs2, hh9, held9⟩
    clear sw8 st9 hh9 held9 sx9 hh held
    -- the turns
    obtain ⟨rn9, hR9⟩ := sw9.st.hr
    refine ⟨.ref r, rfl, r, rn9, 17, rfl, hR9, by decide, by decide, fun g n9 g0 g1 => ⟨g, rfl, by omega, by omega, ?_⟩⟩
    have sw10 := sw9.done T.l_Kept_ask (H' := upd H9 r (.lst [.int n9])) (Sx.updL Sx.rfl') (sw9.st.tg.mut hR9) upd_same (sw9.st.o.keep (fun b hb o e => keep_ne e fun z => sw9.st.nr (z ▸ hb)) (Kt.lst hR9))
    generalize upd H9 r (.lst [.int n9]) = H10 at sw10 ⊢
    clear sw9 hR9
    refine for_range (fun q σ H' => ∃ (y11 y12 y13 y14 y15 : Option V) (th : Nmd) (n : Nat) (mv : Int), σ = [some (.ref a), some (.int (0 + (i : Nat))), some (.ref r), some (.int fn), some (.ref t), some (.ref ca), some (.ref k.p), some (.ref h), some (.ref d), some (.int (n : Int)), some (.int mv), y11, y12, y13, y14, y15] ∧ StW Z H0 r d ca h t R k cols ch H' th n mv ∧ th.length ≤ 12 + q)
      ⟨_, _, _, _, _, thN 0 rows, rows.length, 0, rfl, sw10, by rw [thN_len]; omega⟩ (fun q σ H11 hq hP => ?_) (fun σ H11 hP => ?_)
    · obtain ⟨y11, y12, y13, y14, y15, th, n, mv, rfl, sw11, htl⟩ := hP
      have hq17 : q < 17 := by omega
      refine ⟨fun σ G => ∃ (y12 y13 y14 y15 : Option V) (th1 : Nmd) (n1 : Nat) (rn : Int), σ = [some (.ref a), some (.int (0 + (i : Nat))), some (.ref r), some (.int fn), some (.ref t), some (.ref ca), some (.ref k.p), some (.ref h), some (.ref d), some (.int (n1 : Int)), some (.int mv), some (.int (0 + (q : Nat))), y12, y13, y14, y15] ∧ Sx (r :: d :: (k.F ++ Z.Ps)) H11 G ∧ TG Z.Ps G ∧ OneK Z.C_Kept Z.C_Rows G k d cols th1 n1 ch (mv + ch.length) ∧ th1.length ≤ th.length + 1 ∧ G r = some (.lst [.int rn]), ?_, fun σ G hM => ?_⟩
      · obtain ⟨rn0, hR0⟩ := sw11.st.hr
        have o0 := sw11.st.o
        have tg0 := sw11.st.tg
        have nrd : r ≠ d := fun z => sw11.st.nr (z ▸ List.mem_cons_self)
        have nrF : r ∉ k.F := fun z => sw11.st.nr (List.mem_cons_of_mem _ z)
        have nr' := sw11.st.nr
        refine ⟨_, rfl, fun e ne => ?_⟩
        have o1 := o0.keep (H' := upd H11 e (.dK [])) (fun b _ o h => keep_new h ne) (Kt.new ne)
        have sx1 : Sx (r :: d :: (k.F ++ Z.Ps)) H11 (upd H11 e (.dK [])) := Sx.new Sx.rfl' ne
        have tg1 := tg0.new (o := .dK []) ne
        have hR1 := keep_new (o := .dK []) hR0 ne
        have he1 : (upd H11 e (.dK [])) e = some (.dK []) := upd_same
        generalize upd H11 e (.dK []) = H12 at o1 sx1 tg1 hR1 he1 ⊢
        obtain ⟨kvs, hd, nm⟩ := o1.dd
        refine ⟨d, e, kvs, rfl, rfl, hd, he1, _, rfl, ite2 (fun c1 => ?_) (fun _ => ?_)⟩
        refine ⟨.ref r, rfl, r, rn0, 3, rfl, hR1, by decide, by decide, fun way rn1 w0 w1 => ⟨rfl, _, rfl, ite2 (fun c2 => ?_) (fun _ => ?_)⟩⟩
        · have htl0 : 0 < th.length := by
            rw [← nm.len]
            cases kvs with
            | nil => cases c1
            | cons p q => exact Nat.succ_pos _
          have o2 := o1.keep (H' := upd H12 r (.lst [.int rn1])) (fun b hb o e => keep_ne e fun z => nr' (z ▸ hb)) (Kt.lst hR1)
          have sx2 : Sx (r :: d :: (k.F ++ Z.Ps)) H11 (upd H12 r (.lst [.int rn1])) := Sx.updL sx1
          have tg2 : TG Z.Ps (upd H12 r (.lst [.int rn1])) := tg1.mut hR1
          have hR2 : (upd H12 r (.lst [.int rn1])) r = some (.lst [.int rn1]) := upd_same
          generalize upd H12 r (.lst [.int rn1]) = H13 at o2 sx2 tg2 hR2 ⊢
          obtain ⟨kvs2, hd2, nm2⟩ := o2.dd
          -- gone
          refine ⟨.ref d, rfl, d, kvs2, (th.map (·.1)).map fun x : Nat => (x : Int), rfl, .inl hd2, ?_, ?_, fun ys N hperm hso nN => ?_⟩
          · rw [nm2.keys, List.map_map, List.map_map]
            rfl
          · rw [List.length_map, List.length_map]
            omega
          have eys : ys = (th.map (·.1)).map fun x : Nat => (x : Int) := by
            refine ints_one hso ?_ hperm
            rw [List.pairwise_map]
            exact o2.ok.up.imp fun {a b} z => by omega
          rw [eys, ← nV_map]
          have o3 := o2.keep (H' := upd H13 N (.lst ((th.map (·.1)).map nV))) (fun b _ o h => keep_new h nN) (Kt.new nN)
          have sx3 := sx2.new (o := .lst ((th.map (·.1)).map nV)) nN
          have tg3 := tg2.new (o := .lst ((th.map (·.1)).map nV)) nN
          have hR3 := keep_new (o := .lst ((th.map (·.1)).map nV)) hR2 nN
          have hN3 : (upd H13 N (.lst ((th.map (·.1)).map nV))) N = some (.lst ((th.map (·.1)).map nV)) := upd_same
          have nNr : N ≠ r := (ne_of_none hR2 nN).symm
          generalize upd H13 N (.lst ((th.map (·.1)).map nV)) = H3 at o3 sx3 tg3 hR3 hN3 ⊢
          obtain ⟨kvs3, hd3, nm3⟩ := o3.dd
          have hk3 := nm3.len
          refine ⟨.ref r, rfl, .ref d, rfl, d, kvs3, rfl, hd3, r, rn1, kvs3.length, rfl, hR3, by omega, by omega, fun g rn4 g0 g1 => ?_⟩
          have o4 := o3.keep (H' := upd H3 r (.lst [.int rn4])) (fun b hb o e => keep_ne e fun z => nr' (z ▸ hb)) (Kt.lst hR3)
          have sx4 : Sx (r :: d :: (k.F ++ Z.Ps)) H11 (upd H3 r (.lst [.int rn4])) := Sx.updL sx3
          have tg4 : TG Z.Ps (upd H3 r (.lst [.int rn4])) := tg3.mut hR3
          have hR4 : (upd H3 r (.lst [.int rn4])) r = some (.lst [.int rn4]) := upd_same
          have hN4 : (upd H3 r (.lst [.int rn4])) N = some (.lst ((th.map (·.1)).map nV)) := keep_ne hN3 nNr
          generalize upd H3 r (.lst [.int rn4]) = H4 at o4 sx4 tg4 hR4 hN4 ⊢
          obtain ⟨gi, rfl⟩ : ∃ gi : Nat, g = gi := ⟨g.toNat, by omega⟩
          have hgl : gi < th.length := by omega
          refine ⟨N, (th.map (·.1)).map nV, _, nV (numAt th gi), rfl, rfl, .inl (.inl hN4), atI_nat (by rw [List.getElem?_map, num_at hgl]; rfl), ?_⟩
          have hm : numAt th gi ∈ th.map (·.1) := List.mem_of_getElem? (num_at hgl)
          generalize numAt th gi = gn at hm ⊢
          -- kept.take(gone)
          obtain ⟨dx, hp⟩ := o4.kp.self
          refine ⟨.ref k.p, rfl, k.p, dx, _, rfl, hp, kpF3_no_take _ _ _, _, rfl, k, cols, th, n, ch, mv, gn, rfl, tg4, o4.kp, o4.ok, hm, hch, fun H5 sx5 tg5 kp5 => ⟨rfl, _, rfl, ite2 (fun z => ?_) fun _ => ?_⟩⟩
          · exact absurd z (by simp)
          have kt5 := o4.kp.kt tg4 sx5
          obtain ⟨kvs4, hd4, nm4⟩ := o4.dd
          have hd5 := sx5 _ _ (fun z => (List.mem_append.mp z).elim o4.nd (tg4.not hd4 fun q z => nomatch z)) hd4
          have hR5 := sx5 _ _ (fun z => (List.mem_append.mp z).elim nrF (tg4.not hR4 fun q z => nomatch z)) hR4
          obtain ⟨v, hv, _⟩ := nm4.at' o4.ok.nd (rowT_mem o4.ok.nd hm)
          refine ⟨.ref d, rfl, d, rfl, .inl ⟨kvs4, .inl hd5⟩, _, rfl, kvs4, nKy gn, v, hd5, rfl, hv, ?_⟩
          have kt6 : Kt H5 (upd H5 d (.dK (dropK kvs4 (nKy gn)))) := Kt.dct hd5
          refine ⟨_, _, _, _, outT th gn, n, rn4, rfl, fun c o nb h => keep_ne (sx5 c o (fun z => nb (List.mem_cons_of_mem _ (List.mem_cons_of_mem _ z))) (sx4 c o nb h)) (fun z => nb (by rw [z]; exact List.mem_cons_of_mem _ List.mem_cons_self)), tg5.put (tg5.not hd5 fun q z => nomatch z),
            ⟨kp5.keep (fun c hc o h => keep_ne h fun z => o4.nd (z ▸ hc)) kt6, o4.ok.out gn, ⟨_, upd_same, ((nm4.kt kt5).drop gn).kt kt6⟩, o4.nd⟩, Nat.le_trans (List.length_filter_le _ _) (Nat.le_succ _), keep_ne hR5 nrd⟩
        have o1 := o1.keep (H' := upd H12 r (.lst [.int rn1])) (fun b hb o e => keep_ne e fun z => nr' (z ▸ hb)) (Kt.lst hR1)
        have sx1 : Sx (r :: d :: (k.F ++ Z.Ps)) H11 (upd H12 r (.lst [.int rn1])) := Sx.updL sx1
        have tg1 : TG Z.Ps (upd H12 r (.lst [.int rn1])) := tg1.mut hR1
        have hR1 : (upd H12 r (.lst [.int rn1])) r = some (.lst [.int rn1]) := upd_same
        generalize upd H12 r (.lst [.int rn1]) = H12 at o1 sx1 tg1 hR1 ⊢
        all_goals
          obtain ⟨rnB, hRB⟩ : ∃ x, H12 r = some (.lst [.int x]) := ⟨_, hR1⟩
          have more : ∀ b ∈ r :: d :: (k.F ++ Z.Ps), b ∈ r :: d :: (k.F ++ Z.P_Kept_ask :: Z.Ps) := fun b hb => (mem_rdk.mp hb).elim (fun z => mem_rdk.mpr (.inl z)) fun z => mem_rdk.mpr (.inr (List.mem_cons_of_mem _ z))
          have ht12 : H12 t = some (.tup [tx cols, .ref R]) := (sw11.st.kT (sx1.more more)).1 _ _ sw11.ht
          -- row
          refine ⟨.ref t, rfl, t, [tx cols, .ref R], 0, tx cols, rfl, rfl, .inl (.inl ht12), rfl, _, rfl, fun D nD => lc_it walk_str (fun j H' => ∃ (row : List Int) (n3 : Int), Kp r H12 H' ∧ H' r = some (.lst [.int n3]) ∧ H' D = some (.lst (row.map V.int)) ∧ row.length = j ∧ ∀ z ∈ row, 0 ≤ z ∧ z < 1000)
            ⟨[], _, Kp.rfl'.new nD, keep_new hRB nD, upd_same, rfl, fun t ht => nomatch ht⟩ (fun _ _ _ _ => trivial) (fun j x' H17 H16 hj hP hY => ?_) (fun H16 hP => ?_)⟩
          · obtain ⟨row, n3, kp16, hR16, hD16, hl16, hz16⟩ := hP
            obtain ⟨rfl, c, hc16, rfl⟩ := hY
            have nDr : D ≠ r := (ne_of_none hRB nD).symm
            refine ⟨rfl, .ref r, rfl, r, n3, 4, rfl, hR16, by decide, by decide, fun z n4 z0 z1 => ?_⟩
            refine ⟨row.map V.int, keep_ne hD16 nDr, ?_, row ++ [z], n4, (kp16.own).mut nD, keep_ne upd_same (Ne.symm nDr), by rw [upd_same, List.map_append]; rfl, by rw [List.length_append, hl16]; rfl, fun u hu => ?_⟩
            · rw [List.length_map, hl16]
              have hj2 : j < cols.length := hj
              exact small1000 (by omega)
            · rcases List.mem_append.mp hu with hu | hu
              · exact hz16 u hu
              · rw [List.mem_singleton.mp hu]
                omega
          obtain ⟨row, n3, kp16, hR16, hD16, hl16, hz16⟩ := hP
          have hlr : row.length = cols.length := hl16
          have hrw : RowOk cols.length row := ⟨hlr, hz16⟩
          refine ⟨D, row.map V.int, rfl, .inl ⟨.inl (.inl hD16), fun rp nrp => ?_⟩⟩
          have kp17 : Kp r H12 (upd H16 rp (.tup (row.map V.int))) := kp16.new nrp
          have fr : Fz (upd H16 rp (.tup (row.map V.int))) (.ref rp) (rowD row) := row_made nrp
          have hR17 := keep_new (o := .tup (row.map V.int)) hR16 nrp
          generalize upd H16 rp (.tup (row.map V.int)) = H17 at kp17 fr hR17 ⊢
          have o3 := o1.keep (H' := H17) (fun b hb o e => kp17 _ _ (fun z => nr' (z ▸ hb)) e) (kp17.kt hRB)
          have tg3 := tg1.kp hRB kp17
          have sx3 : Sx (r :: d :: (k.F ++ Z.Ps)) H11 H17 := fun b o nb e => kp17 _ _ (fun z => nb (by rw [z]; exact List.mem_cons_self)) (sx1 _ _ nb e)
          refine ⟨fun σ G => ∃ (y12 y14 y15 : Option V) (rp : Addr) (row : List Int) (rn : Int), σ = [some (.ref a), some (.int (0 + (i : Nat))), some (.ref r), some (.int fn), some (.ref t), some (.ref ca), some (.ref k.p), some (.ref h), some (.ref d), some (.int (n : Int)), some (.int mv), some (.int (0 + (q : Nat))), y12, some (.ref rp), y14, y15] ∧ Sx (r :: d :: (k.F ++ Z.Ps)) H11 G ∧ TG Z.Ps G ∧ OneK Z.C_Kept Z.C_Rows G k d cols th n ch mv ∧ Fz G (.ref rp) (rowD row) ∧ RowOk cols.length row ∧ G r = some (.lst [.int rn]), ?_, fun σ G hM => ?_⟩
          · refine ⟨_, rfl, fun e2 ne2 => ?_⟩
            have o5 := o3.keep (H' := upd H17 e2 (.dK [])) (fun b _ o h => keep_new h ne2) (Kt.new ne2)
            have sx5 := sx3.new (o := .dK []) ne2
            have tg5 := tg3.new (o := .dK []) ne2
            have hR5 := keep_new (o := .dK []) hR17 ne2
            have fr5 := fr.kt (Kt.new (o := .dK []) ne2)
            have he5 : (upd H17 e2 (.dK [])) e2 = some (.dK []) := upd_same
            generalize upd H17 e2 (.dK []) = H18 at o5 sx5 tg5 hR5 fr5 he5 ⊢
            obtain ⟨kvs5, hd5, nm5⟩ := o5.dd
            refine ⟨d, e2, kvs5, rfl, rfl, hd5, he5, _, rfl, ite2 (fun c3 => ?_) (fun _ => ?_)⟩
            rotate_left 1
            · exact ⟨_, _, _, rp, row, _, rfl, sx5, tg5, o5, fr5, hrw, hR5⟩
            refine ⟨.ref r, rfl, r, _, 2, rfl, hR5, by decide, by decide, fun way2 rn6 w2 w3 => ?_⟩
            have o6 := o5.keep (H' := upd H18 r (.lst [.int rn6])) (fun b hb o e => keep_ne e fun z => nr' (z ▸ hb)) (Kt.lst hR5)
            have sx6 : Sx (r :: d :: (k.F ++ Z.Ps)) H11 (upd H18 r (.lst [.int rn6])) := Sx.updL sx5
            have tg6 : TG Z.Ps (upd H18 r (.lst [.int rn6])) := tg5.mut hR5
            have hR6 : (upd H18 r (.lst [.int rn6])) r = some (.lst [.int rn6]) := upd_same
            have fr6 := fr5.kt (Kt.lst (o := .lst [.int rn6]) hR5)
            generalize upd H18 r (.lst [.int rn6]) = H19 at o6 sx6 tg6 hR6 fr6 ⊢
            refine ⟨rfl, _, rfl, ite2 (fun c4 => ?_) (fun _ => ?_)⟩
            rotate_left 1
            · exact ⟨_, _, _, rp, row, _, rfl, sx6, tg6, o6, fr6, hrw, hR6⟩
            have htl0 : 0 < th.length := by
              rw [← nm5.len]
              cases kvs5 with
              | nil => cases c3
              | cons p q => exact Nat.succ_pos _
            obtain ⟨kvs6, hd6, nm6⟩ := o6.dd
            refine ⟨.ref d, rfl, .ref d, rfl, d, kvs6, (th.map (·.1)).map fun x : Nat => (x : Int), rfl, .inl hd6, ?_, ?_, fun ys N hperm hso nN => ?_⟩
            · rw [nm6.keys, List.map_map, List.map_map]
              rfl
            · rw [List.length_map, List.length_map]
              omega
            have eys : ys = (th.map (·.1)).map fun x : Nat => (x : Int) := by
              refine ints_one hso ?_ hperm
              rw [List.pairwise_map]
              exact o6.ok.up.imp fun {a b} z => by omega
            rw [eys, ← nV_map]
            have o7 := o6.keep (H' := upd H19 N (.lst ((th.map (·.1)).map nV))) (fun b _ o h => keep_new h nN) (Kt.new nN)
            have sx7 := sx6.new (o := .lst ((th.map (·.1)).map nV)) nN
            have tg7 := tg6.new (o := .lst ((th.map (·.1)).map nV)) nN
            have hR7 := keep_new (o := .lst ((th.map (·.1)).map nV)) hR6 nN
            have hN7 : (upd H19 N (.lst ((th.map (·.1)).map nV))) N = some (.lst ((th.map (·.1)).map nV)) := upd_same
            have nNr : N ≠ r := (ne_of_none hR6 nN).symm
            generalize upd H19 N (.lst ((th.map (·.1)).map nV)) = H20 at o7 sx7 tg7 hR7 hN7 ⊢
            obtain ⟨kvs7, hd7, nm7⟩ := o7.dd
            have hk7 := nm7.len
            refine ⟨.ref r, rfl, .ref d, rfl, d, kvs7, rfl, hd7, r, rn6, kvs7.length, rfl, hR7, by omega, by omega, fun g rn8 g0 g1 => ?_⟩
            have o8 := o7.keep (H' := upd H20 r (.lst [.int rn8])) (fun b hb o e => keep_ne e fun z => nr' (z ▸ hb)) (Kt.lst hR7)
            have sx8 : Sx (r :: d :: (k.F ++ Z.Ps)) H11 (upd H20 r (.lst [.int rn8])) := Sx.updL sx7
            have tg8 : TG Z.Ps (upd H20 r (.lst [.int rn8])) := tg7.mut hR7
            have hR8 : (upd H20 r (.lst [.int rn8])) r = some (.lst [.int rn8]) := upd_same
            have hN8 : (upd H20 r (.lst [.int rn8])) N = some (.lst ((th.map (·.1)).map nV)) := keep_ne hN7 nNr
            generalize upd H20 r (.lst [.int rn8]) = H21 at o8 sx8 tg8 hR8 hN8 ⊢
            obtain ⟨gi, rfl⟩ : ∃ gi : Nat, g = gi := ⟨g.toNat, by omega⟩
            have hgl : gi < th.length := by omega
            have hm : numAt th gi ∈ th.map (·.1) := List.mem_of_getElem? (num_at hgl)
            obtain ⟨kvs8, hd8, nm8⟩ := o8.dd
            obtain ⟨v, hv, fv⟩ := nm8.at' o8.ok.nd (rowT_mem o8.ok.nd hm)
            obtain ⟨ra, rfl, hra⟩ := row_open fv
            have hrT := o8.ok.row _ (rowT_mem o8.ok.nd hm)
            refine ⟨N, (th.map (·.1)).map nV, _, nV (numAt th gi), rfl, rfl, .inl (.inl hN8), atI_nat (by rw [List.getElem?_map, num_at hgl]; rfl), d, .ref ra, rfl, .inl ⟨kvs8, nKy (numAt th gi), .inl hd8, rfl, hv.symm⟩, ?_⟩
            exact ⟨_, _, _, ra, rowT th (numAt th gi), rn8, rfl, sx8, tg8, o8, fv, hrT, hR8⟩
          obtain ⟨y12, y14, y15, rp, row, rn5, rfl, sx4, tg4, o4, fr4, hrw4, hR4⟩ := hM
          obtain ⟨dx, hp⟩ := o4.kp.self
          obtain ⟨kvs4, hd4, nm4⟩ := o4.dd
          refine ⟨.ref k.p, rfl, k.p, dx, _, rfl, hp, kpF3_no_put _ _ _, .ref rp, rfl, k, .ref rp, cols, th, n, ch, mv, row, rfl, tg4, o4.kp, o4.ok, by omega, hch, fr4, hrw4, fun H5 sx5 tg5 kp5 => ?_⟩
          have kt5 := o4.kp.kt tg4 sx5
          have hd5 := sx5 _ _ (fun z => (List.mem_append.mp z).elim o4.nd (tg4.not hd4 fun q z => nomatch z)) hd4
          have hR5 := sx5 _ _ (fun z => (List.mem_append.mp z).elim nrF (tg4.not hR4 fun q z => nomatch z)) hR4
          refine ⟨_, rfl, _, .ty "bool", _, _, isBl (.int (n : Int)), rfl, .ty _, ty_ft (H := H5) (.int (n : Int)), kit_bl _, _, rfl, ite2 (fun z => ?_) fun _ => ?_⟩
          · cases z
          refine ⟨_, rfl, _, rfl, rfl, _, rfl, ite2 (fun z => ?_) fun _ => ?_⟩
          · rw [decide_eq_true rfl] at z
            cases z
          have fr5 := fr4.kt kt5
          have nm5 := nm4.kt kt5
          have hk4 := nm4.len
          refine ⟨.ref rp, rfl, .ref d, rfl, _, rfl, d, _, rfl, .inl ⟨kvs4, nKy n, hd5, rfl, Nat.lt_of_le_of_lt (Nat.le_of_eq hk4) (small1000 (by omega)), rfl⟩, ?_⟩
          have kt6 : Kt H5 (upd H5 d (.dK (putK kvs4 (nKy n) (.ref rp)))) := Kt.dct hd5
          refine ⟨_, rfl, _, 1, rfl, rfl, ?_⟩
          exact ⟨_, _, _, _, th ++ [(n, row)], n + 1, rn5, rfl, fun c o nb h => keep_ne (sx5 c o (fun z => nb (List.mem_cons_of_mem _ (List.mem_cons_of_mem _ z))) (sx4 c o nb h)) (fun z => nb (by rw [z]; exact List.mem_cons_of_mem _ List.mem_cons_self)), tg5.put (tg5.not hd5 fun q z => nomatch z),
            ⟨kp5.keep (fun c hc o h => keep_ne h fun z => o4.nd (z ▸ hc)) kt6, o4.ok.put hrw4, ⟨_, upd_same, (nm5.put fr5 o4.ok.new).kt kt6⟩, o4.nd⟩, by rw [List.length_append]; exact Nat.le_refl _, keep_ne hR5 nrd⟩
      obtain ⟨y12, y13, y14, y15, th1, n1, rn, rfl, sxG, tgG, oG, hl1, hRG⟩ := hM
      have swG := sw11.done T.l_Kept_ask sxG tgG hRG oG
      refine ⟨_, rfl, .ref ca, rfl, ca, _, rfl, .inr (.inl (.inl swG.st.hca)), _, _, rfl, rfl, ?_⟩
      obtain ⟨hs, hh, held⟩ := swG.hh
      rw [List.length_map]
      refine ⟨.ref k.p, rfl, .ref t, rfl, t, [tx cols, .ref R], 0, tx cols, rfl, rfl, .inl (.inl swG.ht), rfl, .ref d, rfl, .ref ca, rfl, _, rfl, _, rfl, .ref h, rfl, H0, r, d, ca, h, k, cols, ch, th1, n1, mv + ch.length, hs, rfl, swG.st, by omega, hch, hh, swG.n0, swG.off, held, fun hs2 G2 sx2 st2 hh2 held2 => ⟨true, rfl, ite2 (fun z => absurd z (by simp)) fun _ => ?_⟩⟩
      exact ⟨_, _, _, _, _, th1, n1, mv + ch.length, rfl, swG.look sx2 st2 ⟨hs2, hh2, held2⟩, by omega⟩
    · obtain ⟨y11, y12, y13, y14, y15, th, n, mv, rfl, sw11, htl⟩ := hP
      exact ⟨_, _, _, _, _, _, _, _, _, _, _, _, _, _, _, rfl, sw11.st.sx.seqL (tab_tg tab0 tg0) hS0, sw11.st.tg, sw11.st.tab⟩

end
/-! ### the head: facts by names, the run -/
def df0 : He.DefD := ⟨("picked", none), "picked", "picked", defArgs s_picked, defBody s_picked, defScope s_picked, [], []⟩
def df1 : He.DefD := ⟨("letters_of", none), "letters_of", "letters_of", defArgs s_letters_of, defBody s_letters_of, defScope s_letters_of, [], []⟩
def df2 : He.DefD := ⟨("spans", none), "spans", "spans", defArgs s_spans, defBody s_spans, defScope s_spans, [], []⟩
def df3 : He.DefD := ⟨("fits", none), "fits", "fits", defArgs s_fits, defBody s_fits, defScope s_fits, [], []⟩
def df4 : He.DefD := ⟨("used", none), "used", "used", defArgs s_used, defBody s_used, defScope s_used, [], []⟩
def df5 : He.DefD := ⟨("stretch", none), "stretch", "stretch", defArgs s_stretch, defBody s_stretch, defScope s_stretch, [], []⟩
def df6 : He.DefD := ⟨("price_by", none), "price_by", "price_by", defArgs s_price_by, defBody s_price_by, defScope s_price_by, [], []⟩
def df7 : He.DefD := ⟨("Rows", some "__init__"), "__init__", "Rows.__init__", defArgs s_Rows___init__, defBody s_Rows___init__, defScope s_Rows___init__, [], []⟩
def df8 : He.DefD := ⟨("Rows", some "put"), "put", "Rows.put", defArgs s_Rows_put, defBody s_Rows_put, defScope s_Rows_put, [], []⟩
def df9 : He.DefD := ⟨("Rows", some "take"), "take", "Rows.take", defArgs s_Rows_take, defBody s_Rows_take, defScope s_Rows_take, [], []⟩
def df10 : He.DefD := ⟨("Rows", some "as_table"), "as_table", "Rows.as_table", defArgs s_Rows_as_table, defBody s_Rows_as_table, defScope s_Rows_as_table, [], []⟩
def df11 : He.DefD := ⟨("Kept", some "__init__"), "__init__", "Kept.__init__", defArgs s_Kept___init__, defBody s_Kept___init__, defScope s_Kept___init__, [], []⟩
def df12 : He.DefD := ⟨("Kept", some "key_by"), "key_by", "Kept.key_by", defArgs s_Kept_key_by, defBody s_Kept_key_by, defScope s_Kept_key_by, [], []⟩
def df13 : He.DefD := ⟨("Kept", some "enter"), "enter", "Kept.enter", defArgs s_Kept_enter, defBody s_Kept_enter, defScope s_Kept_enter, [], []⟩
def df14 : He.DefD := ⟨("Kept", some "put"), "put", "Kept.put", defArgs s_Kept_put, defBody s_Kept_put, defScope s_Kept_put, [], []⟩
def df15 : He.DefD := ⟨("Kept", some "take"), "take", "Kept.take", defArgs s_Kept_take, defBody s_Kept_take, defScope s_Kept_take, [], []⟩
def df16 : He.DefD := ⟨("Kept", some "sorted_by"), "sorted_by", "Kept.sorted_by", defArgs s_Kept_sorted_by, defBody s_Kept_sorted_by, defScope s_Kept_sorted_by, [], []⟩
def df17 : He.DefD := ⟨("Kept", some "next_number"), "next_number", "Kept.next_number", defArgs s_Kept_next_number, defBody s_Kept_next_number, defScope s_Kept_next_number, [], []⟩
def df18 : He.DefD := ⟨("Kept", some "numbers_read"), "numbers_read", "Kept.numbers_read", defArgs s_Kept_numbers_read, defBody s_Kept_numbers_read, defScope s_Kept_numbers_read, [], []⟩
def df19 : He.DefD := ⟨("Kept", some "ask"), "ask", "Kept.ask", defArgs s_Kept_ask, defBody s_Kept_ask, defScope s_Kept_ask, [], []⟩
def df20 : He.DefD := ⟨("Kept", some "moved"), "moved", "Kept.moved", defArgs s_Kept_moved, defBody s_Kept_moved, defScope s_Kept_moved, [], []⟩
def df21 : He.DefD := ⟨("_law_reel", none), "_law_reel", "_law_reel", defArgs s_l_reel, defBody s_l_reel, defScope s_l_reel, [], []⟩
def df22 : He.DefD := ⟨("_law_pick", none), "_law_pick", "_law_pick", defArgs s_l_pick, defBody s_l_pick, defScope s_l_pick, [], []⟩
def df23 : He.DefD := ⟨("_law_columns", none), "_law_columns", "_law_columns", defArgs s_l_columns, defBody s_l_columns, defScope s_l_columns, [], []⟩
def df24 : He.DefD := ⟨("_law_table", none), "_law_table", "_law_table", defArgs s_l_table, defBody s_l_table, defScope s_l_table, [], []⟩
def df25 : He.DefD := ⟨("_law_one", none), "_law_one", "_law_one", defArgs s_l_one, defBody s_l_one, defScope s_l_one, [], []⟩
def df26 : He.DefD := ⟨("_law_choice", none), "_law_choice", "_law_choice", defArgs s_l_choice, defBody s_l_choice, defScope s_l_choice, [], []⟩
def df27 : He.DefD := ⟨("_law_same", none), "_law_same", "_law_same", defArgs s_l_same, defBody s_l_same, defScope s_l_same, [], []⟩
def df28 : He.DefD := ⟨("_law_sorted", none), "_law_sorted", "_law_sorted", defArgs s_l_sorted, defBody s_l_sorted, defScope s_l_sorted, [], []⟩
def df29 : He.DefD := ⟨("_law_stands", none), "_law_stands", "_law_stands", defArgs s_l_stands, defBody s_l_stands, defScope s_l_stands, [], []⟩
def df30 : He.DefD := ⟨("law", none), "law", "law", defArgs s_law, defBody s_law, defScope s_law, [], []⟩
def dfs : List He.DefD := [df0, df1, df2, df3, df4, df5, df6, df7, df8, df9, df10, df11, df12, df13, df14, df15, df16, df17, df18, df19, df20, df21, df22, df23, df24, df25, df26, df27, df28, df29, df30]
def fas : List He.Fa := [.glo "picked", .glo "letters_of", .glo "spans", .glo "fits", .glo "used", .glo "stretch", .glo "price_by", .mkr "Rows", .meth "Rows" "put", .meth "Rows" "take", .meth "Rows" "as_table", .mkr "Kept", .meth "Kept" "key_by", .meth "Kept" "enter", .meth "Kept" "put", .meth "Kept" "take", .meth "Kept" "sorted_by", .meth "Kept" "next_number", .meth "Kept" "numbers_read", .meth "Kept" "ask", .meth "Kept" "moved", .glo "_law_reel", .glo "_law_pick", .glo "_law_columns", .glo "_law_table", .glo "_law_one", .glo "_law_choice", .glo "_law_same", .glo "_law_sorted", .glo "_law_stands", .glo "law", .glo "Rows", .cls "Rows", .noat "Rows" "columns", .noat "Rows" "there", .noat "Rows" "coming", .glo "Kept", .cls "Kept", .noat "Kept" "rows", .noat "Kept" "orders", .noat "Kept" "moves", .free "len", .free "range", .free "list", .free "sorted", .free "tuple", .free "min", .free "max", .free "enumerate", .free "dict", .free "isinstance", .free "zip", .free "int", .free "bool", .free "str", .free "all", .int "MOST_ROWS" 60]
def tfs : List He.Defn := [("picked", none), ("stretch", none), ("Kept", some "ask")]
def apart : PySem.W.Frag → Bool := fun K => (!([He.tabOf K (He.codeOf K ("picked", none)), He.tabOf K (He.codeOf K ("stretch", none))].contains (He.tabOf K (He.codeOf K ("Kept", some "ask")))))
abbrev Rw : PySem.W.OpenRow := PySem.W.OpenLaw.row PySem.Challenge.rw_stretchkeep_k39_lists_kept
abbrev hk : PySem.W.Hook := He.hookX 10 fas dfs [] tfs apart
def ob (s : PySem.W.SharedT) : He.AlX := He.obsX 10 fas dfs [] tfs apart (HandSHeadRun.getT s)
theorem ob_eq (s : PySem.W.SharedT) : ob s = hk.obs s.abs := He.obsX_eq (HandSHeadRun.getT_eq s)
def loose1 : List Str := ["ListError", "TooMany", "NoNumber", "MOST_ROWS", "picked", "letters_of", "spans", "fits", "used", "stretch", "price_by"]
def loose2 : List Str := ["Rows", "Kept", "_law_reel", "_law_pick", "_law_columns", "_law_table", "_law_one", "_law_choice", "_law_same", "_law_sorted", "_law_stands"]
set_option maxHeartbeats 0 in
theorem run (w : World) : HandSHeadRun.RunEq Rw (PySem.W.view Rw.prog [29]) hk ob 4000 (loose1 ++ loose2) w := by
  intro os
  kernel_rfl
theorem all_mk {l : PySem.W.OpenLaw} {w : World} {K : PySem.W.Frag} {h : Heap} {mg : Str → Option Value} {fa : Addr} (X : K.In h) (G : h.Ns mainGlobals mg) (hfa : mg "law" = some (.ref fa)) (c : He.SaysX fas dfs [] tfs apart w h K) : LamX.LawAtS l w K CX0 9 63 "script" mg fa h := by
  obtain ⟨fd0, D0⟩ := c.t.d.def_ 0 (d := df0) rfl
  replace D0 : DefAt K ("picked", none) "picked" "picked" s_picked fd0 := D0
  obtain ⟨fd1, D1⟩ := c.t.d.def_ 1 (d := df1) rfl
  replace D1 : DefAt K ("letters_of", none) "letters_of" "letters_of" s_letters_of fd1 := D1
  obtain ⟨fd2, D2⟩ := c.t.d.def_ 2 (d := df2) rfl
  replace D2 : DefAt K ("spans", none) "spans" "spans" s_spans fd2 := D2
  obtain ⟨fd3, D3⟩ := c.t.d.def_ 3 (d := df3) rfl
  replace D3 : DefAt K ("fits", none) "fits" "fits" s_fits fd3 := D3
  obtain ⟨fd4, D4⟩ := c.t.d.def_ 4 (d := df4) rfl
  replace D4 : DefAt K ("used", none) "used" "used" s_used fd4 := D4
  obtain ⟨fd5, D5⟩ := c.t.d.def_ 5 (d := df5) rfl
  replace D5 : DefAt K ("stretch", none) "stretch" "stretch" s_stretch fd5 := D5
  obtain ⟨fd6, D6⟩ := c.t.d.def_ 6 (d := df6) rfl
  replace D6 : DefAt K ("price_by", none) "price_by" "price_by" s_price_by fd6 := D6
  obtain ⟨fd7, D7⟩ := c.t.d.def_ 7 (d := df7) rfl
  replace D7 : DefAt K ("Rows", some "__init__") "__init__" "Rows.__init__" s_Rows___init__ fd7 := D7
  obtain ⟨fd8, D8⟩ := c.t.d.def_ 8 (d := df8) rfl
  replace D8 : DefAt K ("Rows", some "put") "put" "Rows.put" s_Rows_put fd8 := D8
  obtain ⟨fd9, D9⟩ := c.t.d.def_ 9 (d := df9) rfl
  replace D9 : DefAt K ("Rows", some "take") "take" "Rows.take" s_Rows_take fd9 := D9
  obtain ⟨fd10, D10⟩ := c.t.d.def_ 10 (d := df10) rfl
  replace D10 : DefAt K ("Rows", some "as_table") "as_table" "Rows.as_table" s_Rows_as_table fd10 := D10
  obtain ⟨fd11, D11⟩ := c.t.d.def_ 11 (d := df11) rfl
  replace D11 : DefAt K ("Kept", some "__init__") "__init__" "Kept.__init__" s_Kept___init__ fd11 := D11
  obtain ⟨fd12, D12⟩ := c.t.d.def_ 12 (d := df12) rfl
  replace D12 : DefAt K ("Kept", some "key_by") "key_by" "Kept.key_by" s_Kept_key_by fd12 := D12
  obtain ⟨fd13, D13⟩ := c.t.d.def_ 13 (d := df13) rfl
  replace D13 : DefAt K ("Kept", some "enter") "enter" "Kept.enter" s_Kept_enter fd13 := D13
  obtain ⟨fd14, D14⟩ := c.t.d.def_ 14 (d := df14) rfl
  replace D14 : DefAt K ("Kept", some "put") "put" "Kept.put" s_Kept_put fd14 := D14
  obtain ⟨fd15, D15⟩ := c.t.d.def_ 15 (d := df15) rfl
  replace D15 : DefAt K ("Kept", some "take") "take" "Kept.take" s_Kept_take fd15 := D15
  obtain ⟨fd16, D16⟩ := c.t.d.def_ 16 (d := df16) rfl
  replace D16 : DefAt K ("Kept", some "sorted_by") "sorted_by" "Kept.sorted_by" s_Kept_sorted_by fd16 := D16
  obtain ⟨fd17, D17⟩ := c.t.d.def_ 17 (d := df17) rfl
  replace D17 : DefAt K ("Kept", some "next_number") "next_number" "Kept.next_number" s_Kept_next_number fd17 := D17
  obtain ⟨fd18, D18⟩ := c.t.d.def_ 18 (d := df18) rfl
  replace D18 : DefAt K ("Kept", some "numbers_read") "numbers_read" "Kept.numbers_read" s_Kept_numbers_read fd18 := D18
  obtain ⟨fd19, D19⟩ := c.t.d.def_ 19 (d := df19) rfl
  replace D19 : DefAt K ("Kept", some "ask") "ask" "Kept.ask" s_Kept_ask fd19 := D19
  obtain ⟨fd20, D20⟩ := c.t.d.def_ 20 (d := df20) rfl
  replace D20 : DefAt K ("Kept", some "moved") "moved" "Kept.moved" s_Kept_moved fd20 := D20
  obtain ⟨fd21, D21⟩ := c.t.d.def_ 21 (d := df21) rfl
  replace D21 : DefAt K ("_law_reel", none) "_law_reel" "_law_reel" s_l_reel fd21 := D21
  obtain ⟨fd22, D22⟩ := c.t.d.def_ 22 (d := df22) rfl
  replace D22 : DefAt K ("_law_pick", none) "_law_pick" "_law_pick" s_l_pick fd22 := D22
  obtain ⟨fd23, D23⟩ := c.t.d.def_ 23 (d := df23) rfl
  replace D23 : DefAt K ("_law_columns", none) "_law_columns" "_law_columns" s_l_columns fd23 := D23
  obtain ⟨fd24, D24⟩ := c.t.d.def_ 24 (d := df24) rfl
  replace D24 : DefAt K ("_law_table", none) "_law_table" "_law_table" s_l_table fd24 := D24
  obtain ⟨fd25, D25⟩ := c.t.d.def_ 25 (d := df25) rfl
  replace D25 : DefAt K ("_law_one", none) "_law_one" "_law_one" s_l_one fd25 := D25
  obtain ⟨fd26, D26⟩ := c.t.d.def_ 26 (d := df26) rfl
  replace D26 : DefAt K ("_law_choice", none) "_law_choice" "_law_choice" s_l_choice fd26 := D26
  obtain ⟨fd27, D27⟩ := c.t.d.def_ 27 (d := df27) rfl
  replace D27 : DefAt K ("_law_same", none) "_law_same" "_law_same" s_l_same fd27 := D27
  obtain ⟨fd28, D28⟩ := c.t.d.def_ 28 (d := df28) rfl
  replace D28 : DefAt K ("_law_sorted", none) "_law_sorted" "_law_sorted" s_l_sorted fd28 := D28
  obtain ⟨fd29, D29⟩ := c.t.d.def_ 29 (d := df29) rfl
  replace D29 : DefAt K ("_law_stands", none) "_law_stands" "_law_stands" s_l_stands fd29 := D29
  obtain ⟨fd30, D30⟩ := c.t.d.def_ 30 (d := df30) rfl
  replace D30 : DefAt K ("law", none) "law" "law" s_law fd30 := D30
  have e := hfa.symm.trans (He.glo_ok X G (c.t.d.fact 30 (f := .glo "law") rfl))
  cases e
  have F0 := D0.fn
  have b0 := F0.binds (ps := ["columns", "row", "letters"]) fun _ _ _ _ _ _ us hl => match us, hl with | [_, _, _], _ => rfl
  have F1 := D1.fn
  have b1 := F1.binds (ps := ["equals"]) fun _ _ _ _ _ _ us hl => match us, hl with | [_], _ => rfl
  have F2 := D2.fn
  have b2 := F2.binds (ps := ["question"]) fun _ _ _ _ _ _ us hl => match us, hl with | [_], _ => rfl
  have F3 := D3.fn
  have b3 := F3.binds (ps := ["columns", "row", "question"]) fun _ _ _ _ _ _ us hl => match us, hl with | [_, _, _], _ => rfl
  have F4 := D4.fn
  have b4 := F4.binds (ps := ["one", "question"]) fun _ _ _ _ _ _ us hl => match us, hl with | [_, _], _ => rfl
  have F5 := D5.fn
  have b5 := F5.binds (ps := ["table", "one", "question"]) fun _ _ _ _ _ _ us hl => match us, hl with | [_, _, _], _ => rfl
  have F6 := D6.fn
  have b6 := F6.binds (ps := ["table", "one", "question"]) fun _ _ _ _ _ _ us hl => match us, hl with | [_, _, _], _ => rfl
  have F7 := D7.fn
  have b7 := F7.binds (ps := ["self", "table"]) fun _ _ _ _ _ _ us hl => match us, hl with | [_, _], _ => rfl
  have F8 := D8.fn
  have b8 := F8.binds (ps := ["self", "row"]) fun _ _ _ _ _ _ us hl => match us, hl with | [_, _], _ => rfl
  have F9 := D9.fn
  have b9 := F9.binds (ps := ["self", "number"]) fun _ _ _ _ _ _ us hl => match us, hl with | [_, _], _ => rfl
  have F10 := D10.fn
  have b10 := F10.binds (ps := ["self"]) fun _ _ _ _ _ _ us hl => match us, hl with | [_], _ => rfl
  have F11 := D11.fn
  have b11 := F11.binds (ps := ["self", "table", "choice"]) fun _ _ _ _ _ _ us hl => match us, hl with | [_, _, _], _ => rfl
  have F12 := D12.fn
  have b12 := F12.binds (ps := ["self", "one", "number"]) fun _ _ _ _ _ _ us hl => match us, hl with | [_, _, _], _ => rfl
  have F13 := D13.fn
  have b13 := F13.binds (ps := ["self", "number"]) fun _ _ _ _ _ _ us hl => match us, hl with | [_, _], _ => rfl
  have F14 := D14.fn
  have b14 := F14.binds (ps := ["self", "row"]) fun _ _ _ _ _ _ us hl => match us, hl with | [_, _], _ => rfl
  have F15 := D15.fn
  have b15 := F15.binds (ps := ["self", "number"]) fun _ _ _ _ _ _ us hl => match us, hl with | [_, _], _ => rfl
  have F16 := D16.fn
  have b16 := F16.binds (ps := ["self", "one"]) fun _ _ _ _ _ _ us hl => match us, hl with | [_, _], _ => rfl
  have F17 := D17.fn
  have b17 := F17.binds (ps := ["self"]) fun _ _ _ _ _ _ us hl => match us, hl with | [_], _ => rfl
  have F18 := D18.fn
  have b18 := F18.binds (ps := ["self", "table", "one", "question"]) fun _ _ _ _ _ _ us hl => match us, hl with | [_, _, _, _], _ => rfl
  have F19 := D19.fn
  have b19 := F19.binds (ps := ["self", "question"]) fun _ _ _ _ _ _ us hl => match us, hl with | [_, _], _ => rfl
  have F20 := D20.fn
  have b20 := F20.binds (ps := ["self"]) fun _ _ _ _ _ _ us hl => match us, hl with | [_], _ => rfl
  have F21 := D21.fn
  have b21 := F21.binds (ps := ["script", "k"]) fun _ _ _ _ _ _ us hl => match us, hl with | [_, _], _ => rfl
  have F22 := D22.fn
  have b22 := F22.binds (ps := ["reel", "many"]) fun _ _ _ _ _ _ us hl => match us, hl with | [_, _], _ => rfl
  have F23 := D23.fn
  have b23 := F23.binds (ps := ["reel", "many"]) fun _ _ _ _ _ _ us hl => match us, hl with | [_, _], _ => rfl
  have F24 := D24.fn
  have b24 := F24.binds (ps := ["reel", "most", "rows"]) fun _ _ _ _ _ _ us hl => match us, hl with | [_, _, _], _ => rfl
  have F25 := D25.fn
  have b25 := F25.binds (ps := ["reel", "columns"]) fun _ _ _ _ _ _ us hl => match us, hl with | [_, _], _ => rfl
  have F26 := D26.fn
  have b26 := F26.binds (ps := ["reel", "columns", "many"]) fun _ _ _ _ _ _ us hl => match us, hl with | [_, _, _], _ => rfl
  have F27 := D27.fn
  have b27 := F27.binds (ps := ["told", "due"]) fun _ _ _ _ _ _ us hl => match us, hl with | [_, _], _ => rfl
  have F28 := D28.fn
  have b28 := F28.binds (ps := ["table", "one"]) fun _ _ _ _ _ _ us hl => match us, hl with | [_, _], _ => rfl
  have F29 := D29.fn
  have b29 := F29.binds (ps := ["kept", "columns", "there", "choice", "number", "moved", "held"]) fun _ _ _ _ _ _ us hl => match us, hl with | [_, _, _, _, _, _, _], _ => rfl
  have F30 := D30.fn
  have b30 := F30.binds (ps := ["script"]) fun _ _ _ _ _ _ us hl => match us, hl with | [_], _ => rfl
  obtain ⟨tk0, hy0⟩ := He.int_ok X G (c.t.d.fact 56 (f := .int "MOST_ROWS" 60) rfl)
  let Z : Ad := ⟨He.fAd K ("picked", none), fd0, He.codeOf K ("picked", none), He.tabOf K (He.codeOf K ("picked", none)), He.fAd K ("letters_of", none), fd1, He.fAd K ("spans", none), fd2, He.fAd K ("fits", none), fd3, He.fAd K ("used", none), fd4, He.fAd K ("stretch", none), fd5, He.codeOf K ("stretch", none), He.tabOf K (He.codeOf K ("stretch", none)), He.fAd K ("price_by", none), fd6, He.fAd K ("Rows", some "__init__"), fd7, He.fAd K ("Rows", some "put"), fd8, He.fAd K ("Rows", some "take"), fd9, He.fAd K ("Rows", some "as_table"), fd10, He.fAd K ("Kept", some "__init__"), fd11, He.fAd K ("Kept", some "key_by"), fd12, He.fAd K ("Kept", some "enter"), fd13, He.fAd K ("Kept", some "put"), fd14, He.fAd K ("Kept", some "take"), fd15, He.fAd K ("Kept", some "sorted_by"), fd16, He.fAd K ("Kept", some "next_number"), fd17, He.fAd K ("Kept", some "numbers_read"), fd18, He.fAd K ("Kept", some "ask"), fd19, He.codeOf K ("Kept", some "ask"), He.tabOf K (He.codeOf K ("Kept", some "ask")), He.fAd K ("Kept", some "moved"), fd20, He.fAd K ("_law_reel", none), fd21, He.fAd K ("_law_pick", none), fd22, He.fAd K ("_law_columns", none), fd23, He.fAd K ("_law_table", none), fd24, He.fAd K ("_law_one", none), fd25, He.fAd K ("_law_choice", none), fd26, He.fAd K ("_law_same", none), fd27, He.fAd K ("_law_sorted", none), fd28, He.fAd K ("_law_stands", none), fd29, He.fAd K ("law", none), fd30, He.ga K "Rows", He.ga K "Kept", tk0⟩
  have far := c.more
  simp only [apart, Bool.and_eq_true, Bool.not_eq_true', List.contains_eq_mem, decide_eq_false_iff_not, decide_eq_true_eq] at far
  have T : Tx K mg Z := ⟨F0, D0.fc, b0, He.glo_ok X G (c.t.d.fact 0 (f := .glo "picked") rfl), F1, b1, He.glo_ok X G (c.t.d.fact 1 (f := .glo "letters_of") rfl), F2, b2, He.glo_ok X G (c.t.d.fact 2 (f := .glo "spans") rfl), F3, b3, He.glo_ok X G (c.t.d.fact 3 (f := .glo "fits") rfl), F4, b4, He.glo_ok X G (c.t.d.fact 4 (f := .glo "used") rfl), F5, D5.fc, b5, He.glo_ok X G (c.t.d.fact 5 (f := .glo "stretch") rfl), F6, b6, He.glo_ok X G (c.t.d.fact 6 (f := .glo "price_by") rfl), F7, b7, He.mkr_ok (c.t.d.fact 7 (f := .mkr "Rows") rfl), F8, b8, He.meth_ok (c.t.d.fact 8 (f := .meth "Rows" "put") rfl), F9, b9, He.meth_ok (c.t.d.fact 9 (f := .meth "Rows" "take") rfl), F10, b10, He.meth_ok (c.t.d.fact 10 (f := .meth "Rows" "as_table") rfl), F11, b11, He.mkr_ok (c.t.d.fact 11 (f := .mkr "Kept") rfl), F12, b12, He.meth_ok (c.t.d.fact 12 (f := .meth "Kept" "key_by") rfl), F13, b13, He.meth_ok (c.t.d.fact 13 (f := .meth "Kept" "enter") rfl), F14, b14, He.meth_ok (c.t.d.fact 14 (f := .meth "Kept" "put") rfl), F15, b15, He.meth_ok (c.t.d.fact 15 (f := .meth "Kept" "take") rfl), F16, b16, He.meth_ok (c.t.d.fact 16 (f := .meth "Kept" "sorted_by") rfl), F17, b17, He.meth_ok (c.t.d.fact 17 (f := .meth "Kept" "next_number") rfl), F18, b18, He.meth_ok (c.t.d.fact 18 (f := .meth "Kept" "numbers_read") rfl), F19, D19.fc, b19, He.meth_ok (c.t.d.fact 19 (f := .meth "Kept" "ask") rfl), F20, b20, He.meth_ok (c.t.d.fact 20 (f := .meth "Kept" "moved") rfl), F21, b21, He.glo_ok X G (c.t.d.fact 21 (f := .glo "_law_reel") rfl), F22, b22, He.glo_ok X G (c.t.d.fact 22 (f := .glo "_law_pick") rfl), F23, b23, He.glo_ok X G (c.t.d.fact 23 (f := .glo "_law_columns") rfl), F24, b24, He.glo_ok X G (c.t.d.fact 24 (f := .glo "_law_table") rfl), F25, b25, He.glo_ok X G (c.t.d.fact 25 (f := .glo "_law_one") rfl), F26, b26, He.glo_ok X G (c.t.d.fact 26 (f := .glo "_law_choice") rfl), F27, b27, He.glo_ok X G (c.t.d.fact 27 (f := .glo "_law_same") rfl), F28, b28, He.glo_ok X G (c.t.d.fact 28 (f := .glo "_law_sorted") rfl), F29, b29, He.glo_ok X G (c.t.d.fact 29 (f := .glo "_law_stands") rfl), F30, b30, He.glo_ok X G (c.t.d.fact 30 (f := .glo "law") rfl), (by simpa using far), He.cls_ok (c.t.d.fact 32 (f := .cls "Rows") rfl), He.glo_ok X G (c.t.d.fact 31 (f := .glo "Rows") rfl), He.noat_ok (c.t.d.fact 33 (f := .noat "Rows" "columns") rfl), He.noat_ok (c.t.d.fact 34 (f := .noat "Rows" "there") rfl), He.noat_ok (c.t.d.fact 35 (f := .noat "Rows" "coming") rfl), He.cls_ok (c.t.d.fact 37 (f := .cls "Kept") rfl), He.glo_ok X G (c.t.d.fact 36 (f := .glo "Kept") rfl), He.noat_ok (c.t.d.fact 38 (f := .noat "Kept" "rows") rfl), He.noat_ok (c.t.d.fact 39 (f := .noat "Kept" "orders") rfl), He.noat_ok (c.t.d.fact 40 (f := .noat "Kept" "moves") rfl), He.free_ok X G (c.t.d.fact 41 (f := .free "len") rfl), He.free_ok X G (c.t.d.fact 42 (f := .free "range") rfl), He.free_ok X G (c.t.d.fact 43 (f := .free "list") rfl), He.free_ok X G (c.t.d.fact 44 (f := .free "sorted") rfl), He.free_ok X G (c.t.d.fact 45 (f := .free "tuple") rfl), He.free_ok X G (c.t.d.fact 46 (f := .free "min") rfl), He.free_ok X G (c.t.d.fact 47 (f := .free "max") rfl), He.free_ok X G (c.t.d.fact 48 (f := .free "enumerate") rfl), He.free_ok X G (c.t.d.fact 49 (f := .free "dict") rfl), He.free_ok X G (c.t.d.fact 50 (f := .free "isinstance") rfl), He.free_ok X G (c.t.d.fact 51 (f := .free "zip") rfl), He.free_ok X G (c.t.d.fact 52 (f := .free "int") rfl), He.free_ok X G (c.t.d.fact 53 (f := .free "bool") rfl), He.free_ok X G (c.t.d.fact 54 (f := .free "str") rfl), He.free_ok X G (c.t.d.fact 55 (f := .free "all") rfl), hy0⟩
  have bA := FunD.bindsA (ps := ["script"]) D30 fun _ _ _ _ _ _ us hl => match us, hl with | [_], _ => rfl
  have each : ∀ {R : Addr × Addr → Prop}, (∀ p ∈ tfs, R (He.cT K p)) → ∀ q ∈ [He.cT K ("picked", none), He.cT K ("stretch", none), He.cT K ("Kept", some "ask")], R q := fun h q hq => by
    obtain ⟨p, hp, rfl⟩ := List.mem_map.mp (show q ∈ tfs.map (He.cT K) from hq)
    exact h p hp
  refine ⟨Z.d_law, [He.cT K ("picked", none), He.cT K ("stretch", none), He.cT K ("Kept", some "ask")], spLaw K Z, each c.empty, each c.out, each fun p hp => PySem.W.codeHd_of_K X (c.hd p hp), fun s v => bA s [v] rfl, fun H a ns hl _ hT hS => ?_, fun base _ _ hTB => ?_⟩
  · refine ⟨a, ns, rfl, hS, hl, fun P hP => ?_, LamX.TabS.nil (hT (He.cT K ("Kept", some "ask")) (by simp)), fun _ => rfl⟩
    have hP2 : P ∈ [He.tabOf K (He.codeOf K ("picked", none)), He.tabOf K (He.codeOf K ("stretch", none))] := hP
    obtain ⟨p, hp, rfl⟩ : ∃ p ∈ [He.cT K ("picked", none), He.cT K ("stretch", none), He.cT K ("Kept", some "ask")], p.2 = P := by
      simp only [List.mem_cons, List.not_mem_nil, or_false] at hP2
      rcases hP2 with e | e
      · exact ⟨He.cT K ("picked", none), by simp, e.symm⟩
      · exact ⟨He.cT K ("stretch", none), by simp, e.symm⟩
    exact ⟨#[], hT p hp, trivial⟩
  · exact ok_law T ⟨hTB (He.cT K ("picked", none)) (by simp), hTB (He.cT K ("stretch", none)) (by simp), hTB (He.cT K ("Kept", some "ask")) (by simp)⟩
end My
open PySem PySem.W PySem.Calls PyProof.Rows
set_option maxHeartbeats 0 in
theorem PySem.Challenge.cw_stretchkeep_k39_lists_kept_holds : PySem.Challenge.rw_stretchkeep_k39_lists_kept.Holds := by
  w_on; o_law
  refine HandSHeadRun.head_any (r := My.Rw) (q := view My.Rw.prog [29]) (H := My.hk) (ob := My.ob) (M := 4000) (loose := My.loose1 ++ My.loose2) (d := HandSHeadRun.topDef My.Rw.prog 29) (kwd := []) My.ob_eq
    (by kernel_rfl) (fun s => by kernel_rfl) My.run (by kernel_rfl) (by kernel_rfl) (by kernel_rfl) (by rfl) (by first | assumption | decide +kernel) (by decide +kernel) ⟨rfl, rfl, rfl, rfl, rfl, by decide +kernel⟩ ?hw ?hc
  case hw => w_witness2
  case hc =>
    refine LamX.walk_ofTsE (l := PySem.Challenge.rw_stretchkeep_k39_lists_kept) (n := 63) (k := 9) (x := "script") (CX := fun _ => L2.CX0) rfl (by decide) (by kernel_rfl) ⟨rfl, by decide, by decide⟩ ?F (fun _ _ _ _ _ z => z)
    intro w mg fa h Y G hmg0
    obtain ⟨K, KX, c⟩ := Y
    have hmg : mg ("law" : PySem.Str) = some (.ref fa) := by
      have e : (HandSHeadRun.topDef My.Rw.prog 29).name = ("law" : PySem.Str) := by kernel_rfl
      rw [← e]
      exact hmg0
    exact ⟨K, KX, My.all_mk KX G hmg c⟩

