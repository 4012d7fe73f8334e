import PyProof.Rows.All
import Wide.All
import OpenK.AllK
import Wide.FinOn
import HandS.ForMost
import HandS.Walk
import HandS.IsInst
import HandS.DictComp
import HandS.SortInts
import HandS.NoneIn
import HandS.Replace
import HandS.TupAny
import HandS.TupLe
import PyProof.ListStr
import PyProof.TupleOfStr
import KE.GoesNew
import HandS.Zip
import HandS.More
import PyProof.StrLawsFirst
import HandS.Conv
import KE.KSortedM
import HandS.AnyAll
import HandS.EndTab
import PyProof.TupleOfGen
import HandS.EndOwn
import KE.KDictPairs
import KE.SortData
import KE.DataCmp
import PyProof.DictWalks
import KE.KDictWalk
import HandS.Style
import PyProof.CollectStr
import PyProof.SliceStr2
import PyProof.TupleOfSeq
import HandS.Star
import HandS.Wide
import KE.DataMinMax
import PySem.Challenge.RW_stretchkeep_k04_whole_sorted_again
set_option Elab.async false
set_option linter.all false
set_option maxRecDepth 100000
namespace My
open PySem PySem.Spec PyProof.Rows L2
/-! ### heaps -/
/-- all but r is as it was -/
def Kp (r : Addr) (H H' : Hp) : Prop := ∀ b o, b ≠ r → H b = some o → H' b = some o
theorem Kp.rfl' {r : Addr} {H : Hp} : Kp r H H := fun _ _ _ h => h
theorem Kp.trans {r : Addr} {H H1 H2 : Hp} (a : Kp r H H1) (b : Kp r H1 H2) : Kp r H H2 := fun c o n h => b c o n (a c o n h)
theorem Kp.new {r p : Addr} {H H1 : Hp} {o : HO} (a : Kp r H H1) (n : H1 p = none) : Kp r H (upd H1 p o) := fun b x nb h => by
  have h1 := a b x nb h
  rw [upd_ne (ne_of_none h1 n)]
  exact h1
theorem Kp.own {r : Addr} {H H1 : Hp} {o : HO} (a : Kp r H H1) : Kp r H (upd H1 r o) := fun b x nb h => by
  rw [upd_ne nb]
  exact a b x nb h
/-- an object that H does not know is written -/
theorem Kp.mut {r p : Addr} {H H1 : Hp} {o : HO} (a : Kp r H H1) (n : H p = none) : Kp r H (upd H1 p o) := fun b x nb h => by
  rw [upd_ne (ne_of_none h n)]
  exact a b x nb h
theorem Same.kp {r : Addr} {H H' : Hp} (s : Same H H') : Kp r H H' := fun b o _ h => s b o h
theorem Same.new {p : Addr} {H H1 : Hp} {o : HO} (a : Same H H1) (n : H1 p = none) : Same H (upd H1 p o) := fun b x h => by
  have h1 := a b x h
  rw [upd_ne (ne_of_none h1 n)]
  exact h1
theorem Same.mut {p : Addr} {H H1 : Hp} {o : HO} (a : Same H H1) (n : H p = none) : Same H (upd H1 p o) := fun b x h => by
  rw [upd_ne (ne_of_none h n)]
  exact a b x h
theorem Same.tup {K : PySem.W.Frag} {H H' : Hp} {a : Addr} {xs : List V} (e : Same H H') (h : SqT K H a xs) : SqT K H' a xs := by
  rcases h with (h | ⟨o, h⟩) | h
  · exact .inl (.inl (e _ _ h))
  · exact .inl (.inr ⟨o, e _ _ h⟩)
  · exact .inr h
/-- a list, a tuple that stands there stays, if it is not at r -/
theorem Kp.seqL {K : PySem.W.Frag} {r a : Addr} {H H' : Hp} {xs : List V} (e : Kp r H H') (n : a ≠ r) (h : SqL K H a xs) : SqL K H' a xs := by
  rcases h with (h | ⟨o, h⟩) | h
  · exact .inl (.inl (e _ _ n h))
  · exact .inl (.inr ⟨o, e _ _ n h⟩)
  · exact .inr h
theorem Same.kpN {r : Addr} {H H1 H2 : Hp} (s : Same H H1) (n : H r = Option.none) (k : Kp r H1 H2) : Same H H2 := fun b o h => k b o (ne_of_none h n) (s b o h)
theorem Kp.none {r p : Addr} {H H' : Hp} (e : Kp r H H') (n : p ≠ r) (h : H' p = Option.none) : H p = Option.none := by
  cases q : H p with
  | none => rfl
  | some o =>
    rw [e p o n q] at h
    cases h
theorem keep_new {H : Hp} {p b : Addr} {o x : HO} (h : H b = some x) (n : H p = Option.none) : (upd H p o) b = some x := by
  rw [upd_ne (ne_of_none h n)]
  exact h
theorem keep_ne {H : Hp} {p b : Addr} {o x : HO} (h : H b = some x) (n : b ≠ p) : (upd H p o) b = some x := by
  rw [upd_ne n]
  exact h
/-! ### a word between a statement and the rest -/
def tMid (t u : TS) : TS := fun D σ H => ∃ M : L2.St → Hp → Prop, t { D with nx := M } σ H ∧ ∀ σ1 H1, M σ1 H1 → u D σ1 H1
theorem pss_mid {X : Cx} {st : Stmt} {r : List Stmt} {t u : TS} (a : PS X st t) (b : PSs X r u) : PSs X (st :: r) (tMid t u) := ⟨fun pins s σ H D I h => by
  obtain ⟨M, hm, hu⟩ := h
  refine wpAny_execs_cons (thn (a.run pins s σ H { D with nx := M } I hm) fun f s1 q => ?_)
  cases f
  case next =>
    obtain ⟨σ1, H1, I1, q1⟩ := q
    exact b.run pins s1 σ1 H1 D I1 (hu σ1 H1 q1)
  all_goals exact q⟩
/-! ### texts -/
/-- a text of these codes; one sign -/
abbrev tx (l : List Nat) : V := .str ⟨l.toArray⟩
abbrev sg (c : Nat) : V := .str ⟨#[c]⟩
theorem signs_vals {x : Str} {acc : Array Value} (h : ItemsOf (SignAt x) acc x.cps.size) : Vals (x.cps.toList.map sg) acc.toList := by
  obtain ⟨hz, hi⟩ := h
  have key : ∀ (l : List Nat) (us : List Value), l.length = us.length → (∀ (j : Nat) (c : Nat) (v : Value), l[j]? = some c → us[j]? = some v → ∃ t, v = Value.str ⟨#[c]⟩ t) → Vals (l.map sg) us := by
    intro l
    induction l with
    | nil =>
      intro us hl _
      cases us with
      | nil => exact .nil
      | cons a b => cases hl
    | cons c l ih =>
      intro us hl hh
      cases us with
      | nil => cases hl
      | cons u us =>
        refine .cons ?_ (ih us (Nat.succ.inj hl) fun j c v h1 h2 => hh (j + 1) c v h1 h2)
        obtain ⟨t, e⟩ := hh 0 c u rfl rfl
        exact ⟨t, e⟩
  refine key _ _ (by rw [Array.length_toList, Array.length_toList, hz]) fun j c v h1 h2 => ?_
  obtain ⟨cc, t, e1, e2⟩ := hi j v (by rw [← Array.getElem?_toList]; exact h2)
  rw [Array.getElem?_toList] at h1
  rw [h1] at e1
  cases e1
  exact ⟨t, e2⟩
/-- the text of one sign -/
abbrev sS (c : Nat) : Str := ⟨#[c]⟩
theorem str_empty : (Str.ofString "").cps = #[] := by decide +kernel
theorem join_signs : ∀ l : List Nat, Txt.join (Str.ofString "") (l.map sS) = ⟨l.toArray⟩ := by
  intro l
  show PySem.Builtin.Str.glued (Str.ofString "") (l.map sS) = _
  rw [PySem.StrLaws.glued_eq_join]
  induction l with
  | nil => rfl
  | cons c l ih =>
    cases l with
    | nil => rfl
    | cons d l =>
      show sS c ++ Str.ofString "" ++ Str.join (Str.ofString "") ((d :: l).map sS) = _
      rw [ih]
      show (⟨(#[c] ++ (Str.ofString "").cps) ++ (d :: l).toArray⟩ : Str) = _
      rw [str_empty]
      simp
theorem ltCps_one {a b : Nat} (h : ltCps [a] [b] = false) : b ≤ a := by
  simp [ltCps] at h
  exact h
theorem rising_signs : ∀ (l : List Nat) (c : Nat), risingS (sS c) (l.map sS) = true → (c :: l).Pairwise (· ≤ ·)
  | [], c, _ => List.pairwise_singleton _ _
  | d :: l, c, h => by
    have h' : (!ltCps [d] [c] && risingS (sS d) (l.map sS)) = true := h
    rw [Bool.and_eq_true, Bool.not_eq_true'] at h'
    have hd := ltCps_one h'.1
    have ih := rising_signs l d h'.2
    refine List.Pairwise.cons (fun x hx => ?_) ih
    rcases List.mem_cons.mp hx with e | hx
    · rw [e]
      exact hd
    · exact Nat.le_trans hd ((List.pairwise_cons.mp ih).1 x hx)
theorem sorted_signs : ∀ (l : List Nat), sortedS (l.map sS) = true → l.Pairwise (· ≤ ·)
  | [], _ => List.Pairwise.nil
  | c :: l, h => rising_signs l c h
theorem perm_signs {ys : List Str} {l : List Nat} (h : ys.Perm (l.map sS)) : ∃ l' : List Nat, ys = l'.map sS ∧ l'.Perm l := by
  let hd : Str → Nat := fun z => z.cps.toList.headD 0
  refine ⟨ys.map hd, ?_, ?_⟩
  · rw [List.map_map]
    have e : ∀ y ∈ ys, (sS ∘ hd) y = y := fun y hy => by
      obtain ⟨c, _, rfl⟩ := List.mem_map.mp (h.mem_iff.mp hy)
      rfl
    conv => lhs; rw [← List.map_id ys]
    exact (List.map_congr_left e).symm
  · have e := h.map hd
    rw [List.map_map] at e
    have e2 : l.map (hd ∘ sS) = l := by
      conv => rhs; rw [← List.map_id l]
      exact List.map_congr_left fun c _ => rfl
    rw [e2] at e
    exact e
theorem strict_of {l : List Nat} (h : l.Pairwise (· ≤ ·)) (n : l.Nodup) : l.Pairwise (· < ·) := by
  refine (h.and n).imp fun {a b} q => ?_
  have h1 := q.1
  have h2 : a ≠ b := q.2
  omega
theorem map_sg (l : List Nat) : l.map sg = (l.map sS).map V.str := by
  rw [List.map_map]
  rfl
theorem erase_map {α β : Type} (f : α → β) : ∀ (l : List α) (k : Nat), (l.map f).eraseIdx k = (l.eraseIdx k).map f
  | [], _ => rfl
  | _ :: _, 0 => rfl
  | a :: l, k + 1 => by
    show f a :: (l.map f).eraseIdx k = f a :: (l.eraseIdx k).map f
    rw [erase_map f l k]
theorem pop_perm : ∀ {l : List Nat} {k : Nat} {y : Nat}, l[k]? = some y → (y :: l.eraseIdx k).Perm l
  | [], k, y, h => by simp at h
  | a :: l, 0, y, h => by
    have e : a = y := Option.some.inj h
    rw [e]
    exact List.Perm.refl _
  | a :: l, k + 1, y, h => by
    have ih := pop_perm (l := l) (k := k) (y := y) h
    exact (List.Perm.swap a y (l.eraseIdx k)).trans (ih.cons a)
theorem popped {l : List Nat} {k : Nat} {y : Nat} (h : l[k]? = some y) (f : List Nat) : (l.eraseIdx k ++ (f ++ [y])).Perm (l ++ f) := by
  have p := pop_perm h
  have p1 : (l.eraseIdx k ++ (f ++ [y])).Perm ([y] ++ (l.eraseIdx k ++ f)) := by
    rw [← List.append_assoc]
    exact List.perm_append_comm
  refine p1.trans ?_
  rw [← List.append_assoc]
  exact p.append_right f
section
variable {X : Cx}
theorem call_list_txt (hc : X.calm = true := by rfl) : CallR X (.type "list") (fun xs H Q => ∃ z : Str, xs = [.str z] ∧ z.length ≤ sizeLine ∧ ∀ l, H l = none → Q (.ref l) (upd H l (.lst (z.cps.toList.map sg)))) := by
  intro pins s σ H xs us Q I r h
  obtain ⟨z, rfl, hz, q⟩ := h
  obtain ⟨u, rfl, rx⟩ := vals1 r
  obtain ⟨t, rfl⟩ := rx
  refine PySem.call_list_str (I.ok.hd hc) z t (fun h' tk acc c kp e hi => ?_) hz
  have hv := signs_vals hi
  exact ⟨.ref s.heap.objs.size, _, I.laid (t' := tk) kp (Nat.le_refl _) (show ObjOk X.prog X.w _ h' _ (.lst (z.cps.toList.map sg)) from ⟨by rw [List.length_map, Array.length_toList]; exact hz, acc.toList, c, hv, by rw [Array.toArray_toList]; exact e⟩), rfl, q _ (I.hok.fresh (Nat.le_refl _))⟩
end
end My

set_option Elab.async false
set_option linter.all false
set_option maxRecDepth 100000
set_option maxHeartbeats 1000000
namespace My
open PySem PySem.Spec PyProof.Rows L2
/-! ### enumerate over a text, over a tuple -/
def ItEg (go : Nat → Hp → Prop) (val : Nat → Hp → V → Prop) (stop : Nat → Hp → Prop) : It :=
  ⟨go, fun i H v H' => ∃ T x, v = .ref T ∧ H T = none ∧ H' = upd H T (.tup [.int (i : Nat), x]) ∧ val i H x, stop⟩
theorem turn_eg {P : Program} {w : World} {K : PySem.W.Frag} {elts : List Expr} {kk : Nat} {tpos : Pos} {e it : Addr} {Sub : Nat → Heap → Prop} {go stop : Nat → Hp → Prop} {val : Nat → Hp → V → Prop} (hne : e ≠ it)
    (obj : ∀ i h, Sub i h → ∃ o, h.get? it = some o ∧ ∀ v, o.data ≠ .cell v)
    (keep : ∀ i h h', Sub i h → (∀ o, h.get? it = some o → h'.get? it = some o) → Sub i h')
    (draw : ∀ (X : Cx) (pins : List (Addr × Obj)) (σ : L2.St) (H : Hp) (s : Shared) (i : Nat), X.prog = P → X.w = w → X.K = K → X.calm = true → Inv X pins σ H s → (∃ old, IsEnum s.heap e it ((i : Nat) : Int) old) → Sub i s.heap → go i H ∨ stop i H →
      ∃ (fp : List Addr) (n : Nat) (Pd : Nat → Value → Prop) (St : Nat → Heap → Prop), Draws P w X.A.in1 it fp n Pd St ∧ St i s.heap ∧ (∀ j h, St j h → Sub j h) ∧ e ∉ fp ∧ (go i H → i < n) ∧ (stop i H → i = n) ∧ (go i H → ∀ u, Pd i u → ∃ x, RelV x u ∧ val i H x)) :
    Turn P w K (.Tuple elts kk tpos) (ItEg go val stop) [e, it] e (fun i h => (∃ old, IsEnum h e it ((i : Nat) : Int) old) ∧ Sub i h) where
  mem := by simp
  obj := fun i h st b hb => by
    obtain ⟨⟨old, he⟩, hs⟩ := st
    have hb2 : b = e ∨ b = it := by simpa using hb
    rcases hb2 with z | z
    · rw [z]
      exact ⟨_, he, fun v q => nomatch q⟩
    · rw [z]
      exact obj i h hs
  keep := fun i h h' st k => by
    obtain ⟨⟨old, he⟩, hs⟩ := st
    exact ⟨⟨old, k e (by simp) _ he⟩, keep i h h' hs fun o q => k it (by simp) o q⟩
  item := by
    intro X hP hw hK hc i pins s σ H E I hf st hg
    obtain ⟨fp, n, Pd, St, D, hst, hsub, hef, hlt, _, hval⟩ := draw X pins σ H s i hP hw hK hc I st.1 st.2 (.inl hg)
    obtain ⟨⟨old, he⟩, hs⟩ := st
    subst hP hw hK
    have hel : e < s.heap.objs.size := Heap.lt_size he
    have hil : it < s.heap.objs.size := by
      obtain ⟨o, q, _⟩ := obj i _ hs
      exact Heap.lt_size q
    refine wpAny_pyNext_enum_itemC D he hst (hlt hg) hne hef fun u h' tk hu ho hst' hT hsz hk => ?_
    obtain ⟨x, ru, hv⟩ := hval hg u hu
    refine ⟨_, rfl, wpAny_letOwnedTupleGo_enum (s := { s with heap := h', toks := tk + 1 }) ho fun h'' he' sb => ?_⟩
    have hT2 : h''.get? s.heap.objs.size = some { cls := .type "tuple", data := .seq #[.int i tk, u] } := (sb.2 _ (Nat.ne_of_gt hel)).trans hT
    have new : ObjOk X.prog X.w (upd H s.heap.objs.size (.tup [.int (i : Nat), x])) h'' s.heap.objs.size (.tup [.int (i : Nat), x]) := ⟨by show 2 ≤ sizeLine; decide, [.int i tk, u], .cons ⟨_, rfl⟩ (.cons ru .nil), ⟨_, hT2, rfl, _, rfl⟩⟩
    have I1 : Inv X pins σ (upd H s.heap.objs.size (.tup [.int (i : Nat), x])) { s with heap := h'', toks := tk + 1 } :=
      I.turnedNew (ch := [e, it]) (fun b ob hb q => (sb.2 b fun z => hb (by simp [z])).trans (hk b ob (fun z => hb (by simp [z])) (fun z => hb (by simp [z])) q)) hf (Nat.le_refl _) new
    refine ⟨.ref s.heap.objs.size, _, I1, rfl, ⟨_, x, rfl, I.hok.fresh (Nat.le_refl _), rfl, hv⟩, ⟨⟨u, ?_⟩, keep _ _ _ (hsub _ _ hst') fun o q => (sb.2 it (Ne.symm hne)).trans q⟩, fun b hb => ?_⟩
    · have e1 : ((i + 1 : Nat) : Int) = (i : Int) + 1 := by omega
      rw [e1]
      exact he'
    · have hb2 : b = e ∨ b = it := by simpa using hb
      have hb' : b < s.heap.objs.size := by
        rcases hb2 with z | z
        · rw [z]
          exact hel
        · rw [z]
          exact hil
      rw [upd_ne (Nat.ne_of_lt hb')]
      exact (hf b hb).1
  done := by
    intro X hP hw hK hc i pins s σ H E I hf st hg
    obtain ⟨fp, n, Pd, St, D, hst, hsub, hef, _, heq, _⟩ := draw X pins σ H s i hP hw hK hc I st.1 st.2 (.inr hg)
    obtain ⟨⟨old, he⟩, hs⟩ := st
    subst hP hw hK
    have ei := heq hg
    subst ei
    obtain ⟨f0, f1, f2, f3, f4, f5⟩ := hf it (by simp)
    exact wpAny_pyNext_enum_endD D he hst fun h' eb => ⟨rfl, I.turned (t' := s.toks) (fun b o hb q => eb b o hb q) f0 f1 f3 f4 f5⟩
  self := fun A i s Q E st h => by
    obtain ⟨⟨old, he⟩, _⟩ := st
    exact wpAny_pyIter_enum he h
/-- the items of a tuple with their places -/
def Itet (K : PySem.W.Frag) (a : Addr) : It := ItEg (fun i H => ∃ xs, SqT K H a xs ∧ i < xs.length) (fun i H x => ∀ xs, SqT K H a xs → xs[i]? = some x) (fun i H => ∃ xs, SqT K H a xs ∧ i = xs.length)
theorem turn_et {P : Program} {w : World} {K : PySem.W.Frag} {elts : List Expr} {kk : Nat} {tpos : Pos} {e it : Addr} (a : Addr) (hne : e ≠ it) :
    Turn P w K (.Tuple elts kk tpos) (Itet K a) [e, it] e (fun i h => (∃ old, IsEnum h e it ((i : Nat) : Int) old) ∧ h.IsTupleIter it a i) := by
  refine turn_eg hne (fun i h st => ?_) (fun i h h' st k => ?_) (fun X pins σ H s i hP hw hK hc I hen st hg => ?_)
  · obtain ⟨o, e1, c, d⟩ := st
    exact ⟨o, e1, fun v q => by rw [d] at q; cases q⟩
  · obtain ⟨o, ho, r⟩ := st
    exact ⟨o, k o ho, r⟩
  · have hh : X.A.in1.handled = none := I.ok.hd hc
    subst hP hw hK
    have hx : ∃ xs, SqT X.K H a xs := by
      rcases hg with ⟨xs, q, _⟩ | ⟨xs, q, _⟩
      · exact ⟨xs, q⟩
      · exact ⟨xs, q⟩
    obtain ⟨xs, hq⟩ := hx
    obtain ⟨its, rv, p, hz⟩ := I.tuple hq
    have hl := rv.length
    have same : ∀ ys, SqT X.K H a ys → ys.length = its.length := fun ys hy => by
      rw [I.tuple_inj hy hq]
      exact hl
    have hia : a ≠ it := fun z => by
      obtain ⟨o1, h1, c1, _⟩ := st
      obtain ⟨o2, h2, c2, _⟩ := p
      rw [z] at h2
      rw [h1] at h2
      cases h2
      rw [c1] at c2
      exact absurd c2 (by decide)
    have hea : e ≠ a := fun z => by
      obtain ⟨old, he⟩ := hen
      obtain ⟨o2, h2, c2, _⟩ := p
      rw [← z] at h2
      have he' : s.heap.get? e = some _ := he
      rw [he'] at h2
      cases h2
      exact absurd (show Value.type "enumerate" = Value.type "tuple" from c2) (by decide)
    refine ⟨_, _, _, _, Draws.tuple hh it a hia its.toArray, ⟨st, p⟩, fun _ _ q => q.1, fun q => ?_, fun q => ?_, fun q => ?_, fun q u hu => ?_⟩
    · have q2 : e = it ∨ e = a := by simpa using q
      rcases q2 with z | z
      · exact hne z
      · exact hea z
    · obtain ⟨ys, hy, hi⟩ := q
      have := same ys hy
      simp only [List.size_toArray]
      omega
    · obtain ⟨ys, hy, hi⟩ := q
      have := same ys hy
      simp only [List.size_toArray]
      omega
    · have hu2 : its[i]? = some u := by simpa using hu
      have hi : i < xs.length := by
        have := (List.getElem?_eq_some_iff.mp hu2).1
        omega
      obtain ⟨u', hu', ru⟩ := rv.get (List.getElem?_eq_getElem hi)
      rw [hu2] at hu'
      cases hu'
      refine ⟨xs[i], ru, fun ys hy => ?_⟩
      rw [I.tuple_inj hy hq]
      exact List.getElem?_eq_getElem hi
section
variable {X : Cx}
def iEnumT (K : PySem.W.Frag) (ta : TA) : TI := fun σ H R => ta σ H fun vs H1 => ∃ a xs, vs = [.ref a] ∧ SqT K H1 a xs ∧ R (Itet K a) H1
theorem fresh2 {pins : List (Addr × Obj)} {σ : L2.St} {H : Hp} {s : Shared} (I : Inv X pins σ H s) : ∀ b ∈ [s.heap.objs.size + 1, s.heap.objs.size], FpOk X pins H b := fun b hb => by
  have hb2 : b = s.heap.objs.size + 1 ∨ b = s.heap.objs.size := by simpa using hb
  have hle : s.heap.objs.size ≤ b := by
    rcases hb2 with z | z
    · rw [z]
      exact Nat.le_succ _
    · rw [z]
      exact Nat.le_refl _
  exact I.fpOk hle (I.hok.fresh hle)
theorem meets_enumT (l : Addr) (items : Array Value) (n : Nat) (dct : Option Addr) (sl : Array (Option Value)) :
    Meets (Builtin.«enumerate.__new__» ⟨[.type "enumerate", .ref l], []⟩) (fun _ R s => s.heap.get? l = some ⟨.type "tuple", dct, .seq items n, sl⟩ ∧
      R (.ok (.ret (.ref (s.heap.push { cls := .type "tuple_iterator", data := .fields #[.ref l, .int 0 0] }).objs.size)))
        { s with heap := (s.heap.push { cls := .type "tuple_iterator", data := .fields #[.ref l, .int 0 0] }).push { cls := .type "enumerate", data := .fields #[.none, .bool false, .ref s.heap.objs.size, rawInt 0, .none, .none] } }) :=
  .of_wp fun prog w A R s h => by
    obtain ⟨hp, g, d, tk, os⟩ := s
    obtain ⟨hl, h⟩ := h
    have hsub := sub_enumerate
    have hT : Heap.IsTuple (Shared.heap ⟨hp, g, d, tk, os⟩) l items := ⟨_, hl, rfl, n, rfl⟩
    wp_walk using AutoSeq1.wpAny_loadPart' hl
    refine wpAny_stack_any fun st => wpAny_pure ?_
    split
    · rename_i c _ _ _ _ _
      cases (c == Value.type "enumerate") <;> (wp_walk using AutoSeq1.wpAny_loadPart' hl, wpAny_pyIter_tuple hT; exact ⟨_, rfl, h⟩)
    · wp_walk using AutoSeq1.wpAny_loadPart' hl, wpAny_pyIter_tuple hT
      exact ⟨_, rfl, h⟩
theorem call_enumT {prog : Program} {w : World} {A : Around} {E : Value → Shared → Prop} {s : Shared} {l : Addr} {items : Array Value} {Q : Value → Shared → Prop} (hL : s.heap.IsTuple l items)
    (h : ∀ h', IsEnum h' (s.heap.objs.size + 1) s.heap.objs.size 0 .none → h'.IsTupleIter s.heap.objs.size l 0 → (∀ b o, s.heap.get? b = some o → h'.get? b = some o) → Q (.ref (s.heap.objs.size + 1)) { s with heap := h' }) :
    wpAny (model prog w) A (call (.type "enumerate") [.ref l]) Q E s := by
  obtain ⟨⟨c, dct, dt, sl⟩, hl, hc, n, hd⟩ := hL
  have hc' : c = .type "tuple" := hc
  have hd' : dt = .seq items n := hd
  subst hc' hd'
  refine callType_new F.called_enumerate (by decide) (F.typeCall_enumerate_1 _) (F.newCall_enumerate_1 _) (fun obj => F.args_object_init_2 obj _) F.entry_enumerate_new (meets_enumT l items n dct sl) ⟨hl, ?_⟩
  have hz : (s.heap.push { cls := .type "tuple_iterator", data := .fields #[.ref l, .int 0 0] }).objs.size = s.heap.objs.size + 1 := Heap.size_push ..
  show _ ∧ _
  rw [hz]
  have he : IsEnum ((s.heap.push { cls := .type "tuple_iterator", data := .fields #[.ref l, .int 0 0] }).push { cls := .type "enumerate", data := .fields #[.none, .bool false, .ref s.heap.objs.size, rawInt 0, .none, .none] }) (s.heap.objs.size + 1) s.heap.objs.size 0 .none := by
    have := Heap.get?_push_size (s.heap.push { cls := .type "tuple_iterator", data := .fields #[.ref l, .int 0 0] }) (o := { cls := .type "enumerate", data := .fields #[.none, .bool false, .ref s.heap.objs.size, rawInt 0, .none, .none] }) rfl
    rw [hz] at this
    exact this
  exact ⟨⟨_, he, rfl⟩, h _ he ⟨_, Heap.get?_push_of_some _ (Heap.get?_push_size _ rfl), rfl, rfl⟩ fun b o x => Heap.get?_push_of_some _ (Heap.get?_push_of_some _ x)⟩
theorem pi_enumT {e : Expr} {ta : TA} {p pos tpos : Pos} {elts : List Expr} {kk : Nat} (hg : Gl X "enumerate") (hm : X.mg "enumerate" = none) (ha : PA X [e] ta) (hs : starEach [e] X.env = [(false, eval e X.env)] := by rfl) :
    PI X (.Tuple elts kk tpos) (.Call (.Name "enumerate" p) [e] [] pos) (iEnumT X.K ta) := by
  refine ⟨fun pins s σ H R I h => ?_⟩
  refine Call_ (ld_blt I hg hm boot_enumerate (PyProof.Rows.callWith_type1 (thn (ha.run pos pins s σ H _ I h) fun us s1 ⟨vs, H1, I1, r1, q1⟩ => ?_) hs rfl))
  obtain ⟨a, xs, rfl, hq, q⟩ := q1
  obtain ⟨u, rfl, ru⟩ := vals1 r1
  cases ru
  obtain ⟨its, rv, pl, hz⟩ := I1.tuple hq
  refine call_enumT pl fun h' he hit hk => wpAny_pyIter_enum he ?_
  exact ⟨s1.heap.objs.size + 1, [s1.heap.objs.size + 1, s1.heap.objs.size], _, _, H1, rfl, I1.kept (t' := s1.toks) hk, turn_et a (Nat.succ_ne_self _), ⟨⟨.none, he⟩, hit⟩, fresh2 I1, q⟩
end
theorem walk_et {K : PySem.W.Frag} {a : Addr} {xs : List V} : Walk (Itet K a) xs.length (fun H => SqT K H a xs) (YPair (fun i => some (.int (i : Nat))) (fun i => xs[i]?)) := by
  refine ⟨fun _ _ hi q => ⟨xs, q, hi⟩, fun _ q => ⟨xs, q, rfl⟩, fun i H v H' hi q y => ?_⟩
  obtain ⟨T, x, h1, h2, h3, h4⟩ := y
  exact ⟨T, .int (i : Nat), x, h1, h2, h3, rfl, h4 xs q⟩
end My

set_option Elab.async false
set_option linter.all false
set_option maxRecDepth 100000
set_option maxHeartbeats 1000000
namespace My
open PySem PySem.Spec PyProof.Rows L2
/-! ### calls by named readings -/
def rLenSq (K : PySem.W.Frag) : List V → Hp → VK → Prop := fun xs H Q => ∃ p ys, xs = [.ref p] ∧ (SqL K H p ys ∨ SqT K H p ys) ∧ Q (.int (ys.length : Nat)) H
def rTupSq (K : PySem.W.Frag) : List V → Hp → VK → Prop := fun xs H Q => ∃ p ys, xs = [.ref p] ∧ ((SqL K H p ys ∧ ∀ l, H l = none → Q (.ref l) (upd H l (.tup ys))) ∨ (SqT K H p ys ∧ Q (.ref p) H))
section
variable (K : PySem.W.Frag) {X : Cx}
theorem cLenSq (hK : X.K = K := by rfl) : CallR X (.builtin "len") (rLenSq K) := by
  subst hK
  exact call_len_seq
theorem cTupSq (hK : X.K = K := by rfl) : CallR X (.type "tuple") (rTupSq K) := by
  subst hK
  exact call_tuple_of
theorem ixL (hK : X.K = K := by rfl) : IxR X (rIxL K) := by
  subst hK
  exact ix_list
theorem ixT (hK : X.K = K := by rfl) : IxR X (rIxT K) := by
  subst hK
  exact ix_tup
theorem piL {tg l : Expr} {tl : TE} (hl : PE X l tl) (hK : X.K = K := by rfl) : PI X tg l (iList K tl) := by
  subst hK
  exact pi_list hl
theorem piT {tg l : Expr} {tl : TE} (hl : PE X l tl) (hK : X.K = K := by rfl) : PI X tg l (iTup K tl) := by
  subst hK
  exact pi_tup hl
theorem pgT {es : List Expr} {k : Nat} {t : TGs} {n : Nat} {pos : Pos} (h : PGs X es t) (hK : X.K = K := by rfl) (hc : X.calm = true := by rfl) (hn : (assignEach es X.env).length = n := by rfl) (hst : (assignEach es X.env).findIdx? (·.1) = none := by rfl) : PG X (.Tuple es k pos) (gTup K n t) := by
  subst hK
  exact pg_tup hc h hn hst
theorem neDK (hu : X.A.units + 64 < cLine) (hK : X.K = K := by rfl) : OpR X (compareOp .NotEq) (rNeD K) := by
  subst hK
  exact op_neD hu
theorem bmK {T id : String} {name : Str} {r : V → List V → Hp → VK → Prop} {o e : Expr} {es : List Expr} {to : TE} {t : TA} {apos cpos : Pos} (pa : PlainAttrs T) (slot : Slot T name id) (hty : typeOf (.builtin id) = pure (.type "method_descriptor")) (hm : MtR X id r) (ho : PE X o to) (ha : PA X (e :: es) t) (hK : X.K = K := by rfl)
    (hbase : attributeBase o name X.env (eval o X.env) = eval o X.env := by rfl)
    (hfew : ((backTo cpos (starEach (e :: es) X.env)).all (fun x => !x.1) && (backToKw cpos (keywordEach [] X.env)).all (fun x => x.1.isSome) && decide ((e :: es).length + ([] : List Keyword).length + (if ([] : List Keyword).isEmpty then 0 else 1) < 30)) = true := by rfl)
    (hline : (apos.endLine == cpos.line) = true := by rfl) (hs : starEach (e :: es) X.env = (false, eval e X.env) :: starEach es X.env := by rfl) (hplain : (backTo cpos (starEach es X.env)).any (·.1) = false := by rfl) :
    PE X (.Call (.Attribute o name apos) (e :: es) [] cpos) (tBM K T r to t) := by
  subst hK
  exact pe_bm pa slot hty hm ho ha hbase hfew hline hs hplain
theorem enumTK {e : Expr} {ta : TA} {p pos tpos : Pos} {elts : List Expr} {kk : Nat} (hg : Gl X "enumerate") (hm : X.mg "enumerate" = none) (ha : PA X [e] ta) (hK : X.K = K := by rfl) (hs : starEach [e] X.env = [(false, eval e X.env)] := by rfl) :
    PI X (.Tuple elts kk tpos) (.Call (.Name "enumerate" p) [e] [] pos) (iEnumT K ta) := by
  subst hK
  exact pi_enumT hg hm ha hs
theorem zipAK {e e2 : Expr} {ta : TA} {p pos tpos : Pos} {elts : List Expr} {kk : Nat} (hg : Gl X "zip") (hm : X.mg "zip" = none) (ha : PA X [e, e2] ta) (hK : X.K = K := by rfl)
    (hs : starEach [e, e2] X.env = (false, eval e X.env) :: starEach [e2] X.env := by rfl) (hpl : (backTo pos (starEach [e2] X.env)).any (·.1) = false := by rfl) :
    PI X (.Tuple elts kk tpos) (.Call (.Name "zip" p) [e, e2] [] pos) (RZ.iZipA K ta) := by
  subst hK
  exact RZ.pi_zipA hg hm ha hs hpl
end
/-! ### frozen data: numbers, texts, None, truths, tuples of these -/
mutual
inductive Fz (H : Hp) : V → PyData → Prop
  | non : Fz H .non .none
  | bl (b : Bool) : Fz H (.bl b) (.bool b)
  | int (i : Int) : Fz H (.int i) (.int i)
  | str (x : Str) : Fz H (.str x) (.str x)
  | tup {a : Addr} {xs : List V} {ds : List PyData} : H a = some (.tup xs) → FzA H xs ds → Fz H (.ref a) (.tuple ds)
inductive FzA (H : Hp) : List V → List PyData → Prop
  | nil : FzA H [] []
  | cons {v : V} {vs : List V} {d : PyData} {ds : List PyData} : Fz H v d → FzA H vs ds → FzA H (v :: vs) (d :: ds)
end
/-- tuples stay -/
def Kt (H H' : Hp) : Prop := ∀ b xs, H b = some (.tup xs) → H' b = some (.tup xs)
theorem Kt.rfl' {H : Hp} : Kt H H := fun _ _ h => h
theorem Kt.trans {H H1 H2 : Hp} (a : Kt H H1) (b : Kt H1 H2) : Kt H H2 := fun c o h => b c o (a c o h)
theorem Kt.new {H : Hp} {p : Addr} {o : HO} (n : H p = none) : Kt H (upd H p o) := fun b xs h => by
  rw [upd_ne (ne_of_none h n)]
  exact h
theorem Kt.lst {H : Hp} {p : Addr} {xs : List V} {o : HO} (n : H p = some (.lst xs)) : Kt H (upd H p o) := fun b ys h => by
  have e : b ≠ p := fun z => by
    rw [z, n] at h
    cases h
  rw [upd_ne e]
  exact h
theorem Kt.dct {H : Hp} {p : Addr} {xs : List (Key × V)} {o : HO} (n : H p = some (.dK xs)) : Kt H (upd H p o) := fun b ys h => by
  have e : b ≠ p := fun z => by
    rw [z, n] at h
    cases h
  rw [upd_ne e]
  exact h
theorem Kp.kt {r : Addr} {H H' : Hp} {xs : List V} (k : Kp r H H') (h : H r = some (.lst xs)) : Kt H H' := fun b ys e => k b _ (fun z => by
  rw [z, h] at e
  cases e) e
theorem Same.kt {H H' : Hp} (k : Same H H') : Kt H H' := fun b ys e => k b _ e
mutual
theorem Fz.mono {H H' : Hp} (k : Kt H H') : ∀ (d : PyData) (v : V), Fz H v d → Fz H' v d
  | .none, _, .non => .non
  | .bool _, _, .bl b => .bl b
  | .int _, _, .int i => .int i
  | .str _, _, .str x => .str x
  | .tuple ds, _, .tup h a => .tup (k _ _ h) (FzA.mono k ds _ a)
theorem FzA.mono {H H' : Hp} (k : Kt H H') : ∀ (ds : List PyData) (vs : List V), FzA H vs ds → FzA H' vs ds
  | [], _, .nil => .nil
  | d :: ds, _, .cons h a => .cons (Fz.mono k d _ h) (FzA.mono k ds _ a)
end
theorem Fz.kt {H H' : Hp} {v : V} {d : PyData} (h : Fz H v d) (k : Kt H H') : Fz H' v d := Fz.mono k d v h
theorem FzA.kt {H H' : Hp} {vs : List V} {ds : List PyData} (h : FzA H vs ds) (k : Kt H H') : FzA H' vs ds := FzA.mono k ds vs h
mutual
theorem Fz.dp {K : PySem.W.Frag} {H : Hp} : ∀ (d : PyData) (v : V), Fz H v d → Dp K H v d
  | .none, _, .non => .non
  | .bool _, _, .bl b => .bl b
  | .int _, _, .int i => .int i
  | .str _, _, .str x => .str x
  | .tuple ds, _, .tup h a => .tup (.inl (.inl h)) (FzA.dp ds _ a)
theorem FzA.dp {K : PySem.W.Frag} {H : Hp} : ∀ (ds : List PyData) (vs : List V), FzA H vs ds → DpAll K H vs ds
  | [], _, .nil => .nil
  | d :: ds, _, .cons h a => .cons (Fz.dp d _ h) (FzA.dp ds _ a)
end
theorem Fz.to {K : PySem.W.Frag} {H : Hp} {v : V} {d : PyData} (h : Fz H v d) : Dp K H v d := Fz.dp d v h
theorem FzA.len : ∀ {H : Hp} {vs : List V} {ds : List PyData}, FzA H vs ds → vs.length = ds.length
  | _, _, _, .nil => rfl
  | _, _, _, .cons _ a => by
    rw [List.length_cons, List.length_cons, FzA.len a]
theorem FzA.get : ∀ {H : Hp} {vs : List V} {ds : List PyData} {i : Nat} {d : PyData}, FzA H vs ds → ds[i]? = some d → ∃ v, vs[i]? = some v ∧ Fz H v d
  | _, _, _, _, _, .nil, h => by simp at h
  | _, _, _, 0, _, .cons a _, h => ⟨_, rfl, Option.some.inj h ▸ a⟩
  | _, _, _, i + 1, _, .cons _ a, h => FzA.get (i := i) a h
theorem FzA.getV : ∀ {H : Hp} {vs : List V} {ds : List PyData} {i : Nat} {v : V}, FzA H vs ds → vs[i]? = some v → ∃ d, ds[i]? = some d ∧ Fz H v d
  | _, _, _, _, _, .nil, h => by simp at h
  | _, _, _, 0, _, .cons a _, h => ⟨_, rfl, Option.some.inj h ▸ a⟩
  | _, _, _, i + 1, _, .cons _ a, h => FzA.getV (i := i) a h
theorem FzA.app : ∀ {H : Hp} {vs ws : List V} {ds es : List PyData}, FzA H vs ds → FzA H ws es → FzA H (vs ++ ws) (ds ++ es)
  | _, _, _, _, _, .nil, b => b
  | _, _, _, _, _, .cons a r, b => .cons a (FzA.app r b)
theorem FzA.snoc {H : Hp} {vs : List V} {ds : List PyData} {v : V} {d : PyData} (a : FzA H vs ds) (b : Fz H v d) : FzA H (vs ++ [v]) (ds ++ [d]) := a.app (.cons b .nil)
theorem FzA.ints : ∀ {H : Hp} {ns : List Int} {vs : List V}, FzA H vs (ns.map PyData.int) → vs = ns.map V.int
  | _, [], _, .nil => rfl
  | _, n :: ns, _, .cons (.int _) a => by
    rw [FzA.ints (ns := ns) a]
    rfl
theorem FzA.ofInts : ∀ {H : Hp} {ns : List Int}, FzA H (ns.map V.int) (ns.map PyData.int)
  | _, [] => .nil
  | _, n :: ns => .cons (.int n) (FzA.ofInts (ns := ns))
/-- a tuple, opened -/
theorem Fz.open {H : Hp} {v : V} {ds : List PyData} (h : Fz H v (.tuple ds)) : ∃ (a : Addr) (xs : List V), v = .ref a ∧ H a = some (.tup xs) ∧ FzA H xs ds := by
  cases h with
  | tup h a => exact ⟨_, _, rfl, h, a⟩
theorem FzA.one {H : Hp} {vs : List V} {d : PyData} (h : FzA H vs [d]) : ∃ x, vs = [x] ∧ Fz H x d := by
  cases h with
  | cons a r =>
    cases r
    exact ⟨_, rfl, a⟩
theorem FzA.two {H : Hp} {vs : List V} {d e : PyData} (h : FzA H vs [d, e]) : ∃ x y, vs = [x, y] ∧ Fz H x d ∧ Fz H y e := by
  cases h with
  | cons a r =>
    obtain ⟨y, rfl, b⟩ := r.one
    exact ⟨_, y, rfl, a, b⟩
theorem Fz.isStr {H : Hp} {v : V} {x : Str} (h : Fz H v (.str x)) : v = .str x := by
  cases h
  rfl
theorem Fz.isInt {H : Hp} {v : V} {i : Int} (h : Fz H v (.int i)) : v = .int i := by
  cases h
  rfl
/-- a tuple just made -/
theorem Fz.made {H : Hp} {p : Addr} {xs : List V} {ds : List PyData} (n : H p = Option.none) (h : FzA H xs ds) : Fz (upd H p (.tup xs)) (.ref p) (.tuple ds) := .tup upd_same (h.kt (.new n))
theorem at_ints {ns : List Int} {d : Int} (h0 : 0 ≤ d) (h1 : d < (ns.length : Nat)) : ∃ t ∈ ns, atI (ns.map V.int) d = some (.int t) := by
  have hd : d.toNat < ns.length := by omega
  refine ⟨ns[d.toNat], List.getElem_mem hd, L2.at_of (j := d.toNat) (by omega) ?_⟩
  rw [List.getElem?_map, List.getElem?_eq_getElem hd]
  rfl
/-! ### tables -/
abbrev rowD (row : List Int) : PyData := .tuple (row.map PyData.int)
abbrev rowsD (rows : List (List Int)) : PyData := .tuple (rows.map rowD)
abbrev tabD (cols : List Nat) (rows : List (List Int)) : PyData := .tuple [.str ⟨cols.toArray⟩, rowsD rows]
/-- rising unlike letters -/
structure Cols (l : List Nat) : Prop where
  up : l.Pairwise (· < ·)
  az : ∀ c ∈ l, 97 ≤ c ∧ c ≤ 122
theorem Cols.nd {l : List Nat} (c : Cols l) : l.Nodup := c.up.imp fun {a b} h => by
  have : a < b := h
  omega
def RowOk (n : Nat) (row : List Int) : Prop := row.length = n ∧ ∀ x ∈ row, 0 ≤ x ∧ x < 1000
def RowsOk (n : Nat) (rows : List (List Int)) : Prop := ∀ row ∈ rows, RowOk n row
theorem row_open {H : Hp} {v : V} {row : List Int} (h : Fz H v (rowD row)) : ∃ a, v = .ref a ∧ H a = some (.tup (row.map V.int)) := by
  obtain ⟨a, xs, rfl, ha, f⟩ := h.open
  rw [FzA.ints f] at ha
  exact ⟨a, rfl, ha⟩
theorem row_made {H : Hp} {p : Addr} {row : List Int} (n : H p = none) : Fz (upd H p (.tup (row.map V.int))) (.ref p) (rowD row) := Fz.made n FzA.ofInts
theorem tab_open {H : Hp} {v : V} {cols : List Nat} {rows : List (List Int)} (h : Fz H v (tabD cols rows)) : ∃ (t R : Addr) (vs : List V), v = .ref t ∧ H t = some (.tup [tx cols, .ref R]) ∧ H R = some (.tup vs) ∧ FzA H vs (rows.map rowD) := by
  obtain ⟨t, xs, rfl, ht, f⟩ := h.open
  obtain ⟨x, y, rfl, fx, fy⟩ := f.two
  obtain ⟨R, vs, rfl, hR, fv⟩ := fy.open
  rw [fx.isStr] at ht
  exact ⟨t, R, vs, rfl, ht, hR, fv⟩
/-! ### questions -/
theorem idx_first : ∀ {l : List Nat} {c i : Nat}, l[i]? = some c → (∀ k, k < i → l[k]? ≠ some c) → l.idxOf c = i
  | [], c, i, h, _ => by simp at h
  | a :: l, c, 0, h, _ => by
    have e : a = c := Option.some.inj h
    rw [e]
    simp
  | a :: l, c, i + 1, h, hn => by
    have e : a ≠ c := fun z => hn 0 (Nat.succ_pos _) (by rw [z]; rfl)
    have ih := idx_first (l := l) (c := c) (i := i) h fun k hk => hn (k + 1) (Nat.succ_lt_succ hk)
    rw [List.idxOf_cons, ih]
    have eb : (a == c) = false := by simp [e]
    rw [eb]
    rfl
theorem dp_signs {K : PySem.W.Frag} {H : Hp} : ∀ l : List Nat, DpAll K H (l.map sg) (l.map fun c => PyData.str (sS c))
  | [] => .nil
  | c :: l => .cons (.str _) (dp_signs l)
theorem shaped_signs {l : List Nat} (h : ∀ c ∈ l, c ≤ 122) : SeqAt.shaped (.list (l.map fun c => PyData.str (sS c))) = true := by
  have e1 : PyData.canLayAll0 (l.map fun c => PyData.str (sS c)) = true := by
    induction l with
    | nil => rfl
    | cons c l ih =>
      show (PyData.canLay0 (.str (sS c)) && PyData.canLayAll0 (l.map fun c => PyData.str (sS c))) = true
      rw [ih fun d hd => h d (List.mem_cons_of_mem _ hd), Bool.and_true]
      have hc := h c (List.mem_cons_self ..)
      show (#[c] : Array Nat).all (· < 0x110000) = true
      simp
      omega
  have e2 : PyData.depthAll (l.map fun c => PyData.str (sS c)) = 0 := by
    clear h e1
    induction l with
    | nil => rfl
    | cons c l ih =>
      show max (PyData.depth (.str (sS c))) (PyData.depthAll (l.map fun c => PyData.str (sS c))) = 0
      rw [ih]
      rfl
  unfold SeqAt.shaped
  show (PyData.canLayAll0 _ && decide (PyData.depthAll _ + 1 ≤ 64)) = true
  rw [e1, e2]
  rfl
/-- the place of a letter -/
theorem ix_one {l : List Nat} {c : Nat} (h : c ∈ l) : ∃ r, Builtin.Str.occurrences (⟨l.toArray⟩ : Str) ⟨#[c]⟩ 0 (⟨l.toArray⟩ : Str).length 1 = l.idxOf c :: r := by
  have hx : (⟨l.toArray⟩ : Str).cps.toList = l := by simp
  rcases PySem.StrLaws.occ_head (⟨l.toArray⟩ : Str) ⟨#[c]⟩ 1 (Nat.le_refl 1) with ⟨h0, hn⟩ | ⟨i, r, h0, ha, hn⟩
  · exfalso
    obtain ⟨i, hi⟩ := List.mem_iff_getElem?.mp h
    exact hn i ((PySem.StrLaws.subAt_one _ c i).mpr (by rw [hx]; exact hi))
  · refine ⟨r, ?_⟩
    rw [h0]
    have e1 : l[i]? = some c := by
      have := (PySem.StrLaws.subAt_one _ c i).mp ha
      rw [hx] at this
      exact this
    have e3 : l.idxOf c = i := idx_first e1 fun k hk z => hn k hk ((PySem.StrLaws.subAt_one _ c k).mpr (by rw [hx]; exact z))
    rw [e3]
end My

set_option Elab.async false
set_option linter.all false
set_option maxRecDepth 100000
set_option maxHeartbeats 1000000
namespace My
open PySem PySem.Spec PyProof.Rows L2
/-! ### name = {.. for ..} on one line -/
section
variable {X : Cx} {pins : List (Addr × Obj)} {σ : L2.St} {H : Hp} {s : Shared}
/-- an object of the frame's own at C may become anything: all that is known stays -/
theorem past {C : Addr} {h' : Heap} {t' : Nat} (I : Inv X pins σ H s) (f : FpOk X pins H C) (kp : ∀ b u, b ≠ C → s.heap.get? b = some u → h'.get? b = some u) : Inv X pins σ H { s with heap := h', toks := t' } :=
  I.turned kp f.1 f.2.1 f.2.2.2.1 f.2.2.2.2.1 f.2.2.2.2.2
end
/-! ### spans: letters with their bounds -/
def spanL (es : List (Nat × Int)) (rc : Option (Nat × Int × Int)) : List (Nat × Int × Int) := es.map (fun p => (p.1, p.2, p.2)) ++ rc.toList
/-! ### what fits -/
def rowAt (cols : List Nat) (row : List Int) (c : Nat) : Int := row.getD (cols.idxOf c) 0
theorem row_at {cols : List Nat} {row : List Int} {c : Nat} (hl : row.length = cols.length) (h : c ∈ cols) : (row.map V.int)[cols.idxOf c]? = some (.int (rowAt cols row c)) := by
  have hi : cols.idxOf c < row.length := by
    rw [hl]
    exact List.idxOf_lt_length_of_mem h
  unfold rowAt
  rw [List.getElem?_map, List.getElem?_eq_getElem hi, List.getD_eq_getElem?_getD, List.getElem?_eq_getElem hi]
  rfl
/-! ### data with lists -/
/-! ### what isinstance tells of data -/
theorem depA_ints : ∀ ns : List Int, PyData.depthAll (ns.map PyData.int) = 0
  | [] => rfl
  | n :: ns => by
    show max (PyData.depth (.int n)) (PyData.depthAll (ns.map PyData.int)) = 0
    rw [depA_ints ns]
    rfl
theorem dep_ints (ns : List Int) : PyData.depth (.list (ns.map PyData.int)) = 1 := by
  show PyData.depthAll (ns.map PyData.int) + 1 = 1
  rw [depA_ints]
end My

set_option Elab.async false
set_option linter.all false
set_option maxRecDepth 100000
set_option maxHeartbeats 1000000
namespace My
open PySem PySem.Spec PyProof.Rows L2
/-! ### lists of numbers compared -/
theorem dp_ints {K : PySem.W.Frag} {H : Hp} : ∀ ns : List Int, DpAll K H (ns.map V.int) (ns.map PyData.int)
  | [] => .nil
  | n :: ns => .cons (.int n) (dp_ints ns)
theorem eqvA_ints : ∀ ns : List Int, PyData.eqvAll (ns.map PyData.int) (ns.map PyData.int) = true
  | [] => rfl
  | n :: ns => by
    show (PyData.eqv (.int n) (.int n) && PyData.eqvAll (ns.map PyData.int) (ns.map PyData.int)) = true
    rw [eqvA_ints ns, Bool.and_true]
    show (n == n) = true
    simp
theorem eqv_ints (ns : List Int) : PyData.eqv (.list (ns.map PyData.int)) (.list (ns.map PyData.int)) = true := eqvA_ints ns
theorem can_ints : ∀ ns : List Int, PyData.canLayAll0 (ns.map PyData.int) = true
  | [] => rfl
  | n :: ns => by
    show (PyData.canLay0 (.int n) && PyData.canLayAll0 (ns.map PyData.int)) = true
    rw [can_ints ns]
    rfl
theorem shaped_ints (ns : List Int) : SeqAt.shaped (.list (ns.map PyData.int)) = true := by
  unfold SeqAt.shaped
  show (PyData.canLayAll0 (ns.map PyData.int) && decide (PyData.depth (.list (ns.map PyData.int)) ≤ 64)) = true
  rw [can_ints, dep_ints]
  rfl
/-! ### questions and what fits -/
theorem rg_all (n : Nat) : rgV 0 (n : Int) = (((List.range n).map fun i : Nat => (i : Int))).map V.int := by
  unfold rgV
  rw [List.map_map, Int.sub_zero, Int.toNat_natCast]
  refine List.map_congr_left fun i _ => ?_
  show V.int (0 + (i : Int)) = V.int (i : Int)
  rw [Int.zero_add]
end My

set_option Elab.async false
set_option linter.all false
set_option maxRecDepth 100000
set_option maxHeartbeats 2000000
namespace My
open PySem PySem.Spec PyProof.Rows L2
/-! ### generator expressions whose element changes nothing -/
/-- the element at a place of the walked thing: what it gives, from any state in which what stood still stands -/
def EltQ (X : Cx) (σ : L2.St) (G : Hp) (P : Addr) (scope : Scope) (x : Str) (elt : Expr) (Pf F : Nat → Value → Prop) : Prop :=
  ∀ (pins : List (Addr × Obj)) (u1 : Shared), Inv X pins σ G u1 → ∀ (ce : Env) (B : Around) (E' : Value → Shared → Prop) (i : Nat) (v : Value) (u2 : Shared) (m2 : Str → Option Value), B.handled = none → ce.scope = scope → ce.cells = cloFrom X.env.cells scope.names [] →
    Pf i v → u2.heap.Ns ce.locals m2 → m2 x = some v → (∀ b o, b ≠ P → u1.heap.get? b = some o → u2.heap.get? b = some o) → wpAny (model X.prog X.w) B (eval elt ce) (fun y u3 => F i y ∧ Keeps u2 u3) E' u2
/-- the generator stands, ready to be walked n times -/
def ReadyQ (X : Cx) (pins : List (Addr × Obj)) (σ : L2.St) (G : Hp) (P : Addr) (n : Nat) (F : Nat → Value → Prop) (g : Addr) (u5 : Shared) : Prop :=
  ∃ (fp wr : List Addr) (Gn : Array GenState → Array GenState → Prop) (St : Nat → Shared → Prop),
    WalksS X.prog X.w X.A.in4 g fp wr Gn n F St ∧ St 0 u5 ∧ (∀ i s, St i s → s.TypeIs (.ref g) "generator") ∧ (∀ b ∈ fp, b < u5.heap.objs.size) ∧ g ∈ fp ∧
    ∀ u', Moved wr Gn u5 u' → ∃ G2, GxR.Tabbed P G G2 ∧ Inv X pins σ G2 u'
/-- what a walk over the value v begins with -/
def Src (X : Cx) (pins : List (Addr × Obj)) (σ : L2.St) (G : Hp) (P : Addr) (v : Value) (n : Nat) (Pf : Nat → Value → Prop) : Prop :=
  ∀ (u1 : Shared), Inv X pins σ G u1 → ∀ (Q : Value → Shared → Prop) (E : Value → Shared → Prop), (∀ (o : Obj) (St : Nat → Heap → Prop) (fps : List Addr),
    (∀ A' : Around, A'.handled = none → Walks X.prog X.w A' u1.heap.objs.size (u1.heap.objs.size :: fps) [u1.heap.objs.size] n Pf St) → St 0 (u1.heap.push o) → (∀ b ∈ fps, b < u1.heap.objs.size ∧ b ≠ P) →
    Q (.ref u1.heap.objs.size) { u1 with heap := u1.heap.push o }) → wpAny (model X.prog X.w) X.A (pyIter v) Q E u1
section
variable {X : Cx} {pins : List (Addr × Obj)} {σ : L2.St} {H : Hp} {s : Shared}
theorem src_str {G : Hp} {P : Addr} (a : Str) (t : Tok) : Src X pins σ G P (.str a t) a.cps.size (SignAt a) := by
  intro u1 I Q E h
  refine wpAny_pyIter_str fun o St W hst => ?_
  exact h o St [] W hst (fun b hb => nomatch hb)
/-- what stood stands: a frame knows what it knew -/
theorem grew {s' : Shared} (I : Inv X pins σ H s) (os : s'.os = s.os) (bare : AllBare s'.gens) (kp : ∀ b u, s.heap.get? b = some u → s'.heap.get? b = some u) : Inv X pins σ H s' :=
  I.call' (ch := []) os (Un.kept kp) (I.hok.kept kp) bare fun _ hb => nomatch hb
/-- the code object of a generator expression comes out of its maker's table, or is made and written into it; then the built-ins are looked up -/
theorem gen_code {c P : Addr} {gpos : Pos} {qn : Str} {scope : Scope} {R : Value → Addr → Shared → Prop} (I : Inv X pins σ H s) (TB : LamX.TabB X.base X.mg c P) (hcode : X.env.code = .ref c) (hT : GxR.TabG H P)
    (h : ∀ (code : Value) (H2 : Hp) (s2 : Shared), GxR.Tabbed P H H2 → Inv X pins σ H2 s2 → (∀ b u, b ≠ P → s.heap.get? b = some u → s2.heap.get? b = some u) → s.heap.objs.size ≤ s2.heap.objs.size → R code builtinsNs s2) :
    wpAny (model X.prog X.w) X.A (genexprCode X.env gpos qn scope) (fun code s3 => wpAny (model X.prog X.w) X.A (builtinsFor X.env.globals X.env.builtins) (R code) X.xe s3) X.xe s := by
  obtain ⟨ps, hP, tri⟩ := hT
  have rawP := I.hok P _ hP
  have hd : PySem.W.CodeHd s.heap c P := TB.code.keeps I.bk
  have go : ∀ (code : Value) (g : Heap) (tk : Nat) (more : Array Value), Heap.ExtBut P s.heap g → s.heap.objs.size ≤ g.objs.size → g.get? P = some { cls := .none, data := .fields (ps ++ more) } → TriplesOk (ps ++ more).toList →
      wpAny (model X.prog X.w) X.A (builtinsFor X.env.globals X.env.builtins) (R code) X.xe { s with heap := g, toks := tk } := fun code g tk more ext le tab tri' => by
    have J : Inv X pins σ (upd H P (.tbl (ps ++ more))) { s with heap := g, toks := tk } := GxR.inv_tab (g' := s.gens) (d' := s.drawn) I hP ext tab I.bare
    obtain ⟨bm, ob, b1, b2, _, _, b5, b6, b7, b8⟩ := TB.bm
    refine wpAny_builtinsFor (m := X.mg) ?_ b1 b2 (J.bk _ _ b5) b6 b7 b8 (h code _ _ ⟨⟨_, upd_same, tri'⟩, fun b ne => upd_ne ne⟩ J ext le)
    rw [J.ok.glob]
    exact J.mod.glob.keeps J.bk
  match hf : codeAmong gpos ps.toList with
  | some cv => exact wpAny_genexprCode_hit hcode (hd.code rawP tri) hf (go cv s.heap s.toks #[] (Heap.ExtBut.refl _ _) (Nat.le_refl _) (by rw [Array.append_empty]; exact rawP) (by rw [Array.append_empty]; exact tri))
  | none =>
    refine wpAny_genexprCodeX hcode (hd.code rawP tri) (hd.tab rawP) hf fun c' g tk ext ge lt isC _ isT _ => go _ g tk _ ext (Nat.le_trans ge (Nat.le_of_lt lt)) isT.2 ?_
    obtain ⟨_, _, _, _, _, _, _, _, _, _, _, _, _, _, _, _, _, _, _, z, _⟩ := isC
    exact z
/-- the generator (elt for x in iter), its element changing nothing -/
theorem gen_q {c P : Addr} {elt iter : Expr} {x : Str} {px gpos : Pos} {scope : Scope} {te : TE} {k : Nat} {Q' : Value → Shared → Prop} {R : V → Hp → Nat → (Nat → Value → Prop) → Prop} {R0 : V → Hp → Prop}
    (hr : Room k X.A) (TB : LamX.TabB X.base X.mg c P) (hcode : X.env.code = .ref c) (S : GxR.GenS X.env scope x) (hi : PE X iter te)
    (hs : ∀ v, genFold iter X.env v = pure v) (I : Inv X pins σ H s)
    (h : te σ H R0) (hc : ∀ v G, R0 v G → ∃ (n : Nat) (Pf F : Nat → Value → Prop), (∀ u, RelV v u → Src X pins σ G P u n Pf) ∧ GxR.TabG G P ∧ EltQ X σ G P scope x elt Pf F ∧ R v G n F)
    (hQ : ∀ v G n F g u5, R v G n F → ReadyQ X pins σ G P n F g u5 → Q' (.ref g) u5) :
    wpAny (model X.prog X.w) X.A (eval (.GeneratorExp elt [⟨.Name x px, iter, [], 0⟩] scope gpos) X.env) Q' X.xe s := by
  have deep : X.A.depth < recursionLimit := by
    have := hr.dp
    omega
  refine wpAny_GeneratorExp_walksQ hr.hd S.co (closure_ok S.free) S.cell S.dot S.loc S.kind deep (thn (hi.run pins s σ H _ I h) fun xv u1 ⟨v, G, I1, rv, h0⟩ => ?_) hs
  obtain ⟨n, Pf, F, src, hT, elq, hR⟩ := hc v G h0
  refine src xv rv u1 I1 _ _ fun o St fps W st0 below => ?_
  -- the walked thing's iterator o at i0; the table at P is older
  generalize hi0 : u1.heap.objs.size = i0 at W below ⊢
  have older : P ≠ i0 := fun z => by
    obtain ⟨ps, e, _⟩ := hT
    rw [I1.hok.fresh (Nat.le_of_eq (hi0.trans z.symm))] at e
    cases e
  have Io : Inv X pins σ G { u1 with heap := u1.heap.push o } := grew I1 rfl I1.bare fun b u e => Heap.get?_push_of_some _ e
  refine ⟨Io.nolimit, gen_code Io TB hcode hT fun code G2 s4 tab I4 kp le => ?_⟩
  have lt4 : i0 < s4.heap.objs.size := Nat.lt_of_lt_of_le (by rw [← hi0, Heap.size_push]; exact Nat.lt_succ_self _) le
  have kp1 : ∀ b u, b ≠ P → u1.heap.get? b = some u → s4.heap.get? b = some u := fun b u ne e => kp b u ne (Heap.get?_push_of_some _ e)
  have fo : FpOk X pins G2 i0 := I1.fpOk (Nat.le_of_eq hi0) ((tab.2 i0 older.symm).trans (I1.hok.fresh (Nat.le_of_eq hi0)))
  refine ⟨i0, i0 :: fps, [i0], n, Pf, St, fun _ => true, F, rfl, W, (W X.A hr.hd).frame _ _ _ st0 fun b hb u e => kp b u ?_ e, fun b hb => ?_, I4.nolimit, fun z => ?_, fun g keep => ⟨?_, fun A' E' i v s₂ m₂ hA hv _ hn hm stay => ?_⟩, fun g h5 tk5 gs bare above size5 stay W5 at5 => ?_⟩
  · exact (List.mem_cons.mp hb).elim (fun z q => older (q.symm.trans z)) fun z => (below b z).2
  · exact (List.mem_cons.mp hb).elim (fun z => z ▸ lt4) fun z => Nat.lt_trans (below b z).1 lt4
  · obtain ⟨_, ns, _⟩ := I1.nolimit
    exact Nat.ne_of_lt (hi0 ▸ ns.lt) (List.mem_singleton.mp z)
  · intro A' E' i v s₂ m₂ _ _ _ _ _
    rw [List.forIn_nil]
    exact wpAny_pure ⟨rfl, GxR.keeps_refl _⟩
  · refine elq pins u1 I1 _ A' E' i v s₂ m₂ hA rfl rfl hv hn hm fun b u ne e => ?_
    have here := kp1 b u ne e
    exact stay b (List.mem_range.mpr (Heap.lt_size here)) (fun z => Nat.ne_of_lt (hi0 ▸ Heap.lt_size e) (List.mem_singleton.mp z)) u (keep b u here)
  · rw [show passing (fun _ => true) n 0 = List.range n from GxR.passing_true n] at W5
    rw [List.length_range] at W5
    have place : ∀ {i : Nat} {y : Value}, (∃ j, (List.range n)[i]? = some j ∧ F j y) → F i y := fun ⟨j, e, fj⟩ => by
      obtain ⟨_, q⟩ := List.getElem?_eq_some_iff.mp e
      rw [List.getElem_range] at q
      rw [q]
      exact fj
    have W6 : WalksS X.prog X.w X.A.in4 g (g :: s4.heap.objs.size :: List.range s4.heap.objs.size) [s4.heap.objs.size, i0] (GenOnlyQ s4.gens.size) n F _ := { W5 with item := fun i s Q E lt st k => W5.item i s Q E lt st fun y s' z => k y s' (place z) }
    refine hQ v G n F g _ hR ⟨_, _, _, _, W6, at5, fun i s st => Heap.IsGen.typeIs st.1, fun b hb => ?_, List.mem_cons_self, fun u' mv => ⟨G2, tab, ?_⟩⟩
    · show b < h5.objs.size
      rw [show h5.objs.size = g + 1 from size5]
      rcases List.mem_cons.mp hb with z | z
      · exact z ▸ Nat.lt_succ_self g
      · refine Nat.lt_succ_of_lt ((List.mem_cons.mp z).elim (fun e => e ▸ above) fun e => Nat.lt_trans (List.mem_range.mp e) above)
    · have J := past (t' := s4.toks) (h' := u'.heap) I4 fo fun b u ne e => mv.heap b u (fun z => (List.mem_cons.mp z).elim (fun q => Nat.ne_of_lt (Heap.lt_size e) q) fun q => ne (List.mem_singleton.mp q)) (stay b u e)
      exact grew J mv.os (AllBare.movedS (I4.bare.push bare) mv) fun _ _ e => e
/-! tuple(elt for x in text): numbers -/
def tTupG (P : Addr) (te : TE) (D : V → L2.St → Hp → List V → Prop) : TE := fun σ H Q => te σ H fun v G => ∃ xs : List V, D v σ G xs ∧ GxR.TabG G P ∧ ∀ G2, GxR.Tabbed P G G2 → ∀ p, G2 p = none → Q (.ref p) (upd G2 p (.tup xs))
theorem vals_of_items : ∀ (xs : List V) (us : List Value), xs.length = us.length → (∀ (j : Nat) (x : V) (u : Value), xs[j]? = some x → us[j]? = some u → RelV x u) → Vals xs us
  | [], [], _, _ => .nil
  | x :: xs, u :: us, hl, hh => .cons (hh 0 x u rfl rfl) (vals_of_items xs us (Nat.succ.inj hl) fun j y w h1 h2 => hh (j + 1) y w h1 h2)
theorem pe_tupG {c P : Addr} {elt iter : Expr} {x : Str} {px p pos gpos : Pos} {scope : Scope} {te : TE} {k : Nat} {D : V → L2.St → Hp → List V → Prop}
    (hr : Room k X.A) (hg : Gl X "tuple") (hm : X.mg "tuple" = none) (TB : LamX.TabB X.base X.mg c P) (hcode : X.env.code = .ref c) (S : GxR.GenS X.env scope x) (hi : PE X iter te)
    (hD : ∀ (pins : List (Addr × Obj)) (σ : L2.St) (G : Hp) (v : V) (xs : List V), D v σ G xs → xs.length ≤ sizeLine ∧ ∃ (Pf F : Nat → Value → Prop), (∀ u, RelV v u → Src X pins σ G P u xs.length Pf) ∧ EltQ X σ G P scope x elt Pf F ∧ ∀ (i : Nat) (y : Value) (z : V), xs[i]? = some z → F i y → RelV z y)
    (hs : ∀ v, genFold iter X.env v = pure v := by intro _; rfl)
    (he : starEach [.GeneratorExp elt [⟨.Name x px, iter, [], 0⟩] scope gpos] X.env = (false, eval (.GeneratorExp elt [⟨.Name x px, iter, [], 0⟩] scope gpos) X.env) :: starEach [] X.env := by rfl) :
    PE X (.Call (.Name "tuple" p) [.GeneratorExp elt [⟨.Name x px, iter, [], 0⟩] scope gpos] [] pos) (tTupG P te D) := by
  refine ⟨fun pins s σ H Q I h => ?_⟩
  refine Call_ (ld_blt I hg hm boot_tuple (PyProof.Rows.callWith_type1 ?_ he))
  rw [he]
  refine Calls.spliced_cons (gen_q (R := fun v G n F => ∃ xs : List V, D v σ G xs ∧ xs.length = n ∧ xs.length ≤ sizeLine ∧ (∀ (i : Nat) (y : Value) (z : V), xs[i]? = some z → F i y → RelV z y) ∧ ∀ G2, GxR.Tabbed P G G2 → ∀ p, G2 p = none → Q (.ref p) (upd G2 p (.tup xs))) hr TB hcode S hi hs I h (fun v G h0 => ?_) fun v G n F g u5 hR hG => ?_)
  · obtain ⟨xs, hd, hT, q⟩ := h0
    obtain ⟨hz, Pf, F, hsrc, hel, hF⟩ := hD pins σ G v xs hd
    exact ⟨xs.length, Pf, F, hsrc, hT, hel, xs, hd, rfl, hz, hF, q⟩
  · obtain ⟨xs, hd, hn, hz, hF, q⟩ := hR
    obtain ⟨fp, wr, Gn, St, W, hst, hty, hfp, hgf, hI⟩ := hG
    refine Calls.spliced_nil ?_
    refine call_tuple_gen W.in4_3 hty hst hfp hgf (fun u' acc mv hit => ?_) (by rw [← hn]; exact hz)
    obtain ⟨G2, hTb, J⟩ := hI u' mv
    have hv : Vals xs acc.toList := vals_of_items _ _ (by rw [show acc.toList.length = acc.size from Array.length_toList, hit.1, hn]) fun j z y h1 h2 => hF j y z h1 (hit.2 j y (by rw [← Array.getElem?_toList]; exact h2))
    have J2 : Inv X pins σ (upd G2 u'.heap.objs.size (.tup xs)) { u' with heap := u'.heap.push { cls := .type "tuple", data := .seq acc } } :=
      J.laid (t' := u'.toks) (fun b o e => Heap.get?_push_of_some _ e) (Nat.le_refl _) (show ObjOk X.prog X.w _ _ _ (.tup xs) from ⟨hz, acc.toList, hv, by rw [Array.toArray_toList]; exact IsTup.new _ _⟩)
    exact ⟨.ref u'.heap.objs.size, _, J2, rfl, q G2 hTb _ (J.hok.fresh (Nat.le_refl _))⟩
/-! all(elt for x in ..) -/
/-! ### what a captured name holds -/
theorem clo_look {cells : List (Str × Addr)} {names : List (Str × NameKind)} {y : Str} {c : Addr} (hy : (y, NameKind.free) ∈ names) (hc : cells.lookup y = some c) : (cloFrom cells names []).lookup y = some c := by
  obtain ⟨c', e⟩ := mem_lookup (cloFrom_has (acc := []) (cells := cells) hy)
  have hm : (y, c') ∈ cloFrom cells names [] := by
    have : ∀ {l : List (Str × Addr)} {n : Str} {d : Addr}, l.lookup n = some d → (n, d) ∈ l := by
      intro l
      induction l with
      | nil =>
        intro n d h
        cases h
      | cons p l ih =>
        intro n d h
        rw [List.lookup_cons] at h
        cases hb : n == p.1 with
        | true =>
          rw [hb] at h
          have e1 : n = p.1 := by simpa using hb
          have e2 : p.2 = d := Option.some.inj h
          rw [e1, ← e2]
          exact List.mem_cons_self ..
        | false =>
          rw [hb] at h
          exact List.mem_cons_of_mem _ (ih h)
    exact this e
  rcases cloFrom_mem hm with z | ⟨_, z⟩
  · cases z
  · rw [e, z, hc]
    rfl
theorem capt {G : Hp} {u1 : Shared} {i : Nat} {y : Str} {v : V} {scope : Scope} (I : Inv X pins σ G u1) (hN : X.N[i]? = some y) (hv : σ[i]? = some (some v)) (hk : X.env.scope.names.lookup y = some .cell) (hy : (y, NameKind.free) ∈ scope.names) :
    ∃ u c, RelV v u ∧ (cloFrom X.env.cells scope.names []).lookup y = some c ∧ u1.heap.IsCell c (some u) := by
  obtain ⟨m, hm, hl⟩ := I.loc
  obtain ⟨u, ru, lk⟩ := hl i y v hN hv (.inr (.inl hk))
  rcases lk with ⟨k1, _⟩ | ⟨_, c, hc, hcell⟩
  · have : X.env.kindOf y = some .cell := hk
    rw [this] at k1
    cases k1
  · exact ⟨u, c, ru, clo_look hy hc, hcell⟩
theorem cell_kept {G : Hp} {P c : Addr} {u1 u2 : Shared} {u : Value} (I : Inv X pins σ G u1) (hT : GxR.TabG G P) (hc : u1.heap.IsCell c (some u)) (hk : ∀ b o, b ≠ P → u1.heap.get? b = some o → u2.heap.get? b = some o) : u2.heap.IsCell c (some u) := by
  obtain ⟨o, ho, hd⟩ := hc
  refine ⟨o, hk c o (fun z => ?_) ho, hd⟩
  obtain ⟨ps, hP, _⟩ := hT
  have h1 : u1.heap.get? P = some { cls := .none, data := .fields ps } := I.hok P _ hP
  rw [z, h1] at ho
  cases ho
  cases hd
/-! x in y, y a captured text -/
/-! r[y.index(x)], r a captured tuple of numbers, y a captured text -/
theorem elt_row {G : Hp} {P ra : Addr} {scope : Scope} {x y rn : Str} {p1 p2 p3 p4 p5 p6 : Pos} {i j : Nat} {a : Str} {cols : List Nat} {row : List Int} (hT : GxR.TabG G P) (hN : X.N[i]? = some y) (hv : σ[i]? = some (some (tx cols))) (hk : X.env.scope.names.lookup y = some .cell)
    (hN2 : X.N[j]? = some rn) (hv2 : σ[j]? = some (some (.ref ra))) (hk2 : X.env.scope.names.lookup rn = some .cell) (hra : G ra = some (.tup (row.map V.int))) (hrl : row.length = cols.length) (hac : ∀ c ∈ a.cps.toList, c ∈ cols)
    (hf : scope.kind = .function) (hx : scope.names.lookup x = some .local) (hy : (y, NameKind.free) ∈ scope.names) (hyl : scope.names.lookup y = some .free) (hr : (rn, NameKind.free) ∈ scope.names) (hrf : scope.names.lookup rn = some .free)
    (hline : (p3.endLine == p5.line) = true) (hd1 : (x == ("__debug__" : Str)) = false := by decide) (hd2 : (y == ("__debug__" : Str)) = false := by decide) (hd3 : (y == ("__classdict__" : Str)) = false := by decide) (hd4 : (rn == ("__debug__" : Str)) = false := by decide) (hd5 : (rn == ("__classdict__" : Str)) = false := by decide) :
    EltQ X σ G P scope x (.Subscript (.Name rn p1) (.Call (.Attribute (.Name y p2) "index" p3) [.Name x p4] [] p5) p6) (SignAt a) (fun l w => ∃ c t, a.cps[l]? = some c ∧ w = .int (rowAt cols row c) t) := by
  intro pins u1 I ce B E' l v u2 m2 hB hs hcl hP hn hm hk3
  obtain ⟨c, t, hc, rfl⟩ := hP
  obtain ⟨uy, cl, ru, hl, hcell⟩ := capt I hN hv hk hy
  obtain ⟨t2, rfl⟩ := ru
  obtain ⟨ur, cl2, ru2, hl2, hcell2⟩ := capt I hN2 hv2 hk2 hr
  cases ru2
  have hcc : c ∈ cols := hac c (by
    have : a.cps.toList[l]? = some c := by rw [Array.getElem?_toList]; exact hc
    exact List.mem_of_getElem? this)
  obtain ⟨orest, hocc⟩ := ix_one hcc
  have hat := row_at hrl hcc
  obtain ⟨its, rv, pl, hz⟩ := I.tuple (show SqT X.K G ra (row.map V.int) from .inl (.inl hra))
  obtain ⟨w, hw, rw'⟩ := rv.get hat
  obtain ⟨tw, rfl⟩ := rw'
  have pl2 : u2.heap.IsTuple ra its.toArray := by
    obtain ⟨o, ho, r1, r2⟩ := pl
    refine ⟨o, hk3 ra o (fun z => ?_) ho, r1, r2⟩
    obtain ⟨ps, hPp, _⟩ := hT
    rw [z, hPp] at hra
    cases hra
  have hidx : cols.idxOf c < its.length := (List.getElem?_eq_some_iff.mp hw).1
  have kf : ce.scope.kind = .function := by rw [hs]; exact hf
  refine PyProof.Rows.Subscript_ ?_
  refine wpAny_Name (wpAny_loadName_free kf (show ce.scope.names.lookup rn = some .free by rw [hs]; exact hrf) (by rw [hcl]; exact hl2) (cell_kept I hT hcell2 hk3) ?_ hd5) hd4
  refine wpAny_Call_method_late (by rfl) (by rfl) hline rfl ?_
  refine wpAny_Name (wpAny_loadName_free kf (show ce.scope.names.lookup y = some .free by rw [hs]; exact hyl) (by rw [hcl]; exact hl) (cell_kept I hT hcell hk3) ?_ hd3) hd2
  refine ⟨"str", "str.index", PySem.F.plainAttrs_str, PySem.F.slot_str_index, PySem.F.type_str_index, typeIs_str _ _ _, (fun _ z => nomatch z), ?_⟩
  refine Calls.callWith_builtin (by rfl) (Calls.evalArgs_plain ?_)
  refine Calls.spliced_cons (wpAny_Name (wpAny_loadName_local kf (show ce.scope.names.lookup x = some .local by rw [hs]; exact hx) hn hm ?_) hd1)
  refine Calls.spliced_nil ?_
  refine PySem.SC.index hocc ?_
  have hsz : its.length ≤ sizeLine := by
    have := rv.length
    rw [← this]
    exact hz
  have h63 := line63
  refine subscriptTail_builtinR (x := .int (rowAt cols row c) tw) (s := { u2 with toks := u2.toks + 1 }) pl2.typeIs slot_tuple_getitem.lookup ?_ (by rfl)
  refine getItem_tuple (j := cols.idxOf c) (s := { u2 with toks := u2.toks + 1 }) pl2 (by omega) (by omega) ?_ (by simpa using hw) ⟨rfl, ⟨c, tw, hc, rfl⟩, GxR.keeps_tok _ _⟩
  rw [List.size_toArray]
  exact PySem.seqIndex_of (by omega) (by omega)
end
end My

set_option Elab.async false
set_option linter.all false
set_option maxRecDepth 100000
set_option maxHeartbeats 2000000
namespace My
open PySem PySem.Spec PyProof.Rows L2
/-! ### tables of code objects: they may grow, all else stays -/
def TG (Ps : List Addr) (H : Hp) : Prop := ∀ P ∈ Ps, GxR.TabG H P
def Sx (Ps : List Addr) (H H' : Hp) : Prop := ∀ b o, b ∉ Ps → H b = some o → H' b = some o
theorem Sx.rfl' {Ps : List Addr} {H : Hp} : Sx Ps H H := fun _ _ _ h => h
theorem Sx.trans {Ps : List Addr} {H H1 H2 : Hp} (a : Sx Ps H H1) (b : Sx Ps H1 H2) : Sx Ps H H2 := fun c o n h => b c o n (a c o n h)
theorem Same.sx {Ps : List Addr} {H H' : Hp} (s : Same H H') : Sx Ps H H' := fun b o _ h => s b o h
theorem TG.same {Ps : List Addr} {H H' : Hp} (t : TG Ps H) (s : Same H H') : TG Ps H' := fun P hP => by
  obtain ⟨ps, h, r⟩ := t P hP
  exact ⟨ps, s _ _ h, r⟩
theorem TG.not {Ps : List Addr} {H : Hp} {b : Addr} {o : HO} (t : TG Ps H) (h : H b = some o) (ho : ∀ q, o ≠ .tbl q) : b ∉ Ps := fun hb => by
  obtain ⟨ps, h2, _⟩ := t b hb
  rw [h2] at h
  exact ho ps (Option.some.inj h).symm
theorem TG.kp {Ps : List Addr} {H H' : Hp} {r : Addr} {xs : List V} (t : TG Ps H) (hr : H r = some (.lst xs)) (k : Kp r H H') : TG Ps H' := fun P hP => by
  obtain ⟨ps, h, q⟩ := t P hP
  refine ⟨ps, k _ _ (fun z => ?_) h, q⟩
  rw [z, hr] at h
  cases h
theorem TG.new {Ps : List Addr} {H : Hp} {p : Addr} {o : HO} (t : TG Ps H) (n : H p = none) : TG Ps (upd H p o) := t.same (Same.new (Same.refl H) n)
theorem Sx.kt {Ps : List Addr} {H H' : Hp} (t : TG Ps H) (s : Sx Ps H H') : Kt H H' := fun b xs h => s b _ (t.not h fun q z => nomatch z) h
theorem Sx.lst {Ps : List Addr} {H H' : Hp} {b : Addr} {xs : List V} (t : TG Ps H) (s : Sx Ps H H') (h : H b = some (.lst xs)) : H' b = some (.lst xs) := s b _ (t.not h fun q z => nomatch z) h
theorem Sx.dct {Ps : List Addr} {H H' : Hp} {b : Addr} {xs : List (Key × V)} (t : TG Ps H) (s : Sx Ps H H') (h : H b = some (.dK xs)) : H' b = some (.dK xs) := s b _ (t.not h fun q z => nomatch z) h
theorem Sx.new {Ps : List Addr} {H H1 : Hp} {p : Addr} {o : HO} (s : Sx Ps H H1) (n : H1 p = none) : Sx Ps H (upd H1 p o) := fun b x nb h => keep_new (s b x nb h) n
theorem Sx.mut {Ps : List Addr} {H H1 : Hp} {p : Addr} {o : HO} (s : Sx Ps H H1) (n : H p = none) : Sx Ps H (upd H1 p o) := fun b x nb h => keep_ne (s b x nb h) (ne_of_none h n)
theorem Sx.free {Ps : List Addr} {H H' : Hp} {p : Addr} (t : TG Ps H') (s : Sx Ps H H') (h : H' p = none) : H p = none := by
  cases q : H p with
  | none => rfl
  | some o =>
    by_cases hp : p ∈ Ps
    · obtain ⟨ps, h2, _⟩ := t p hp
      rw [h] at h2
      cases h2
    · rw [s p o hp q] at h
      cases h
theorem Sx.seqL {K : PySem.W.Frag} {Ps : List Addr} {H H' : Hp} {a : Addr} {xs : List V} (t : TG Ps H) (s : Sx Ps H H') (h : SqL K H a xs) : SqL K H' a xs := by
  rcases h with (h | ⟨o, h⟩) | h
  · exact .inl (.inl (s.lst t h))
  · exact .inl (.inr ⟨o, s _ _ (t.not h fun q z => nomatch z) h⟩)
  · exact .inr h
/-- one table of them has grown -/
theorem Tabbed.sx {Ps : List Addr} {P : Addr} {H H' : Hp} (hP : P ∈ Ps) (t : GxR.Tabbed P H H') : Sx Ps H H' := fun b o nb h => by
  rw [t.2 b fun z => nb (z ▸ hP)]
  exact h
theorem Tabbed.tg {Ps : List Addr} {P : Addr} {H H' : Hp} (g : TG Ps H) (t : GxR.Tabbed P H H') : TG Ps H' := fun P' hP' => by
  by_cases e : P' = P
  · rw [e]
    exact t.1
  · obtain ⟨ps, h, q⟩ := g P' hP'
    exact ⟨ps, (t.2 P' e).trans h, q⟩
/-! ### a def whose code object is told -/
def FunC (K : PySem.W.Frag) (x qual : Str) (st : Stmt) (f : Addr) (fd : FuncData) (c : Addr) : Prop :=
  ∃ (oc : Value) (od : Option Addr) (kV doc pm : Value) (an : Option Addr) (ct : Value) (osl : Array (Option Value)), fd = PySem.W.fnOf x qual (defArgs st) (defBody st) (defScope st) .none kV doc pm an (.ref c) ct ∧ K.lookup f = some ⟨oc, od, .func fd, osl⟩ ∧ PySem.W.codeIn K (.ref c) qual = true
theorem FunC.ok {P : Program} {w : World} {K : PySem.W.Frag} {mg : Str → Option Value} {base : Heap} {x qual : Str} {st : Stmt} {f c : Addr} {fd : FuncData} {N ps : List Str} {k : Nat} {sp : Sp} (F : FunC K x qual st f fd c) (S : FnScope N ps (defScope st)) (len : ∀ vs H Q E, sp vs H Q E → vs.length = ps.length)
    (hbody : ∀ (A : Around) (outer : List Env) (s : Shared) (H : Hp) (vs : List V) (Q : VK) (E : XK), Room k (A.deeper (envOfC qual (defScope st) s.heap.objs.size f (.ref c))) → sp vs H Q E →
      ∃ t, PSs (cxOf CX0 P w K mg base N qual (defScope st) f (.ref c) A outer s H E).nox (defBody st) t ∧ t { nx := fun _ H' => Q .non H', rt := Q } (start N vs) H) : FnOk P w K mg base CX0 (k + 1) f fd ps sp := by
  obtain ⟨oc, od, kV, doc, pm, an, ct, osl, rfl, lk, hcd⟩ := F
  refine fn_of lk hcd S len fun A outer s H vs Q E hr hsp => ?_
  obtain ⟨t, h, q⟩ := hbody A outer s H vs Q E hr hsp
  exact ⟨t, h.nox, q⟩
/-- the generator expression's scope within a def's -/
def genC (sc scope : Scope) (x : Str) : Bool :=
  (match scope.kind with | .function => true | _ => false) && !scope.isCoroutine && (scope.names.all fun y => match y.2 with | .cell => false | .free => (match sc.names.lookup y.1 with | some .cell => true | _ => false) | _ => true) &&
    (match scope.names.lookup (".0" : Str) with | some .local => true | _ => false) && (match scope.names.lookup x with | some .local => true | _ => false)
theorem genS_by {sc scope : Scope} {x : Str} {env : Env} {n : Nat} (h : genC sc scope x = true) (hc : env.cells = cellsFrom n sc.names []) : GxR.GenS env scope x := by
  unfold genC at h
  simp only [Bool.and_eq_true] at h
  obtain ⟨⟨⟨⟨h1, h2⟩, h3⟩, h4⟩, h5⟩ := h
  rw [List.all_eq_true] at h3
  refine ⟨?_, ?_, fun y hy z => ?_, ?_, ?_, fun y hy z => ?_⟩
  · revert h1
    cases scope.kind <;> simp
  · simpa using h2
  · have := h3 y hy
    rw [z] at this
    cases this
  · revert h4
    cases scope.names.lookup (".0" : Str) with
    | none => simp
    | some k => cases k <;> simp
  · revert h5
    cases scope.names.lookup x with
    | none => simp
    | some k => cases k <;> simp
  · have q := h3 y hy
    rw [z] at q
    have q2 : sc.names.lookup y.1 = some .cell := by
      revert q
      cases sc.names.lookup y.1 with
      | none => simp
      | some k => cases k <;> simp
    have := PySem.W.cellsFrom_some sc.names n [] (.inl q2)
    rw [hc]
    exact Option.isSome_iff_exists.mp this
/-! ### the generator expressions that we met -/
def DRow (P : Addr) (i j : Nat) : V → L2.St → Hp → List V → Prop := fun v σ G xs => GxR.TabG G P ∧ ∃ (a : Str) (cols : List Nat) (ra : Addr) (row : List Int), v = .str a ∧ a.length ≤ sizeLine ∧ σ[i]? = some (some (tx cols)) ∧ σ[j]? = some (some (.ref ra)) ∧ G ra = some (.tup (row.map V.int)) ∧ row.length = cols.length ∧ (∀ c ∈ a.cps.toList, c ∈ cols) ∧ xs = a.cps.toList.map fun c => V.int (rowAt cols row c)
theorem hd_row {X : Cx} {P : Addr} {scope : Scope} {x y rn : Str} {p1 p2 p3 p4 p5 p6 : Pos} {i j : Nat} (hN : X.N[i]? = some y) (hk : X.env.scope.names.lookup y = some .cell) (hN2 : X.N[j]? = some rn) (hk2 : X.env.scope.names.lookup rn = some .cell)
    (hf : scope.kind = .function) (hx : scope.names.lookup x = some .local) (hyl : scope.names.lookup y = some .free) (hrf : scope.names.lookup rn = some .free) (hy : (y, NameKind.free) ∈ scope.names) (hr : (rn, NameKind.free) ∈ scope.names) (hline : (p3.endLine == p5.line) = true)
    (hd1 : (x == ("__debug__" : Str)) = false := by decide) (hd2 : (y == ("__debug__" : Str)) = false := by decide) (hd3 : (y == ("__classdict__" : Str)) = false := by decide) (hd4 : (rn == ("__debug__" : Str)) = false := by decide) (hd5 : (rn == ("__classdict__" : Str)) = false := by decide) :
    ∀ (pins : List (Addr × Obj)) (σ : L2.St) (G : Hp) (v : V) (xs : List V), DRow P i j v σ G xs → xs.length ≤ sizeLine ∧ ∃ (Pf F : Nat → Value → Prop), (∀ u, RelV v u → Src X pins σ G P u xs.length Pf) ∧
      EltQ X σ G P scope x (.Subscript (.Name rn p1) (.Call (.Attribute (.Name y p2) "index" p3) [.Name x p4] [] p5) p6) Pf F ∧ ∀ (l : Nat) (y : Value) (z : V), xs[l]? = some z → F l y → RelV z y := by
  intro pins σ G v xs h
  obtain ⟨hT, a, cols, ra, row, rfl, hz, hv, hv2, hra, hrl, hac, rfl⟩ := h
  have hl : (a.cps.toList.map fun c => V.int (rowAt cols row c)).length = a.cps.size := by rw [List.length_map]; exact Array.length_toList
  refine ⟨by rw [hl]; exact hz, _, _, fun u ru => ?_, elt_row hT hN hv hk hN2 hv2 hk2 hra hrl hac hf hx hy hyl hr hrf hline hd1 hd2 hd3 hd4 hd5, fun l y z h1 h2 => ?_⟩
  · obtain ⟨t, rfl⟩ := ru
    rw [hl]
    exact src_str a t
  · obtain ⟨c, t, hc, rfl⟩ := h2
    rw [List.getElem?_map, Array.getElem?_toList, hc] at h1
    cases h1
    exact ⟨t, rfl⟩
/-! ### the end: the tables of all defs are empty -/
def OwnTC (K : PySem.W.Frag) (fa : Addr) (h : Heap) : Prop := ∀ (c P : Addr) (o : Obj) (fd : FuncData) (e : Value) (dd : Option Addr) (vs : Array Value) (sl : Array (Option Value)), K.lookup fa = some o → o.data = .func fd → fd.code = .ref c → K.lookup c = some ⟨e, dd, .fields vs, sl⟩ → vs[11]? = some (.ref P) →
  h.get? P = some { cls := .none, data := .fields #[] } ∧ PySem.W.CodeHd h c P
/-- the table of each def that the top has bound is empty, and its code object shows it -/
theorem own_of {q : Program} {loose : List Str} {mean : ExcName → Option Value} {mg mb : Str → Option Value} {h : Heap} {K : PySem.W.Frag} (KX : K.In h) (T : Top q loose mean mg mb h) {nm : Str} {fb : Addr} (hr : ((recsOf q).any fun e => e.name == nm) = true) (hm : mg nm = some (.ref fb)) : OwnTC K fb h := by
  intro c P o fd e dd vs sl lf df cf lc at11
  obtain ⟨d, hd, en⟩ := List.any_eq_true.mp hr
  obtain ⟨fb', o', fd', c', P', h1, h2, h3, h4, isC, isT⟩ := T.tab d hd
  obtain rfl : fb = fb' := Value.ref.inj (Option.some.inj (hm.symm.trans ((congrArg mg (beq_iff_eq.mp en)).symm.trans h1)))
  obtain rfl : o = o' := Option.some.inj ((KX _ _ lf).symm.trans h2)
  obtain rfl : fd = fd' := Data.func.inj (df.symm.trans h3)
  obtain rfl : c = c' := Value.ref.inj (cf.symm.trans h4)
  have hd := PySem.W.CodeHd.of isC isT
  obtain ⟨⟨oc, vc, g1, _, g3, g4⟩, empty⟩ := isT
  obtain rfl := Option.some.inj ((KX _ _ lc).symm.trans g1)
  obtain rfl : vs = vc := Data.fields.inj g3
  obtain rfl : P = P' := Value.ref.inj (Option.some.inj (at11.symm.trans g4))
  exact ⟨empty, hd⟩
theorem walk_ofTabs {l : PySem.W.OpenLaw} {n k : Nat} {q : Program} {loose : List Str} {XP : (Str → Option Value) → Heap → Prop} {YP : World → Heap → Prop} {d : DefRec} {K : Params → PySem.W.Frag} {CX : World → CXT} {x : Str}
    (most : l.most = some n) (short : n ≤ sizeLine) (plain : d.params.defaults = []) (room : Room k callerA) (inK : ∀ (w : World) (h : Heap), YP w h → (K w.params).In h)
    (F : ∀ (w : World) (mg : Str → Option Value) (fa : Addr) (h : Heap), YP w h → (K w.params).In h → h.Ns mainGlobals mg → mg d.name = some (.ref fa) →
      (∀ (nm : Str) (fb : Addr), ((recsOf q).any fun e => e.name == nm) = true → mg nm = some (.ref fb) → OwnTC (K w.params) fb h) → LamX.LawAtS l w (K w.params) (CX w) k n x mg fa h)
    (calm : ∀ (w : World) (H : Hp) (s : Shared) (e : Value) (s' : Shared), CX w [] H s (fun _ _ _ => False) e s' → False) :
    PySem.W.WalkO q loose XP YP l.row.toRowW d [] (fun f vs => PySem.call f vs) :=
  Att.attach_callB most plain fun w _ s₁ _ _ _ _ _ _ _ a _ ns G Y _ _ _ mgF obj isInts len bits gens =>
    have KX := inK w _ Y
    let ⟨_, _, _, empty, out, code, bind, pre, ok⟩ := F w _ _ _ Y KX G.T.g mgF fun _ _ => own_of KX G.T
    LamX.law_callTs KX G.T.g G.T.b G.T.builtins G.T.nolimit gens empty out code G.T.bmain obj isInts (Nat.le_trans len short) room ok bind (fun H tabs list => pre H a ns len bits tabs list) fun H e s' => calm w H s₁ e s'
end My

set_option Elab.async false
set_option linter.all false
set_option maxRecDepth 100000
set_option maxHeartbeats 2000000
namespace My
open PySem PySem.Spec PyProof.Rows L2
/-! ### texts by their codes -/
/-! ### the letters that a question uses -/
section
variable (K : PySem.W.Frag) {X : Cx}
end
/-! ### the bounds that a question asks of a letter -/
def spanOf (es : List (Nat × Int)) (rc : Option (Nat × Int × Int)) (c : Nat) : Int × Int := match (spanL es rc).find? (fun t => decide (t.1 = c)) with
  | some t => t.2
  | none => (0, 0)
theorem TG.mut {Ps : List Addr} {H : Hp} {p : Addr} {xs : List V} {o : HO} (t : TG Ps H) (h : H p = some (.lst xs)) : TG Ps (upd H p o) := fun P hP => by
  obtain ⟨ps, h2, q⟩ := t P hP
  refine ⟨ps, ?_, q⟩
  rw [upd_ne (fun z => ?_)]
  · exact h2
  · rw [z, h] at h2
    cases h2
theorem row_at_fz {H : Hp} {p : Addr} {row : List Int} (h : H p = some (.tup (row.map V.int))) : Fz H (.ref p) (rowD row) := .tup h FzA.ofInts
/-! ### stretches -/
def keyM (cols : List Nat) (row : List Int) (ls : List Nat) : List Int := ls.map (rowAt cols row)
end My

set_option Elab.async false
set_option linter.all false
set_option maxRecDepth 100000
set_option maxHeartbeats 2000000
namespace My
open PySem PySem.Spec PyProof.Rows L2
/-! ### tuples whose own object is told: without a dict of its own -/
section
variable (K : PySem.W.Frag) {X : Cx}
end
theorem app_txt (a b : List Nat) : ((⟨a.toArray⟩ : Str) ++ (⟨b.toArray⟩ : Str)) = ⟨(a ++ b).toArray⟩ := by
  show (⟨a.toArray ++ b.toArray⟩ : Str) = _
  rw [List.append_toArray]
/-! ### questions: their equals are such a tuple -/
def KT (H H' : Hp) : Prop := Kt H H' ∧ ∀ b o xs, H b = some (.frz o (.tup xs)) → H' b = some (.frz o (.tup xs))
theorem KT.rfl' {H : Hp} : KT H H := ⟨Kt.rfl', fun _ _ _ h => h⟩
theorem KT.trans {H H1 H2 : Hp} (a : KT H H1) (b : KT H1 H2) : KT H H2 := ⟨a.1.trans b.1, fun c o xs h => b.2 c o xs (a.2 c o xs h)⟩
theorem Same.kT {H H' : Hp} (s : Same H H') : KT H H' := ⟨Same.kt s, fun b o xs h => s b _ h⟩
theorem Kp.kT {r : Addr} {H H' : Hp} {xs : List V} (k : Kp r H H') (hr : H r = some (.lst xs)) : KT H H' := ⟨k.kt hr, fun b o ys h => k b _ (fun z => by
  rw [z, hr] at h
  cases h) h⟩
theorem Sx.kT {Ps : List Addr} {H H' : Hp} (t : TG Ps H) (s : Sx Ps H H') : KT H H' := ⟨s.kt t, fun b o xs h => s b _ (t.not h fun q z => nomatch z) h⟩
theorem KT.new {H : Hp} {p : Addr} {o : HO} (n : H p = none) : KT H (upd H p o) := ⟨Kt.new n, fun b u xs h => keep_new h n⟩
theorem KT.lst {H : Hp} {p : Addr} {xs : List V} {o : HO} (n : H p = some (.lst xs)) : KT H (upd H p o) := ⟨Kt.lst n, fun b u ys h => keep_ne h fun z => by
  rw [z, n] at h
  cases h⟩
end My

set_option Elab.async false
set_option linter.all false
set_option maxRecDepth 100000
set_option maxHeartbeats 2000000
namespace My
open PySem PySem.Spec PyProof.Rows L2
section
variable (K : PySem.W.Frag) {X : Cx}
end
/-! ### the order of keys, by a sign -/
def sgn (k lo hi : Int) : Int := (if decide (hi < k) = true then 1 else 0) - (if decide (k < lo) = true then 1 else 0)
def signF (k lo hi : Nat → Int) (u : List Nat) (s : Int) : Int := u.foldl (fun s c => if s = 0 then sgn (k c) (lo c) (hi c) else s) s
def signM (cols : List Nat) (row : List Int) (es : List (Nat × Int)) (rc : Option (Nat × Int × Int)) (u : List Nat) : Int := signF (rowAt cols row) (fun c => (spanOf es rc c).1) (fun c => (spanOf es rc c).2) u 0
end My

set_option Elab.async false
set_option linter.all false
set_option maxRecDepth 100000
set_option maxHeartbeats 2000000
namespace My
open PySem PySem.Spec PyProof.Rows L2
/-! ### entries: a key of numbers, and a number; sorted -/
abbrev Ent := List Int × Int
def entD (b : Ent) : PyData := .tuple [rowD b.1, .int b.2]
def entLt (b c : Ent) : Bool := if b.1 = c.1 then decide (b.2 < c.2) else decide (b.1 < c.1)
def entLe (b c : Ent) : Bool := !entLt c b
theorem eqvA_int : ∀ ns ms : List Int, PyData.eqvAll (ns.map PyData.int) (ms.map PyData.int) = decide (ns = ms)
  | [], [] => rfl
  | [], m :: ms => by
    show false = _
    simp
  | n :: ns, [] => by
    show false = _
    simp
  | n :: ns, m :: ms => by
    show (PyData.eqv (.int n) (.int m) && PyData.eqvAll (ns.map PyData.int) (ms.map PyData.int)) = _
    rw [eqvA_int ns ms]
    show ((n == m) && _) = _
    by_cases e : n = m
    · subst e
      simp
    · have e2 : (n == m) = false := by simp [e]
      rw [e2]
      simp [e]
theorem dataLt_ent (b c : Ent) : W.dataLt (entD b) (entD c) = entLt b c := by
  unfold entD
  rw [W.dataLt_pair (by show W.alike (.tuple _) (.tuple _) = true; rw [W.alike]; exact W.alike_ints _ _) (by simp [W.alike]), W.dataLt_int]
  have e1 : PyData.eqv (rowD b.1) (rowD c.1) = decide (b.1 = c.1) := eqvA_int _ _
  have e2 : W.dataLt (rowD b.1) (rowD c.1) = decide (b.1 < c.1) := by
    show W.dataLt (.tuple _) (.tuple _) = _
    rw [W.dataLt_tuple]
    exact W.dataLt_ints _ _
  rw [e1, e2]
  unfold entLt
  by_cases e : b.1 = c.1
  · rw [decide_eq_true e, if_pos rfl, if_pos e]
    show (if (b.2 == c.2) = true then false else decide (b.2 < c.2)) = _
    by_cases f : b.2 = c.2
    · rw [f]
      simp
    · simp [f]
  · rw [decide_eq_false e, if_neg (by decide), if_neg e]
def rSortE (K : PySem.W.Frag) : List V → Hp → VK → Prop := fun xs H Q => ∃ (p : Addr) (bs : List (V × Ent)), xs = [.ref p] ∧ SqL K H p (bs.map (·.1)) ∧ (∀ b ∈ bs, Fz H b.1 (entD b.2)) ∧ ∀ l, H l = none → Q (.ref l) (upd H l (.lst ((bs.mergeSort fun b c => entLe b.2 c.2).map (·.1))))
section
variable (K : PySem.W.Frag) {X : Cx}
theorem dep_ent (b : Ent) : (entD b).depth = 2 := by
  show PyData.depthAll [rowD b.1, .int b.2] + 1 = 2
  have : PyData.depth (rowD b.1) = 1 := by
    show PyData.depthAll (b.1.map PyData.int) + 1 = 1
    rw [W.depth_ints]
  show max (PyData.depth (rowD b.1)) (max 0 0) + 1 = 2
  rw [this]
  rfl
theorem each_of {R : Value → V × Ent → Prop} : ∀ {bs : List (V × Ent)} {its : List Value}, Vals (bs.map (·.1)) its → (∀ b ∈ bs, ∀ v, RelV b.1 v → R v b) → W.EachIs R its bs
  | [], _, r, _ => by
    cases r
    exact .nil
  | b :: bs, _, r, h => by
    rw [List.map_cons] at r
    cases r with
    | cons h1 h2 => exact .cons (h b (by simp) _ h1) (each_of h2 fun c hc => h c (by simp [hc]))
theorem vals_each : ∀ {bs : List (V × Ent)} {its : List Value}, W.EachIs (fun v b => RelV b.1 v) its bs → Vals (bs.map (·.1)) its
  | _, _, .nil => .nil
  | _, _, .cons h t => .cons h (vals_each t)
theorem cSortE {k : Nat} (hr : Room k X.A) (hK : X.K = K := by rfl) : CallR X (.builtin "sorted") (rSortE K) := by
  subst hK
  intro pins s σ H xs us Q I r h
  obtain ⟨p, bs, rfl, hq, hf, q⟩ := h
  obtain ⟨u, rfl, rx⟩ := vals1 r
  cases rx
  obtain ⟨its, rv, pl, hz⟩ := I.list hq
  have hun := hr.un
  have e : W.EachIs (fun v (b : V × Ent) => RelV b.1 v) its bs := each_of rv fun b _ v h => h
  have er : W.EachIs (fun v (b : V × Ent) => ∃ as, Reads s.heap v (entD b.2) as) its bs := each_of rv fun b hb v h => Dp.reads I _ _ _ (hf b hb).to h
  rw [List.length_map] at hz
  refine W.sorted_data (enc := fun b : V × Ent => entD b.2) pl.isList e er (W.AllAlike.of fun b c => ?_) (W.Sortable.tuples fun b => ⟨_, _, rfl⟩) hz (fun b _ => ?_) fun out ho eo => ?_
  · show W.alike (.tuple [rowD b.2.1, .int b.2.2]) (.tuple [rowD c.2.1, .int c.2.2]) = true
    rw [W.alike, W.alikeAll, W.alikeAll]
    have : W.alike (rowD b.2.1) (rowD c.2.1) = true := by
      show W.alike (.tuple _) (.tuple _) = true
      rw [W.alike]
      exact W.alike_ints _ _
    rw [this]
    simp [W.alike, W.alikeAll]
  · show X.A.units + 2 + (entD b.2).depth < cLine
    rw [dep_ent]
    omega
  · have ele : W.dataLe false (fun b : V × Ent => entD b.2) = fun b c => entLe b.2 c.2 := by
      funext b c
      show (!W.dataLt (entD c.2) (entD b.2)) = _
      rw [dataLt_ent]
      rfl
    rw [ele] at eo
    obtain ⟨ep, he⟩ := PyProof.Rows.sortedAll_at s.heap its out.toArray
    have hlen : ((bs.mergeSort fun b c => entLe b.2 c.2).map (·.1)).length ≤ sizeLine := by
      rw [List.length_map, List.length_mergeSort]
      exact hz
    have new : ObjOk X.prog X.w (upd H (s.heap.objs.size + 1) (.lst ((bs.mergeSort fun b c => entLe b.2 c.2).map (·.1)))) (sortedAll s.heap its out.toArray) (s.heap.objs.size + 1) (.lst ((bs.mergeSort fun b c => entLe b.2 c.2).map (·.1))) := ⟨hlen, out, ep, vals_each eo, he⟩
    exact ⟨.ref _, _, I.laid (t' := s.toks) (fun _ _ => PyProof.Rows.sortedAll_old) (Nat.le_succ _) new, rfl, q _ (I.hok.fresh (Nat.le_succ _))⟩
end
end My

set_option Elab.async false
set_option linter.all false
set_option maxRecDepth 100000
set_option maxHeartbeats 2000000
namespace My
open PySem PySem.Spec PyProof.Rows L2
/-! ### rows sorted by a list -/
def entAt (cols : List Nat) (rows : List (List Int)) (one : List Nat) (i : Nat) : Ent := (keyM cols (rows.getD i []) one, (i : Int))
def entsM (cols : List Nat) (rows : List (List Int)) (one : List Nat) : List Ent := (List.range rows.length).map (entAt cols rows one)
def sortM (cols : List Nat) (rows : List (List Int)) (one : List Nat) : List Int := ((entsM cols rows one).mergeSort entLe).map (·.2)
theorem sortM_of {cols : List Nat} {rows : List (List Int)} {one : List Nat} {bs : List (V × Ent)} (h : bs.map (·.2) = entsM cols rows one) : (bs.mergeSort fun b c => entLe b.2 c.2).map (·.2.2) = sortM cols rows one := by
  unfold sortM
  rw [← h, ← List.map_mergeSort (r := fun b c : V × Ent => entLe b.2 c.2) (fun a _ b _ => rfl), List.map_map]
  rfl
theorem entLt_irrefl (a : Ent) : entLt a a = false := by
  unfold entLt
  rw [if_pos rfl]
  simp
theorem entLt_trans {a b c : Ent} (h1 : entLt a b = true) (h2 : entLt b c = true) : entLt a c = true := by
  unfold entLt at *
  by_cases e1 : a.1 = b.1
  · rw [if_pos e1] at h1
    by_cases e2 : b.1 = c.1
    · rw [if_pos e2] at h2
      rw [if_pos (e1.trans e2)]
      simp at *
      omega
    · rw [if_neg e2] at h2
      rw [if_neg (by rw [e1]; exact e2), e1]
      exact h2
  · rw [if_neg e1] at h1
    by_cases e2 : b.1 = c.1
    · rw [if_neg (by rw [← e2]; exact e1), ← e2]
      exact h1
    · rw [if_neg e2] at h2
      have t : a.1 < c.1 := List.lt_trans (of_decide_eq_true h1) (of_decide_eq_true h2)
      have ne : a.1 ≠ c.1 := fun z => List.lt_irrefl _ (z ▸ t)
      rw [if_neg ne]
      exact decide_eq_true t
theorem entLt_tri (a b : Ent) : entLt a b = true ∨ a = b ∨ entLt b a = true := by
  unfold entLt
  by_cases e : a.1 = b.1
  · rw [if_pos e, if_pos e.symm]
    rcases Int.lt_trichotomy a.2 b.2 with z | z | z
    · exact .inl (decide_eq_true z)
    · exact .inr (.inl (Prod.ext e z))
    · exact .inr (.inr (decide_eq_true z))
  · rw [if_neg e, if_neg (fun z => e z.symm)]
    by_cases l : a.1 < b.1
    · exact .inl (decide_eq_true l)
    · have l2 : b.1 ≤ a.1 := List.not_lt.mp l
      rcases List.le_iff_lt_or_eq.mp l2 with z | z
      · exact .inr (.inr (decide_eq_true z))
      · exact absurd z.symm e
theorem entLt_asym {a b : Ent} (h : entLt a b = true) : entLt b a = false := by
  cases e : entLt b a with
  | false => rfl
  | true =>
    have := entLt_trans h e
    rw [entLt_irrefl] at this
    cases this
theorem entLe_trans (a b c : Ent) (h1 : entLe a b = true) (h2 : entLe b c = true) : entLe a c = true := by
  unfold entLe at *
  simp only [Bool.not_eq_true'] at *
  rcases entLt_tri c a with z | z | z
  · rcases entLt_tri a b with y | y | y
    · rw [entLt_trans z y] at h2
      cases h2
    · rw [← y] at h2
      rw [h2] at z
      cases z
    · rw [h1] at y
      cases y
  · rw [z]
    exact entLt_irrefl _
  · exact entLt_asym z
theorem entLe_total (a b : Ent) : (entLe a b || entLe b a) = true := by
  unfold entLe
  rcases entLt_tri a b with z | z | z
  · rw [entLt_asym z]
    rfl
  · rw [z, entLt_irrefl]
    rfl
  · rw [entLt_asym z]
    simp
/-! ### a number put in behind all that are not greater -/
end My

set_option Elab.async false
set_option linter.all false
set_option maxRecDepth 100000
set_option maxHeartbeats 2000000
namespace My
open PySem PySem.Spec PyProof.Rows L2
section
variable (K : PySem.W.Frag) {X : Cx}
theorem slLK (hK : X.K = K := by rfl) : SlR X (rSlL K) := by
  subst hK
  exact sl_list
theorem sortIK (hK : X.K = K := by rfl) : CallR X (.builtin "sorted") (rSortedI K) := by
  subst hK
  exact cr_sortedI
end
/-! ### what a stretch of the sorted rows holds -/
theorem take_lt : ∀ (k : Nat) (xs ys : List Int), xs.take k < ys.take k → xs < ys
  | 0, xs, ys, h => by
    simp at h
  | k + 1, [], [], h => by
    simp at h
  | k + 1, [], y :: ys, _ => by simp
  | k + 1, x :: xs, [], h => by
    simp at h
  | k + 1, x :: xs, y :: ys, h => by
    rw [List.take_succ_cons, List.take_succ_cons, List.cons_lt_cons_iff] at h
    rw [List.cons_lt_cons_iff]
    rcases h with z | ⟨z, y2⟩
    · exact .inl z
    · exact .inr ⟨z, take_lt k xs ys y2⟩
def idxM (cols : List Nat) (rows : List (List Int)) (one : List Nat) : List Nat := (List.range rows.length).mergeSort fun i j => entLe (entAt cols rows one i) (entAt cols rows one j)
theorem idx_sort (cols : List Nat) (rows : List (List Int)) (one : List Nat) : sortM cols rows one = (idxM cols rows one).map fun i : Nat => (i : Int) := by
  unfold sortM entsM idxM
  rw [← List.map_mergeSort (r := fun i j : Nat => entLe (entAt cols rows one i) (entAt cols rows one j)) (fun a _ b _ => rfl), List.map_map]
  rfl
theorem idx_perm (cols : List Nat) (rows : List (List Int)) (one : List Nat) : (idxM cols rows one).Perm (List.range rows.length) := List.mergeSort_perm _ _
theorem idx_pw (cols : List Nat) (rows : List (List Int)) (one : List Nat) : (idxM cols rows one).Pairwise fun i j => entLe (entAt cols rows one i) (entAt cols rows one j) = true := List.pairwise_mergeSort (le := fun i j : Nat => entLe (entAt cols rows one i) (entAt cols rows one j)) (fun a b c => entLe_trans (entAt cols rows one a) (entAt cols rows one b) (entAt cols rows one c)) (fun a b => entLe_total (entAt cols rows one a) (entAt cols rows one b)) _
theorem key_take {cols : List Nat} {rows : List (List Int)} {one : List Nat} {k a b : Nat} (h : entLe (entAt cols rows one a) (entAt cols rows one b) = true) : ¬ keyM cols (rows.getD b []) (one.take k) < keyM cols (rows.getD a []) (one.take k) := fun z => by
  unfold keyM at z
  rw [List.map_take, List.map_take] at z
  have z2 := take_lt k _ _ z
  unfold entLe entLt at h
  have h2 : (if (entAt cols rows one b).1 = (entAt cols rows one a).1 then decide ((entAt cols rows one b).2 < (entAt cols rows one a).2) else decide ((entAt cols rows one b).1 < (entAt cols rows one a).1)) = false := by simpa using h
  by_cases e : (entAt cols rows one b).1 = (entAt cols rows one a).1
  · have z3 : (entAt cols rows one b).1 < (entAt cols rows one a).1 := z2
    rw [e] at z3
    exact List.lt_irrefl _ z3
  · rw [if_neg e] at h2
    exact of_decide_eq_false h2 z2
def below (cols : List Nat) (rows : List (List Int)) (es : List (Nat × Int)) (rc : Option (Nat × Int × Int)) (u : List Nat) (n : Int) (o : Nat) : Bool := decide (signM cols (rows.getD o []) es rc u < n)
end My

set_option Elab.async false
set_option linter.all false
set_option maxRecDepth 100000
set_option maxHeartbeats 2000000
namespace My
open PySem PySem.Spec PyProof.Rows L2
/-! ### data compared by > -/
def rGtD (K : PySem.W.Frag) : R2 := fun x y H Q => ∃ d e, Dp K H x d ∧ Dp K H y e ∧ W.alike d e = true ∧ d ≠ .none ∧ d.depth ≤ 20 ∧ Q (.bl (W.dataLt e d)) H
section
variable (K : PySem.W.Frag) {X : Cx}
theorem gtDK {k : Nat} (hr : Room k X.A) (hK : X.K = K := by rfl) : OpR X (compareOp .Gt) (rGtD K) := by
  subst hK
  intro pins s σ H x y v u Q I rx ry h
  obtain ⟨d, e, hd, he, ha, hn, hdp, q⟩ := h
  have hun := hr.un
  obtain ⟨as, ra⟩ := Dp.reads I _ _ _ hd rx
  obtain ⟨bs, rb⟩ := Dp.reads I _ _ _ he ry
  refine W.gt_data ra rb ha hn ?_ ⟨.bl _, H, I, rfl, q⟩
  have : min d.depth e.depth ≤ d.depth := Nat.min_le_left _ _
  omega
/-! ### max of a tuple of numbers -/
theorem maxD_ints : ∀ (ns : List Int) (n : Int), ∃ m : Int, W.maxD (.int n) (ns.map PyData.int) = .int m ∧ n ≤ m ∧ (∀ y ∈ ns, y ≤ m) ∧ (m = n ∨ m ∈ ns)
  | [], n => ⟨n, rfl, Int.le_refl _, (fun y h => nomatch h), .inl rfl⟩
  | k :: ns, n => by
    have e : W.maxD (.int n) ((k :: ns).map PyData.int) = W.maxD (if W.dataLt (.int n) (.int k) = true then .int k else .int n) (ns.map PyData.int) := rfl
    rw [e, W.dataLt_int]
    by_cases h : n < k
    · rw [decide_eq_true h, if_pos rfl]
      obtain ⟨m, h1, h2, h3, h4⟩ := maxD_ints ns k
      refine ⟨m, h1, by omega, fun y hy => ?_, ?_⟩
      · rcases List.mem_cons.mp hy with z | z
        · omega
        · exact h3 y z
      · rcases h4 with z | z
        · exact .inr (by rw [z]; exact List.mem_cons_self ..)
        · exact .inr (List.mem_cons_of_mem _ z)
    · rw [decide_eq_false h, if_neg (by decide)]
      obtain ⟨m, h1, h2, h3, h4⟩ := maxD_ints ns n
      refine ⟨m, h1, h2, fun y hy => ?_, ?_⟩
      · rcases List.mem_cons.mp hy with z | z
        · omega
        · exact h3 y z
      · rcases h4 with z | z
        · exact .inl z
        · exact .inr (List.mem_cons_of_mem _ z)
def rMaxT (K : PySem.W.Frag) : List V → Hp → VK → Prop := fun vs H Q => ∃ (a : Addr) (n : Int) (ns : List Int), vs = [.ref a] ∧ SqT K H a ((n :: ns).map V.int) ∧ ∀ m, m ∈ n :: ns → (∀ y ∈ n :: ns, y ≤ m) → Q (.int m) H
theorem maxTK {k : Nat} (hr : Room k X.A) (hK : X.K = K := by rfl) : CallR X (.builtin "max") (rMaxT K) := by
  subst hK
  intro pins s σ H xs us Q I r h
  obtain ⟨a, n, ns, rfl, hs, q⟩ := h
  obtain ⟨u, rfl, rx⟩ := vals1 r
  cases rx
  obtain ⟨its, rv, pl, hz⟩ := I.tuple hs
  have hun := hr.un
  obtain ⟨as, ra⟩ : ∃ as, ReadsAll s.heap its ((n :: ns).map PyData.int) as := by
    have hrd : ∀ (ks : List Int) (vs : List Value), Vals (ks.map V.int) vs → ∃ as, ReadsAll s.heap vs (ks.map PyData.int) as := by
      intro ks
      induction ks with
      | nil =>
        intro vs r
        cases r
        exact ⟨_, .nil⟩
      | cons k ks ih =>
        intro vs r
        rw [List.map_cons] at r
        cases r with
        | cons h1 h2 =>
          obtain ⟨t, rfl⟩ := h1
          obtain ⟨as, ha⟩ := ih _ h2
          exact ⟨_, .cons (.int _ _) ha⟩
    exact hrd _ _ rv
  obtain ⟨m, e1, e2, e3, e4⟩ := maxD_ints ns n
  refine W.max_tuple_data (x := .int n) (xs := ns.map PyData.int) hr.hd pl (by simpa using ra) ?_ ?_ fun i v h' tk bs hv hrd hk => ?_
  · constructor
    · intro c hc d hd
      obtain ⟨x, _, rfl⟩ := List.mem_map.mp (show c ∈ (n :: ns).map PyData.int from hc)
      obtain ⟨y, _, rfl⟩ := List.mem_map.mp (show d ∈ (n :: ns).map PyData.int from hd)
      simp [W.alike]
    · intro c hc z
      obtain ⟨x, _, rfl⟩ := List.mem_map.mp (show c ∈ (n :: ns).map PyData.int from hc)
      cases z
  · show X.A.units + 1 + PyData.depthAll ((n :: ns).map PyData.int) < cLine
    rw [W.depth_ints]
    omega
  · rw [e1] at hrd
    cases hrd
    refine ⟨.int m, H, I.kept hk, ⟨_, rfl⟩, q m ?_ fun y hy => ?_⟩
    · rcases e4 with z | z
      · rw [z]
        exact List.mem_cons_self ..
      · exact List.mem_cons_of_mem _ z
    · rcases List.mem_cons.mp hy with z | z
      · omega
      · exact e3 y z
theorem maxK (hc : X.calm = true := by rfl) (hK : X.K = K := by rfl) : CallR X (.builtin "max") (rMax K) := by
  subst hK
  exact cr_max hc
end
end My

set_option Elab.async false
set_option linter.all false
set_option maxRecDepth 100000
set_option maxHeartbeats 2000000
namespace My
open PySem PySem.Spec PyProof.Rows L2
/-! ### sorted again -/
theorem sort_range {cols : List Nat} {rows : List (List Int)} {one : List Nat} {ns : List Int} (hp : ns.Perm ((idxM cols rows one).map fun i : Nat => (i : Int))) (hs : ns.Pairwise (· ≤ ·)) : ns = (List.range rows.length).map fun i : Nat => (i : Int) := by
  refine PySem.W.ksm_same (hp.trans ((idx_perm cols rows one).map _)) hs ?_
  rw [List.pairwise_map]
  exact (List.pairwise_lt_range (n := rows.length)).imp fun {a b} h => by omega
/-- an entry with its key as a list -/
def entL (b : Ent) : PyData := .tuple [.list (b.1.map PyData.int), .int b.2]
theorem dataLt_entL (b c : Ent) : W.dataLt (entL b) (entL c) = entLt b c := by
  unfold entL
  rw [W.dataLt_pair (by show W.alike (.list _) (.list _) = true; rw [W.alike]; exact W.alike_ints _ _) (by simp [W.alike]), W.dataLt_int]
  have e1 : PyData.eqv (.list (b.1.map PyData.int)) (.list (c.1.map PyData.int)) = decide (b.1 = c.1) := eqvA_int _ _
  have e2 : W.dataLt (.list (b.1.map PyData.int)) (.list (c.1.map PyData.int)) = decide (b.1 < c.1) := by
    rw [W.dataLt_list]
    exact W.dataLt_ints _ _
  rw [e1, e2]
  unfold entLt
  by_cases e : b.1 = c.1
  · rw [decide_eq_true e, if_pos rfl, if_pos e]
    show (if (b.2 == c.2) = true then false else decide (b.2 < c.2)) = _
    by_cases f : b.2 = c.2
    · rw [f]
      simp
    · simp [f]
  · rw [decide_eq_false e, if_neg (by decide), if_neg e]
theorem alike_entL (b c : Ent) : W.alike (entL b) (entL c) = true := by
  unfold entL
  rw [W.alike, W.alikeAll, W.alikeAll]
  have : W.alike (.list (b.1.map PyData.int)) (.list (c.1.map PyData.int)) = true := by
    rw [W.alike]
    exact W.alike_ints _ _
  rw [this]
  simp [W.alike, W.alikeAll]
theorem dep_entL (b : Ent) : (entL b).depth ≤ 20 := by
  show max (PyData.depth (.list (b.1.map PyData.int))) (max 0 0) + 1 ≤ 20
  rw [dep_ints]
  decide
theorem two_up {cols : List Nat} {rows : List (List Int)} {one : List Nat} {i a b : Nat} (ha : (idxM cols rows one)[i]? = some a) (hb : (idxM cols rows one)[i + 1]? = some b) : entLt (entAt cols rows one b) (entAt cols rows one a) = false := by
  have h := idx_pw cols rows one
  obtain ⟨h1, e1⟩ := List.getElem?_eq_some_iff.mp ha
  obtain ⟨h2, e2⟩ := List.getElem?_eq_some_iff.mp hb
  have h3 := List.pairwise_iff_getElem.mp h i (i + 1) h1 h2 (Nat.lt_succ_self i)
  rw [e1, e2] at h3
  unfold entLe at h3
  simpa using h3
theorem key_le {cols : List Nat} {rows : List (List Int)} {one : List Nat} {a b : Nat} (h : entLe (entAt cols rows one a) (entAt cols rows one b) = true) : ¬ (entAt cols rows one b).1 < (entAt cols rows one a).1 := fun z => by
  unfold entLe entLt at h
  by_cases e : (entAt cols rows one b).1 = (entAt cols rows one a).1
  · rw [e] at z
    exact List.lt_irrefl _ z
  · rw [if_neg e, decide_eq_true z] at h
    exact absurd h (by decide)
theorem entLe_of {b c : Ent} (h : ¬ c.1 < b.1) (h2 : c.1 = b.1 → b.2 ≤ c.2) : entLe b c = true := by
  unfold entLe entLt
  by_cases e : c.1 = b.1
  · rw [if_pos e, decide_eq_false (by have := h2 e; omega)]
    rfl
  · rw [if_neg e, decide_eq_false h]
    rfl
/-- the rows in their sorted order stand sorted -/
theorem idx_again (cols : List Nat) (rows : List (List Int)) (one : List Nat) : idxM cols ((idxM cols rows one).map fun i => rows.getD i []) one = List.range rows.length := by
  have hl : ((idxM cols rows one).map fun i => rows.getD i []).length = rows.length := by
    rw [List.length_map, (idx_perm cols rows one).length_eq, List.length_range]
  have hli : (idxM cols rows one).length = rows.length := by rw [(idx_perm cols rows one).length_eq, List.length_range]
  show (List.range ((idxM cols rows one).map fun i => rows.getD i []).length).mergeSort _ = _
  rw [hl]
  refine List.mergeSort_of_pairwise ?_
  refine List.pairwise_iff_getElem.mpr fun i j hi hj hij => ?_
  rw [List.length_range] at hi hj
  rw [List.getElem_range, List.getElem_range]
  have row : ∀ (k : Nat) (hk : k < rows.length), ((idxM cols rows one).map fun i => rows.getD i []).getD k [] = rows.getD ((idxM cols rows one)[k]'(by omega)) [] := fun k hk => by
    rw [List.getD_eq_getElem?_getD, List.getElem?_map, List.getElem?_eq_getElem (by omega)]
    rfl
  have h3 := List.pairwise_iff_getElem.mp (idx_pw cols rows one) i j (by omega) (by omega) hij
  refine entLe_of ?_ fun _ => ?_
  · show ¬ keyM cols _ one < keyM cols _ one
    rw [row i hi, row j hj]
    exact key_le h3
  · show (i : Int) ≤ (j : Int)
    omega
/-- greater where they were greater -/
theorem idx_mono {cols : List Nat} {rows : List (List Int)} {one : List Nat} {f : Int → Int} (hf0 : f 0 = 0) (hf : ∀ x y, x < y ↔ f x < f y) : idxM cols (rows.map fun row => row.map f) one = idxM cols rows one := by
  have hl : (rows.map fun row => row.map f).length = rows.length := List.length_map ..
  have hrow : ∀ k, (rows.map fun row => row.map f).getD k [] = (rows.getD k []).map f := fun k => by
    rw [List.getD_eq_getElem?_getD, List.getD_eq_getElem?_getD, List.getElem?_map]
    cases rows[k]? <;> rfl
  have hkey : ∀ k, keyM cols ((rows.map fun row => row.map f).getD k []) one = (keyM cols (rows.getD k []) one).map f := fun k => by
    unfold keyM
    rw [hrow, List.map_map]
    refine List.map_congr_left fun c _ => ?_
    show ((rows.getD k []).map f).getD (cols.idxOf c) 0 = f ((rows.getD k []).getD (cols.idxOf c) 0)
    generalize rows.getD k [] = row
    rw [List.getD_eq_getElem?_getD, List.getD_eq_getElem?_getD, List.getElem?_map]
    cases row[cols.idxOf c]? with
    | none => exact hf0.symm
    | some x => rfl
  have hinj : ∀ x y, f x = f y → x = y := fun x y e => by
    rcases Int.lt_trichotomy x y with h | h | h
    · have := (hf x y).mp h
      omega
    · exact h
    · have := (hf y x).mp h
      omega
  have hlt : ∀ l m : List Int, l.map f < m.map f ↔ l < m := by
    intro l
    induction l with
    | nil =>
      intro m
      cases m with
      | nil => simp
      | cons y m => simp
    | cons x l ih =>
      intro m
      cases m with
      | nil => simp
      | cons y m =>
        rw [List.map_cons, List.map_cons, List.cons_lt_cons_iff, List.cons_lt_cons_iff, ih m, ← hf x y]
        constructor
        · rintro (z | ⟨z, w⟩)
          · exact .inl z
          · exact .inr ⟨hinj x y z, w⟩
        · rintro (z | ⟨z, w⟩)
          · exact .inl z
          · exact .inr ⟨by rw [z], w⟩
  have hmi : ∀ l m : List Int, l.map f = m.map f ↔ l = m := fun l m => ⟨fun e => List.map_inj_right (fun x y e => hinj x y e) |>.mp e, fun e => by rw [e]⟩
  have hent : ∀ i j, entLe (entAt cols (rows.map fun row => row.map f) one i) (entAt cols (rows.map fun row => row.map f) one j) = entLe (entAt cols rows one i) (entAt cols rows one j) := fun i j => by
    unfold entLe entLt
    have e1 : (entAt cols (rows.map fun row => row.map f) one j).1 = (entAt cols (rows.map fun row => row.map f) one i).1 ↔ (entAt cols rows one j).1 = (entAt cols rows one i).1 := by
      show keyM cols _ one = keyM cols _ one ↔ keyM cols _ one = keyM cols _ one
      rw [hkey, hkey]
      exact hmi _ _
    have e2 : (entAt cols (rows.map fun row => row.map f) one j).1 < (entAt cols (rows.map fun row => row.map f) one i).1 ↔ (entAt cols rows one j).1 < (entAt cols rows one i).1 := by
      show keyM cols _ one < keyM cols _ one ↔ keyM cols _ one < keyM cols _ one
      rw [hkey, hkey]
      exact hlt _ _
    by_cases z : (entAt cols rows one j).1 = (entAt cols rows one i).1
    · rw [if_pos z, if_pos (e1.mpr z)]
      rfl
    · rw [if_neg z, if_neg (fun y => z (e1.mp y))]
      congr 1
      exact decide_eq_decide.mpr e2
  unfold idxM
  rw [hl]
  congr 1
  funext i j
  exact hent i j
/-- a letter more: the same keys -/
theorem keys_more (cols : List Nat) (rows : List (List Int)) (one : List Nat) (c : Nat) : (idxM cols rows (one ++ [c])).map (fun i => keyM cols (rows.getD i []) one) = (idxM cols rows one).map fun i => keyM cols (rows.getD i []) one := by
  refine List.Perm.eq_of_pairwise (le := fun a b : List Int => ¬ b < a) (fun a b _ _ h1 h2 => List.le_antisymm (List.not_lt.mp h1) (List.not_lt.mp h2)) ?_ ?_ (((idx_perm cols rows (one ++ [c])).trans (idx_perm cols rows one).symm).map _)
  · rw [List.pairwise_map]
    refine (idx_pw cols rows (one ++ [c])).imp fun {a b} h => ?_
    have := key_take (k := one.length) h
    rw [List.take_left] at this
    exact this
  · rw [List.pairwise_map]
    exact (idx_pw cols rows one).imp fun {a b} h => key_le h
/-! ### rows of lists of numbers -/
def lsD (ns : List Int) : PyData := .list (ns.map PyData.int)
theorem eqv_lss : ∀ ks : List (List Int), PyData.eqv (.list (ks.map lsD)) (.list (ks.map lsD)) = true := by
  intro ks
  show PyData.eqvAll (ks.map lsD) (ks.map lsD) = true
  induction ks with
  | nil => rfl
  | cons k ks ih =>
    show (PyData.eqv (lsD k) (lsD k) && PyData.eqvAll (ks.map lsD) (ks.map lsD)) = true
    rw [ih, Bool.and_true]
    exact eqv_ints k
theorem shaped_lss (ks : List (List Int)) : SeqAt.shaped (.list (ks.map lsD)) = true := by
  have e1 : PyData.canLayAll0 (ks.map lsD) = true := by
    induction ks with
    | nil => rfl
    | cons k ks ih =>
      show (PyData.canLay0 (lsD k) && PyData.canLayAll0 (ks.map lsD)) = true
      rw [ih, Bool.and_true]
      exact can_ints k
  have e2 : PyData.depthAll (ks.map lsD) ≤ 1 := by
    clear e1
    induction ks with
    | nil => exact Nat.zero_le _
    | cons k ks ih =>
      show max (PyData.depth (lsD k)) (PyData.depthAll (ks.map lsD)) ≤ 1
      have : PyData.depth (lsD k) = 1 := dep_ints k
      omega
  unfold SeqAt.shaped
  show (PyData.canLayAll0 (ks.map lsD) && decide (PyData.depthAll (ks.map lsD) + 1 ≤ 64)) = true
  rw [e1, decide_eq_true (by omega)]
  rfl
end My
namespace My
open PySem PySem.Spec PyProof.Rows L2
/-- lists of numbers, none of them at D -/
inductive KL (H : Hp) (D : Addr) : List V → List (List Int) → Prop
  | nil : KL H D [] []
  | cons {p : Addr} {k : List Int} {vs : List V} {ks : List (List Int)} : p ≠ D → H p = some (.lst (k.map V.int)) → KL H D vs ks → KL H D (.ref p :: vs) (k :: ks)
theorem KL.upd {H : Hp} {D : Addr} {o : HO} {vs : List V} {ks : List (List Int)} (h : KL H D vs ks) : KL (L2.upd H D o) D vs ks := by
  induction h with
  | nil => exact .nil
  | cons n h r ih => exact .cons n (keep_ne h n) ih
theorem KL.same {H H' : Hp} {D : Addr} {vs : List V} {ks : List (List Int)} (h : KL H D vs ks) (s : Same H H') : KL H' D vs ks := by
  induction h with
  | nil => exact .nil
  | cons n h r ih => exact .cons n (s _ _ h) ih
theorem KL.snoc {H : Hp} {D p : Addr} {k : List Int} {vs : List V} {ks : List (List Int)} (h : KL H D vs ks) (n : p ≠ D) (hp : H p = some (.lst (k.map V.int))) : KL H D (vs ++ [.ref p]) (ks ++ [k]) := by
  induction h with
  | nil => exact .cons n hp .nil
  | cons n2 h r ih => exact .cons n2 h ih
theorem KL.dp {K : PySem.W.Frag} {H : Hp} {D : Addr} {vs : List V} {ks : List (List Int)} (h : KL H D vs ks) : DpAll K H vs (ks.map lsD) := by
  induction h with
  | nil => exact .nil
  | cons n h r ih => exact .cons (.lst (.inl (.inl h)) (dp_ints _)) ih
theorem KL.len {H : Hp} {D : Addr} {vs : List V} {ks : List (List Int)} (h : KL H D vs ks) : vs.length = ks.length := by
  induction h with
  | nil => rfl
  | cons n h r ih => rw [List.length_cons, List.length_cons, ih]
theorem cut_drop1 (xs : List V) : cutV xs (some (1 : Int)) none = xs.drop 1 := by
  unfold cutV
  rw [show (1 : Int) = ((1 : Nat) : Int) from rfl, HT.sIx_nat, HT.sIx_none]
  cases xs with
  | nil => rfl
  | cons x l =>
    rw [Nat.min_eq_left (by simp), List.take_of_length_le (by simp)]
end My

set_option Elab.async false
set_option linter.all false
set_option maxRecDepth 100000
set_option maxHeartbeats 1000000
namespace My
open PySem PySem.Spec PyProof.Rows L2
def topS (i : Nat) : Stmt := PySem.Challenge.pw_stretchkeep_k04_whole_sorted_again.main.body.getD i (.Pass ⟨0, 0, 0, 0⟩)
abbrev s_picked : Stmt := topS 1
theorem sc_picked : FnScope ["columns", "row", "letters"] ["columns", "row", "letters"] (defScope s_picked) := ⟨rfl, rfl, rfl, by decide +kernel, rfl, by decide +kernel, by decide +kernel⟩
abbrev s_sorted_by : Stmt := topS 2
theorem sc_sorted_by : FnScope ["table", "one", "columns", "rows", "entries", "number", "row", "key"] ["table", "one"] (defScope s_sorted_by) := ⟨rfl, rfl, rfl, by decide +kernel, rfl, by decide +kernel, by decide +kernel⟩
abbrev s_l_reel : Stmt := topS 4
theorem sc_l_reel : FnScope ["script", "k", "number", "stir", "found", "turn"] ["script", "k"] (defScope s_l_reel) := ⟨rfl, rfl, rfl, by decide +kernel, rfl, by decide +kernel, by decide +kernel⟩
abbrev s_l_pick : Stmt := topS 5
theorem sc_l_pick : FnScope ["reel", "many", "digit"] ["reel", "many"] (defScope s_l_pick) := ⟨rfl, rfl, rfl, by decide +kernel, rfl, by decide +kernel, by decide +kernel⟩
abbrev s_l_columns : Stmt := topS 6
theorem sc_l_columns : FnScope ["reel", "many", "left", "found", "k"] ["reel", "many"] (defScope s_l_columns) := ⟨rfl, rfl, rfl, by decide +kernel, rfl, by decide +kernel, by decide +kernel⟩
abbrev s_l_table : Stmt := topS 7
theorem sc_l_table : FnScope ["reel", "most", "rows", "columns", "tops", "many", "letter", "k", "top"] ["reel", "most", "rows"] (defScope s_l_table) := ⟨rfl, rfl, rfl, by decide +kernel, rfl, by decide +kernel, by decide +kernel⟩
abbrev s_l_one : Stmt := topS 8
theorem sc_l_one : FnScope ["reel", "columns", "left", "found", "k"] ["reel", "columns"] (defScope s_l_one) := ⟨rfl, rfl, rfl, by decide +kernel, rfl, by decide +kernel, by decide +kernel⟩
abbrev s_l_key : Stmt := topS 9
theorem sc_l_key : FnScope ["table", "number", "one", "columns", "rows", "letter"] ["table", "number", "one"] (defScope s_l_key) := ⟨rfl, rfl, rfl, by decide +kernel, rfl, by decide +kernel, by decide +kernel⟩
abbrev s_law : Stmt := topS 10
theorem sc_law : FnScope ["script", "k", "reel", "table", "columns", "rows", "one", "found", "here", "there", "again", "more", "great", "left", "longer", "keys", "letter", "number", "row"] ["script"] (defScope s_law) := ⟨rfl, rfl, rfl, by decide +kernel, rfl, by decide +kernel, by decide +kernel⟩
structure Ad where
  f_picked : Addr
  d_picked : FuncData
  c_picked : Addr
  P_picked : Addr
  f_sorted_by : Addr
  d_sorted_by : FuncData
  f_l_reel : Addr
  d_l_reel : FuncData
  f_l_pick : Addr
  d_l_pick : FuncData
  f_l_columns : Addr
  d_l_columns : FuncData
  f_l_table : Addr
  d_l_table : FuncData
  f_l_one : Addr
  d_l_one : FuncData
  f_l_key : Addr
  d_l_key : FuncData
  f_law : Addr
  d_law : FuncData
abbrev Ad.Ps (Z : Ad) : List Addr := [Z.P_picked]
structure Tb (base : Heap) (mg : Str → Option Value) (Z : Ad) : Prop where
  t_picked : LamX.TabB base mg Z.c_picked Z.P_picked
structure Tx (K : PySem.W.Frag) (mg : Str → Option Value) (Z : Ad) : Prop where
  F_picked : Fun K "picked" "picked" s_picked Z.f_picked Z.d_picked
  C_picked : FunC K "picked" "picked" s_picked Z.f_picked Z.d_picked Z.c_picked
  b_picked : Binds K Z.d_picked ["columns", "row", "letters"] []
  g_picked : mg "picked" = some (.ref Z.f_picked)
  F_sorted_by : Fun K "sorted_by" "sorted_by" s_sorted_by Z.f_sorted_by Z.d_sorted_by
  b_sorted_by : Binds K Z.d_sorted_by ["table", "one"] []
  g_sorted_by : mg "sorted_by" = some (.ref Z.f_sorted_by)
  F_l_reel : Fun K "_law_reel" "_law_reel" s_l_reel Z.f_l_reel Z.d_l_reel
  b_l_reel : Binds K Z.d_l_reel ["script", "k"] []
  g_l_reel : mg "_law_reel" = some (.ref Z.f_l_reel)
  F_l_pick : Fun K "_law_pick" "_law_pick" s_l_pick Z.f_l_pick Z.d_l_pick
  b_l_pick : Binds K Z.d_l_pick ["reel", "many"] []
  g_l_pick : mg "_law_pick" = some (.ref Z.f_l_pick)
  F_l_columns : Fun K "_law_columns" "_law_columns" s_l_columns Z.f_l_columns Z.d_l_columns
  b_l_columns : Binds K Z.d_l_columns ["reel", "many"] []
  g_l_columns : mg "_law_columns" = some (.ref Z.f_l_columns)
  F_l_table : Fun K "_law_table" "_law_table" s_l_table Z.f_l_table Z.d_l_table
  b_l_table : Binds K Z.d_l_table ["reel", "most", "rows"] []
  g_l_table : mg "_law_table" = some (.ref Z.f_l_table)
  F_l_one : Fun K "_law_one" "_law_one" s_l_one Z.f_l_one Z.d_l_one
  b_l_one : Binds K Z.d_l_one ["reel", "columns"] []
  g_l_one : mg "_law_one" = some (.ref Z.f_l_one)
  F_l_key : Fun K "_law_key" "_law_key" s_l_key Z.f_l_key Z.d_l_key
  b_l_key : Binds K Z.d_l_key ["table", "number", "one"] []
  g_l_key : mg "_law_key" = some (.ref Z.f_l_key)
  F_law : Fun K "law" "law" s_law Z.f_law Z.d_law
  b_law : Binds K Z.d_law ["script"] []
  g_law : mg "law" = some (.ref Z.f_law)
  m_len : mg "len" = none
  m_range : mg "range" = none
  m_list : mg "list" = none
  m_sorted : mg "sorted" = none
  m_tuple : mg "tuple" = none
  m_min : mg "min" = none
  m_max : mg "max" = none
  m_enumerate : mg "enumerate" = none
  m_zip : mg "zip" = none
section
variable {P : Program} {w : World} {K : PySem.W.Frag} {mg : Str → Option Value} {base : Heap} {Z : Ad}
/-! ### _law_reel -/
def spReel (K : PySem.W.Frag) : Sp := fun vs H Q _ => ∃ (a : Addr) (ns : List Int) (k : Nat), vs = [.ref a, .int k] ∧ SqL K H a (ns.map V.int) ∧ k < 1000 ∧ ∀ (n : Int) p, H p = none → Q (.ref p) (upd H p (.lst [.int n]))
theorem ok_reel (T : Tx K mg Z) : FnOk P w K mg base CX0 1 Z.f_l_reel Z.d_l_reel ["script", "k"] (spReel K) := by
  refine T.F_l_reel.ok sc_l_reel (fun vs H Q E h => ?_) (fun cdv A outer s H vs Q E hr h => ?_)
  · obtain ⟨a, ns, k, rfl, _⟩ := h
    rfl
  · obtain ⟨a, ns, k, rfl, hS, hk, q⟩ := h
    refine ⟨_, (pss_cons (ps_set (i := 2) sc_l_reel.nd rfl (.inl rfl) (pe_op op_add (pe_op op_mul pe_int (pv 1)) pe_int))
      (pss_mid (ps_if (pt_cmpR op_lt (pv 1) (pe_callB (cLenSq K) (by rfl) T.m_len (by decide +kernel) (pa_cons (pv 0) pa_nil)) (nomark _)) (pss_one (ps_set (i := 2) sc_l_reel.nd rfl (.inl rfl) (pe_ix (ixL K) (pv 0) (pv 1) (fun _ _ => rfl)))) pss_nil)
      (pss_cons (ps_if (pt_cmpR op_eq (pe_op op_mod (pv 2) pe_int) pe_int (nomark _)) (pss_one (ps_ret (pe_lst (pa_cons (pe_op op_fdiv (pv 2) pe_int) pa_nil)))) pss_nil)
      (pss_cons (ps_set (i := 3) sc_l_reel.nd rfl (.inl rfl) (pe_op op_mod (pe_op op_add (pe_op op_add (pe_op op_mul (pe_op op_mod (pv 2) pe_int) pe_int) (pe_op op_mul pe_int (pv 1))) pe_int) pe_int))
      (pss_cons (ps_set (i := 4) sc_l_reel.nd rfl (.inl rfl) pe_int)
      (pss_cons (ps_for PassesOwn.never rfl (pi_range1 (by rfl) T.m_range (pa_cons pe_int pa_nil)) (pg_name (i := 5) sc_l_reel.nd rfl (.inl rfl)) (pss_cons (ps_set (i := 3) sc_l_reel.nd rfl (.inl rfl) (pe_op op_mod (pe_op op_add (pe_op op_add (pe_op op_add (pe_op op_mul (pv 3) (pv 3)) (pe_op op_mul pe_int (pv 3))) (pe_op op_mul pe_int (pv 5))) pe_int) pe_int))
      (pss_one (ps_set (i := 4) sc_l_reel.nd rfl (.inl rfl) (pe_op op_add (pe_op op_mul (pv 4) pe_int) (pv 3))))))
      (pss_one (ps_ret (pe_lst (pa_cons (pv 4) pa_nil)))))))))), ?_⟩
    have b64 : ∀ x : Int, 0 ≤ x → x < 2147483399 → -(2 ^ 64) < x ∧ x < 2 ^ 64 := fun x h0 h1 => ⟨by omega, by omega⟩
    have em : ∀ x : Int, 0 ≤ x % 2147483399 ∧ x % 2147483399 < 2147483399 := fun x => ⟨Int.emod_nonneg _ (by decide), Int.emod_lt_of_pos _ (by decide)⟩
    refine ⟨.int k, rfl, 7, k, rfl, rfl, .inl ⟨by decide, by decide⟩, _, 4, rfl, rfl, ?_⟩
    refine ⟨fun σ H' => ∃ num : Int, σ = [some (.ref a), some (.int k), some (.int num), none, none, none] ∧ H' = H, ?_, ?_⟩
    · refine ⟨.int k, rfl, .ref a, rfl, a, _, rfl, .inl hS, _, _, rfl, rfl, _, rfl, ite2 (fun e => ?_) (fun e => ?_)⟩
      · have e1 : (k : Int) < ((ns.map V.int).length : Nat) := of_decide_eq_true e
        have e2 : k < ns.length := by
          rw [List.length_map] at e1
          omega
        refine ⟨.ref a, rfl, .int k, rfl, a, _, _, .int ns[k], rfl, rfl, hS, atI_nat (by rw [List.getElem?_map, List.getElem?_eq_getElem e2]; rfl), ?_⟩
        exact ⟨_, rfl, rfl⟩
      · exact ⟨_, rfl, rfl⟩
    · intro σ1 H1 hM
      obtain ⟨num, rfl, rfl⟩ := hM
      refine ⟨.int num, rfl, num, 5, rfl, rfl, (by show (0 : Int) < 5; decide), rfl, _, rfl, ite2 (fun e => ?_) (fun e => ?_)⟩
      · refine ⟨.int num, rfl, num, 5, rfl, rfl, ⟨by decide, by decide⟩, (by show 1 ≤ sizeLine; decide), fun p np => ?_⟩
        exact q _ p np
      · refine ⟨.int num, rfl, num, 2147483399, rfl, rfl, (by show (0 : Int) < 2147483399; decide), _, 50021, rfl, rfl, .inl (b64 _ (em _).1 (em _).2), .int k, rfl, 977, k, rfl, rfl, .inl ⟨by decide, by decide⟩, _, _, rfl, rfl, _, 31, rfl, rfl, _, 2147483399, rfl, rfl, (by show (0 : Int) < 2147483399; decide), ?_⟩
        refine ⟨60, rfl, by decide, by decide, for_range (fun i σ H' => ∃ (st fo : Int) (y : Option V), σ = [some (.ref a), some (.int k), some (.int num), some (.int st), some (.int fo), y] ∧ 0 ≤ st ∧ st < 2147483399 ∧ H' = H1) ⟨_, 0, none, rfl, (em _).1, (em _).2, rfl⟩ (fun i σ H' hi hP => ?_) (fun σ H' hP => ?_)⟩
        · obtain ⟨st, fo, y, rfl, s0, s1, rfl⟩ := hP
          refine ⟨.int st, rfl, .int st, rfl, st, st, rfl, rfl, .inl (b64 _ s0 s1), .int st, rfl, 60013, st, rfl, rfl, .inl ⟨by decide, by decide⟩, _, _, rfl, rfl, _, rfl, 29, _, rfl, rfl, .inl ⟨by decide, by decide⟩, _, _, rfl, rfl, _, 5, rfl, rfl, _, 2147483399, rfl, rfl, (by show (0 : Int) < 2147483399; decide), ?_⟩
          refine ⟨.int fo, rfl, fo, 2147483399, rfl, rfl, .inr ⟨by decide, by decide⟩, _, rfl, _, _, rfl, rfl, ?_⟩
          exact ⟨_, _, _, rfl, (em _).1, (em _).2, rfl⟩
        · obtain ⟨st, fo, y, rfl, s0, s1, rfl⟩ := hP
          refine ⟨.int fo, rfl, (by show 1 ≤ sizeLine; decide), fun p np => ?_⟩
          exact q _ p np
/-! ### _law_pick -/
def spPick (K : PySem.W.Frag) : Sp := fun vs H Q _ => ∃ (r : Addr) (n m : Int), vs = [.ref r, .int m] ∧ H r = some (.lst [.int n]) ∧ 0 < m ∧ m < 1073741824 ∧ ∀ (d n' : Int), 0 ≤ d → d < m → Q (.int d) (upd H r (.lst [.int n']))
theorem ok_pick (T : Tx K mg Z) : FnOk P w K mg base CX0 1 Z.f_l_pick Z.d_l_pick ["reel", "many"] (spPick K) := by
  refine T.F_l_pick.ok sc_l_pick (fun vs H Q E h => ?_) (fun cdv A outer s H vs Q E hr h => ?_)
  · obtain ⟨a, n, m, rfl, _⟩ := h
    rfl
  · obtain ⟨r, n, m, rfl, hS, h0, h1, q⟩ := h
    refine ⟨_, (pss_cons (ps_set (i := 2) sc_l_pick.nd rfl (.inl rfl) (pe_op op_mod (pe_ix (ixL K) (pv 0) pe_int (fun _ _ => rfl)) (pv 1)))
      (pss_cons (ps_asg (pe_op op_fdiv (pe_ix (ixL K) (pv 0) pe_int (fun _ _ => rfl)) (pv 1)) (pg_sub (pv 0) pe_int set_list))
      (pss_one (ps_ret (pv 2))))), ?_⟩
    refine ⟨.ref r, rfl, r, [.int n], 0, .int n, rfl, rfl, .inl (.inl hS), rfl, .int m, rfl, n, m, rfl, rfl, h0, ?_⟩
    refine ⟨.ref r, rfl, r, [.int n], 0, .int n, rfl, rfl, .inl (.inl hS), rfl, .int m, rfl, n, m, rfl, rfl, ⟨h0, h1⟩, ?_⟩
    refine ⟨.ref r, rfl, r, [.int n], 0, 0, rfl, rfl, hS, rfl, _, rfl, ?_⟩
    exact q _ _ (Int.emod_nonneg _ (by omega)) (Int.emod_lt_of_pos _ h0)
/-! ### _law_columns -/
def alpha : List Nat := [97, 98, 99, 100, 101, 102, 103, 104, 105, 106, 107, 108, 109, 110, 111, 112, 113, 114, 115, 116, 117, 118, 119, 120, 121, 122]
def spColumns (K : PySem.W.Frag) : Sp := fun vs H Q _ => ∃ (r : Addr) (n : Int) (m : Nat), vs = [.ref r, .int m] ∧ H r = some (.lst [.int n]) ∧ m ≤ 26 ∧ ∀ (l : List Nat) (n' : Int) (H' : Hp), Kp r H H' → H' r = some (.lst [.int n']) → Cols l → l.length = m → Q (tx l) H'
theorem ok_columns (T : Tx K mg Z) : FnOk P w K mg base CX0 2 Z.f_l_columns Z.d_l_columns ["reel", "many"] (spColumns K) := by
  have G_l_pick : FnOk P w K mg base CX0 1 Z.f_l_pick Z.d_l_pick ["reel", "many"] (spPick K) := ok_pick T
  refine T.F_l_columns.ok sc_l_columns (fun vs H Q E h => ?_) (fun cdv A outer s H vs Q E hr h => ?_)
  · obtain ⟨r, n, m, rfl, _⟩ := h
    rfl
  · obtain ⟨r, n, m, rfl, hR, hm, q⟩ := h
    refine ⟨_, (pss_cons (ps_set (i := 2) sc_l_columns.nd rfl (.inl rfl) (pe_callTy call_list_txt (by rfl) T.m_list (by decide +kernel) (pa_cons pe_str pa_nil)))
      (pss_cons (ps_set (i := 3) sc_l_columns.nd rfl (.inl rfl) (pe_lst pa_nil))
      (pss_cons (ps_for PassesOwn.never rfl (pi_range1 (by rfl) T.m_range (pa_cons (pv 1) pa_nil)) (pg_name (i := 4) sc_l_columns.nd rfl (.inl rfl)) (pss_one (ps_expr (bmK K PySem.F.plainAttrs_list PySem.F.slot_list_append PySem.F.type_list_append mt_append (pv 3) (pa_cons (bmK K PySem.F.plainAttrs_list PySem.F.slot_list_pop PySem.F.type_list_pop mt_popAt (pv 2) (pa_cons (pe_call G_l_pick (hr.mono (by omega)) (by rfl) T.g_l_pick T.F_l_pick.kp T.b_l_pick .nil pass0 (pa_cons (pv 0) (pa_cons (pe_callB (cLenSq K) (by rfl) T.m_len (by decide +kernel) (pa_cons (pv 2) pa_nil)) pa_nil))) pa_nil)) pa_nil)))))
      (pss_one (ps_ret (pe_join pe_str (pe_callB cr_sortedS (by rfl) T.m_sorted (by decide +kernel) (pa_cons (pv 3) pa_nil)))))))), ?_⟩
    have ea : (Str.ofString "abcdefghijklmnopqrstuvwxyz").cps.toList = alpha := by decide +kernel
    refine ⟨_, rfl, (by decide +kernel), fun L nL => ?_⟩
    rw [ea]
    refine ⟨Nat.zero_le _, fun F nF => ?_⟩
    have nFL : F ≠ L := fun e => by
      rw [e, upd_same] at nF
      cases nF
    have nF0 : H F = none := by
      rw [upd_ne nFL] at nF
      exact nF
    have nLr : L ≠ r := (ne_of_none hR nL).symm
    have nFr : F ≠ r := (ne_of_none hR nF0).symm
    refine ⟨.int m, rfl, m, rfl, by omega, by omega, for_range (fun i σ H' => ∃ (ll ff : List Nat) (n' : Int) (y : Option V), σ = [some (.ref r), some (.int m), some (.ref L), some (.ref F), y] ∧ Kp r H H' ∧ H' r = some (.lst [.int n']) ∧ H' L = some (.lst (ll.map sg)) ∧ H' F = some (.lst (ff.map sg)) ∧ (ll ++ ff).Perm alpha ∧ ff.length = i)
      ⟨alpha, [], n, none, rfl, ?_, ?_, ?_, ?_, ?_, rfl⟩ (fun i σ H' hi hP => ?_) (fun σ H' hP => ?_)⟩
    · exact (Kp.new Kp.rfl' nL).new nF
    · rw [upd_ne nFr.symm, upd_ne nLr.symm]
      exact hR
    · rw [upd_ne nFL.symm, upd_same]
    · rw [upd_same]
      rfl
    · rw [List.append_nil]
    · obtain ⟨ll, ff, n1, y, rfl, kp, hR1, hL, hF, hp, hl⟩ := hP
      have hlen : ll.length + ff.length = 26 := by
        have := hp.length_eq
        rw [List.length_append] at this
        exact this
      have hll : 0 < ll.length := by
        have : i < m := by omega
        omega
      refine ⟨.ref F, rfl, .inl ⟨rfl, _, .inl (.inl hF)⟩, .ref L, rfl, .inl ⟨rfl, _, .inl (.inl hL)⟩, .ref r, rfl, .ref L, rfl, L, _, rfl, .inl (.inl (.inl hL)), r, n1, _, rfl, hR1, ?_, ?_, fun d n2 d0 d1 => ?_⟩
      · rw [List.length_map]
        omega
      · rw [List.length_map]
        omega
      · rw [List.length_map] at d1
        have hd : d.toNat < ll.length := by omega
        have hL2 : (upd H' r (.lst [.int n2])) L = some (.lst (ll.map sg)) := by
          rw [upd_ne nLr]
          exact hL
        have hF2 : (upd (upd H' r (.lst [.int n2])) L (.lst ((ll.map sg).eraseIdx d.toNat))) F = some (.lst (ff.map sg)) := by
          rw [upd_ne nFL, upd_ne nFr]
          exact hF
        have hy : ll[d.toNat]? = some ll[d.toNat] := List.getElem?_eq_getElem hd
        refine ⟨L, _, d, d.toNat, sg ll[d.toNat], rfl, rfl, hL2, by omega, by omega, PySem.seqIndex_of d0 (by rw [List.length_map]; exact d1), ?_, F, _, _, rfl, rfl, hF2, ?_, ?_⟩
        · rw [List.getElem?_map, hy]
          rfl
        · rw [List.length_map]
          exact small1000 (by omega)
        · refine ⟨ll.eraseIdx d.toNat, ff ++ [ll[d.toNat]], n2, _, rfl, ?_, ?_, ?_, ?_, (popped hy ff).trans hp, by rw [List.length_append, hl]; rfl⟩
          · exact ((Kp.own kp).mut nL).mut nF0
          · rw [upd_ne nFr.symm, upd_ne nLr.symm, upd_same]
          · rw [upd_ne nFL.symm, upd_same, erase_map]
          · rw [upd_same, List.map_append]
            rfl
    · obtain ⟨ll, ff, n1, y, rfl, kp, hR1, hL, hF, hp, hl⟩ := hP
      have hm2 : ff.length = m := by
        rw [hl]
        omega
      refine ⟨⟨_, rfl⟩, .ref F, rfl, F, ff.map sS, rfl, .inl (.inl (by rw [← map_sg]; exact hF)), by rw [List.length_map]; omega, fun ys p hys hso np => ?_⟩
      obtain ⟨l, rfl, pl⟩ := perm_signs hys
      have ndA : (ll ++ ff).Nodup := hp.nodup_iff.mpr (by decide)
      have ndf : ff.Nodup := (List.nodup_append.mp ndA).2.1
      have ndl : l.Nodup := pl.nodup_iff.mpr ndf
      refine ⟨_, p, _, rfl, rfl, .inl (.inl (.inl upd_same)), ?_, ?_⟩
      · have e1 : (Str.ofString "").length = 0 := by decide +kernel
        rw [e1, Nat.mul_zero, Nat.add_zero, List.map_map]
        have e2 : ∀ k : List Nat, (k.map ((fun x : Str => x.length) ∘ sS)).sum = k.length := fun k => by
          induction k with
          | nil => rfl
          | cons a k ih =>
            rw [List.map_cons, List.sum_cons, ih, List.length_cons]
            show 1 + k.length = k.length + 1
            omega
        rw [e2, pl.length_eq]
        omega
      · rw [join_signs]
        refine q l n1 _ (kp.new np) ?_ ⟨strict_of (sorted_signs l hso) ndl, fun c hc => ?_⟩ (by rw [pl.length_eq]; exact hm2)
        · rw [upd_ne (ne_of_none hR1 np)]
          exact hR1
        · have hc2 : c ∈ alpha := hp.mem_iff.mp (List.mem_append_right _ (pl.mem_iff.mp hc))
          have : ∀ c ∈ alpha, 97 ≤ c ∧ c ≤ 122 := by decide
          exact this c hc2

/-! ### _law_table -/
def spTable (K : PySem.W.Frag) : Sp := fun vs H Q _ => ∃ (r : Addr) (n : Int) (most rn : Nat), vs = [.ref r, .int most, .int rn] ∧ H r = some (.lst [.int n]) ∧ 1 ≤ most ∧ most ≤ 26 ∧ rn ≤ 1000 ∧
  ∀ (cols : List Nat) (rows : List (List Int)) (v : V) (n' : Int) (H' : Hp), Kp r H H' → H' r = some (.lst [.int n']) → Fz H' v (tabD cols rows) → Cols cols → 1 ≤ cols.length → cols.length ≤ most → RowsOk cols.length rows → rows.length ≤ rn → Q v H'
theorem ok_table (T : Tx K mg Z) : FnOk P w K mg base CX0 3 Z.f_l_table Z.d_l_table ["reel", "most", "rows"] (spTable K) := by
  have G_l_pick : FnOk P w K mg base CX0 1 Z.f_l_pick Z.d_l_pick ["reel", "many"] (spPick K) := ok_pick T
  have G_l_columns : FnOk P w K mg base CX0 2 Z.f_l_columns Z.d_l_columns ["reel", "many"] (spColumns K) := ok_columns T
  refine T.F_l_table.ok sc_l_table (fun vs H Q E h => ?_) (fun cdv A outer s H vs Q E hr h => ?_)
  · obtain ⟨r, n, most, rn, rfl, _⟩ := h
    rfl
  · obtain ⟨r, n, most, rn, rfl, hR, hm1, hm2, hrn, q⟩ := h
    refine ⟨_, (pss_cons (ps_set (i := 3) sc_l_table.nd rfl (.inl rfl) (pe_call G_l_columns (hr.mono (by omega)) (by rfl) T.g_l_columns T.F_l_columns.kp T.b_l_columns .nil pass0 (pa_cons (pv 0) (pa_cons (pe_op op_add pe_int (pe_call G_l_pick (hr.mono (by omega)) (by rfl) T.g_l_pick T.F_l_pick.kp T.b_l_pick .nil pass0 (pa_cons (pv 0) (pa_cons (pv 1) pa_nil)))) pa_nil))))
      (pss_cons (ps_set (i := 4) sc_l_table.nd rfl (.inr rfl) (pe_lc (own := [("letter", 6)]) (tt := tYes) (by rfl) sc_l_table.nd (pi_str (pv 3)) (blkOk_by (own := [("letter", 6)]) (by kernel_rfl)) (fun _ _ _ _ _ => (pg_name (i := 6) sc_l_table.nd rfl (.inl rfl))) (fun _ _ _ _ _ => pts_nil) (fun _ _ _ _ _ => (pe_ix (ixL K) (pe_lst (pa_cons pe_int (pa_cons pe_int (pa_cons pe_int (pa_cons pe_int pa_nil))))) (pe_call G_l_pick (hr.mono (by omega)) (by rfl) T.g_l_pick T.F_l_pick.kp T.b_l_pick .nil pass0 (pa_cons (pv 0) (pa_cons pe_int pa_nil))) (fun _ _ => rfl)))))
      (pss_cons (ps_set (i := 5) sc_l_table.nd rfl (.inl rfl) (pe_call G_l_pick (hr.mono (by omega)) (by rfl) T.g_l_pick T.F_l_pick.kp T.b_l_pick .nil pass0 (pa_cons (pv 0) (pa_cons (pe_op op_add (pv 2) pe_int) pa_nil))))
      (pss_one (ps_ret (pe_tup (pa_cons (pv 3) (pa_cons (pe_callTy (cTupSq K) (by rfl) T.m_tuple (by decide +kernel) (pa_cons (pe_lc (own := [("k", 7)]) (tt := tYes) (by rfl) sc_l_table.nd (pi_range1 (by rfl) T.m_range (pa_cons (pv 5) pa_nil)) (blkOk_by (own := [("k", 7)]) (by kernel_rfl)) (fun _ _ _ _ _ => (pg_name (i := 7) sc_l_table.nd rfl (.inl rfl))) (fun _ _ _ _ _ => pts_nil) (fun _ _ _ _ _ => (pe_callTy (cTupSq K) (by rfl) T.m_tuple (by decide +kernel) (pa_cons (pe_lc (own := [("top", 8)]) (tt := tYes) (by rfl) sc_l_table.nd (piL K (pv 4)) (blkOk_by (own := [("top", 8)]) (by kernel_rfl)) (fun _ _ _ _ _ => (pg_name (i := 8) sc_l_table.nd rfl (.inl rfl))) (fun _ _ _ _ _ => pts_nil) (fun _ _ _ _ _ => (pe_call G_l_pick (hr.mono (by omega)) (by rfl) T.g_l_pick T.F_l_pick.kp T.b_l_pick .nil pass0 (pa_cons (pv 0) (pa_cons (pv 8) pa_nil))))) pa_nil)))) pa_nil)) pa_nil)))))))), ?_⟩
    -- columns
    refine ⟨.ref r, rfl, .ref r, rfl, .int most, rfl, r, n, most, rfl, hR, by omega, by omega, fun d n1 d0 d1 => ?_⟩
    have hR1 : (upd H r (.lst [.int n1])) r = some (.lst [.int n1]) := upd_same
    refine ⟨1, d, rfl, rfl, r, n1, (1 + d).toNat, by rw [Int.toNat_of_nonneg (by omega)]; rfl, hR1, by omega, fun cols n2 H2 kp2 hR2 hc hl => ?_⟩
    have hkp2 : Kp r H H2 := (Kp.own Kp.rfl').trans kp2
    -- tops
    refine ⟨tx cols, rfl, _, rfl, fun D nD => lc_it walk_str (fun i H' => ∃ (ts : List Int) (n3 : Int), Kp r H2 H' ∧ H' r = some (.lst [.int n3]) ∧ H' D = some (.lst (ts.map V.int)) ∧ ts.length = i ∧ ∀ t ∈ ts, 0 < t ∧ t ≤ 1000)
      ⟨[], n2, Kp.rfl'.new nD, by rw [upd_ne (ne_of_none hR2 nD)]; exact hR2, upd_same, rfl, fun t ht => nomatch ht⟩ (fun _ _ _ _ => trivial) (fun i x H3 H4 hi hP hY => ?_) (fun H3 hP => ?_)⟩
    · obtain ⟨ts, n3, kp3, hR3, hD3, hl3, ht3⟩ := hP
      obtain ⟨rfl, c, hc4, rfl⟩ := hY
      have nDr : D ≠ r := (ne_of_none hR2 nD).symm
      refine ⟨rfl, (by show 4 ≤ sizeLine; decide), fun L nL => ?_⟩
      have nLr : L ≠ r := (ne_of_none hR3 nL).symm
      have nLD : L ≠ D := (ne_of_none hD3 nL).symm
      have hR4 : (upd H4 L (.lst [.int 2, .int 2, .int 4, .int 1000])) r = some (.lst [.int n3]) := by
        rw [upd_ne nLr.symm]
        exact hR3
      refine ⟨.ref r, rfl, r, n3, 4, rfl, hR4, by decide, by decide, fun e n4 e0 e1 => ?_⟩
      obtain ⟨t, ht, hat⟩ := at_ints (ns := [2, 2, 4, 1000]) e0 e1
      refine ⟨L, [2, 2, 4, 1000].map V.int, e, .int t, rfl, rfl, .inl (.inl ?_), hat, ts.map V.int, ?_, ?_, ts ++ [t], n4, ?_, ?_, ?_, ?_, ?_⟩
      · rw [upd_ne nLr, upd_same]
        rfl
      · rw [upd_ne nDr, upd_ne nLD.symm]
        exact hD3
      · rw [List.length_map, hl3]
        have hi2 : i < cols.length := hi
        exact small1000 (by omega)
      · exact ((kp3.new nL).own).mut nD
      · rw [upd_ne nDr.symm, upd_same]
      · rw [upd_same, List.map_append]
        rfl
      · rw [List.length_append, hl3]
        rfl
      · intro u hu
        rcases List.mem_append.mp hu with hu | hu
        · exact ht3 u hu
        · have : ∀ z ∈ ([2, 2, 4, 1000] : List Int), 0 < z ∧ z ≤ 1000 := by decide
          rw [List.mem_singleton.mp hu]
          exact this t ht
    · obtain ⟨ts, n3, kp3, hR3, hD3, hl3, ht3⟩ := hP
      have hlt : ts.length = cols.length := hl3
      -- many
      refine ⟨.ref r, rfl, .int rn, rfl, rn, 1, rfl, rfl, r, n3, _, rfl, hR3, by omega, by omega, fun m n4 m0 m1 => ?_⟩
      have nDr : D ≠ r := (ne_of_none hR2 nD).symm
      have hD4 : (upd H3 r (.lst [.int n4])) D = some (.lst (ts.map V.int)) := by
        rw [upd_ne nDr]
        exact hD3
      have kp4 : Kp r H (upd H3 r (.lst [.int n4])) := (hkp2.trans kp3).own
      -- the rows
      refine ⟨tx cols, rfl, .int m, rfl, m, rfl, by omega, by omega, fun D2 nD2 => lc_range (fun i H' => ∃ (rows : List (List Int)) (vs : List V) (n5 : Int), Kp r H H' ∧ H' r = some (.lst [.int n5]) ∧ H' D = some (.lst (ts.map V.int)) ∧ H' D2 = some (.lst vs) ∧ FzA H' vs (rows.map rowD) ∧ RowsOk cols.length rows ∧ rows.length = i)
        ⟨[], [], n4, kp4.new nD2, ?_, ?_, upd_same, .nil, (fun _ h => nomatch h), rfl⟩ (fun i H5 hi hP => ?_) (fun H5 hP => ?_)⟩
      · rw [upd_ne (ne_of_none upd_same nD2)]
        exact upd_same
      · rw [upd_ne (ne_of_none hD4 nD2)]
        exact hD4
      · obtain ⟨rows, vs, n5, kp5, hR5, hD5, hD25, hF5, hok, hln⟩ := hP
        have nD2r : D2 ≠ r := (ne_of_none (upd_same (H := H3)) nD2).symm
        have nD2D : D2 ≠ D := (ne_of_none hD4 nD2).symm
        have nD2H : H D2 = none := Kp.none kp4 nD2r nD2
        have nDH : H D = none := Kp.none hkp2 nDr nD
        -- one row
        refine ⟨rfl, .ref D, rfl, D, rfl, ⟨_, .inl (.inl hD5)⟩, fun D3 nD3 => lc_list (xs := ts.map V.int) (fun j H' => ∃ (row : List Int) (n6 : Int), Kp r H5 H' ∧ H' r = some (.lst [.int n6]) ∧ H' D3 = some (.lst (row.map V.int)) ∧ row.length = j ∧ ∀ x ∈ row, 0 ≤ x ∧ x < 1000)
          ⟨[], n5, Kp.rfl'.new nD3, ?_, upd_same, rfl, fun _ h => nomatch h⟩ (fun j H' _ hP => ?_) (fun j x H6 hx hP => ?_) (fun H6 hP => ?_)⟩
        · rw [upd_ne (ne_of_none hR5 nD3)]
          exact hR5
        · obtain ⟨row, n6, kp6, _⟩ := hP
          exact .inl (.inl (kp6 D _ nDr hD5))
        · obtain ⟨row, n6, kp6, hR6, hD6, hl6, hx6⟩ := hP
          have nD3r : D3 ≠ r := (ne_of_none hR5 nD3).symm
          rw [List.getElem?_map] at hx
          obtain ⟨t, ht, rfl⟩ := Option.map_eq_some_iff.mp hx
          have tm : t ∈ ts := List.mem_of_getElem? ht
          have hj : j < ts.length := (List.getElem?_eq_some_iff.mp ht).1
          refine ⟨rfl, .ref r, rfl, .int t, rfl, r, n6, t, rfl, hR6, (ht3 t tm).1, by have := (ht3 t tm).2; omega, fun e n7 e0 e1 => ?_⟩
          refine ⟨row.map V.int, ?_, ?_, row ++ [e], n7, (kp6.own).mut nD3, ?_, ?_, ?_, ?_⟩
          · rw [upd_ne nD3r]
            exact hD6
          · rw [List.length_map]
            exact small1000 (by omega)
          · rw [upd_ne nD3r.symm, upd_same]
          · rw [upd_same, List.map_append]
            rfl
          · rw [List.length_append, hl6]
            rfl
          · intro u hu
            rcases List.mem_append.mp hu with hu | hu
            · exact hx6 u hu
            · rw [List.mem_singleton.mp hu]
              have := (ht3 t tm).2
              exact ⟨e0, by omega⟩
        · obtain ⟨row, n6, kp6, hR6, hD6, hl6, hx6⟩ := hP
          rw [List.length_map] at hl6
          refine ⟨D3, row.map V.int, rfl, .inl ⟨.inl (.inl hD6), fun t nt => ?_⟩⟩
          have hD26 : H6 D2 = some (.lst vs) := kp6 D2 _ nD2r hD25
          have hD62 : H6 D = some (.lst (ts.map V.int)) := kp6 D _ nDr hD5
          have ntD2 : t ≠ D2 := (ne_of_none hD26 nt).symm
          have kt : Kt H5 H6 := kp6.kt hR5
          have kt2 : Kt H6 (upd H6 t (.tup (row.map V.int))) := .new nt
          have hD27 : (upd H6 t (.tup (row.map V.int))) D2 = some (.lst vs) := by
            rw [upd_ne ntD2.symm]
            exact hD26
          refine ⟨vs, hD27, ?_, rows ++ [row], vs ++ [.ref t], n6, ?_, ?_, ?_, upd_same, ?_, ?_, by rw [List.length_append, hln]; rfl⟩
          · rw [hF5.len, List.length_map]
            exact small1000 (by omega)
          · exact ((kp5.trans kp6).new nt).mut nD2H
          · rw [upd_ne nD2r.symm, upd_ne (ne_of_none hR6 nt)]
            exact hR6
          · rw [upd_ne nD2D.symm, upd_ne (ne_of_none hD62 nt)]
            exact hD62
          · rw [List.map_append]
            exact (FzA.snoc ((hF5.kt kt).kt kt2) (row_made nt)).kt (.lst hD27)
          · intro x hx
            rcases List.mem_append.mp hx with hx | hx
            · exact hok x hx
            · rw [List.mem_singleton.mp hx]
              exact ⟨hl6.trans hlt, hx6⟩
      · obtain ⟨rows, vs, n5, kp5, hR5, hD5, hD25, hF5, hok, hln⟩ := hP
        refine ⟨D2, vs, rfl, .inl ⟨.inl (.inl hD25), fun R nR => ⟨(by show 2 ≤ sizeLine; decide), fun t nt => ?_⟩⟩⟩
        have f1 : Fz (upd H5 R (.tup vs)) (.ref R) (rowsD rows) := Fz.made nR hF5
        refine q cols rows (.ref t) n5 _ ((kp5.new nR).new nt) ?_ (Fz.made nt (.cons (.str _) (.cons f1 .nil))) hc (by omega) (by omega) hok (by omega)
        rw [upd_ne (ne_of_none (by rw [upd_ne (ne_of_none hR5 nR)]; exact hR5) nt), upd_ne (ne_of_none hR5 nR)]
        exact hR5

/-! ### _law_one -/
def spOne (K : PySem.W.Frag) : Sp := fun vs H Q _ => ∃ (r : Addr) (n : Int) (cols : List Nat), vs = [.ref r, tx cols] ∧ H r = some (.lst [.int n]) ∧ 0 < cols.length ∧ cols.length ≤ 26 ∧ ∀ (one rest : List Nat) (n' : Int) (H' : Hp), Kp r H H' → H' r = some (.lst [.int n']) → (rest ++ one).Perm cols → 0 < one.length → Q (tx one) H'
theorem ok_one (T : Tx K mg Z) : FnOk P w K mg base CX0 2 Z.f_l_one Z.d_l_one ["reel", "columns"] (spOne K) := by
  have G_l_pick : FnOk P w K mg base CX0 1 Z.f_l_pick Z.d_l_pick ["reel", "many"] (spPick K) := ok_pick T
  refine T.F_l_one.ok sc_l_one (fun vs H Q E h => ?_) (fun cdv A outer s H vs Q E hr h => ?_)
  · obtain ⟨r, n, cols, rfl, _⟩ := h
    rfl
  · obtain ⟨r, n, cols, rfl, hR, hc0, hc1, q⟩ := h
    refine ⟨_, (pss_cons (ps_set (i := 2) sc_l_one.nd rfl (.inl rfl) (pe_callTy call_list_txt (by rfl) T.m_list (by decide +kernel) (pa_cons (pv 1) pa_nil)))
      (pss_cons (ps_set (i := 3) sc_l_one.nd rfl (.inl rfl) pe_str)
      (pss_cons (ps_for PassesOwn.never rfl (pi_range1 (by rfl) T.m_range (pa_cons (pe_op op_add pe_int (pe_call G_l_pick (hr.mono (by omega)) (by rfl) T.g_l_pick T.F_l_pick.kp T.b_l_pick .nil pass0 (pa_cons (pv 0) (pa_cons (pe_callB call_len_str (by rfl) T.m_len (by decide +kernel) (pa_cons (pv 1) pa_nil)) pa_nil)))) pa_nil)) (pg_name (i := 4) sc_l_one.nd rfl (.inl rfl)) (pss_one (ps_set (i := 3) sc_l_one.nd rfl (.inl rfl) (pe_op op_add_str (pv 3) (bmK K PySem.F.plainAttrs_list PySem.F.slot_list_pop PySem.F.type_list_pop mt_popAt (pv 2) (pa_cons (pe_call G_l_pick (hr.mono (by omega)) (by rfl) T.g_l_pick T.F_l_pick.kp T.b_l_pick .nil pass0 (pa_cons (pv 0) (pa_cons (pe_callB (cLenSq K) (by rfl) T.m_len (by decide +kernel) (pa_cons (pv 2) pa_nil)) pa_nil))) pa_nil))))))
      (pss_one (ps_ret (pv 3)))))), ?_⟩
    refine ⟨tx cols, rfl, _, rfl, by show cols.length ≤ sizeLine; exact Nat.le_of_lt (small1000 (by omega)), fun L nL => ?_⟩
    have ea : (⟨cols.toArray⟩ : Str).cps.toList = cols := by simp
    rw [ea]
    have nLr : L ≠ r := (ne_of_none hR nL).symm
    have hR1 : (upd H L (.lst (cols.map sg))) r = some (.lst [.int n]) := keep_new hR nL
    have hlc : (⟨cols.toArray⟩ : Str).length = cols.length := by
      show cols.toArray.size = cols.length
      simp
    refine ⟨.ref r, rfl, tx cols, rfl, _, rfl, by rw [hlc]; exact Nat.le_of_lt (small1000 (by omega)), r, n, _, rfl, hR1, by rw [hlc]; omega, by rw [hlc]; omega, fun d n1 d0 d1 => ?_⟩
    rw [hlc] at d1
    refine ⟨1, d, rfl, rfl, _, rfl, by omega, by omega, ?_⟩
    refine for_range (fun i σ H' => ∃ (ll ff : List Nat) (n' : Int) (y : Option V), σ = [some (.ref r), some (tx cols), some (.ref L), some (tx ff), y] ∧ Kp r H H' ∧ H' r = some (.lst [.int n']) ∧ H' L = some (.lst (ll.map sg)) ∧ (ll ++ ff).Perm cols ∧ ff.length = i)
      ⟨cols, [], n1, none, rfl, (Kp.new Kp.rfl' nL).own, upd_same, ?_, by rw [List.append_nil], rfl⟩ (fun i σ H' hi hP => ?_) (fun σ H' hP => ?_)
    · rw [upd_ne nLr, upd_same]
    · obtain ⟨ll, ff, n2, y, rfl, kp, hR2, hL, hp, hl⟩ := hP
      have hlen : ll.length + ff.length = cols.length := by
        have := hp.length_eq
        rw [List.length_append] at this
        exact this
      have hll : 0 < ll.length := by omega
      refine ⟨tx ff, rfl, .ref L, rfl, .inl ⟨rfl, _, .inl (.inl hL)⟩, .ref r, rfl, .ref L, rfl, L, _, rfl, .inl (.inl (.inl hL)), r, n2, _, rfl, hR2, ?_, ?_, fun g n3 g0 g1 => ?_⟩
      · rw [List.length_map]
        omega
      · rw [List.length_map]
        omega
      · rw [List.length_map] at g1
        have hg : g.toNat < ll.length := by omega
        have hL2 : (upd H' r (.lst [.int n3])) L = some (.lst (ll.map sg)) := by
          rw [upd_ne nLr]
          exact hL
        have hy : ll[g.toNat]? = some ll[g.toNat] := List.getElem?_eq_getElem hg
        refine ⟨L, _, g, g.toNat, sg ll[g.toNat], rfl, rfl, hL2, by omega, by omega, PySem.seqIndex_of g0 (by rw [List.length_map]; exact g1), ?_, _, _, rfl, rfl, ?_, ?_⟩
        · rw [List.getElem?_map, hy]
          rfl
        · show ff.length + 1 ≤ sizeLine
          exact Nat.le_of_lt (small1000 (by omega))
        · refine ⟨ll.eraseIdx g.toNat, ff ++ [ll[g.toNat]], n3, some (.int (0 + (i : Nat))), ?_, (Kp.own kp).mut nL, ?_, ?_, (popped hy ff).trans hp, by rw [List.length_append, hl]; rfl⟩
          · have e1 : tx (ff ++ [ll[g.toNat]]) = .str ((⟨ff.toArray⟩ : Str) ++ (⟨[ll[g.toNat]].toArray⟩ : Str)) := by
              rw [app_txt]
            rw [e1]
            rfl
          · rw [upd_ne nLr.symm, upd_same]
          · rw [upd_same, erase_map]
    · obtain ⟨ll, ff, n2, y, rfl, kp, hR2, hL, hp, hl⟩ := hP
      exact ⟨_, rfl, q ff ll n2 _ kp hR2 hp (by omega)⟩

/-! ### picked -/
def spPicked (K : PySem.W.Frag) (Z : Ad) : Sp := fun vs H Q _ => ∃ (cols : List Nat) (rv : V) (row : List Int) (ls : List Nat), vs = [tx cols, rv, tx ls] ∧ TG Z.Ps H ∧ Fz H rv (rowD row) ∧ row.length = cols.length ∧ (∀ c ∈ ls, c ∈ cols) ∧ ls.length ≤ 1000 ∧
  ∀ (p : Addr) (H' : Hp), Sx Z.Ps H H' → TG Z.Ps H' → H p = none → H' p = some (.tup ((keyM cols row ls).map V.int)) → Q (.ref p) H'
theorem ok_picked (T : Tx K mg Z) (TB : Tb base mg Z) : FnOk P w K mg base CX0 1 Z.f_picked Z.d_picked ["columns", "row", "letters"] (spPicked K Z) := by
  refine T.C_picked.ok sc_picked (fun vs H Q E h => ?_) (fun A outer s H vs Q E hr h => ?_)
  · obtain ⟨cols, rv, row, ls, rfl, _⟩ := h
    rfl
  · obtain ⟨cols, rv, row, ls, rfl, tg, fr, hrl, hls, hll, q⟩ := h
    obtain ⟨ra, rfl, hra⟩ := row_open fr
    refine ⟨_, (pss_one (ps_ret (pe_tupG (D := (DRow Z.P_picked 0 1)) hr (by rfl) T.m_tuple (TB.t_picked) rfl (genS_by (sc := defScope s_picked) (by kernel_rfl) rfl) (pv 2) (hd_row rfl rfl rfl rfl rfl rfl rfl rfl (by decide +kernel) (by decide +kernel) rfl)))), ?_⟩
    have hP : Z.P_picked ∈ Z.Ps := by simp
    have lsl : (⟨ls.toArray⟩ : Str).cps.toList = ls := by simp
    refine ⟨tx ls, rfl, (keyM cols row ls).map V.int, ⟨tg _ hP, _, cols, ra, row, rfl, Nat.le_of_lt (small1000 (show ls.length ≤ 1000 from hll)), rfl, rfl, hra, hrl, by rw [lsl]; exact hls, ?_⟩, tg _ hP, fun G2 hT p np => ?_⟩
    · rw [lsl]
      unfold keyM
      rw [List.map_map]
      rfl
    · refine q p _ ((Tabbed.sx hP hT).new np) ((Tabbed.tg tg hT).new np) ?_ upd_same
      exact Sx.free (Tabbed.tg tg hT) (Tabbed.sx hP hT) np

/-! ### sorted_by -/
def spSorted (K : PySem.W.Frag) (Z : Ad) : Sp := fun vs H Q _ => ∃ (tv : V) (cols : List Nat) (rows : List (List Int)) (one : List Nat), vs = [tv, tx one] ∧ TG Z.Ps H ∧ Fz H tv (tabD cols rows) ∧ RowsOk cols.length rows ∧ rows.length ≤ 1000 ∧ one.length ≤ 1000 ∧ (∀ c ∈ one, c ∈ cols) ∧
  ∀ (p : Addr) (H' : Hp), Sx Z.Ps H H' → TG Z.Ps H' → H p = none → H' p = some (.lst ((sortM cols rows one).map V.int)) → Q (.ref p) H'
theorem ok_sorted (T : Tx K mg Z) (TB : Tb base mg Z) : FnOk P w K mg base CX0 2 Z.f_sorted_by Z.d_sorted_by ["table", "one"] (spSorted K Z) := by
  have G_picked : FnOk P w K mg base CX0 1 Z.f_picked Z.d_picked ["columns", "row", "letters"] (spPicked K Z) := ok_picked T TB
  refine T.F_sorted_by.ok sc_sorted_by (fun vs H Q E h => ?_) (fun cdv A outer s H vs Q E hr h => ?_)
  · obtain ⟨tv, cols, rows, one, rfl, _⟩ := h
    rfl
  · obtain ⟨tv, cols, rows, one, rfl, tg, fT, hrs, hrn, hol, hoc, q⟩ := h
    obtain ⟨t, R, vs, rfl, ht, hRR, fvs⟩ := tab_open fT
    have hvl : vs.length = rows.length := by rw [fvs.len, List.length_map]
    refine ⟨_, (pss_cons (ps_asg (pv 0) (pgT K (n := 2) (pgs_cons (pg_name (i := 2) sc_sorted_by.nd rfl (.inr rfl)) (pgs_cons (pg_name (i := 3) sc_sorted_by.nd rfl (.inl rfl)) pgs_nil))))
      (pss_cons (ps_setLc (i := 4) (own := [("number", 5), ("row", 6)]) (tt := tYes) (by rfl) sc_sorted_by.nd rfl rfl (sw_true rfl rfl rfl (by decide +kernel)) (enumTK K (by rfl) T.m_enumerate (pa_cons (pv 3) pa_nil)) (blkOk_by (own := [("number", 5), ("row", 6)]) (by kernel_rfl)) (fun _ _ _ _ _ => (pgT K (n := 2) (pgs_cons (pg_name (i := 5) sc_sorted_by.nd rfl (.inl rfl)) (pgs_cons (pg_name (i := 6) sc_sorted_by.nd rfl (.inl rfl)) pgs_nil)))) (fun _ _ _ _ _ => pts_nil) (fun _ _ _ _ _ => (pe_tup (pa_cons (pe_call G_picked (hr.mono (by omega)) (by rfl) T.g_picked T.F_picked.kp T.b_picked .nil pass0 (pa_cons (pv 2) (pa_cons (pv 6) (pa_cons (pv 1) pa_nil)))) (pa_cons (pv 5) pa_nil)))))
      (pss_one (ps_ret (pe_lc (own := [("key", 7), ("number", 5)]) (tt := tYes) (by rfl) sc_sorted_by.nd (piL K (pe_callB (cSortE K hr) (by rfl) T.m_sorted (by decide +kernel) (pa_cons (pv 4) pa_nil))) (blkOk_by (own := [("key", 7), ("number", 5)]) (by kernel_rfl)) (fun _ _ _ _ _ => (pgT K (n := 2) (pgs_cons (pg_name (i := 7) sc_sorted_by.nd rfl (.inl rfl)) (pgs_cons (pg_name (i := 5) sc_sorted_by.nd rfl (.inl rfl)) pgs_nil)))) (fun _ _ _ _ _ => pts_nil) (fun _ _ _ _ _ => (pv 5))))))), ?_⟩
    refine ⟨.ref t, rfl, t, [tx cols, .ref R], rfl, .inl (.inl ht), rfl, tx cols, [.ref R], rfl, .ref R, [], rfl, rfl, ?_⟩
    refine ⟨.ref R, rfl, R, vs, rfl, .inl (.inl hRR), fun D nD => lc_it (walk_et (xs := vs)) (fun i H' => ∃ bs : List (V × Ent), Sx Z.Ps H H' ∧ TG Z.Ps H' ∧ H' D = some (.lst (bs.map (·.1))) ∧ bs.map (·.2) = (List.range i).map (entAt cols rows one) ∧ ∀ b ∈ bs, Fz H' b.1 (entD b.2))
      ⟨[], Sx.rfl'.new nD, tg.new nD, upd_same, rfl, fun b hb => nomatch hb⟩ (fun i H' _ hP => ?_) (fun i x H3 H4 hi hP hY => ?_) (fun H3 hP => ?_)⟩
    · obtain ⟨bs, sx, _⟩ := hP
      exact .inl (.inl (sx.kt tg _ _ hRR))
    · obtain ⟨bs, sx3, tg3, hD3, hb3, fb3⟩ := hP
      obtain ⟨T0, x1, x2, rfl, nT, rfl, ex1, ex2⟩ := hY
      have e1 : x1 = .int (i : Nat) := (Option.some.inj ex1).symm
      subst e1
      obtain ⟨d, hd, fd⟩ := fvs.getV ex2
      rw [List.getElem?_map] at hd
      obtain ⟨row, hrow, rfl⟩ := Option.map_eq_some_iff.mp hd
      have hi2 : i < rows.length := (List.getElem?_eq_some_iff.mp hrow).1
      have erow : rows.getD i [] = row := by rw [List.getD_eq_getElem?_getD, hrow]; rfl
      have rok := hrs row (List.mem_of_getElem? hrow)
      have hbl : bs.length = i := by
        have := congrArg List.length hb3
        rw [List.length_map, List.length_map, List.length_range] at this
        exact this
      have sx4 : Sx Z.Ps H (upd H3 T0 (.tup [.int (i : Nat), x2])) := sx3.new nT
      have tg4 : TG Z.Ps (upd H3 T0 (.tup [.int (i : Nat), x2])) := tg3.new nT
      have kt34 : Kt H3 (upd H3 T0 (.tup [.int (i : Nat), x2])) := .new nT
      have hD4 : (upd H3 T0 (.tup [.int (i : Nat), x2])) D = some (.lst (bs.map (·.1))) := keep_new hD3 nT
      have hT4 : (upd H3 T0 (.tup [.int (i : Nat), x2])) T0 = some (.tup [.int (i : Nat), x2]) := upd_same
      generalize upd H3 T0 (.tup [.int (i : Nat), x2]) = H4 at sx4 tg4 kt34 hD4 hT4 ⊢
      refine ⟨T0, [.int (i : Nat), x2], rfl, .inl (.inl hT4), rfl, .int (i : Nat), [x2], rfl, x2, [], rfl, rfl, rfl, tx cols, rfl, x2, rfl, tx one, rfl, cols, x2, row, one, rfl, tg4, fd.kt (sx4.kt tg), rok.1, hoc, hol, fun p H5 sx5 tg5 np hp => ?_⟩
      refine ⟨.int (i : Nat), rfl, (by show 2 ≤ sizeLine; decide), fun ea nea => ?_⟩
      have hD5 := sx5.lst tg4 hD4
      have hD6 : (upd H5 ea (.tup [.ref p, .int (i : Nat)])) D = some (.lst (bs.map (·.1))) := keep_new hD5 nea
      have fe : Fz (upd H5 ea (.tup [.ref p, .int (i : Nat)])) (.ref ea) (entD (entAt cols rows one i)) := by
        unfold entD entAt
        rw [erow]
        exact Fz.made nea (.cons (row_at_fz hp) (.cons (.int _) .nil))
      refine ⟨bs.map (·.1), hD6, ?_, bs ++ [(.ref ea, entAt cols rows one i)], ((sx4.trans sx5).new nea).mut nD, (tg5.new nea).mut hD6, ?_, ?_, fun b hb => ?_⟩
      · rw [List.length_map]
        exact small1000 (by omega)
      · rw [upd_same, List.map_append]
        rfl
      · rw [List.map_append, hb3, List.range_succ, List.map_append]
        rfl
      · rcases List.mem_append.mp hb with z | z
        · exact ((((fb3 b z).kt kt34).kt (sx5.kt tg4)).kt (.new nea)).kt (Kt.lst hD6)
        · rw [List.mem_singleton.mp z]
          exact fe.kt (Kt.lst hD6)
    · obtain ⟨bs, sx3, tg3, hD3, hb3, fb3⟩ := hP
      rw [hvl] at hb3
      have hbl : bs.length = rows.length := by
        have := congrArg List.length hb3
        rw [List.length_map, List.length_map, List.length_range] at this
        exact this
      refine ⟨.ref D, rfl, D, bs, rfl, .inl (.inl hD3), fb3, fun S nS => ?_⟩
      have sm4 : Same H3 (upd H3 S (.lst ((bs.mergeSort fun b c => entLe b.2 c.2).map (·.1)))) := Same.new (Same.refl H3) nS
      have hS4 : (upd H3 S (.lst ((bs.mergeSort fun b c => entLe b.2 c.2).map (·.1)))) S = some (.lst ((bs.mergeSort fun b c => entLe b.2 c.2).map (·.1))) := upd_same
      generalize upd H3 S (.lst ((bs.mergeSort fun b c => entLe b.2 c.2).map (·.1))) = H4 at sm4 hS4 ⊢
      have eM := sortM_of hb3
      have hpm : ∀ b ∈ (bs.mergeSort fun b c => entLe b.2 c.2), b ∈ bs := fun b h => (List.mergeSort_perm _ _).mem_iff.mp h
      have hsl : (bs.mergeSort fun b c => entLe b.2 c.2).length = rows.length := by rw [List.length_mergeSort, hbl]
      generalize (bs.mergeSort fun b c => entLe b.2 c.2) = sb at hS4 eM hpm hsl ⊢
      refine ⟨S, rfl, ⟨_, .inl (.inl hS4)⟩, fun D2 nD2 => lc_it (walk_list (xs := sb.map (·.1))) (fun i H' => Same H4 H' ∧ H' D2 = some (.lst (((sb.take i).map (·.2.2)).map V.int)))
        ⟨Same.new (Same.refl H4) nD2, upd_same⟩ (fun i H' _ hP => .inl (.inl (hP.1 _ _ hS4))) (fun i x H5 H6 hi hP hY => ?_) (fun H5 hP => ?_)⟩
      · obtain ⟨sm5, hD5⟩ := hP
        obtain ⟨rfl, ex⟩ := hY
        rw [List.getElem?_map] at ex
        obtain ⟨b, hb, rfl⟩ := Option.map_eq_some_iff.mp ex
        have hi2 : i < sb.length := (List.getElem?_eq_some_iff.mp hb).1
        have eb : sb[i] = b := (List.getElem?_eq_some_iff.mp hb).2
        have fb := ((fb3 b (hpm b (List.mem_of_getElem? hb))).kt (Same.kt sm4)).kt (Same.kt sm5)
        obtain ⟨ba, xs, eba, hba, fxs⟩ := Fz.open fb
        obtain ⟨z1, z2, rfl, g1, g2⟩ := fxs.two
        rw [g2.isInt] at hba
        refine ⟨ba, [z1, .int b.2.2], eba, .inl (.inl hba), rfl, z1, [.int b.2.2], rfl, .int b.2.2, [], rfl, rfl, rfl, .int b.2.2, rfl, _, hD5, ?_, Same.mut sm5 nD2, ?_⟩
        · rw [List.length_map, List.length_map, List.length_take]
          exact small1000 (by omega)
        · rw [upd_same, List.take_succ_eq_append_getElem hi2, eb, List.map_append, List.map_append]
          rfl
      · obtain ⟨sm5, hD5⟩ := hP
        rw [List.length_map, List.take_of_length_le (Nat.le_refl _), eM] at hD5
        have sm35 := Same.trans sm4 sm5
        have nD23 : H3 D2 = none := Same.free sm4 nD2
        exact q D2 H5 (sx3.trans (Same.sx sm35)) (tg3.same sm35) (Sx.free tg3 sx3 nD23) hD5

/-! ### _law_key -/
def spKey (K : PySem.W.Frag) : Sp := fun vs H Q _ => ∃ (tv : V) (cols : List Nat) (rows : List (List Int)) (m : Nat) (one : List Nat), vs = [tv, .int m, tx one] ∧ Fz H tv (tabD cols rows) ∧ RowsOk cols.length rows ∧ m < rows.length ∧ one.length ≤ 100 ∧ (∀ c ∈ one, c ∈ cols) ∧
  ∀ (p : Addr) (H' : Hp), Same H H' → H p = none → H' p = some (.lst ((keyM cols (rows.getD m []) one).map V.int)) → Q (.ref p) H'
theorem ok_key (T : Tx K mg Z) : FnOk P w K mg base CX0 1 Z.f_l_key Z.d_l_key ["table", "number", "one"] (spKey K) := by
  refine T.F_l_key.ok sc_l_key (fun vs H Q E h => ?_) (fun cdv A outer s H vs Q E hr h => ?_)
  · obtain ⟨tv, cols, rows, m, one, rfl, _⟩ := h
    rfl
  · obtain ⟨tv, cols, rows, m, one, rfl, fT, hrs, hm, hol, hoc, q⟩ := h
    obtain ⟨t, R, vs, rfl, ht, hRR, fvs⟩ := tab_open fT
    refine ⟨_, (pss_cons (ps_asg (pv 0) (pgT K (n := 2) (pgs_cons (pg_name (i := 3) sc_l_key.nd rfl (.inr rfl)) (pgs_cons (pg_name (i := 4) sc_l_key.nd rfl (.inr rfl)) pgs_nil))))
      (pss_one (ps_ret (pe_lc (own := [("letter", 5)]) (tt := tYes) (by rfl) sc_l_key.nd (pi_str (pv 2)) (blkOk_by (own := [("letter", 5)]) (by kernel_rfl)) (fun _ _ _ _ _ => (pg_name (i := 5) sc_l_key.nd rfl (.inl rfl))) (fun _ _ _ _ _ => pts_nil) (fun _ _ _ _ _ => (pe_ix (ixT K) (pe_ix (ixT K) (pv 4) (pv 1) (fun _ _ => rfl)) (bmK K PySem.F.plainAttrs_str PySem.F.slot_str_index PySem.F.type_str_index mt_sindex (pv 3) (pa_cons (pv 5) pa_nil)) (fun _ _ => rfl))))))), ?_⟩
    refine ⟨.ref t, rfl, t, [tx cols, .ref R], rfl, .inl (.inl ht), rfl, tx cols, [.ref R], rfl, .ref R, [], rfl, rfl, ?_⟩
    obtain ⟨v, hv, fv⟩ := fvs.get (i := m) (d := rowD rows[m]) (by rw [List.getElem?_map, List.getElem?_eq_getElem hm]; rfl)
    have erow : rows.getD m [] = rows[m] := by rw [List.getD_eq_getElem?_getD, List.getElem?_eq_getElem hm]; rfl
    rw [erow] at q
    have rok := hrs rows[m] (List.getElem_mem hm)
    generalize rows[m] = row at fv rok q
    obtain ⟨ra, rfl, hra⟩ := row_open fv
    refine ⟨tx one, rfl, _, rfl, fun D nD => lc_it walk_str (fun i H' => Same H H' ∧ H' D = some (.lst (((one.take i).map (rowAt cols row)).map V.int)))
      ⟨Same.new (Same.refl H) nD, upd_same⟩ (fun _ _ _ _ => trivial) (fun i x H5 H6 hi hP hY => ?_) (fun H5 hP => ?_)⟩
    · obtain ⟨sm5, hD5⟩ := hP
      obtain ⟨rfl, c, hcc, rfl⟩ := hY
      have hi2 : i < one.length := by simpa using hi
      have hci : one[i] = c := by
        have : one[i]? = some c := by simpa using hcc
        exact (List.getElem?_eq_some_iff.mp this).2
      have hcm : c ∈ cols := hoc c (by rw [← hci]; exact List.getElem_mem hi2)
      obtain ⟨orest, hocc⟩ := ix_one hcm
      have hat := row_at rok.1 hcm
      refine ⟨rfl, .ref R, rfl, .int m, rfl, R, vs, _, .ref ra, rfl, rfl, .inl (.inl (sm5 _ _ hRR)), atI_nat hv, tx cols, rfl, rfl, sg c, rfl, _, _, cols.idxOf c, orest, rfl, rfl, hocc, ra, row.map V.int, _, .int (rowAt cols row c), rfl, rfl, .inl (.inl (sm5 _ _ hra)), atI_nat hat, _, hD5, ?_, Same.mut sm5 nD, ?_⟩
      · rw [List.length_map, List.length_map, List.length_take]
        exact small1000 (by omega)
      · rw [upd_same, List.take_succ_eq_append_getElem hi2, hci, List.map_append, List.map_append]
        rfl
    · obtain ⟨sm5, hD5⟩ := hP
      have hn : (⟨one.toArray⟩ : Str).cps.size = one.length := by simp
      rw [hn, List.take_of_length_le (Nat.le_refl _)] at hD5
      exact q D H5 sm5 nD hD5

/-! ### the law -/
def dbl (x : Int) : Int := if 2 * x < 999 then 2 * x else 999
def spLaw (K : PySem.W.Frag) (Z : Ad) : Sp := fun vs H Q _ => ∃ (a : Addr) (ns : List Int), vs = [.ref a] ∧ SqL K H a (ns.map V.int) ∧ ns.length ≤ 63 ∧ (∀ P ∈ Z.Ps, GxR.TabG H P) ∧ ∀ H', Q (.bl true) H'
set_option maxHeartbeats 16000000 in
theorem ok_law (T : Tx K mg Z) (TB : Tb base mg Z) : FnOk P w K mg base CX0 4 Z.f_law Z.d_law ["script"] (spLaw K Z) := by
  have G_l_reel : FnOk P w K mg base CX0 1 Z.f_l_reel Z.d_l_reel ["script", "k"] (spReel K) := ok_reel T
  have G_l_pick : FnOk P w K mg base CX0 1 Z.f_l_pick Z.d_l_pick ["reel", "many"] (spPick K) := ok_pick T
  have G_l_table : FnOk P w K mg base CX0 3 Z.f_l_table Z.d_l_table ["reel", "most", "rows"] (spTable K) := ok_table T
  have G_l_one : FnOk P w K mg base CX0 2 Z.f_l_one Z.d_l_one ["reel", "columns"] (spOne K) := ok_one T
  have G_l_key : FnOk P w K mg base CX0 1 Z.f_l_key Z.d_l_key ["table", "number", "one"] (spKey K) := ok_key T
  have G_sorted_by : FnOk P w K mg base CX0 2 Z.f_sorted_by Z.d_sorted_by ["table", "one"] (spSorted K Z) := ok_sorted T TB
  refine T.F_law.ok sc_law (fun vs H Q E h => ?_) (fun cdv A outer s H vs Q E hr h => ?_)
  · obtain ⟨a, ns, rfl, _⟩ := h
    rfl
  · obtain ⟨a, ns, rfl, hS, hlen, tgA, q⟩ := h
    have tg : TG Z.Ps H := tgA
    refine ⟨_, (pss_cons (ps_for PassesOwn.never rfl (pi_range1 (by rfl) T.m_range (pa_cons (pe_callB (call_max2 rfl) (by rfl) T.m_max (by decide +kernel) (pa_cons pe_int (pa_cons (pe_callB (call_min2 rfl) (by rfl) T.m_min (by decide +kernel) (pa_cons pe_int (pa_cons (pe_callB (cLenSq K) (by rfl) T.m_len (by decide +kernel) (pa_cons (pv 0) pa_nil)) pa_nil))) pa_nil))) pa_nil)) (pg_name (i := 1) sc_law.nd rfl (.inl rfl)) (pss_cons (ps_set (i := 2) sc_law.nd rfl (.inl rfl) (pe_call G_l_reel (hr.mono (by omega)) (by rfl) T.g_l_reel T.F_l_reel.kp T.b_l_reel .nil pass0 (pa_cons (pv 0) (pa_cons (pv 1) pa_nil))))
      (pss_cons (ps_set (i := 3) sc_law.nd rfl (.inr rfl) (pe_call G_l_table (hr.mono (by omega)) (by rfl) T.g_l_table T.F_l_table.kp T.b_l_table .nil pass0 (pa_cons (pv 2) (pa_cons pe_int (pa_cons pe_int pa_nil)))))
      (pss_cons (ps_asg (pv 3) (pgT K (n := 2) (pgs_cons (pg_name (i := 4) sc_law.nd rfl (.inl rfl)) (pgs_cons (pg_name (i := 5) sc_law.nd rfl (.inr rfl)) pgs_nil))))
      (pss_cons (ps_set (i := 6) sc_law.nd rfl (.inr rfl) (pe_call G_l_one (hr.mono (by omega)) (by rfl) T.g_l_one T.F_l_one.kp T.b_l_one .nil pass0 (pa_cons (pv 2) (pa_cons (pv 4) pa_nil))))
      (pss_cons (ps_set (i := 7) sc_law.nd rfl (.inl rfl) (pe_call G_sorted_by (hr.mono (by omega)) (by rfl) T.g_sorted_by T.F_sorted_by.kp T.b_sorted_by .nil pass0 (pa_cons (pv 3) (pa_cons (pv 6) pa_nil))))
      (pss_cons (ps_if (pt_cmpR (neDK K hr.units) (pe_callB (sortIK K) (by rfl) T.m_sorted (by decide +kernel) (pa_cons (pv 7) pa_nil)) (pe_listRg (by rfl) (by rfl) T.m_list (prg_1 (by rfl) T.m_range (pe_callB (cLenSq K) (by rfl) T.m_len (by decide +kernel) (pa_cons (pv 5) pa_nil)))) (nomark _)) (pss_one (ps_ret pe_bl)) pss_nil)
      (pss_cons (ps_for PassesOwn.never rfl (zipAK K (by rfl) T.m_zip (pa_cons (pv 7) (pa_cons (pe_slice (slLK K) (pv 7) (po_some pe_int) po_none) pa_nil))) (pgT K (n := 2) (pgs_cons (pg_name (i := 8) sc_law.nd rfl (.inl rfl)) (pgs_cons (pg_name (i := 9) sc_law.nd rfl (.inl rfl)) pgs_nil))) (pss_one (ps_if (pt_cmpR (gtDK K hr) (pe_tup (pa_cons (pe_call G_l_key (hr.mono (by omega)) (by rfl) T.g_l_key T.F_l_key.kp T.b_l_key .nil pass0 (pa_cons (pv 3) (pa_cons (pv 8) (pa_cons (pv 6) pa_nil)))) (pa_cons (pv 8) pa_nil))) (pe_tup (pa_cons (pe_call G_l_key (hr.mono (by omega)) (by rfl) T.g_l_key T.F_l_key.kp T.b_l_key .nil pass0 (pa_cons (pv 3) (pa_cons (pv 9) (pa_cons (pv 6) pa_nil)))) (pa_cons (pv 9) pa_nil))) (nomark _)) (pss_one (ps_ret pe_bl)) pss_nil)))
      (pss_cons (ps_set (i := 10) sc_law.nd rfl (.inl rfl) (pe_tup (pa_cons (pv 4) (pa_cons (pe_callTy (cTupSq K) (by rfl) T.m_tuple (by decide +kernel) (pa_cons (pe_lc (own := [("number", 17)]) (tt := tYes) (by rfl) sc_law.nd (piL K (pv 7)) (blkOk_by (own := [("number", 17)]) (by kernel_rfl)) (fun _ _ _ _ _ => (pg_name (i := 17) sc_law.nd rfl (.inl rfl))) (fun _ _ _ _ _ => pts_nil) (fun _ _ _ _ _ => (pe_ix (ixT K) (pv 5) (pv 17) (fun _ _ => rfl)))) pa_nil)) pa_nil))))
      (pss_cons (ps_if (pt_cmpR (neDK K hr.units) (pe_call G_sorted_by (hr.mono (by omega)) (by rfl) T.g_sorted_by T.F_sorted_by.kp T.b_sorted_by .nil pass0 (pa_cons (pv 10) (pa_cons (pv 6) pa_nil))) (pe_listRg (by rfl) (by rfl) T.m_list (prg_1 (by rfl) T.m_range (pe_callB (cLenSq K) (by rfl) T.m_len (by decide +kernel) (pa_cons (pv 5) pa_nil)))) (nomark _)) (pss_one (ps_ret pe_bl)) pss_nil)
      (pss_cons (ps_set (i := 11) sc_law.nd rfl (.inl rfl) (pe_tup (pa_cons (pv 4) (pa_cons (pe_callTy (cTupSq K) (by rfl) T.m_tuple (by decide +kernel) (pa_cons (pe_lc (own := [("row", 18)]) (tt := tYes) (by rfl) sc_law.nd (piT K (pv 5)) (blkOk_by (own := [("row", 18)]) (by kernel_rfl)) (fun _ _ _ _ _ => (pg_name (i := 18) sc_law.nd rfl (.inl rfl))) (fun _ _ _ _ _ => pts_nil) (fun _ _ _ _ _ => (pe_callTy (cTupSq K) (by rfl) T.m_tuple (by decide +kernel) (pa_cons (pe_lc (own := [("number", 17)]) (tt := tYes) (by rfl) sc_law.nd (piT K (pv 18)) (blkOk_by (own := [("number", 17)]) (by kernel_rfl)) (fun _ _ _ _ _ => (pg_name (i := 17) sc_law.nd rfl (.inl rfl))) (fun _ _ _ _ _ => pts_nil) (fun _ _ _ _ _ => (pe_callB (call_min2 rfl) (by rfl) T.m_min (by decide +kernel) (pa_cons pe_int (pa_cons (pe_op op_mul pe_int (pv 17)) pa_nil))))) pa_nil)))) pa_nil)) pa_nil))))
      (pss_cons (ps_set (i := 12) sc_law.nd rfl (.inl rfl) (pe_callB (maxK K) (by rfl) T.m_max (by decide +kernel) (pa_cons (pe_op op_cat (pe_lst (pa_cons pe_int pa_nil)) (pe_lc (own := [("row", 18)]) (tt := tYes) (by rfl) sc_law.nd (piT K (pv 5)) (blkOk_by (own := [("row", 18)]) (by kernel_rfl)) (fun _ _ _ _ _ => (pg_name (i := 18) sc_law.nd rfl (.inl rfl))) (fun _ _ _ _ _ => pts_nil) (fun _ _ _ _ _ => (pe_callB (maxTK K hr) (by rfl) T.m_max (by decide +kernel) (pa_cons (pv 18) pa_nil))))) pa_nil)))
      (pss_mid (ps_if (PW.pt (pw_and (pt_cmpR op_lt (pv 12) pe_int (nomark _)) (pw_and1 (pt_cmpR (neDK K hr.units) (pe_call G_sorted_by (hr.mono (by omega)) (by rfl) T.g_sorted_by T.F_sorted_by.kp T.b_sorted_by .nil pass0 (pa_cons (pv 11) (pa_cons (pv 6) pa_nil))) (pv 7) (nomark _))))) (pss_one (ps_ret pe_bl)) pss_nil)
      (pss_cons (ps_setLc (i := 13) (own := [("letter", 16)]) (tt := _) (by rfl) sc_law.nd rfl rfl (sw_true rfl rfl rfl (by decide +kernel)) (pi_str (pv 4)) (blkOk_by (own := [("letter", 16)]) (by kernel_rfl)) (fun _ _ _ _ _ => (pg_name (i := 16) sc_law.nd rfl (.inl rfl))) (fun _ _ _ _ _ => (pts_one (pt_cmpR op_notIn_sign (pv 16) (pv 6) (by rfl)))) (fun _ _ _ _ _ => (pv 16)))
      (pss_one (ps_if (pt_cmpR (neDK K hr.units) (pv 13) (pe_lst pa_nil) (nomark _)) (pss_cons (ps_set (i := 14) sc_law.nd rfl (.inl rfl) (pe_call G_sorted_by (hr.mono (by omega)) (by rfl) T.g_sorted_by T.F_sorted_by.kp T.b_sorted_by .nil pass0 (pa_cons (pv 3) (pa_cons (pe_op op_add_str (pv 6) (pe_ix (ixL K) (pv 13) (pe_call G_l_pick (hr.mono (by omega)) (by rfl) T.g_l_pick T.F_l_pick.kp T.b_l_pick .nil pass0 (pa_cons (pv 2) (pa_cons (pe_callB (cLenSq K) (by rfl) T.m_len (by decide +kernel) (pa_cons (pv 13) pa_nil)) pa_nil))) (fun _ _ => rfl))) pa_nil))))
      (pss_cons (ps_setLc (i := 15) (own := [("number", 17)]) (tt := tYes) (by rfl) sc_law.nd rfl rfl (sw_true rfl rfl rfl (by decide +kernel)) (piL K (pv 7)) (blkOk_by (own := [("number", 17)]) (by kernel_rfl)) (fun _ _ _ _ _ => (pg_name (i := 17) sc_law.nd rfl (.inl rfl))) (fun _ _ _ _ _ => pts_nil) (fun _ _ _ _ _ => (pe_call G_l_key (hr.mono (by omega)) (by rfl) T.g_l_key T.F_l_key.kp T.b_l_key .nil pass0 (pa_cons (pv 3) (pa_cons (pv 17) (pa_cons (pv 6) pa_nil))))))
      (pss_one (ps_if (pt_cmpR (neDK K hr.units) (pe_lc (own := [("number", 17)]) (tt := tYes) (by rfl) sc_law.nd (piL K (pv 14)) (blkOk_by (own := [("number", 17)]) (by kernel_rfl)) (fun _ _ _ _ _ => (pg_name (i := 17) sc_law.nd rfl (.inl rfl))) (fun _ _ _ _ _ => pts_nil) (fun _ _ _ _ _ => (pe_call G_l_key (hr.mono (by omega)) (by rfl) T.g_l_key T.F_l_key.kp T.b_l_key .nil pass0 (pa_cons (pv 3) (pa_cons (pv 17) (pa_cons (pv 6) pa_nil)))))) (pv 15) (nomark _)) (pss_one (ps_ret pe_bl)) pss_nil)))) pss_nil))))))))))))))))
      (pss_one (ps_ret pe_bl))), ?_⟩
    refine ⟨.ref a, rfl, a, _, rfl, .inl hS, 6, _, rfl, 2, _, rfl, _, rfl, ?_, ?_, ?_⟩
    · split <;> (try split) <;> omega
    · split <;> (try split) <;> omega
    generalize hN : (if (if ((ns.map V.int).length : Int) < 6 then ((ns.map V.int).length : Int) else 6) > 2 then (if ((ns.map V.int).length : Int) < 6 then ((ns.map V.int).length : Int) else 6) else 2).toNat = N
    have hN8 : N ≤ 6 := by
      rw [← hN]
      split <;> (try split) <;> omega
    refine for_range (fun i σ H' => ∃ y1 y2 y3 y4 y5 y6 y7 y8 y9 y10 y11 y12 y13 y14 y15 y16 y17 y18 : Option V, σ = [some (.ref a), y1, y2, y3, y4, y5, y6, y7, y8, y9, y10, y11, y12, y13, y14, y15, y16, y17, y18] ∧ SqL K H' a (ns.map V.int) ∧ TG Z.Ps H') ⟨none, none, none, none, none, none, none, none, none, none, none, none, none, none, none, none, none, none, rfl, hS, tg⟩ (fun i σ H0 hi hP => ?_) (fun σ H0 hP => q H0)
    obtain ⟨y1, y2, y3, y4, y5, y6, y7, y8, y9, y10, y11, y12, y13, y14, y15, y16, y17, y18, rfl, hS0, tg0⟩ := hP
    -- reel
    refine ⟨.ref a, rfl, _, rfl, a, ns, i, by rw [Int.zero_add]; rfl, hS0, by omega, fun n0 r nr => ?_⟩
    have sm1 : Same H0 (upd H0 r (.lst [.int n0])) := Same.new (Same.refl H0) nr
    have hR1 : (upd H0 r (.lst [.int n0])) r = some (.lst [.int n0]) := upd_same
    generalize upd H0 r (.lst [.int n0]) = H1 at sm1 hR1 ⊢
    have kpx : ∀ {G G' : Hp}, Sx Z.Ps H0 G → Kp r G G' → Sx Z.Ps H0 G' := fun s k b o nb h => k b o (ne_of_none h nr) (s b o nb h)
    -- table
    refine ⟨.ref r, rfl, r, n0, 5, 20, rfl, hR1, by decide, by decide, by decide, fun cols rows tv n3 H3 kp3 hR3 fT hc hc1 hc2 hrs hrn => ?_⟩
    have sm3 : Same H0 H3 := Same.kpN sm1 nr kp3
    have tg3 : TG Z.Ps H3 := tg0.same sm3
    obtain ⟨t, R, vs, rfl, ht, hRR, fvs⟩ := tab_open fT
    have hvl : vs.length = rows.length := by rw [fvs.len, List.length_map]
    refine ⟨.ref t, rfl, t, [tx cols, .ref R], rfl, .inl (.inl ht), rfl, tx cols, [.ref R], rfl, .ref R, [], rfl, rfl, ?_⟩
    -- one
    refine ⟨.ref r, rfl, tx cols, rfl, r, n3, cols, rfl, hR3, by omega, by omega, fun one rest n4 H4 kp4 hR4 hperm hone => ?_⟩
    have kt4 : KT H3 H4 := kp4.kT hR3
    have sx4 : Sx Z.Ps H0 H4 := kpx (Same.sx sm3) kp4
    have tg4 : TG Z.Ps H4 := tg3.kp hR3 kp4
    have hol : one.length ≤ 5 := by
      have := hperm.length_eq
      rw [List.length_append] at this
      omega
    have hoc : ∀ c ∈ one, c ∈ cols := fun c h => hperm.mem_iff.mp (List.mem_append_right _ h)
    have hil : (idxM cols rows one).length = rows.length := by rw [(idx_perm cols rows one).length_eq, List.length_range]
    have hin : ∀ o ∈ (idxM cols rows one), o < rows.length := fun o h => List.mem_range.mp ((idx_perm cols rows one).mem_iff.mp h)
    -- found
    refine ⟨.ref t, rfl, tx one, rfl, .ref t, cols, rows, one, rfl, tg4, fT.kt kt4.1, hrs, by omega, by omega, hoc, fun F H5 sx5 tg5 nF hF5 => ?_⟩
    rw [idx_sort] at hF5
    have kt5 : KT H3 H5 := kt4.trans (sx5.kT tg4)
    refine ⟨.ref F, rfl, F, _, rfl, .inl (.inl hF5), fun ns1 p1 hpm hso np1 => ?_⟩
    obtain rfl := sort_range hpm hso
    have smA : Same H5 (upd H5 p1 (.lst (((List.range rows.length).map fun i : Nat => (i : Int)).map V.int))) := Same.new (Same.refl H5) np1
    have hpA : (upd H5 p1 (.lst (((List.range rows.length).map fun i : Nat => (i : Int)).map V.int))) p1 = some (.lst (((List.range rows.length).map fun i : Nat => (i : Int)).map V.int)) := upd_same
    generalize upd H5 p1 (.lst (((List.range rows.length).map fun i : Nat => (i : Int)).map V.int)) = HA at smA hpA ⊢
    refine ⟨.ref R, rfl, R, vs, rfl, .inr (.inl (.inl (smA _ _ (kt5.1 _ _ hRR)))), _, rfl, ⟨by omega, by omega, by omega, by omega, by omega⟩, fun g ng => ?_⟩
    rw [hvl, rg_all]
    refine ⟨_, _, .lst (.inl (.inl (keep_new hpA ng))) (dp_ints _), .lst (.inl (.inl upd_same)) (dp_ints _), shaped_ints _, shaped_ints _, _, rfl, ?_⟩
    rw [eqv_ints]
    have smB : Same H5 (upd HA g (.lst (((List.range rows.length).map fun i : Nat => (i : Int)).map V.int))) := Same.new smA ng
    generalize upd HA g (.lst (((List.range rows.length).map fun i : Nat => (i : Int)).map V.int)) = HB at smB ⊢
    have hFB := smB _ _ hF5
    -- here, there
    refine ⟨.ref F, rfl, .ref F, rfl, _, rfl, F, _, rfl, .inl (.inl hFB), fun S nS => ?_⟩
    rw [cut_drop1]
    have smC : Same H5 (upd HB S (.lst ((((idxM cols rows one).map fun n : Nat => (n : Int)).map V.int).drop 1))) := Same.new smB nS
    have hSC : (upd HB S (.lst ((((idxM cols rows one).map fun n : Nat => (n : Int)).map V.int).drop 1))) S = some (.lst ((((idxM cols rows one).map fun n : Nat => (n : Int)).map V.int).drop 1)) := upd_same
    generalize upd HB S (.lst ((((idxM cols rows one).map fun n : Nat => (n : Int)).map V.int).drop 1)) = HC at smC hSC ⊢
    have hFC := smC _ _ hF5
    refine ⟨F, S, (((idxM cols rows one).map fun n : Nat => (n : Int)).map V.int), (((idxM cols rows one).map fun n : Nat => (n : Int)).map V.int).drop 1, rfl, .inl ⟨.inl (.inl hFC), .inl (.inl hSC), for_it (walk_zip (xs := (((idxM cols rows one).map fun n : Nat => (n : Int)).map V.int)) (ys := (((idxM cols rows one).map fun n : Nat => (n : Int)).map V.int).drop 1) rfl) (fun g σ H' => ∃ (y8 y9 : Option V), σ = [some (.ref a), some (.int (0 + (i : Nat))), some (.ref r), some (.ref t), some (tx cols), some (.ref R), some (tx one), some (.ref F), y8, y9, y10, y11, y12, y13, y14, y15, y16, y17, y18] ∧ Same HC H')
      ⟨_, _, rfl, Same.refl HC⟩ (fun g σ H' _ hP => ?_) (fun g x σ HD HE hg hP hY => ?_) (fun σ HD hP => ?_)⟩⟩
    · obtain ⟨_, _, _, sm⟩ := hP
      exact ⟨.inl (.inl (sm _ _ hFC)), .inl (.inl (sm _ _ hSC))⟩
    · obtain ⟨y8, y9, rfl, smD⟩ := hP
      obtain ⟨T0, x1, x2, rfl, nT, rfl, ex1, ex2⟩ := hY
      dsimp only at ex1 ex2
      rw [List.getElem?_map, List.getElem?_map] at ex1
      rw [List.getElem?_drop, List.getElem?_map, List.getElem?_map] at ex2
      obtain ⟨z1, hz1, rfl⟩ := Option.map_eq_some_iff.mp ex1
      obtain ⟨u, hu, rfl⟩ := Option.map_eq_some_iff.mp hz1
      obtain ⟨z2, hz2, rfl⟩ := Option.map_eq_some_iff.mp ex2
      obtain ⟨v, hv, rfl⟩ := Option.map_eq_some_iff.mp hz2
      rw [Nat.add_comm] at hv
      have hul := hin u (List.mem_of_getElem? hu)
      have hvl2 := hin v (List.mem_of_getElem? hv)
      have hup := two_up hu hv
      have smE : Same HC (upd HD T0 (.tup [.int (u : Nat), .int (v : Nat)])) := Same.new smD nT
      have hTE : (upd HD T0 (.tup [.int (u : Nat), .int (v : Nat)])) T0 = some (.tup [.int (u : Nat), .int (v : Nat)]) := upd_same
      refine ⟨T0, [.int (u : Nat), .int (v : Nat)], rfl, .inl (.inl hTE), rfl, .int (u : Nat), [.int (v : Nat)], rfl, .int (v : Nat), [], rfl, rfl, ?_⟩
      generalize upd HD T0 (.tup [.int (u : Nat), .int (v : Nat)]) = HG at smE ⊢
      have smG : Same H5 HG := Same.trans smC smE
      refine ⟨.ref t, rfl, .int (u : Nat), rfl, tx one, rfl, .ref t, cols, rows, u, one, rfl, fT.kt (kt5.trans (Same.kT smG)).1, hrs, hul, by omega, hoc, fun q1 HI smI nq1 hq1 => ?_⟩
      refine ⟨.int (u : Nat), rfl, (by show 2 ≤ sizeLine; decide), fun w1 nw1 => ?_⟩
      have smJ : Same HI (upd HI w1 (.tup [.ref q1, .int (u : Nat)])) := Same.new (Same.refl HI) nw1
      have hw1 : (upd HI w1 (.tup [.ref q1, .int (u : Nat)])) w1 = some (.tup [.ref q1, .int (u : Nat)]) := upd_same
      generalize upd HI w1 (.tup [.ref q1, .int (u : Nat)]) = HJ at smJ hw1 ⊢
      have smGJ : Same HG HJ := Same.trans smI smJ
      refine ⟨.ref t, rfl, .int (v : Nat), rfl, tx one, rfl, .ref t, cols, rows, v, one, rfl, fT.kt (kt5.trans (Same.kT (Same.trans smG smGJ))).1, hrs, hvl2, by omega, hoc, fun q2 HK smK nq2 hq2 => ?_⟩
      refine ⟨.int (v : Nat), rfl, (by show 2 ≤ sizeLine; decide), fun w2 nw2 => ?_⟩
      have smL : Same HK (upd HK w2 (.tup [.ref q2, .int (v : Nat)])) := Same.new (Same.refl HK) nw2
      have hw2 : (upd HK w2 (.tup [.ref q2, .int (v : Nat)])) w2 = some (.tup [.ref q2, .int (v : Nat)]) := upd_same
      generalize upd HK w2 (.tup [.ref q2, .int (v : Nat)]) = HL at smL hw2 ⊢
      have smJL : Same HJ HL := Same.trans smK smL
      refine ⟨entL (entAt cols rows one u), entL (entAt cols rows one v), .tup (.inl (.inl (smJL _ _ hw1))) (.cons (.lst (.inl (.inl (smJL _ _ (smJ _ _ hq1)))) (dp_ints _)) (.cons (.int _) .nil)), .tup (.inl (.inl hw2)) (.cons (.lst (.inl (.inl (smL _ _ hq2))) (dp_ints _)) (.cons (.int _) .nil)), alike_entL _ _, (fun z => nomatch z), dep_entL _, _, rfl, ?_⟩
      rw [dataLt_entL, hup]
      exact ⟨_, _, rfl, Same.trans smE (Same.trans smGJ smJL)⟩
    obtain ⟨y8', y9', rfl, smD⟩ := hP
    have sm5D : Same H5 HD := Same.trans smC smD
    have hFD := sm5D _ _ hF5
    have tgD : TG Z.Ps HD := tg5.same sm5D
    have ktD : KT H3 HD := kt5.trans (Same.kT sm5D)
    have hRD := ktD.1 _ _ hRR
    have fvsD := fvs.kt ktD.1
    -- again
    refine ⟨tx cols, rfl, .ref F, rfl, F, rfl, ⟨_, .inl (.inl hFD)⟩, fun D nD => lc_it (walk_list (xs := (((idxM cols rows one).map fun n : Nat => (n : Int)).map V.int))) (fun m H' => ∃ vs', Same HD H' ∧ H' D = some (.lst vs') ∧ FzA H' vs' ((((idxM cols rows one).take m).map fun o => rows.getD o []).map rowD))
      ⟨[], Same.new (Same.refl HD) nD, upd_same, .nil⟩ (fun m H' _ hP => ?_) (fun m x HG HI hm hP hY => ?_) (fun HG hP => ?_)⟩
    · obtain ⟨_, sm, _⟩ := hP
      exact .inl (.inl (sm _ _ hFD))
    · obtain ⟨vs', smG, hDG, fG⟩ := hP
      obtain ⟨rfl, hx⟩ := hY
      rw [List.getElem?_map, List.getElem?_map] at hx
      obtain ⟨oI, hoI, rfl⟩ := Option.map_eq_some_iff.mp hx
      obtain ⟨o, ho, rfl⟩ := Option.map_eq_some_iff.mp hoI
      have hm2 : m < (idxM cols rows one).length := (List.getElem?_eq_some_iff.mp ho).1
      have emo : (idxM cols rows one)[m] = o := (List.getElem?_eq_some_iff.mp ho).2
      have ho2 := hin o (List.mem_of_getElem? ho)
      obtain ⟨v, hv, fv⟩ := fvsD.get (i := o) (d := rowD rows[o]) (by rw [List.getElem?_map, List.getElem?_eq_getElem ho2]; rfl)
      have eo : rows.getD o [] = rows[o] := by rw [List.getD_eq_getElem?_getD, List.getElem?_eq_getElem ho2]; rfl
      refine ⟨rfl, .ref R, rfl, .int (o : Nat), rfl, R, vs, _, v, rfl, rfl, .inl (.inl (smG _ _ hRD)), atI_nat hv, _, hDG, ?_, vs' ++ [v], Same.mut smG nD, upd_same, ?_⟩
      · have := fG.len
        rw [List.length_map, List.length_map, List.length_take] at this
        exact small1000 (by omega)
      · rw [List.take_succ_eq_append_getElem hm2, emo, List.map_append, List.map_append]
        refine (fG.kt (Kt.lst hDG)).snoc ?_
        show Fz _ v (rowD (rows.getD o []))
        rw [eo]
        exact (fv.kt (Same.kt smG)).kt (Kt.lst hDG)
    obtain ⟨vs2, smG, hDG, fG⟩ := hP
    rw [List.length_map, List.length_map, List.take_of_length_le (Nat.le_refl _)] at fG
    refine ⟨D, vs2, rfl, .inl ⟨.inl (.inl hDG), fun R2 nR2 => ?_⟩⟩
    refine ⟨(by show 2 ≤ sizeLine; decide), fun t2 nt2 => ?_⟩
    have fT2 : Fz (upd (upd HG R2 (.tup vs2)) t2 (.tup [tx cols, .ref R2])) (.ref t2) (tabD cols ((idxM cols rows one).map fun o => rows.getD o [])) := Fz.made nt2 (.cons (.str _) (.cons (Fz.made nR2 fG) .nil))
    have smI : Same HD (upd (upd HG R2 (.tup vs2)) t2 (.tup [tx cols, .ref R2])) := Same.new (Same.new smG nR2) nt2
    generalize upd (upd HG R2 (.tup vs2)) t2 (.tup [tx cols, .ref R2]) = HI at fT2 smI ⊢
    have tgI : TG Z.Ps HI := tgD.same smI
    have hrs2 : RowsOk cols.length ((idxM cols rows one).map fun o => rows.getD o []) := fun row h => by
      obtain ⟨o, ho, rfl⟩ := List.mem_map.mp h
      have ho2 := hin o ho
      show RowOk cols.length (rows.getD o [])
      rw [List.getD_eq_getElem?_getD, List.getElem?_eq_getElem ho2]
      exact hrs _ (List.getElem_mem ho2)
    refine ⟨.ref t2, rfl, tx one, rfl, .ref t2, cols, (idxM cols rows one).map fun o => rows.getD o [], one, rfl, tgI, fT2, hrs2, by rw [List.length_map]; omega, by omega, hoc, fun F2 HJ sxJ tgJ nF2 hF2 => ?_⟩
    rw [idx_sort, idx_again] at hF2
    have hRJ : HJ R = some (.tup vs) := (sxJ.kt tgI) _ _ (smI _ _ hRD)
    refine ⟨.ref R, rfl, R, vs, rfl, .inr (.inl (.inl hRJ)), _, rfl, ⟨by omega, by omega, by omega, by omega, by omega⟩, fun g ng => ?_⟩
    rw [hvl, rg_all]
    refine ⟨_, _, .lst (.inl (.inl (keep_new hF2 ng))) (dp_ints _), .lst (.inl (.inl upd_same)) (dp_ints _), shaped_ints _, shaped_ints _, _, rfl, ?_⟩
    rw [eqv_ints]
    have sxK : Sx Z.Ps HD (upd HJ g (.lst (((List.range rows.length).map fun i : Nat => (i : Int)).map V.int))) := ((Same.sx smI).trans sxJ).new ng
    have tgK : TG Z.Ps (upd HJ g (.lst (((List.range rows.length).map fun i : Nat => (i : Int)).map V.int))) := tgJ.new ng
    generalize upd HJ g (.lst (((List.range rows.length).map fun i : Nat => (i : Int)).map V.int)) = HK at sxK tgK ⊢
    have hFK := sxK.lst tgD hFD
    have ktK : KT H3 HK := ktD.trans (sxK.kT tgD)
    have hRK := ktK.1 _ _ hRR
    have fvsK := fvs.kt ktK.1
    -- more
    refine ⟨tx cols, rfl, .ref R, rfl, R, rfl, ⟨_, .inl (.inl hRK)⟩, fun D nD => lc_it (walk_tup (xs := vs)) (fun m H' => ∃ vs', Same HK H' ∧ H' D = some (.lst vs') ∧ FzA H' vs' (((rows.take m).map fun row => row.map dbl).map rowD))
      ⟨[], Same.new (Same.refl HK) nD, upd_same, .nil⟩ (fun m H' _ hP => ?_) (fun m x HL HM hm hP hY => ?_) (fun HL hP => ?_)⟩
    · obtain ⟨_, sm, _⟩ := hP
      exact .inl (.inl (sm _ _ hRK))
    · obtain ⟨vs', smL, hDL, fL⟩ := hP
      obtain ⟨rfl, hx⟩ := hY
      obtain ⟨dd, hdd, fd⟩ := fvsK.getV hx
      rw [List.getElem?_map] at hdd
      obtain ⟨row, hrow, rfl⟩ := Option.map_eq_some_iff.mp hdd
      have hm2 : m < rows.length := (List.getElem?_eq_some_iff.mp hrow).1
      have em : rows[m] = row := (List.getElem?_eq_some_iff.mp hrow).2
      have rok := hrs row (List.mem_of_getElem? hrow)
      obtain ⟨ra, rfl, hra⟩ := row_open (fd.kt (Same.kt smL))
      refine ⟨rfl, .ref ra, rfl, ra, rfl, ⟨_, .inl (.inl hra)⟩, fun D2 nD2 => lc_it (walk_tup (xs := row.map V.int)) (fun j H' => Same HM H' ∧ H' D2 = some (.lst (((row.take j).map dbl).map V.int)))
        ⟨Same.new (Same.refl HM) nD2, upd_same⟩ (fun j H' _ hP => .inl (.inl (hP.1 _ _ hra))) (fun j x HN HO_ hj hP hY => ?_) (fun HN hP => ?_)⟩
      · obtain ⟨smN, hDN⟩ := hP
        obtain ⟨rfl, hx2⟩ := hY
        rw [List.getElem?_map] at hx2
        obtain ⟨xv, hxv, rfl⟩ := Option.map_eq_some_iff.mp hx2
        have hj2 : j < row.length := (List.getElem?_eq_some_iff.mp hxv).1
        have ej : row[j] = xv := (List.getElem?_eq_some_iff.mp hxv).2
        refine ⟨rfl, .int xv, rfl, 2, xv, rfl, rfl, .inl ⟨by decide, by decide⟩, 999, _, rfl, _, hDN, ?_, Same.mut smN nD2, ?_⟩
        · rw [List.length_map, List.length_map, List.length_take]
          exact small1000 (by have := rok.1; omega)
        · rw [upd_same, List.take_succ_eq_append_getElem hj2, ej, List.map_append, List.map_append]
          rfl
      · obtain ⟨smN, hDN⟩ := hP
        rw [List.length_map, List.take_of_length_le (Nat.le_refl _)] at hDN
        refine ⟨D2, _, rfl, .inl ⟨.inl (.inl hDN), fun r2 nr2 => ?_⟩⟩
        have smO : Same HM (upd HN r2 (.tup ((row.map dbl).map V.int))) := Same.new smN nr2
        have fr2 : Fz (upd HN r2 (.tup ((row.map dbl).map V.int))) (.ref r2) (rowD (row.map dbl)) := row_made nr2
        generalize upd HN r2 (.tup ((row.map dbl).map V.int)) = HO2 at smO fr2 ⊢
        have hDO := smO _ _ hDL
        refine ⟨_, hDO, ?_, vs' ++ [.ref r2], Same.mut (Same.trans smL smO) nD, upd_same, ?_⟩
        · have := fL.len
          rw [List.length_map, List.length_map, List.length_take] at this
          exact small1000 (by omega)
        · rw [List.take_succ_eq_append_getElem hm2, em, List.map_append, List.map_append]
          exact ((fL.kt (Same.kt smO)).kt (Kt.lst hDO)).snoc (fr2.kt (Kt.lst hDO))
    obtain ⟨vs3, smL, hDL, fL⟩ := hP
    rw [hvl, List.take_of_length_le (Nat.le_refl _)] at fL
    refine ⟨D, vs3, rfl, .inl ⟨.inl (.inl hDL), fun R3 nR3 => ?_⟩⟩
    refine ⟨(by show 2 ≤ sizeLine; decide), fun t3 nt3 => ?_⟩
    have fT3 : Fz (upd (upd HL R3 (.tup vs3)) t3 (.tup [tx cols, .ref R3])) (.ref t3) (tabD cols (rows.map fun row => row.map dbl)) := Fz.made nt3 (.cons (.str _) (.cons (Fz.made nR3 fL) .nil))
    have smM : Same HK (upd (upd HL R3 (.tup vs3)) t3 (.tup [tx cols, .ref R3])) := Same.new (Same.new smL nR3) nt3
    generalize upd (upd HL R3 (.tup vs3)) t3 (.tup [tx cols, .ref R3]) = HM at fT3 smM ⊢
    have hRM := smM _ _ hRK
    -- great
    refine ⟨(by show 1 ≤ sizeLine; decide), fun L nL => ?_⟩
    have smN : Same HM (upd HM L (.lst [.int 0])) := Same.new (Same.refl HM) nL
    have hLN : (upd HM L (.lst [.int 0])) L = some (.lst [.int 0]) := upd_same
    generalize upd HM L (.lst [.int 0]) = HN at smN hLN ⊢
    have hRN := smN _ _ hRM
    have fvsN := fvsK.kt (Same.kt (Same.trans smM smN))
    refine ⟨.ref R, rfl, R, rfl, ⟨_, .inl (.inl hRN)⟩, fun D4 nD4 => lc_it (walk_tup (xs := vs)) (fun m H' => ∃ ms : List Int, Same HN H' ∧ H' D4 = some (.lst (ms.map V.int)) ∧ ms.length = m ∧ ∀ row ∈ rows.take m, ∀ y ∈ row, ∃ z ∈ ms, y ≤ z)
      ⟨[], Same.new (Same.refl HN) nD4, upd_same, rfl, fun row h => by simp at h⟩ (fun m H' _ hP => ?_) (fun m x HO_ HP_ hm hP hY => ?_) (fun HO_ hP => ?_)⟩
    · obtain ⟨_, sm, _⟩ := hP
      exact .inl (.inl (sm _ _ hRN))
    · obtain ⟨ms, smO, hDO, hml, hmx⟩ := hP
      obtain ⟨rfl, hx⟩ := hY
      obtain ⟨dd, hdd, fd⟩ := fvsN.getV hx
      rw [List.getElem?_map] at hdd
      obtain ⟨row, hrow, rfl⟩ := Option.map_eq_some_iff.mp hdd
      have hm2 : m < rows.length := (List.getElem?_eq_some_iff.mp hrow).1
      have em : rows[m] = row := (List.getElem?_eq_some_iff.mp hrow).2
      have rok := hrs row (List.mem_of_getElem? hrow)
      obtain ⟨ra, rfl, hra⟩ := row_open (fd.kt (Same.kt smO))
      obtain ⟨y0, ys0, rfl⟩ : ∃ y ys, row = y :: ys := by
        cases row with
        | nil =>
          have h9 := rok.1
          rw [← h9] at hc1
          exact absurd hc1 (by decide)
        | cons y ys => exact ⟨y, ys, rfl⟩
      refine ⟨rfl, .ref ra, rfl, ra, y0, ys0, rfl, .inl (.inl hra), fun mx hmx1 hmx2 => ?_⟩
      refine ⟨_, hDO, ?_, ms ++ [mx], Same.mut smO nD4, ?_, ?_, fun row2 h2 y hy => ?_⟩
      · rw [List.length_map]
        exact small1000 (by omega)
      · rw [upd_same, List.map_append]
        rfl
      · rw [List.length_append, hml]
        rfl
      · rw [List.take_succ_eq_append_getElem hm2, em] at h2
        rcases List.mem_append.mp h2 with z | z
        · obtain ⟨z2, hz2, hle⟩ := hmx row2 z y hy
          exact ⟨z2, List.mem_append_left _ hz2, hle⟩
        · rw [List.mem_singleton.mp z] at hy
          exact ⟨mx, by simp, hmx2 y hy⟩
    obtain ⟨ms, smO, hDO, hml, hmx⟩ := hP
    rw [hvl, List.take_of_length_le (Nat.le_refl _)] at hmx
    refine ⟨L, D4, _, _, rfl, rfl, smO _ _ hLN, hDO, ?_, fun p6 np6 => ?_⟩
    · rw [List.length_map]
      show 1 + ms.length ≤ sizeLine
      exact Nat.le_of_lt (small1000 (by omega))
    refine ⟨p6, 0 :: ms, rfl, .inl (.inl upd_same), by simp, fun gr hgr1 hgr2 => ?_⟩
    have smP : Same HK (upd HO_ p6 (.lst ([V.int 0] ++ ms.map V.int))) := Same.new (Same.trans (Same.trans smM smN) smO) np6
    have fT3P : Fz (upd HO_ p6 (.lst ([V.int 0] ++ ms.map V.int))) (.ref t3) (tabD cols (rows.map fun row => row.map dbl)) := fT3.kt ((Same.kt (Same.trans smN smO)).trans (Kt.new np6))
    generalize upd HO_ p6 (.lst ([V.int 0] ++ ms.map V.int)) = HP_ at smP fT3P ⊢
    have hall : ∀ row ∈ rows, ∀ y ∈ row, y ≤ gr := fun row h y hy => by
      obtain ⟨z, hz, hle⟩ := hmx row h y hy
      have := hgr2 z (by simp [hz])
      omega
    have tgP : TG Z.Ps HP_ := tgK.same smP
    have hFP := smP _ _ hFK
    refine ⟨fun σ H' => σ = [some (.ref a), some (.int (0 + (i : Nat))), some (.ref r), some (.ref t), some (tx cols), some (.ref R), some (tx one), some (.ref F), y8', y9', some (.ref t2), some (.ref t3), some (.int gr), y13, y14, y15, y16, y17, y18] ∧ Sx Z.Ps HP_ H' ∧ TG Z.Ps H', ?_, fun σ HQ hM => ?_⟩
    · refine ⟨.int gr, rfl, _, _, rfl, rfl, _, rfl, ite2 (fun e => ?_) (fun e => ?_)⟩
      · have e2 : gr < 500 := of_decide_eq_true e
        have erows : (rows.map fun row => row.map dbl) = rows.map fun row => row.map fun x => 2 * x := by
          refine List.map_congr_left fun row h => List.map_congr_left fun x hx => ?_
          have h1 := hall row h x hx
          show (if 2 * x < 999 then 2 * x else 999) = 2 * x
          rw [if_pos (by omega)]
        rw [erows] at fT3P
        have hrs3 : RowsOk cols.length (rows.map fun row => row.map fun x => 2 * x) := fun row h => by
          obtain ⟨row0, h0, rfl⟩ := List.mem_map.mp h
          have rok := hrs row0 h0
          refine ⟨by rw [List.length_map]; exact rok.1, fun x hx => ?_⟩
          obtain ⟨x0, hx0, rfl⟩ := List.mem_map.mp hx
          have h1 := rok.2 x0 hx0
          have h2 := hall row0 h0 x0 hx0
          omega
        refine ⟨.ref t3, rfl, tx one, rfl, .ref t3, cols, rows.map fun row => row.map fun x => 2 * x, one, rfl, tgP, fT3P, hrs3, by rw [List.length_map]; omega, by omega, hoc, fun F4 HQ sxQ tgQ nF4 hF4 => ?_⟩
        rw [idx_sort, idx_mono (f := fun x => 2 * x) (by decide) (fun x y => by omega)] at hF4
        refine ⟨.ref F, rfl, _, _, .lst (.inl (.inl hF4)) (dp_ints _), .lst (.inl (.inl (sxQ.lst tgP hFP))) (dp_ints _), shaped_ints _, shaped_ints _, _, rfl, ?_⟩
        rw [eqv_ints]
        exact ⟨rfl, sxQ, tgQ⟩
      · exact ⟨rfl, Sx.rfl', tgP⟩
    obtain ⟨rfl, sxQ, tgQ⟩ := hM
    have sxDQ : Sx Z.Ps HD HQ := (sxK.trans (Same.sx smP)).trans sxQ
    have hFQ := sxDQ.lst tgD hFD
    have ktQ : KT H3 HQ := ktD.trans (sxDQ.kT tgD)
    have hRrQ : HQ r = some (.lst [.int n4]) := sxDQ.lst tgD (sm5D _ _ (sx5.lst tg4 hR4))
    have sx0Q : Sx Z.Ps H0 HQ := ((sx4.trans sx5).trans (Same.sx sm5D)).trans sxDQ
    -- left
    refine ⟨tx cols, rfl, _, rfl, fun D5 nD5 => lc_it walk_str (fun m H' => Same HQ H' ∧ H' D5 = some (.lst (((cols.take m).filter fun c => !decide (c ∈ one)).map sg)))
      ⟨Same.new (Same.refl HQ) nD5, upd_same⟩ (fun _ _ _ _ => trivial) (fun m x HS HT_ hm hP hY => ?_) (fun HS hP => ?_)⟩
    · obtain ⟨smS, hDS⟩ := hP
      obtain ⟨rfl, c, hcc, rfl⟩ := hY
      have hi2 : m < cols.length := by simpa using hm
      have hci : cols[m] = c := by
        have : cols[m]? = some c := by simpa using hcc
        exact (List.getElem?_eq_some_iff.mp this).2
      have efl : (⟨one.toArray⟩ : Str).cps.toList = one := by simp
      refine ⟨rfl, sg c, rfl, tx one, rfl, c, _, rfl, rfl, _, rfl, ?_⟩
      rw [efl]
      refine ite2 (fun e5 => ?_) (fun e5 => ?_)
      · refine ⟨sg c, rfl, _, hDS, ?_, Same.mut smS nD5, ?_⟩
        · rw [List.length_map]
          have := List.length_filter_le (fun c => !decide (c ∈ one)) (cols.take m)
          rw [List.length_take] at this
          exact small1000 (by omega)
        · rw [upd_same, List.take_succ_eq_append_getElem hi2, hci, List.filter_append, List.filter_cons, if_pos e5, List.map_append]
          rfl
      · refine ⟨smS, ?_⟩
        rw [hDS, List.take_succ_eq_append_getElem hi2, hci, List.filter_append, List.filter_cons, if_neg e5, List.filter_nil, List.append_nil]
    obtain ⟨smS, hDS⟩ := hP
    have hn : (⟨cols.toArray⟩ : Str).cps.size = cols.length := by simp
    rw [hn, List.take_of_length_le (Nat.le_refl _)] at hDS
    generalize hll : (cols.filter fun c => !decide (c ∈ one)) = ll at hDS
    have hlm : ∀ c ∈ ll, c ∈ cols ∧ c ∉ one := fun c h => by
      rw [← hll] at h
      obtain ⟨h1, h2⟩ := List.mem_filter.mp h
      exact ⟨h1, by simpa using h2⟩
    have hllen : ll.length ≤ 5 := by
      rw [← hll]
      exact Nat.le_trans (List.length_filter_le _ _) hc2
    refine ⟨.ref D5, rfl, (by show 0 ≤ sizeLine; decide), fun p7 np7 => ?_⟩
    have smT : Same HQ (upd HS p7 (.lst [])) := Same.new smS np7
    have hpT : (upd HS p7 (.lst [])) p7 = some (.lst []) := upd_same
    have hDT : (upd HS p7 (.lst [])) D5 = some (.lst (ll.map sg)) := keep_new hDS np7
    generalize upd HS p7 (.lst []) = HT_ at smT hpT hDT ⊢
    have tgT : TG Z.Ps HT_ := tgQ.same smT
    have sxT : Sx Z.Ps H0 HT_ := sx0Q.trans (Same.sx smT)
    have hRT := smT _ _ hRrQ
    have ktT : KT H3 HT_ := ktQ.trans (Same.kT smT)
    refine ⟨_, _, .lst (.inl (.inl hDT)) (dp_signs ll), .lst (.inl (.inl hpT)) .nil, shaped_signs (fun c h => (hc.az c (hlm c h).1).2), rfl, _, rfl, ite2 (fun e => ?_) (fun e => ?_)⟩
    rotate_left
    · exact ⟨_, _, _, _, _, _, _, _, _, _, _, _, _, _, _, _, _, _, rfl, sxT.seqL tg0 hS0, tgT⟩
    have lne : ll ≠ [] := fun z => by
      rw [z] at e
      exact absurd e (by decide)
    have lpos : 0 < ll.length := List.length_pos_iff.mpr lne
    have nD5r : D5 ≠ r := (ne_of_none hRrQ nD5).symm
    have nFr : F ≠ r := fun z => by
      rw [z] at nF
      rw [hR4] at nF
      cases nF
    refine ⟨.ref t, rfl, tx one, rfl, .ref D5, rfl, .ref r, rfl, .ref D5, rfl, D5, _, rfl, .inl (.inl (.inl hDT)), r, n4, _, rfl, hRT, by rw [List.length_map]; omega, by rw [List.length_map]; omega, fun f n5 f0 f1 => ?_⟩
    rw [List.length_map] at f1
    have hf : f.toNat < ll.length := by omega
    have hDU : (upd HT_ r (.lst [.int n5])) D5 = some (.lst (ll.map sg)) := keep_ne hDT nD5r
    have hFU : (upd HT_ r (.lst [.int n5])) F = some (.lst (((idxM cols rows one).map fun n : Nat => (n : Int)).map V.int)) := keep_ne (smT _ _ hFQ) nFr
    have sxU : Sx Z.Ps H0 (upd HT_ r (.lst [.int n5])) := sxT.mut nr
    have tgU : TG Z.Ps (upd HT_ r (.lst [.int n5])) := tgT.mut hRT
    have ktU : KT H3 (upd HT_ r (.lst [.int n5])) := ktT.trans (.lst hRT)
    generalize upd HT_ r (.lst [.int n5]) = HU at hDU hFU sxU tgU ktU ⊢
    have hcm := hlm ll[f.toNat] (List.getElem_mem hf)
    generalize hcc : ll[f.toNat] = cc at hcm
    refine ⟨D5, ll.map sg, f, sg cc, rfl, rfl, .inl (.inl hDU), L2.at_of (j := f.toNat) (by omega) (by rw [List.getElem?_map, List.getElem?_eq_getElem hf, hcc]; rfl), _, _, rfl, rfl, ?_, ?_⟩
    · show one.toArray.size + 1 ≤ sizeLine
      have : one.toArray.size + 1 ≤ 1000 := by
        rw [List.size_toArray]
        omega
      exact Nat.le_of_lt (small1000 this)
    rw [show (⟨#[cc]⟩ : Str) = ⟨[cc].toArray⟩ from rfl, app_txt]
    have hol2 : (one ++ [cc]).length ≤ 1000 := by
      rw [List.length_append]
      show one.length + 1 ≤ 1000
      omega
    have hoc2 : ∀ c ∈ one ++ [cc], c ∈ cols := fun c h => by
      rcases List.mem_append.mp h with z | z
      · exact hoc c z
      · rw [List.mem_singleton.mp z]
        exact hcm.1
    refine ⟨.ref t, cols, rows, one ++ [cc], rfl, tgU, fT.kt ktU.1, hrs, by omega, hol2, hoc2, fun F5 HW sxW tgW nF5 hF5' => ?_⟩
    rw [idx_sort] at hF5'
    have hFW := sxW.lst tgU hFU
    have ktW : KT H3 HW := ktU.trans (sxW.kT tgU)
    have hil2 : (idxM cols rows (one ++ [cc])).length = rows.length := by rw [(idx_perm cols rows (one ++ [cc])).length_eq, List.length_range]
    have hin2 : ∀ o ∈ idxM cols rows (one ++ [cc]), o < rows.length := fun o h => List.mem_range.mp ((idx_perm cols rows (one ++ [cc])).mem_iff.mp h)
    -- keys
    refine ⟨.ref F, rfl, F, rfl, ⟨_, .inl (.inl hFW)⟩, fun D7 nD7 => lc_it (walk_list (xs := ((idxM cols rows one).map fun n : Nat => (n : Int)).map V.int)) (fun m H' => ∃ vs', Same HW H' ∧ H' D7 = some (.lst vs') ∧ KL H' D7 vs' (((idxM cols rows one).take m).map fun o => keyM cols (rows.getD o []) one))
      ⟨[], Same.new (Same.refl HW) nD7, upd_same, .nil⟩ (fun m H' _ hP => ?_) (fun m x HG HI hm hP hY => ?_) (fun HX hP => ?_)⟩
    · obtain ⟨_, sm, _⟩ := hP
      exact .inl (.inl (sm _ _ hFW))
    · obtain ⟨vs', smG, hDG, fG⟩ := hP
      obtain ⟨rfl, hx⟩ := hY
      rw [List.getElem?_map, List.getElem?_map] at hx
      obtain ⟨oI, hoI, rfl⟩ := Option.map_eq_some_iff.mp hx
      obtain ⟨o, ho, rfl⟩ := Option.map_eq_some_iff.mp hoI
      have hm2 : m < (idxM cols rows one).length := (List.getElem?_eq_some_iff.mp ho).1
      have emo : (idxM cols rows one)[m] = o := (List.getElem?_eq_some_iff.mp ho).2
      refine ⟨rfl, .ref t, rfl, .int (o : Nat), rfl, tx one, rfl, .ref t, cols, rows, o, one, rfl, fT.kt (ktW.trans (Same.kT smG)).1, hrs, hin o (List.mem_of_getElem? ho), by omega, hoc, fun q3 HJ2 smJ2 nq3 hq3 => ?_⟩
      have hDJ := smJ2 _ _ hDG
      have nq3D : q3 ≠ D7 := fun z => by
        rw [z, hDG] at nq3
        cases nq3
      refine ⟨_, hDJ, ?_, vs' ++ [.ref q3], Same.mut (Same.trans smG smJ2) nD7, upd_same, ?_⟩
      · have := fG.len
        rw [List.length_map, List.length_take] at this
        exact small1000 (by omega)
      · rw [List.take_succ_eq_append_getElem hm2, emo, List.map_append]
        exact ((fG.same smJ2).upd).snoc nq3D (keep_ne hq3 nq3D)
    obtain ⟨vk, smX, hDX, fX⟩ := hP
    rw [List.length_map, List.length_map, List.take_of_length_le (Nat.le_refl _)] at fX
    have hF5X := smX _ _ hF5'
    refine ⟨.ref F5, rfl, F5, rfl, ⟨_, .inl (.inl hF5X)⟩, fun D6 nD6 => lc_it (walk_list (xs := ((idxM cols rows (one ++ [cc])).map fun n : Nat => (n : Int)).map V.int)) (fun m H' => ∃ vs', Same HX H' ∧ H' D6 = some (.lst vs') ∧ KL H' D6 vs' (((idxM cols rows (one ++ [cc])).take m).map fun o => keyM cols (rows.getD o []) one))
      ⟨[], Same.new (Same.refl HX) nD6, upd_same, .nil⟩ (fun m H' _ hP => ?_) (fun m x HG HI hm hP hY => ?_) (fun HY hP => ?_)⟩
    · obtain ⟨_, sm, _⟩ := hP
      exact .inl (.inl (sm _ _ hF5X))
    · obtain ⟨vs', smG, hDG, fG⟩ := hP
      obtain ⟨rfl, hx⟩ := hY
      rw [List.getElem?_map, List.getElem?_map] at hx
      obtain ⟨oI, hoI, rfl⟩ := Option.map_eq_some_iff.mp hx
      obtain ⟨o, ho, rfl⟩ := Option.map_eq_some_iff.mp hoI
      have hm2 : m < (idxM cols rows (one ++ [cc])).length := (List.getElem?_eq_some_iff.mp ho).1
      have emo : (idxM cols rows (one ++ [cc]))[m] = o := (List.getElem?_eq_some_iff.mp ho).2
      refine ⟨rfl, .ref t, rfl, .int (o : Nat), rfl, tx one, rfl, .ref t, cols, rows, o, one, rfl, fT.kt ((ktW.trans (Same.kT smX)).trans (Same.kT smG)).1, hrs, hin2 o (List.mem_of_getElem? ho), by omega, hoc, fun q3 HJ2 smJ2 nq3 hq3 => ?_⟩
      have hDJ := smJ2 _ _ hDG
      have nq3D : q3 ≠ D6 := fun z => by
        rw [z, hDG] at nq3
        cases nq3
      refine ⟨_, hDJ, ?_, vs' ++ [.ref q3], Same.mut (Same.trans smG smJ2) nD6, upd_same, ?_⟩
      · have := fG.len
        rw [List.length_map, List.length_take] at this
        exact small1000 (by omega)
      · rw [List.take_succ_eq_append_getElem hm2, emo, List.map_append]
        exact ((fG.same smJ2).upd).snoc nq3D (keep_ne hq3 nq3D)
    obtain ⟨vk2, smY, hDY, fY⟩ := hP
    rw [List.length_map, List.length_map, List.take_of_length_le (Nat.le_refl _), keys_more] at fY
    refine ⟨.ref D7, rfl, _, _, .lst (.inl (.inl hDY)) fY.dp, .lst (.inl (.inl (smY _ _ hDX))) (fX.same smY).dp, shaped_lss _, shaped_lss _, _, rfl, ?_⟩
    rw [eqv_lss]
    exact ⟨_, _, _, _, _, _, _, _, _, _, _, _, _, _, _, _, _, _, rfl, (((sxU.trans sxW).trans (Same.sx smX)).trans (Same.sx smY)).seqL tg0 hS0, (tgW.same smX).same smY⟩

end
theorem all_mk {l : PySem.W.OpenLaw} {q : Program} {w : World} {K : PySem.W.Frag} {h : Heap} {mg : Str → Option Value} {fa : Addr} (X : K.In h) (G : h.Ns mainGlobals mg) (hfa : mg "law" = some (.ref fa))
    (own : ∀ (nm : Str) (fb : Addr), ((recsOf q).any fun e => e.name == nm) = true → mg nm = some (.ref fb) → OwnTC K fb h)
    {oc0 kv0 dc0 pm0 ct0 : Value} {od0 an0 : Option Addr} {sl0 : Array (Option Value)} {f0 : Addr}
    {c0 P0 : Addr} {ec0 : Value} {ed0 : Option Addr} {ev0 : Array Value} {es0 : Array (Option Value)}
    {oc1 kv1 dc1 pm1 cd1 ct1 : Value} {od1 an1 : Option Addr} {sl1 : Array (Option Value)} {f1 : Addr}
    {oc2 kv2 dc2 pm2 cd2 ct2 : Value} {od2 an2 : Option Addr} {sl2 : Array (Option Value)} {f2 : Addr}
    {oc3 kv3 dc3 pm3 cd3 ct3 : Value} {od3 an3 : Option Addr} {sl3 : Array (Option Value)} {f3 : Addr}
    {oc4 kv4 dc4 pm4 cd4 ct4 : Value} {od4 an4 : Option Addr} {sl4 : Array (Option Value)} {f4 : Addr}
    {oc5 kv5 dc5 pm5 cd5 ct5 : Value} {od5 an5 : Option Addr} {sl5 : Array (Option Value)} {f5 : Addr}
    {oc6 kv6 dc6 pm6 cd6 ct6 : Value} {od6 an6 : Option Addr} {sl6 : Array (Option Value)} {f6 : Addr}
    {oc7 kv7 dc7 pm7 cd7 ct7 : Value} {od7 an7 : Option Addr} {sl7 : Array (Option Value)} {f7 : Addr}
    {oc8 kv8 dc8 pm8 cd8 ct8 : Value} {od8 an8 : Option Addr} {sl8 : Array (Option Value)} {f8 : Addr}
    (a0 : PySem.W.nsIn K mainGlobals "picked" = some (some (.ref f0)))
    (l0 : K.lookup f0 = some ⟨oc0, od0, .func (PySem.W.fnOf "picked" "picked" (defArgs s_picked) (defBody s_picked) (defScope s_picked) .none kv0 dc0 pm0 an0 (.ref c0) ct0), sl0⟩)
    (c0_ : PySem.W.codeIn K (.ref c0) "picked" = true) (k0 : PySem.W.keepIn K (.ref f0) = true)
    (lc0 : K.lookup c0 = some ⟨ec0, ed0, .fields ev0, es0⟩) (vc0 : ev0[11]? = some (.ref P0)) (np0 : K.lookup P0 = none) (rc0 : ((recsOf q).any fun e => e.name == "picked") = true)
    (a1 : PySem.W.nsIn K mainGlobals "sorted_by" = some (some (.ref f1)))
    (l1 : K.lookup f1 = some ⟨oc1, od1, .func (PySem.W.fnOf "sorted_by" "sorted_by" (defArgs s_sorted_by) (defBody s_sorted_by) (defScope s_sorted_by) .none kv1 dc1 pm1 an1 cd1 ct1), sl1⟩)
    (c1_ : PySem.W.codeIn K cd1 "sorted_by" = true) (k1 : PySem.W.keepIn K (.ref f1) = true)
    (a2 : PySem.W.nsIn K mainGlobals "_law_reel" = some (some (.ref f2)))
    (l2 : K.lookup f2 = some ⟨oc2, od2, .func (PySem.W.fnOf "_law_reel" "_law_reel" (defArgs s_l_reel) (defBody s_l_reel) (defScope s_l_reel) .none kv2 dc2 pm2 an2 cd2 ct2), sl2⟩)
    (c2_ : PySem.W.codeIn K cd2 "_law_reel" = true) (k2 : PySem.W.keepIn K (.ref f2) = true)
    (a3 : PySem.W.nsIn K mainGlobals "_law_pick" = some (some (.ref f3)))
    (l3 : K.lookup f3 = some ⟨oc3, od3, .func (PySem.W.fnOf "_law_pick" "_law_pick" (defArgs s_l_pick) (defBody s_l_pick) (defScope s_l_pick) .none kv3 dc3 pm3 an3 cd3 ct3), sl3⟩)
    (c3_ : PySem.W.codeIn K cd3 "_law_pick" = true) (k3 : PySem.W.keepIn K (.ref f3) = true)
    (a4 : PySem.W.nsIn K mainGlobals "_law_columns" = some (some (.ref f4)))
    (l4 : K.lookup f4 = some ⟨oc4, od4, .func (PySem.W.fnOf "_law_columns" "_law_columns" (defArgs s_l_columns) (defBody s_l_columns) (defScope s_l_columns) .none kv4 dc4 pm4 an4 cd4 ct4), sl4⟩)
    (c4_ : PySem.W.codeIn K cd4 "_law_columns" = true) (k4 : PySem.W.keepIn K (.ref f4) = true)
    (a5 : PySem.W.nsIn K mainGlobals "_law_table" = some (some (.ref f5)))
    (l5 : K.lookup f5 = some ⟨oc5, od5, .func (PySem.W.fnOf "_law_table" "_law_table" (defArgs s_l_table) (defBody s_l_table) (defScope s_l_table) .none kv5 dc5 pm5 an5 cd5 ct5), sl5⟩)
    (c5_ : PySem.W.codeIn K cd5 "_law_table" = true) (k5 : PySem.W.keepIn K (.ref f5) = true)
    (a6 : PySem.W.nsIn K mainGlobals "_law_one" = some (some (.ref f6)))
    (l6 : K.lookup f6 = some ⟨oc6, od6, .func (PySem.W.fnOf "_law_one" "_law_one" (defArgs s_l_one) (defBody s_l_one) (defScope s_l_one) .none kv6 dc6 pm6 an6 cd6 ct6), sl6⟩)
    (c6_ : PySem.W.codeIn K cd6 "_law_one" = true) (k6 : PySem.W.keepIn K (.ref f6) = true)
    (a7 : PySem.W.nsIn K mainGlobals "_law_key" = some (some (.ref f7)))
    (l7 : K.lookup f7 = some ⟨oc7, od7, .func (PySem.W.fnOf "_law_key" "_law_key" (defArgs s_l_key) (defBody s_l_key) (defScope s_l_key) .none kv7 dc7 pm7 an7 cd7 ct7), sl7⟩)
    (c7_ : PySem.W.codeIn K cd7 "_law_key" = true) (k7 : PySem.W.keepIn K (.ref f7) = true)
    (a8 : PySem.W.nsIn K mainGlobals "law" = some (some (.ref f8)))
    (l8 : K.lookup f8 = some ⟨oc8, od8, .func (PySem.W.fnOf "law" "law" (defArgs s_law) (defBody s_law) (defScope s_law) .none kv8 dc8 pm8 an8 cd8 ct8), sl8⟩)
    (c8_ : PySem.W.codeIn K cd8 "law" = true) (k8 : PySem.W.keepIn K (.ref f8) = true)
    (z0 : PySem.W.nsIn K mainGlobals "len" = some none)
    (z1 : PySem.W.nsIn K mainGlobals "range" = some none)
    (z2 : PySem.W.nsIn K mainGlobals "list" = some none)
    (z3 : PySem.W.nsIn K mainGlobals "sorted" = some none)
    (z4 : PySem.W.nsIn K mainGlobals "tuple" = some none)
    (z5 : PySem.W.nsIn K mainGlobals "min" = some none)
    (z6 : PySem.W.nsIn K mainGlobals "max" = some none)
    (z7 : PySem.W.nsIn K mainGlobals "enumerate" = some none)
    (z8 : PySem.W.nsIn K mainGlobals "zip" = some none)
    : LamX.LawAtS l w K CX0 4 63 "script" mg fa h := by
  have e := hfa.symm.trans (PySem.W.mg_of X G a8)
  cases e
  have F0 := fun_mk (st := s_picked) l0 c0_ k0
  have b0 := F0.binds (ps := ["columns", "row", "letters"]) fun _ _ _ _ _ _ us hl => match us, hl with | [_, _, _], _ => rfl
  have o0 := own "picked" _ rc0 (PySem.W.mg_of X G a0) c0 P0 _ _ _ _ _ _ l0 rfl rfl lc0 vc0
  have F1 := fun_mk (st := s_sorted_by) l1 c1_ k1
  have b1 := F1.binds (ps := ["table", "one"]) fun _ _ _ _ _ _ us hl => match us, hl with | [_, _], _ => rfl
  have F2 := fun_mk (st := s_l_reel) l2 c2_ k2
  have b2 := F2.binds (ps := ["script", "k"]) fun _ _ _ _ _ _ us hl => match us, hl with | [_, _], _ => rfl
  have F3 := fun_mk (st := s_l_pick) l3 c3_ k3
  have b3 := F3.binds (ps := ["reel", "many"]) fun _ _ _ _ _ _ us hl => match us, hl with | [_, _], _ => rfl
  have F4 := fun_mk (st := s_l_columns) l4 c4_ k4
  have b4 := F4.binds (ps := ["reel", "many"]) fun _ _ _ _ _ _ us hl => match us, hl with | [_, _], _ => rfl
  have F5 := fun_mk (st := s_l_table) l5 c5_ k5
  have b5 := F5.binds (ps := ["reel", "most", "rows"]) fun _ _ _ _ _ _ us hl => match us, hl with | [_, _, _], _ => rfl
  have F6 := fun_mk (st := s_l_one) l6 c6_ k6
  have b6 := F6.binds (ps := ["reel", "columns"]) fun _ _ _ _ _ _ us hl => match us, hl with | [_, _], _ => rfl
  have F7 := fun_mk (st := s_l_key) l7 c7_ k7
  have b7 := F7.binds (ps := ["table", "number", "one"]) fun _ _ _ _ _ _ us hl => match us, hl with | [_, _, _], _ => rfl
  have F8 := fun_mk (st := s_law) l8 c8_ k8
  have b8 := F8.binds (ps := ["script"]) fun _ _ _ _ _ _ us hl => match us, hl with | [_], _ => rfl
  let Z : Ad := ⟨f0, PySem.W.fnOf "picked" "picked" (defArgs s_picked) (defBody s_picked) (defScope s_picked) .none kv0 dc0 pm0 an0 (.ref c0) ct0, c0, P0, f1, PySem.W.fnOf "sorted_by" "sorted_by" (defArgs s_sorted_by) (defBody s_sorted_by) (defScope s_sorted_by) .none kv1 dc1 pm1 an1 cd1 ct1, f2, PySem.W.fnOf "_law_reel" "_law_reel" (defArgs s_l_reel) (defBody s_l_reel) (defScope s_l_reel) .none kv2 dc2 pm2 an2 cd2 ct2, f3, PySem.W.fnOf "_law_pick" "_law_pick" (defArgs s_l_pick) (defBody s_l_pick) (defScope s_l_pick) .none kv3 dc3 pm3 an3 cd3 ct3, f4, PySem.W.fnOf "_law_columns" "_law_columns" (defArgs s_l_columns) (defBody s_l_columns) (defScope s_l_columns) .none kv4 dc4 pm4 an4 cd4 ct4, f5, PySem.W.fnOf "_law_table" "_law_table" (defArgs s_l_table) (defBody s_l_table) (defScope s_l_table) .none kv5 dc5 pm5 an5 cd5 ct5, f6, PySem.W.fnOf "_law_one" "_law_one" (defArgs s_l_one) (defBody s_l_one) (defScope s_l_one) .none kv6 dc6 pm6 an6 cd6 ct6, f7, PySem.W.fnOf "_law_key" "_law_key" (defArgs s_l_key) (defBody s_l_key) (defScope s_l_key) .none kv7 dc7 pm7 an7 cd7 ct7, fa, PySem.W.fnOf "law" "law" (defArgs s_law) (defBody s_law) (defScope s_law) .none kv8 dc8 pm8 an8 cd8 ct8⟩
  have T : Tx K mg Z := ⟨F0, ⟨_, _, _, _, _, _, _, _, rfl, l0, c0_⟩, b0, PySem.W.mg_of X G a0, F1, b1, PySem.W.mg_of X G a1, F2, b2, PySem.W.mg_of X G a2, F3, b3, PySem.W.mg_of X G a3, F4, b4, PySem.W.mg_of X G a4, F5, b5, PySem.W.mg_of X G a5, F6, b6, PySem.W.mg_of X G a6, F7, b7, PySem.W.mg_of X G a7, F8, b8, PySem.W.mg_of X G a8, PySem.W.mg_none_of X G z0, PySem.W.mg_none_of X G z1, PySem.W.mg_none_of X G z2, PySem.W.mg_none_of X G z3, PySem.W.mg_none_of X G z4, PySem.W.mg_none_of X G z5, PySem.W.mg_none_of X G z6, PySem.W.mg_none_of X G z7, PySem.W.mg_none_of X G z8⟩
  have each : ∀ {R : Addr × Addr → Prop}, R (c0, P0) → ∀ p ∈ [(c0, P0)], R p := fun h0 p hp => by
    simp only [List.mem_cons, List.not_mem_nil, or_false] at hp
    rw [hp]
    exact h0
  refine ⟨Z.d_law, [(c0, P0)], spLaw K Z, each o0.1, each np0, each o0.2, fun s v => .of_eq rfl, fun H a ns hl _ hT hS => ?_, fun base _ _ hTB => ?_⟩
  · refine ⟨a, ns, rfl, hS, hl, fun P hP => ?_, fun _ => rfl⟩
    obtain ⟨p, hp, rfl⟩ : ∃ p ∈ [((c0, P0) : Addr × Addr)], p.2 = P := by
      have hP2 : P ∈ [((c0, P0) : Addr × Addr).2] := hP
      exact List.mem_map.mp (show P ∈ List.map (fun p : Addr × Addr => p.2) [(c0, P0)] from hP2)
    exact ⟨#[], hT p hp, trivial⟩
  · exact ok_law T ⟨hTB (c0, P0) (by simp)⟩
end My
open PySem PySem.W PyProof.Rows
set_option maxHeartbeats 0 in
theorem PySem.Challenge.cw_stretchkeep_k04_whole_sorted_again_holds : PySem.Challenge.rw_stretchkeep_k04_whole_sorted_again.Holds := by
  w_on; o_law; k_head; (case hw => w_witness2)
  k_fill
  refine My.walk_ofTabs (l := PySem.Challenge.rw_stretchkeep_k04_whole_sorted_again) (n := 63) (k := 4) (x := "script") (CX := fun _ => L2.CX0) rfl (by decide) rfl ⟨rfl, by decide, by decide⟩ (fun w h Y => PySem.W.kIn_of Y) ?F (fun _ _ _ _ _ h => h)
  case F =>
    intro w mg fa h Y KX G hmg own
    refine' My.all_mk KX G hmg own ?a0 ?l0 ?c0_ ?k0 ?lc0 ?vc0 ?np0 ?rc0 ?a1 ?l1 ?c1_ ?k1 ?a2 ?l2 ?c2_ ?k2 ?a3 ?l3 ?c3_ ?k3 ?a4 ?l4 ?c4_ ?k4 ?a5 ?l5 ?c5_ ?k5 ?a6 ?l6 ?c6_ ?k6 ?a7 ?l7 ?c7_ ?k7 ?a8 ?l8 ?c8_ ?k8 ?z0 ?z1 ?z2 ?z3 ?z4 ?z5 ?z6 ?z7 ?z8
    (case a0 => k_is)
    (case l0 => k_is)
    (case c0_ => k_is)
    (case k0 => k_is)
    (case lc0 => k_is)
    (case vc0 => rfl)
    (case np0 => first | rfl | kernel_rfl)
    (case rc0 => decide +kernel)
    (case a1 => k_is)
    (case l1 => k_is)
    (case c1_ => k_is)
    (case k1 => k_is)
    (case a2 => k_is)
    (case l2 => k_is)
    (case c2_ => k_is)
    (case k2 => k_is)
    (case a3 => k_is)
    (case l3 => k_is)
    (case c3_ => k_is)
    (case k3 => k_is)
    (case a4 => k_is)
    (case l4 => k_is)
    (case c4_ => k_is)
    (case k4 => k_is)
    (case a5 => k_is)
    (case l5 => k_is)
    (case c5_ => k_is)
    (case k5 => k_is)
    (case a6 => k_is)
    (case l6 => k_is)
    (case c6_ => k_is)
    (case k6 => k_is)
    (case a7 => k_is)
    (case l7 => k_is)
    (case c7_ => k_is)
    (case k7 => k_is)
    (case a8 => k_is)
    (case l8 => k_is)
    (case c8_ => k_is)
    (case k8 => k_is)
    (case z0 => k_is)
    (case z1 => k_is)
    (case z2 => k_is)
    (case z3 => k_is)
    (case z4 => k_is)
    (case z5 => k_is)
    (case z6 => k_is)
    (case z7 => k_is)
    (case z8 => k_is)

