import PyProof.Rows.All
import Wide.All
import OpenK.AllK
import Wide.FinOn
import HandS.ForMost
import HandS.Walk
import HandS.IsInst
import HandS.DictComp
import HandS.SortInts
import HandS.NoneIn
import HandS.Replace
import HandS.TupAny
import HandS.TupLe
import PyProof.ListStr
import PyProof.TupleOfStr
import KE.GoesNew
import HandS.Zip
import HandS.More
import PyProof.StrLawsFirst
import HandS.Conv
import KE.KSortedM
import HandS.AnyAll
import HandS.EndTab
import PyProof.TupleOfGen
import HandS.EndOwn
import KE.KDictPairs
import KE.SortData
import KE.DataCmp
import PyProof.DictWalks
import KE.KDictWalk
import HandS.Style
import PyProof.CollectStr
import PyProof.SliceStr2
import PyProof.TupleOfSeq
import PySem.Challenge.RW_stretchkeep_k12_whole_more_letters_read
set_option Elab.async false
set_option linter.all false
set_option maxRecDepth 100000
namespace My
open PySem PySem.Spec PyProof.Rows L2
/-! ### heaps -/
/-- all but r is as it was -/
def Kp (r : Addr) (H H' : Hp) : Prop := ∀ b o, b ≠ r → H b = some o → H' b = some o
theorem Kp.rfl' {r : Addr} {H : Hp} : Kp r H H := fun _ _ _ h => h
theorem Kp.trans {r : Addr} {H H1 H2 : Hp} (a : Kp r H H1) (b : Kp r H1 H2) : Kp r H H2 := fun c o n h => b c o n (a c o n h)
theorem Kp.new {r p : Addr} {H H1 : Hp} {o : HO} (a : Kp r H H1) (n : H1 p = none) : Kp r H (upd H1 p o) := fun b x nb h => by
  have h1 := a b x nb h
  rw [upd_ne (ne_of_none h1 n)]
  exact h1
theorem Kp.own {r : Addr} {H H1 : Hp} {o : HO} (a : Kp r H H1) : Kp r H (upd H1 r o) := fun b x nb h => by
  rw [upd_ne nb]
  exact a b x nb h
/-- an object that H does not know is written -/
theorem Kp.mut {r p : Addr} {H H1 : Hp} {o : HO} (a : Kp r H H1) (n : H p = none) : Kp r H (upd H1 p o) := fun b x nb h => by
  rw [upd_ne (ne_of_none h n)]
  exact a b x nb h
theorem Same.kp {r : Addr} {H H' : Hp} (s : Same H H') : Kp r H H' := fun b o _ h => s b o h
theorem Same.new {p : Addr} {H H1 : Hp} {o : HO} (a : Same H H1) (n : H1 p = none) : Same H (upd H1 p o) := fun b x h => by
  have h1 := a b x h
  rw [upd_ne (ne_of_none h1 n)]
  exact h1
theorem Same.mut {p : Addr} {H H1 : Hp} {o : HO} (a : Same H H1) (n : H p = none) : Same H (upd H1 p o) := fun b x h => by
  rw [upd_ne (ne_of_none h n)]
  exact a b x h
theorem Same.tup {K : PySem.W.Frag} {H H' : Hp} {a : Addr} {xs : List V} (e : Same H H') (h : SqT K H a xs) : SqT K H' a xs := by
  rcases h with (h | ⟨o, h⟩) | h
  · exact .inl (.inl (e _ _ h))
  · exact .inl (.inr ⟨o, e _ _ h⟩)
  · exact .inr h
/-- a list, a tuple that stands there stays, if it is not at r -/
theorem Kp.seqL {K : PySem.W.Frag} {r a : Addr} {H H' : Hp} {xs : List V} (e : Kp r H H') (n : a ≠ r) (h : SqL K H a xs) : SqL K H' a xs := by
  rcases h with (h | ⟨o, h⟩) | h
  · exact .inl (.inl (e _ _ n h))
  · exact .inl (.inr ⟨o, e _ _ n h⟩)
  · exact .inr h
theorem Same.kpN {r : Addr} {H H1 H2 : Hp} (s : Same H H1) (n : H r = Option.none) (k : Kp r H1 H2) : Same H H2 := fun b o h => k b o (ne_of_none h n) (s b o h)
theorem Kp.none {r p : Addr} {H H' : Hp} (e : Kp r H H') (n : p ≠ r) (h : H' p = Option.none) : H p = Option.none := by
  cases q : H p with
  | none => rfl
  | some o =>
    rw [e p o n q] at h
    cases h
theorem keep_new {H : Hp} {p b : Addr} {o x : HO} (h : H b = some x) (n : H p = Option.none) : (upd H p o) b = some x := by
  rw [upd_ne (ne_of_none h n)]
  exact h
theorem keep_ne {H : Hp} {p b : Addr} {o x : HO} (h : H b = some x) (n : b ≠ p) : (upd H p o) b = some x := by
  rw [upd_ne n]
  exact h
/-! ### a word between a statement and the rest -/
def tMid (t u : TS) : TS := fun D σ H => ∃ M : L2.St → Hp → Prop, t { D with nx := M } σ H ∧ ∀ σ1 H1, M σ1 H1 → u D σ1 H1
theorem pss_mid {X : Cx} {st : Stmt} {r : List Stmt} {t u : TS} (a : PS X st t) (b : PSs X r u) : PSs X (st :: r) (tMid t u) := ⟨fun pins s σ H D I h => by
  obtain ⟨M, hm, hu⟩ := h
  refine wpAny_execs_cons (thn (a.run pins s σ H { D with nx := M } I hm) fun f s1 q => ?_)
  cases f
  case next =>
    obtain ⟨σ1, H1, I1, q1⟩ := q
    exact b.run pins s1 σ1 H1 D I1 (hu σ1 H1 q1)
  all_goals exact q⟩
/-! ### texts -/
/-- a text of these codes; one sign -/
abbrev tx (l : List Nat) : V := .str ⟨l.toArray⟩
abbrev sg (c : Nat) : V := .str ⟨#[c]⟩
theorem signs_vals {x : Str} {acc : Array Value} (h : ItemsOf (SignAt x) acc x.cps.size) : Vals (x.cps.toList.map sg) acc.toList := by
  obtain ⟨hz, hi⟩ := h
  have key : ∀ (l : List Nat) (us : List Value), l.length = us.length → (∀ (j : Nat) (c : Nat) (v : Value), l[j]? = some c → us[j]? = some v → ∃ t, v = Value.str ⟨#[c]⟩ t) → Vals (l.map sg) us := by
    intro l
    induction l with
    | nil =>
      intro us hl _
      cases us with
      | nil => exact .nil
      | cons a b => cases hl
    | cons c l ih =>
      intro us hl hh
      cases us with
      | nil => cases hl
      | cons u us =>
        refine .cons ?_ (ih us (Nat.succ.inj hl) fun j c v h1 h2 => hh (j + 1) c v h1 h2)
        obtain ⟨t, e⟩ := hh 0 c u rfl rfl
        exact ⟨t, e⟩
  refine key _ _ (by rw [Array.length_toList, Array.length_toList, hz]) fun j c v h1 h2 => ?_
  obtain ⟨cc, t, e1, e2⟩ := hi j v (by rw [← Array.getElem?_toList]; exact h2)
  rw [Array.getElem?_toList] at h1
  rw [h1] at e1
  cases e1
  exact ⟨t, e2⟩
/-- the text of one sign -/
abbrev sS (c : Nat) : Str := ⟨#[c]⟩
theorem str_empty : (Str.ofString "").cps = #[] := by decide +kernel
theorem join_signs : ∀ l : List Nat, Txt.join (Str.ofString "") (l.map sS) = ⟨l.toArray⟩ := by
  intro l
  show PySem.Builtin.Str.glued (Str.ofString "") (l.map sS) = _
  rw [PySem.StrLaws.glued_eq_join]
  induction l with
  | nil => rfl
  | cons c l ih =>
    cases l with
    | nil => rfl
    | cons d l =>
      show sS c ++ Str.ofString "" ++ Str.join (Str.ofString "") ((d :: l).map sS) = _
      rw [ih]
      show (⟨(#[c] ++ (Str.ofString "").cps) ++ (d :: l).toArray⟩ : Str) = _
      rw [str_empty]
      simp
theorem ltCps_one {a b : Nat} (h : ltCps [a] [b] = false) : b ≤ a := by
  simp [ltCps] at h
  exact h
theorem rising_signs : ∀ (l : List Nat) (c : Nat), risingS (sS c) (l.map sS) = true → (c :: l).Pairwise (· ≤ ·)
  | [], c, _ => List.pairwise_singleton _ _
  | d :: l, c, h => by
    have h' : (!ltCps [d] [c] && risingS (sS d) (l.map sS)) = true := h
    rw [Bool.and_eq_true, Bool.not_eq_true'] at h'
    have hd := ltCps_one h'.1
    have ih := rising_signs l d h'.2
    refine List.Pairwise.cons (fun x hx => ?_) ih
    rcases List.mem_cons.mp hx with e | hx
    · rw [e]
      exact hd
    · exact Nat.le_trans hd ((List.pairwise_cons.mp ih).1 x hx)
theorem sorted_signs : ∀ (l : List Nat), sortedS (l.map sS) = true → l.Pairwise (· ≤ ·)
  | [], _ => List.Pairwise.nil
  | c :: l, h => rising_signs l c h
theorem perm_signs {ys : List Str} {l : List Nat} (h : ys.Perm (l.map sS)) : ∃ l' : List Nat, ys = l'.map sS ∧ l'.Perm l := by
  let hd : Str → Nat := fun z => z.cps.toList.headD 0
  refine ⟨ys.map hd, ?_, ?_⟩
  · rw [List.map_map]
    have e : ∀ y ∈ ys, (sS ∘ hd) y = y := fun y hy => by
      obtain ⟨c, _, rfl⟩ := List.mem_map.mp (h.mem_iff.mp hy)
      rfl
    conv => lhs; rw [← List.map_id ys]
    exact (List.map_congr_left e).symm
  · have e := h.map hd
    rw [List.map_map] at e
    have e2 : l.map (hd ∘ sS) = l := by
      conv => rhs; rw [← List.map_id l]
      exact List.map_congr_left fun c _ => rfl
    rw [e2] at e
    exact e
theorem strict_of {l : List Nat} (h : l.Pairwise (· ≤ ·)) (n : l.Nodup) : l.Pairwise (· < ·) := by
  refine (h.and n).imp fun {a b} q => ?_
  have h1 := q.1
  have h2 : a ≠ b := q.2
  omega
theorem map_sg (l : List Nat) : l.map sg = (l.map sS).map V.str := by
  rw [List.map_map]
  rfl
theorem erase_map {α β : Type} (f : α → β) : ∀ (l : List α) (k : Nat), (l.map f).eraseIdx k = (l.eraseIdx k).map f
  | [], _ => rfl
  | _ :: _, 0 => rfl
  | a :: l, k + 1 => by
    show f a :: (l.map f).eraseIdx k = f a :: (l.eraseIdx k).map f
    rw [erase_map f l k]
theorem pop_perm : ∀ {l : List Nat} {k : Nat} {y : Nat}, l[k]? = some y → (y :: l.eraseIdx k).Perm l
  | [], k, y, h => by simp at h
  | a :: l, 0, y, h => by
    have e : a = y := Option.some.inj h
    rw [e]
    exact List.Perm.refl _
  | a :: l, k + 1, y, h => by
    have ih := pop_perm (l := l) (k := k) (y := y) h
    exact (List.Perm.swap a y (l.eraseIdx k)).trans (ih.cons a)
theorem popped {l : List Nat} {k : Nat} {y : Nat} (h : l[k]? = some y) (f : List Nat) : (l.eraseIdx k ++ (f ++ [y])).Perm (l ++ f) := by
  have p := pop_perm h
  have p1 : (l.eraseIdx k ++ (f ++ [y])).Perm ([y] ++ (l.eraseIdx k ++ f)) := by
    rw [← List.append_assoc]
    exact List.perm_append_comm
  refine p1.trans ?_
  rw [← List.append_assoc]
  exact p.append_right f
section
variable {X : Cx}
theorem call_list_txt (hc : X.calm = true := by rfl) : CallR X (.type "list") (fun xs H Q => ∃ z : Str, xs = [.str z] ∧ z.length ≤ sizeLine ∧ ∀ l, H l = none → Q (.ref l) (upd H l (.lst (z.cps.toList.map sg)))) := by
  intro pins s σ H xs us Q I r h
  obtain ⟨z, rfl, hz, q⟩ := h
  obtain ⟨u, rfl, rx⟩ := vals1 r
  obtain ⟨t, rfl⟩ := rx
  refine PySem.call_list_str (I.ok.hd hc) z t (fun h' tk acc c kp e hi => ?_) hz
  have hv := signs_vals hi
  exact ⟨.ref s.heap.objs.size, _, I.laid (t' := tk) kp (Nat.le_refl _) (show ObjOk X.prog X.w _ h' _ (.lst (z.cps.toList.map sg)) from ⟨by rw [List.length_map, Array.length_toList]; exact hz, acc.toList, c, hv, by rw [Array.toArray_toList]; exact e⟩), rfl, q _ (I.hok.fresh (Nat.le_refl _))⟩
end
end My

set_option Elab.async false
set_option linter.all false
set_option maxRecDepth 100000
set_option maxHeartbeats 1000000
namespace My
open PySem PySem.Spec PyProof.Rows L2
/-! ### enumerate over a text, over a tuple -/
def ItEg (go : Nat → Hp → Prop) (val : Nat → Hp → V → Prop) (stop : Nat → Hp → Prop) : It :=
  ⟨go, fun i H v H' => ∃ T x, v = .ref T ∧ H T = none ∧ H' = upd H T (.tup [.int (i : Nat), x]) ∧ val i H x, stop⟩
theorem turn_eg {P : Program} {w : World} {K : PySem.W.Frag} {elts : List Expr} {kk : Nat} {tpos : Pos} {e it : Addr} {Sub : Nat → Heap → Prop} {go stop : Nat → Hp → Prop} {val : Nat → Hp → V → Prop} (hne : e ≠ it)
    (obj : ∀ i h, Sub i h → ∃ o, h.get? it = some o ∧ ∀ v, o.data ≠ .cell v)
    (keep : ∀ i h h', Sub i h → (∀ o, h.get? it = some o → h'.get? it = some o) → Sub i h')
    (draw : ∀ (X : Cx) (pins : List (Addr × Obj)) (σ : L2.St) (H : Hp) (s : Shared) (i : Nat), X.prog = P → X.w = w → X.K = K → X.calm = true → Inv X pins σ H s → (∃ old, IsEnum s.heap e it ((i : Nat) : Int) old) → Sub i s.heap → go i H ∨ stop i H →
      ∃ (fp : List Addr) (n : Nat) (Pd : Nat → Value → Prop) (St : Nat → Heap → Prop), Draws P w X.A.in1 it fp n Pd St ∧ St i s.heap ∧ (∀ j h, St j h → Sub j h) ∧ e ∉ fp ∧ (go i H → i < n) ∧ (stop i H → i = n) ∧ (go i H → ∀ u, Pd i u → ∃ x, RelV x u ∧ val i H x)) :
    Turn P w K (.Tuple elts kk tpos) (ItEg go val stop) [e, it] e (fun i h => (∃ old, IsEnum h e it ((i : Nat) : Int) old) ∧ Sub i h) where
  mem := by simp
  obj := fun i h st b hb => by
    obtain ⟨⟨old, he⟩, hs⟩ := st
    have hb2 : b = e ∨ b = it := by simpa using hb
    rcases hb2 with z | z
    · rw [z]
      exact ⟨_, he, fun v q => nomatch q⟩
    · rw [z]
      exact obj i h hs
  keep := fun i h h' st k => by
    obtain ⟨⟨old, he⟩, hs⟩ := st
    exact ⟨⟨old, k e (by simp) _ he⟩, keep i h h' hs fun o q => k it (by simp) o q⟩
  item := by
    intro X hP hw hK hc i pins s σ H E I hf st hg
    obtain ⟨fp, n, Pd, St, D, hst, hsub, hef, hlt, _, hval⟩ := draw X pins σ H s i hP hw hK hc I st.1 st.2 (.inl hg)
    obtain ⟨⟨old, he⟩, hs⟩ := st
    subst hP hw hK
    have hel : e < s.heap.objs.size := Heap.lt_size he
    have hil : it < s.heap.objs.size := by
      obtain ⟨o, q, _⟩ := obj i _ hs
      exact Heap.lt_size q
    refine wpAny_pyNext_enum_itemC D he hst (hlt hg) hne hef fun u h' tk hu ho hst' hT hsz hk => ?_
    obtain ⟨x, ru, hv⟩ := hval hg u hu
    refine ⟨_, rfl, wpAny_letOwnedTupleGo_enum (s := { s with heap := h', toks := tk + 1 }) ho fun h'' he' sb => ?_⟩
    have hT2 : h''.get? s.heap.objs.size = some { cls := .type "tuple", data := .seq #[.int i tk, u] } := (sb.2 _ (Nat.ne_of_gt hel)).trans hT
    have new : ObjOk X.prog X.w (upd H s.heap.objs.size (.tup [.int (i : Nat), x])) h'' s.heap.objs.size (.tup [.int (i : Nat), x]) := ⟨by show 2 ≤ sizeLine; decide, [.int i tk, u], .cons ⟨_, rfl⟩ (.cons ru .nil), ⟨_, hT2, rfl, _, rfl⟩⟩
    have I1 : Inv X pins σ (upd H s.heap.objs.size (.tup [.int (i : Nat), x])) { s with heap := h'', toks := tk + 1 } :=
      I.turnedNew (ch := [e, it]) (fun b ob hb q => (sb.2 b fun z => hb (by simp [z])).trans (hk b ob (fun z => hb (by simp [z])) (fun z => hb (by simp [z])) q)) hf (Nat.le_refl _) new
    refine ⟨.ref s.heap.objs.size, _, I1, rfl, ⟨_, x, rfl, I.hok.fresh (Nat.le_refl _), rfl, hv⟩, ⟨⟨u, ?_⟩, keep _ _ _ (hsub _ _ hst') fun o q => (sb.2 it (Ne.symm hne)).trans q⟩, fun b hb => ?_⟩
    · have e1 : ((i + 1 : Nat) : Int) = (i : Int) + 1 := by omega
      rw [e1]
      exact he'
    · have hb2 : b = e ∨ b = it := by simpa using hb
      have hb' : b < s.heap.objs.size := by
        rcases hb2 with z | z
        · rw [z]
          exact hel
        · rw [z]
          exact hil
      rw [upd_ne (Nat.ne_of_lt hb')]
      exact (hf b hb).1
  done := by
    intro X hP hw hK hc i pins s σ H E I hf st hg
    obtain ⟨fp, n, Pd, St, D, hst, hsub, hef, _, heq, _⟩ := draw X pins σ H s i hP hw hK hc I st.1 st.2 (.inr hg)
    obtain ⟨⟨old, he⟩, hs⟩ := st
    subst hP hw hK
    have ei := heq hg
    subst ei
    obtain ⟨f0, f1, f2, f3, f4, f5⟩ := hf it (by simp)
    exact wpAny_pyNext_enum_endD D he hst fun h' eb => ⟨rfl, I.turned (t' := s.toks) (fun b o hb q => eb b o hb q) f0 f1 f3 f4 f5⟩
  self := fun A i s Q E st h => by
    obtain ⟨⟨old, he⟩, _⟩ := st
    exact wpAny_pyIter_enum he h
/-- the signs of a text with their places -/
def Ites (z : Str) : It := ItEg (fun i _ => i < z.cps.size) (fun i _ x => ∃ c, z.cps[i]? = some c ∧ x = sg c) (fun i _ => i = z.cps.size)
/-- the items of a tuple with their places -/
def Itet (K : PySem.W.Frag) (a : Addr) : It := ItEg (fun i H => ∃ xs, SqT K H a xs ∧ i < xs.length) (fun i H x => ∀ xs, SqT K H a xs → xs[i]? = some x) (fun i H => ∃ xs, SqT K H a xs ∧ i = xs.length)
theorem turn_es {P : Program} {w : World} {K : PySem.W.Frag} {elts : List Expr} {kk : Nat} {tpos : Pos} {e it : Addr} (z : Str) (t : Tok) (hne : e ≠ it) :
    Turn P w K (.Tuple elts kk tpos) (Ites z) [e, it] e (fun i h => (∃ old, IsEnum h e it ((i : Nat) : Int) old) ∧ h.IsStrIter it (strIterType z) z t i) := by
  refine turn_eg hne (fun i h st => ?_) (fun i h h' st k => ?_) (fun X pins σ H s i hP hw hK hc I hen st hg => ?_)
  · obtain ⟨o, e1, c, d⟩ := st
    exact ⟨o, e1, fun v q => by rw [d] at q; cases q⟩
  · obtain ⟨o, ho, r⟩ := st
    exact ⟨o, k o ho, r⟩
  · have hh : X.A.in1.handled = none := I.ok.hd hc
    subst hP hw hK
    refine ⟨_, _, _, _, Draws.text hh it z t, st, fun _ _ q => q, fun q => hne (by simpa using q), fun q => q, fun q => q, fun _ u hu => ?_⟩
    obtain ⟨c, tk, e1, e2⟩ := hu
    exact ⟨sg c, ⟨tk, e2⟩, c, e1, rfl⟩
theorem turn_et {P : Program} {w : World} {K : PySem.W.Frag} {elts : List Expr} {kk : Nat} {tpos : Pos} {e it : Addr} (a : Addr) (hne : e ≠ it) :
    Turn P w K (.Tuple elts kk tpos) (Itet K a) [e, it] e (fun i h => (∃ old, IsEnum h e it ((i : Nat) : Int) old) ∧ h.IsTupleIter it a i) := by
  refine turn_eg hne (fun i h st => ?_) (fun i h h' st k => ?_) (fun X pins σ H s i hP hw hK hc I hen st hg => ?_)
  · obtain ⟨o, e1, c, d⟩ := st
    exact ⟨o, e1, fun v q => by rw [d] at q; cases q⟩
  · obtain ⟨o, ho, r⟩ := st
    exact ⟨o, k o ho, r⟩
  · have hh : X.A.in1.handled = none := I.ok.hd hc
    subst hP hw hK
    have hx : ∃ xs, SqT X.K H a xs := by
      rcases hg with ⟨xs, q, _⟩ | ⟨xs, q, _⟩
      · exact ⟨xs, q⟩
      · exact ⟨xs, q⟩
    obtain ⟨xs, hq⟩ := hx
    obtain ⟨its, rv, p, hz⟩ := I.tuple hq
    have hl := rv.length
    have same : ∀ ys, SqT X.K H a ys → ys.length = its.length := fun ys hy => by
      rw [I.tuple_inj hy hq]
      exact hl
    have hia : a ≠ it := fun z => by
      obtain ⟨o1, h1, c1, _⟩ := st
      obtain ⟨o2, h2, c2, _⟩ := p
      rw [z] at h2
      rw [h1] at h2
      cases h2
      rw [c1] at c2
      exact absurd c2 (by decide)
    have hea : e ≠ a := fun z => by
      obtain ⟨old, he⟩ := hen
      obtain ⟨o2, h2, c2, _⟩ := p
      rw [← z] at h2
      have he' : s.heap.get? e = some _ := he
      rw [he'] at h2
      cases h2
      exact absurd (show Value.type "enumerate" = Value.type "tuple" from c2) (by decide)
    refine ⟨_, _, _, _, Draws.tuple hh it a hia its.toArray, ⟨st, p⟩, fun _ _ q => q.1, fun q => ?_, fun q => ?_, fun q => ?_, fun q u hu => ?_⟩
    · have q2 : e = it ∨ e = a := by simpa using q
      rcases q2 with z | z
      · exact hne z
      · exact hea z
    · obtain ⟨ys, hy, hi⟩ := q
      have := same ys hy
      simp only [List.size_toArray]
      omega
    · obtain ⟨ys, hy, hi⟩ := q
      have := same ys hy
      simp only [List.size_toArray]
      omega
    · have hu2 : its[i]? = some u := by simpa using hu
      have hi : i < xs.length := by
        have := (List.getElem?_eq_some_iff.mp hu2).1
        omega
      obtain ⟨u', hu', ru⟩ := rv.get (List.getElem?_eq_getElem hi)
      rw [hu2] at hu'
      cases hu'
      refine ⟨xs[i], ru, fun ys hy => ?_⟩
      rw [I.tuple_inj hy hq]
      exact List.getElem?_eq_getElem hi
section
variable {X : Cx}
def iEnumS (ta : TA) : TI := fun σ H R => ta σ H fun vs H1 => ∃ z, vs = [.str z] ∧ R (Ites z) H1
def iEnumT (K : PySem.W.Frag) (ta : TA) : TI := fun σ H R => ta σ H fun vs H1 => ∃ a xs, vs = [.ref a] ∧ SqT K H1 a xs ∧ R (Itet K a) H1
theorem fresh2 {pins : List (Addr × Obj)} {σ : L2.St} {H : Hp} {s : Shared} (I : Inv X pins σ H s) : ∀ b ∈ [s.heap.objs.size + 1, s.heap.objs.size], FpOk X pins H b := fun b hb => by
  have hb2 : b = s.heap.objs.size + 1 ∨ b = s.heap.objs.size := by simpa using hb
  have hle : s.heap.objs.size ≤ b := by
    rcases hb2 with z | z
    · rw [z]
      exact Nat.le_succ _
    · rw [z]
      exact Nat.le_refl _
  exact I.fpOk hle (I.hok.fresh hle)
theorem pi_enumS {e : Expr} {ta : TA} {p pos tpos : Pos} {elts : List Expr} {kk : Nat} (hg : Gl X "enumerate") (hm : X.mg "enumerate" = none) (ha : PA X [e] ta) (hs : starEach [e] X.env = [(false, eval e X.env)] := by rfl) :
    PI X (.Tuple elts kk tpos) (.Call (.Name "enumerate" p) [e] [] pos) (iEnumS ta) := by
  refine ⟨fun pins s σ H R I h => ?_⟩
  refine Call_ (ld_blt I hg hm boot_enumerate (PyProof.Rows.callWith_type1 (thn (ha.run pos pins s σ H _ I h) fun us s1 ⟨vs, H1, I1, r1, q1⟩ => ?_) hs rfl))
  obtain ⟨z, rfl, q⟩ := q1
  obtain ⟨u, rfl, ru⟩ := vals1 r1
  obtain ⟨t, rfl⟩ := ru
  refine call_enumerate_str fun h' he hit hsz hk => wpAny_pyIter_enum he ?_
  exact ⟨s1.heap.objs.size + 1, [s1.heap.objs.size + 1, s1.heap.objs.size], _, _, H1, rfl, I1.kept (t' := s1.toks) hk, turn_es z t (Nat.succ_ne_self _), ⟨⟨.none, he⟩, hit⟩, fresh2 I1, q⟩
theorem meets_enumT (l : Addr) (items : Array Value) (n : Nat) (dct : Option Addr) (sl : Array (Option Value)) :
    Meets (Builtin.«enumerate.__new__» ⟨[.type "enumerate", .ref l], []⟩) (fun _ R s => s.heap.get? l = some ⟨.type "tuple", dct, .seq items n, sl⟩ ∧
      R (.ok (.ret (.ref (s.heap.push { cls := .type "tuple_iterator", data := .fields #[.ref l, .int 0 0] }).objs.size)))
        { s with heap := (s.heap.push { cls := .type "tuple_iterator", data := .fields #[.ref l, .int 0 0] }).push { cls := .type "enumerate", data := .fields #[.none, .bool false, .ref s.heap.objs.size, rawInt 0, .none, .none] } }) :=
  .of_wp fun prog w A R s h => by
    obtain ⟨hp, g, d, tk, os⟩ := s
    obtain ⟨hl, h⟩ := h
    have hsub := sub_enumerate
    have hT : Heap.IsTuple (Shared.heap ⟨hp, g, d, tk, os⟩) l items := ⟨_, hl, rfl, n, rfl⟩
    wp_walk using AutoSeq1.wpAny_loadPart' hl
    refine wpAny_stack_any fun st => wpAny_pure ?_
    split
    · rename_i c _ _ _ _ _
      cases (c == Value.type "enumerate") <;> (wp_walk using AutoSeq1.wpAny_loadPart' hl, wpAny_pyIter_tuple hT; exact ⟨_, rfl, h⟩)
    · wp_walk using AutoSeq1.wpAny_loadPart' hl, wpAny_pyIter_tuple hT
      exact ⟨_, rfl, h⟩
theorem call_enumT {prog : Program} {w : World} {A : Around} {E : Value → Shared → Prop} {s : Shared} {l : Addr} {items : Array Value} {Q : Value → Shared → Prop} (hL : s.heap.IsTuple l items)
    (h : ∀ h', IsEnum h' (s.heap.objs.size + 1) s.heap.objs.size 0 .none → h'.IsTupleIter s.heap.objs.size l 0 → (∀ b o, s.heap.get? b = some o → h'.get? b = some o) → Q (.ref (s.heap.objs.size + 1)) { s with heap := h' }) :
    wpAny (model prog w) A (call (.type "enumerate") [.ref l]) Q E s := by
  obtain ⟨⟨c, dct, dt, sl⟩, hl, hc, n, hd⟩ := hL
  have hc' : c = .type "tuple" := hc
  have hd' : dt = .seq items n := hd
  subst hc' hd'
  refine callType_new F.called_enumerate (by decide) (F.typeCall_enumerate_1 _) (F.newCall_enumerate_1 _) (fun obj => F.args_object_init_2 obj _) F.entry_enumerate_new (meets_enumT l items n dct sl) ⟨hl, ?_⟩
  have hz : (s.heap.push { cls := .type "tuple_iterator", data := .fields #[.ref l, .int 0 0] }).objs.size = s.heap.objs.size + 1 := Heap.size_push ..
  show _ ∧ _
  rw [hz]
  have he : IsEnum ((s.heap.push { cls := .type "tuple_iterator", data := .fields #[.ref l, .int 0 0] }).push { cls := .type "enumerate", data := .fields #[.none, .bool false, .ref s.heap.objs.size, rawInt 0, .none, .none] }) (s.heap.objs.size + 1) s.heap.objs.size 0 .none := by
    have := Heap.get?_push_size (s.heap.push { cls := .type "tuple_iterator", data := .fields #[.ref l, .int 0 0] }) (o := { cls := .type "enumerate", data := .fields #[.none, .bool false, .ref s.heap.objs.size, rawInt 0, .none, .none] }) rfl
    rw [hz] at this
    exact this
  exact ⟨⟨_, he, rfl⟩, h _ he ⟨_, Heap.get?_push_of_some _ (Heap.get?_push_size _ rfl), rfl, rfl⟩ fun b o x => Heap.get?_push_of_some _ (Heap.get?_push_of_some _ x)⟩
theorem pi_enumT {e : Expr} {ta : TA} {p pos tpos : Pos} {elts : List Expr} {kk : Nat} (hg : Gl X "enumerate") (hm : X.mg "enumerate" = none) (ha : PA X [e] ta) (hs : starEach [e] X.env = [(false, eval e X.env)] := by rfl) :
    PI X (.Tuple elts kk tpos) (.Call (.Name "enumerate" p) [e] [] pos) (iEnumT X.K ta) := by
  refine ⟨fun pins s σ H R I h => ?_⟩
  refine Call_ (ld_blt I hg hm boot_enumerate (PyProof.Rows.callWith_type1 (thn (ha.run pos pins s σ H _ I h) fun us s1 ⟨vs, H1, I1, r1, q1⟩ => ?_) hs rfl))
  obtain ⟨a, xs, rfl, hq, q⟩ := q1
  obtain ⟨u, rfl, ru⟩ := vals1 r1
  cases ru
  obtain ⟨its, rv, pl, hz⟩ := I1.tuple hq
  refine call_enumT pl fun h' he hit hk => wpAny_pyIter_enum he ?_
  exact ⟨s1.heap.objs.size + 1, [s1.heap.objs.size + 1, s1.heap.objs.size], _, _, H1, rfl, I1.kept (t' := s1.toks) hk, turn_et a (Nat.succ_ne_self _), ⟨⟨.none, he⟩, hit⟩, fresh2 I1, q⟩
end
theorem walk_es {z : Str} : Walk (Ites z) z.cps.size (fun _ => True) (YPair (fun i => some (.int (i : Nat))) (fun i => z.cps[i]?.map sg)) := by
  refine ⟨fun _ _ hi _ => hi, fun _ _ => rfl, fun i H v H' hi _ y => ?_⟩
  obtain ⟨T, x, h1, h2, h3, c, h4, h5⟩ := y
  exact ⟨T, .int (i : Nat), x, h1, h2, h3, rfl, by show Option.map sg z.cps[i]? = some x; rw [h4, h5]; rfl⟩
theorem walk_et {K : PySem.W.Frag} {a : Addr} {xs : List V} : Walk (Itet K a) xs.length (fun H => SqT K H a xs) (YPair (fun i => some (.int (i : Nat))) (fun i => xs[i]?)) := by
  refine ⟨fun _ _ hi q => ⟨xs, q, hi⟩, fun _ q => ⟨xs, q, rfl⟩, fun i H v H' hi q y => ?_⟩
  obtain ⟨T, x, h1, h2, h3, h4⟩ := y
  exact ⟨T, .int (i : Nat), x, h1, h2, h3, rfl, h4 xs q⟩
end My

set_option Elab.async false
set_option linter.all false
set_option maxRecDepth 100000
set_option maxHeartbeats 1000000
namespace My
open PySem PySem.Spec PyProof.Rows L2
/-! ### calls by named readings -/
def rLenSq (K : PySem.W.Frag) : List V → Hp → VK → Prop := fun xs H Q => ∃ p ys, xs = [.ref p] ∧ (SqL K H p ys ∨ SqT K H p ys) ∧ Q (.int (ys.length : Nat)) H
def rTupSq (K : PySem.W.Frag) : List V → Hp → VK → Prop := fun xs H Q => ∃ p ys, xs = [.ref p] ∧ ((SqL K H p ys ∧ ∀ l, H l = none → Q (.ref l) (upd H l (.tup ys))) ∨ (SqT K H p ys ∧ Q (.ref p) H))
def rDictSq (K : PySem.W.Frag) : List V → Hp → VK → Prop := fun xs H Q => ∃ (a : Addr) (ps : List Addr) (kvs : List (Key × V)), xs = [.ref a] ∧ SqL K H a (ps.map V.ref) ∧ Paired (fun p kv => SqT K H p [kV kv.1, kv.2]) ps kvs ∧ ∀ p, H p = none → Q (.ref p) (upd H p (.dK (mergeK [] kvs)))
section
variable (K : PySem.W.Frag) {X : Cx}
theorem cLenSq (hK : X.K = K := by rfl) : CallR X (.builtin "len") (rLenSq K) := by
  subst hK
  exact call_len_seq
theorem cTupSq (hK : X.K = K := by rfl) : CallR X (.type "tuple") (rTupSq K) := by
  subst hK
  exact call_tuple_of
theorem cDictSq (hK : X.K = K := by rfl) (hc : X.calm = true := by rfl) : CallR X (.type "dict") (rDictSq K) := by
  subst hK
  exact call_dictP hc
theorem ixL (hK : X.K = K := by rfl) : IxR X (rIxL K) := by
  subst hK
  exact ix_list
theorem ixT (hK : X.K = K := by rfl) : IxR X (rIxT K) := by
  subst hK
  exact ix_tup
theorem piL {tg l : Expr} {tl : TE} (hl : PE X l tl) (hK : X.K = K := by rfl) : PI X tg l (iList K tl) := by
  subst hK
  exact pi_list hl
theorem piT {tg l : Expr} {tl : TE} (hl : PE X l tl) (hK : X.K = K := by rfl) : PI X tg l (iTup K tl) := by
  subst hK
  exact pi_tup hl
theorem pgT {es : List Expr} {k : Nat} {t : TGs} {n : Nat} {pos : Pos} (h : PGs X es t) (hK : X.K = K := by rfl) (hc : X.calm = true := by rfl) (hn : (assignEach es X.env).length = n := by rfl) (hst : (assignEach es X.env).findIdx? (·.1) = none := by rfl) : PG X (.Tuple es k pos) (gTup K n t) := by
  subst hK
  exact pg_tup hc h hn hst
theorem pgU {es : List Expr} {k : Nat} {t : TGs} {n : Nat} {pos : Pos} (h : PGs X es t) (hK : X.K = K := by rfl) (hc : X.calm = true := by rfl) (hn : (assignEach es X.env).length = n := by rfl) (hst : (assignEach es X.env).findIdx? (·.1) = none := by rfl) : PG X (.Tuple es k pos) (gUnl K n t) := by
  subst hK
  exact pg_unl hc h hn hst
theorem inSq (hK : X.K = K := by rfl) : OpR X (compareOp .In) (rIn K false) := by
  subst hK
  exact op_in_seq
theorem notInSq (hK : X.K = K := by rfl) : OpR X (compareOp .NotIn) (rIn K true) := by
  subst hK
  exact op_notIn_seq
theorem eqDK (hu : X.A.units + 64 < cLine) (hK : X.K = K := by rfl) : OpR X (compareOp .Eq) (rEqD K) := by
  subst hK
  exact op_eqD hu
theorem neDK (hu : X.A.units + 64 < cLine) (hK : X.K = K := by rfl) : OpR X (compareOp .NotEq) (rNeD K) := by
  subst hK
  exact op_neD hu
theorem bmK {T id : String} {name : Str} {r : V → List V → Hp → VK → Prop} {o e : Expr} {es : List Expr} {to : TE} {t : TA} {apos cpos : Pos} (pa : PlainAttrs T) (slot : Slot T name id) (hty : typeOf (.builtin id) = pure (.type "method_descriptor")) (hm : MtR X id r) (ho : PE X o to) (ha : PA X (e :: es) t) (hK : X.K = K := by rfl)
    (hbase : attributeBase o name X.env (eval o X.env) = eval o X.env := by rfl)
    (hfew : ((backTo cpos (starEach (e :: es) X.env)).all (fun x => !x.1) && (backToKw cpos (keywordEach [] X.env)).all (fun x => x.1.isSome) && decide ((e :: es).length + ([] : List Keyword).length + (if ([] : List Keyword).isEmpty then 0 else 1) < 30)) = true := by rfl)
    (hline : (apos.endLine == cpos.line) = true := by rfl) (hs : starEach (e :: es) X.env = (false, eval e X.env) :: starEach es X.env := by rfl) (hplain : (backTo cpos (starEach es X.env)).any (·.1) = false := by rfl) :
    PE X (.Call (.Attribute o name apos) (e :: es) [] cpos) (tBM K T r to t) := by
  subst hK
  exact pe_bm pa slot hty hm ho ha hbase hfew hline hs hplain
theorem enumTK {e : Expr} {ta : TA} {p pos tpos : Pos} {elts : List Expr} {kk : Nat} (hg : Gl X "enumerate") (hm : X.mg "enumerate" = none) (ha : PA X [e] ta) (hK : X.K = K := by rfl) (hs : starEach [e] X.env = [(false, eval e X.env)] := by rfl) :
    PI X (.Tuple elts kk tpos) (.Call (.Name "enumerate" p) [e] [] pos) (iEnumT K ta) := by
  subst hK
  exact pi_enumT hg hm ha hs
end
/-! ### frozen data: numbers, texts, None, truths, tuples of these -/
mutual
inductive Fz (H : Hp) : V → PyData → Prop
  | non : Fz H .non .none
  | bl (b : Bool) : Fz H (.bl b) (.bool b)
  | int (i : Int) : Fz H (.int i) (.int i)
  | str (x : Str) : Fz H (.str x) (.str x)
  | tup {a : Addr} {xs : List V} {ds : List PyData} : H a = some (.tup xs) → FzA H xs ds → Fz H (.ref a) (.tuple ds)
inductive FzA (H : Hp) : List V → List PyData → Prop
  | nil : FzA H [] []
  | cons {v : V} {vs : List V} {d : PyData} {ds : List PyData} : Fz H v d → FzA H vs ds → FzA H (v :: vs) (d :: ds)
end
/-- tuples stay -/
def Kt (H H' : Hp) : Prop := ∀ b xs, H b = some (.tup xs) → H' b = some (.tup xs)
theorem Kt.rfl' {H : Hp} : Kt H H := fun _ _ h => h
theorem Kt.trans {H H1 H2 : Hp} (a : Kt H H1) (b : Kt H1 H2) : Kt H H2 := fun c o h => b c o (a c o h)
theorem Kt.new {H : Hp} {p : Addr} {o : HO} (n : H p = none) : Kt H (upd H p o) := fun b xs h => by
  rw [upd_ne (ne_of_none h n)]
  exact h
theorem Kt.lst {H : Hp} {p : Addr} {xs : List V} {o : HO} (n : H p = some (.lst xs)) : Kt H (upd H p o) := fun b ys h => by
  have e : b ≠ p := fun z => by
    rw [z, n] at h
    cases h
  rw [upd_ne e]
  exact h
theorem Kt.dct {H : Hp} {p : Addr} {xs : List (Key × V)} {o : HO} (n : H p = some (.dK xs)) : Kt H (upd H p o) := fun b ys h => by
  have e : b ≠ p := fun z => by
    rw [z, n] at h
    cases h
  rw [upd_ne e]
  exact h
theorem Kp.kt {r : Addr} {H H' : Hp} {xs : List V} (k : Kp r H H') (h : H r = some (.lst xs)) : Kt H H' := fun b ys e => k b _ (fun z => by
  rw [z, h] at e
  cases e) e
theorem Same.kt {H H' : Hp} (k : Same H H') : Kt H H' := fun b ys e => k b _ e
mutual
theorem Fz.mono {H H' : Hp} (k : Kt H H') : ∀ (d : PyData) (v : V), Fz H v d → Fz H' v d
  | .none, _, .non => .non
  | .bool _, _, .bl b => .bl b
  | .int _, _, .int i => .int i
  | .str _, _, .str x => .str x
  | .tuple ds, _, .tup h a => .tup (k _ _ h) (FzA.mono k ds _ a)
theorem FzA.mono {H H' : Hp} (k : Kt H H') : ∀ (ds : List PyData) (vs : List V), FzA H vs ds → FzA H' vs ds
  | [], _, .nil => .nil
  | d :: ds, _, .cons h a => .cons (Fz.mono k d _ h) (FzA.mono k ds _ a)
end
theorem Fz.kt {H H' : Hp} {v : V} {d : PyData} (h : Fz H v d) (k : Kt H H') : Fz H' v d := Fz.mono k d v h
theorem FzA.kt {H H' : Hp} {vs : List V} {ds : List PyData} (h : FzA H vs ds) (k : Kt H H') : FzA H' vs ds := FzA.mono k ds vs h
mutual
theorem Fz.dp {K : PySem.W.Frag} {H : Hp} : ∀ (d : PyData) (v : V), Fz H v d → Dp K H v d
  | .none, _, .non => .non
  | .bool _, _, .bl b => .bl b
  | .int _, _, .int i => .int i
  | .str _, _, .str x => .str x
  | .tuple ds, _, .tup h a => .tup (.inl (.inl h)) (FzA.dp ds _ a)
theorem FzA.dp {K : PySem.W.Frag} {H : Hp} : ∀ (ds : List PyData) (vs : List V), FzA H vs ds → DpAll K H vs ds
  | [], _, .nil => .nil
  | d :: ds, _, .cons h a => .cons (Fz.dp d _ h) (FzA.dp ds _ a)
end
theorem Fz.to {K : PySem.W.Frag} {H : Hp} {v : V} {d : PyData} (h : Fz H v d) : Dp K H v d := Fz.dp d v h
theorem FzA.len : ∀ {H : Hp} {vs : List V} {ds : List PyData}, FzA H vs ds → vs.length = ds.length
  | _, _, _, .nil => rfl
  | _, _, _, .cons _ a => by
    rw [List.length_cons, List.length_cons, FzA.len a]
theorem FzA.get : ∀ {H : Hp} {vs : List V} {ds : List PyData} {i : Nat} {d : PyData}, FzA H vs ds → ds[i]? = some d → ∃ v, vs[i]? = some v ∧ Fz H v d
  | _, _, _, _, _, .nil, h => by simp at h
  | _, _, _, 0, _, .cons a _, h => ⟨_, rfl, Option.some.inj h ▸ a⟩
  | _, _, _, i + 1, _, .cons _ a, h => FzA.get (i := i) a h
theorem FzA.getV : ∀ {H : Hp} {vs : List V} {ds : List PyData} {i : Nat} {v : V}, FzA H vs ds → vs[i]? = some v → ∃ d, ds[i]? = some d ∧ Fz H v d
  | _, _, _, _, _, .nil, h => by simp at h
  | _, _, _, 0, _, .cons a _, h => ⟨_, rfl, Option.some.inj h ▸ a⟩
  | _, _, _, i + 1, _, .cons _ a, h => FzA.getV (i := i) a h
theorem FzA.app : ∀ {H : Hp} {vs ws : List V} {ds es : List PyData}, FzA H vs ds → FzA H ws es → FzA H (vs ++ ws) (ds ++ es)
  | _, _, _, _, _, .nil, b => b
  | _, _, _, _, _, .cons a r, b => .cons a (FzA.app r b)
theorem FzA.snoc {H : Hp} {vs : List V} {ds : List PyData} {v : V} {d : PyData} (a : FzA H vs ds) (b : Fz H v d) : FzA H (vs ++ [v]) (ds ++ [d]) := a.app (.cons b .nil)
theorem FzA.ints : ∀ {H : Hp} {ns : List Int} {vs : List V}, FzA H vs (ns.map PyData.int) → vs = ns.map V.int
  | _, [], _, .nil => rfl
  | _, n :: ns, _, .cons (.int _) a => by
    rw [FzA.ints (ns := ns) a]
    rfl
theorem FzA.ofInts : ∀ {H : Hp} {ns : List Int}, FzA H (ns.map V.int) (ns.map PyData.int)
  | _, [] => .nil
  | _, n :: ns => .cons (.int n) (FzA.ofInts (ns := ns))
/-- a tuple, opened -/
theorem Fz.open {H : Hp} {v : V} {ds : List PyData} (h : Fz H v (.tuple ds)) : ∃ (a : Addr) (xs : List V), v = .ref a ∧ H a = some (.tup xs) ∧ FzA H xs ds := by
  cases h with
  | tup h a => exact ⟨_, _, rfl, h, a⟩
theorem FzA.one {H : Hp} {vs : List V} {d : PyData} (h : FzA H vs [d]) : ∃ x, vs = [x] ∧ Fz H x d := by
  cases h with
  | cons a r =>
    cases r
    exact ⟨_, rfl, a⟩
theorem FzA.two {H : Hp} {vs : List V} {d e : PyData} (h : FzA H vs [d, e]) : ∃ x y, vs = [x, y] ∧ Fz H x d ∧ Fz H y e := by
  cases h with
  | cons a r =>
    obtain ⟨y, rfl, b⟩ := r.one
    exact ⟨_, y, rfl, a, b⟩
theorem FzA.three {H : Hp} {vs : List V} {d e f : PyData} (h : FzA H vs [d, e, f]) : ∃ x y z, vs = [x, y, z] ∧ Fz H x d ∧ Fz H y e ∧ Fz H z f := by
  cases h with
  | cons a r =>
    obtain ⟨y, z, rfl, b, c⟩ := r.two
    exact ⟨_, y, z, rfl, a, b, c⟩
theorem Fz.isStr {H : Hp} {v : V} {x : Str} (h : Fz H v (.str x)) : v = .str x := by
  cases h
  rfl
theorem Fz.isInt {H : Hp} {v : V} {i : Int} (h : Fz H v (.int i)) : v = .int i := by
  cases h
  rfl
theorem Fz.isNon {H : Hp} {v : V} (h : Fz H v .none) : v = .non := by
  cases h
  rfl
/-- a tuple just made -/
theorem Fz.made {H : Hp} {p : Addr} {xs : List V} {ds : List PyData} (n : H p = Option.none) (h : FzA H xs ds) : Fz (upd H p (.tup xs)) (.ref p) (.tuple ds) := .tup upd_same (h.kt (.new n))
theorem at_ints {ns : List Int} {d : Int} (h0 : 0 ≤ d) (h1 : d < (ns.length : Nat)) : ∃ t ∈ ns, atI (ns.map V.int) d = some (.int t) := by
  have hd : d.toNat < ns.length := by omega
  refine ⟨ns[d.toNat], List.getElem_mem hd, L2.at_of (j := d.toNat) (by omega) ?_⟩
  rw [List.getElem?_map, List.getElem?_eq_getElem hd]
  rfl
/-! ### tables -/
abbrev rowD (row : List Int) : PyData := .tuple (row.map PyData.int)
abbrev rowsD (rows : List (List Int)) : PyData := .tuple (rows.map rowD)
abbrev tabD (cols : List Nat) (rows : List (List Int)) : PyData := .tuple [.str ⟨cols.toArray⟩, rowsD rows]
/-- rising unlike letters -/
structure Cols (l : List Nat) : Prop where
  up : l.Pairwise (· < ·)
  az : ∀ c ∈ l, 97 ≤ c ∧ c ≤ 122
theorem Cols.nd {l : List Nat} (c : Cols l) : l.Nodup := c.up.imp fun {a b} h => by
  have : a < b := h
  omega
def RowOk (n : Nat) (row : List Int) : Prop := row.length = n ∧ ∀ x ∈ row, 0 ≤ x ∧ x < 1000
def RowsOk (n : Nat) (rows : List (List Int)) : Prop := ∀ row ∈ rows, RowOk n row
theorem row_open {H : Hp} {v : V} {row : List Int} (h : Fz H v (rowD row)) : ∃ a, v = .ref a ∧ H a = some (.tup (row.map V.int)) := by
  obtain ⟨a, xs, rfl, ha, f⟩ := h.open
  rw [FzA.ints f] at ha
  exact ⟨a, rfl, ha⟩
theorem row_made {H : Hp} {p : Addr} {row : List Int} (n : H p = none) : Fz (upd H p (.tup (row.map V.int))) (.ref p) (rowD row) := Fz.made n FzA.ofInts
theorem tab_open {H : Hp} {v : V} {cols : List Nat} {rows : List (List Int)} (h : Fz H v (tabD cols rows)) : ∃ (t R : Addr) (vs : List V), v = .ref t ∧ H t = some (.tup [tx cols, .ref R]) ∧ H R = some (.tup vs) ∧ FzA H vs (rows.map rowD) := by
  obtain ⟨t, xs, rfl, ht, f⟩ := h.open
  obtain ⟨x, y, rfl, fx, fy⟩ := f.two
  obtain ⟨R, vs, rfl, hR, fv⟩ := fy.open
  rw [fx.isStr] at ht
  exact ⟨t, R, vs, rfl, ht, hR, fv⟩
theorem can_row (row : List Int) : PyData.canLay0 (rowD row) = true := by
  show PyData.canLayAll0 (row.map PyData.int) = true
  induction row with
  | nil => rfl
  | cons a r ih =>
    show (PyData.canLay0 (.int a) && PyData.canLayAll0 (r.map PyData.int)) = true
    rw [ih]
    rfl
theorem can_rows (rows : List (List Int)) : PyData.canLay0 (rowsD rows) = true := by
  show PyData.canLayAll0 (rows.map rowD) = true
  induction rows with
  | nil => rfl
  | cons a r ih =>
    show (PyData.canLay0 (rowD a) && PyData.canLayAll0 (r.map rowD)) = true
    rw [ih, can_row]
    rfl
theorem dep_row (row : List Int) : PyData.depth (rowD row) ≤ 1 := by
  show PyData.depthAll (row.map PyData.int) + 1 ≤ 1
  induction row with
  | nil => exact Nat.le_refl _
  | cons a r ih =>
    show max (PyData.depth (.int a)) (PyData.depthAll (r.map PyData.int)) + 1 ≤ 1
    have e : PyData.depth (.int a) = 0 := rfl
    rw [e]
    omega
theorem dep_rows (rows : List (List Int)) : PyData.depth (rowsD rows) ≤ 2 := by
  show PyData.depthAll (rows.map rowD) + 1 ≤ 2
  induction rows with
  | nil => decide
  | cons a r ih =>
    show max (PyData.depth (rowD a)) (PyData.depthAll (r.map rowD)) + 1 ≤ 2
    have := dep_row a
    omega
theorem shaped_rows (rows : List (List Int)) : SeqAt.shaped (rowsD rows) = true := by
  unfold SeqAt.shaped
  rw [can_rows, Bool.true_and]
  have := dep_rows rows
  exact decide_eq_true (by omega)
/-! ### questions -/
abbrev eqD (p : Nat × Int) : PyData := .tuple [.str ⟨#[p.1]⟩, .int p.2]
abbrev rchD : Option (Nat × Int × Int) → PyData
  | none => .none
  | some (c, lo, hi) => .tuple [.str ⟨#[c]⟩, .int lo, .int hi]
structure QOk (cols : List Nat) (es : List (Nat × Int)) (rc : Option (Nat × Int × Int)) : Prop where
  up : (es.map (·.1)).Pairwise (· < ·)
  ok : ∀ p ∈ es, p.1 ∈ cols ∧ 0 ≤ p.2 ∧ p.2 < 1000
  len : es.length ≤ cols.length
  rc : ∀ c lo hi, rc = some (c, lo, hi) → c ∈ cols ∧ c ∉ es.map (·.1) ∧ 0 ≤ lo ∧ lo ≤ hi ∧ hi < 1000
theorem idx_first : ∀ {l : List Nat} {c i : Nat}, l[i]? = some c → (∀ k, k < i → l[k]? ≠ some c) → l.idxOf c = i
  | [], c, i, h, _ => by simp at h
  | a :: l, c, 0, h, _ => by
    have e : a = c := Option.some.inj h
    rw [e]
    simp
  | a :: l, c, i + 1, h, hn => by
    have e : a ≠ c := fun z => hn 0 (Nat.succ_pos _) (by rw [z]; rfl)
    have ih := idx_first (l := l) (c := c) (i := i) h fun k hk => hn (k + 1) (Nat.succ_lt_succ hk)
    rw [List.idxOf_cons, ih]
    have eb : (a == c) = false := by simp [e]
    rw [eb]
    rfl
/-- pairs as a dict's entries -/
abbrev kvI (p : Nat × Int) : Key × V := (Sum.inr (sS p.1), .int p.2)
theorem pairs_of {K : PySem.W.Frag} {H : Hp} : ∀ {es : List (Nat × Int)} {vs : List V}, FzA H vs (es.map eqD) → ∃ ps : List Addr, vs = ps.map V.ref ∧ Paired (fun p kv => SqT K H p [kV kv.1, kv.2]) ps (es.map kvI)
  | [], _, .nil => ⟨[], rfl, .nil⟩
  | e :: es, _, .cons a r => by
    obtain ⟨p, xs, rfl, hp, f⟩ := a.open
    obtain ⟨x, y, rfl, fx, fy⟩ := f.two
    obtain ⟨ps, rfl, hps⟩ := pairs_of (K := K) (es := es) r
    rw [fx.isStr, fy.isInt] at hp
    exact ⟨p :: ps, rfl, .cons (.inl (.inl hp)) hps⟩
theorem merge_new : ∀ (more acc : List (Key × V)), ((acc ++ more).map (·.1)).Nodup → mergeK acc more = acc ++ more
  | [], acc, _ => by
    rw [List.append_nil]
    rfl
  | kv :: more, acc, h => by
    have h2 : ((acc ++ [kv]) ++ more).map (·.1) = (acc ++ kv :: more).map (·.1) := by
      rw [List.append_assoc]
      rfl
    have nk : valV acc kv.1 = none := by
      cases e : valV acc kv.1 with
      | none => rfl
      | some v =>
        exfalso
        have hm : kv.1 ∈ acc.map (·.1) := valV_in e
        rw [List.map_append] at h
        have := (List.nodup_append.mp h).2.2
        exact this _ hm _ (by simp) rfl
    show mergeK (putK acc kv.1 kv.2) more = _
    rw [putK_new kv.2 nk]
    have e := merge_new more (acc ++ [(kv.1, kv.2)]) (by
      show (((acc ++ [kv]) ++ more).map (·.1)).Nodup
      rw [h2]
      exact h)
    rw [e, List.append_assoc]
    rfl
theorem keys_nd {es : List (Nat × Int)} (h : (es.map (·.1)).Nodup) : ((es.map kvI).map (·.1)).Nodup := by
  rw [List.map_map]
  have e : es.map ((fun kv : Key × V => kv.1) ∘ kvI) = (es.map (·.1)).map fun c => (Sum.inr (sS c) : Key) := by
    rw [List.map_map]
    rfl
  rw [e]
  refine List.Pairwise.map _ (fun a b hab z => hab ?_) h
  have z2 : sS a = sS b := Sum.inr.inj z
  have z3 : (#[a] : Array Nat) = #[b] := congrArg Str.cps z2
  simpa using z3
theorem merge_es {es : List (Nat × Int)} (h : (es.map (·.1)).Nodup) : mergeK [] (es.map kvI) = es.map kvI := merge_new _ [] (keys_nd h)
theorem val_es (c : Nat) : ∀ es : List (Nat × Int), (valV (es.map kvI) (Sum.inr (sS c))).isSome = decide (c ∈ es.map (·.1))
  | [] => rfl
  | e :: es => by
    by_cases h : e.1 = c
    · rw [List.map_cons, valV_pos (by show Sum.inr (sS e.1) = Sum.inr (sS c); rw [h])]
      simp [h]
    · rw [List.map_cons, valV_neg (fun z => h ?_), val_es c es]
      · have h2 : ¬ c = e.1 := fun z => h z.symm
        simp [h2]
      · have z2 : sS e.1 = sS c := Sum.inr.inj z
        have z3 : (#[e.1] : Array Nat) = #[c] := congrArg Str.cps z2
        simpa using z3
theorem dp_signs {K : PySem.W.Frag} {H : Hp} : ∀ l : List Nat, DpAll K H (l.map sg) (l.map fun c => PyData.str (sS c))
  | [] => .nil
  | c :: l => .cons (.str _) (dp_signs l)
theorem shaped_signs {l : List Nat} (h : ∀ c ∈ l, c ≤ 122) : SeqAt.shaped (.list (l.map fun c => PyData.str (sS c))) = true := by
  have e1 : PyData.canLayAll0 (l.map fun c => PyData.str (sS c)) = true := by
    induction l with
    | nil => rfl
    | cons c l ih =>
      show (PyData.canLay0 (.str (sS c)) && PyData.canLayAll0 (l.map fun c => PyData.str (sS c))) = true
      rw [ih fun d hd => h d (List.mem_cons_of_mem _ hd), Bool.and_true]
      have hc := h c (List.mem_cons_self ..)
      show (#[c] : Array Nat).all (· < 0x110000) = true
      simp
      omega
  have e2 : PyData.depthAll (l.map fun c => PyData.str (sS c)) = 0 := by
    clear h e1
    induction l with
    | nil => rfl
    | cons c l ih =>
      show max (PyData.depth (.str (sS c))) (PyData.depthAll (l.map fun c => PyData.str (sS c))) = 0
      rw [ih]
      rfl
  unfold SeqAt.shaped
  show (PyData.canLayAll0 _ && decide (PyData.depthAll _ + 1 ≤ 64)) = true
  rw [e1, e2]
  rfl
/-- the place of a letter -/
theorem ix_one {l : List Nat} {c : Nat} (h : c ∈ l) : ∃ r, Builtin.Str.occurrences (⟨l.toArray⟩ : Str) ⟨#[c]⟩ 0 (⟨l.toArray⟩ : Str).length 1 = l.idxOf c :: r := by
  have hx : (⟨l.toArray⟩ : Str).cps.toList = l := by simp
  rcases PySem.StrLaws.occ_head (⟨l.toArray⟩ : Str) ⟨#[c]⟩ 1 (Nat.le_refl 1) with ⟨h0, hn⟩ | ⟨i, r, h0, ha, hn⟩
  · exfalso
    obtain ⟨i, hi⟩ := List.mem_iff_getElem?.mp h
    exact hn i ((PySem.StrLaws.subAt_one _ c i).mpr (by rw [hx]; exact hi))
  · refine ⟨r, ?_⟩
    rw [h0]
    have e1 : l[i]? = some c := by
      have := (PySem.StrLaws.subAt_one _ c i).mp ha
      rw [hx] at this
      exact this
    have e3 : l.idxOf c = i := idx_first e1 fun k hk z => hn k hk ((PySem.StrLaws.subAt_one _ c k).mpr (by rw [hx]; exact z))
    rw [e3]
end My

set_option Elab.async false
set_option linter.all false
set_option maxRecDepth 100000
set_option maxHeartbeats 1000000
namespace My
open PySem PySem.Spec PyProof.Rows L2
/-! ### name = {.. for ..} on one line -/
section
variable {X : Cx} {pins : List (Addr × Obj)} {σ : L2.St} {H : Hp} {s : Shared}
/-- an object of the frame's own at C may become anything: all that is known stays -/
theorem past {C : Addr} {h' : Heap} {t' : Nat} (I : Inv X pins σ H s) (f : FpOk X pins H C) (kp : ∀ b u, b ≠ C → s.heap.get? b = some u → h'.get? b = some u) : Inv X pins σ H { s with heap := h', toks := t' } :=
  I.turned kp f.1 f.2.1 f.2.2.2.1 f.2.2.2.2.1 f.2.2.2.2.2
/-- it is neither the frame's dict nor one of its cells -/
theorem apart_of {C a : Addr} {y : Str} (f : FpOk X pins H C) (ha : a = X.env.locals ∨ X.env.cells.lookup y = some a) : C ≠ a := fun z =>
  ha.elim (fun e => f.2.1 (z.trans e)) fun e => f.2.2.2.2.1 y a e z.symm
/-- the dict that was made goes to the name y while the comprehension's frame C is still there -/
theorem kept_at {C L : Addr} {m : Str → Option Value} {i : Nat} {y : Str} {py : Pos} {D : Ends} {E : Value → Shared → Prop} (I : Inv X pins σ H s) (f : FpOk X pins H C) (hn : s.heap.Ns C m) (hN : X.N.Nodup) (hy : X.N[i]? = some y) (hyl : X.env.scope.names.lookup y = some .local)
    (q : D.nx (σ.set i (some (.ref L))) H) : wpAny (model X.prog X.w) X.A (assign (.Name y py) X.env (.ref L)) (fun _ s' => ∃ m', s'.heap.Ns C m' ∧ ∀ h3, Heap.SameBut C s'.heap h3 → SP X pins D .next { s' with heap := h3 }) E s :=
  wpAny_assign_Name (store_ok2 (v := .ref L) I hN hy (.inl hyl) rfl (fun s2 J ⟨_, sb, ha⟩ => ⟨m, hn.sameBut sb (apart_of f ha), fun h3 sb3 => ⟨_, H, past (t' := s2.toks) J f fun b u ne e => (sb3.2 b ne).trans e, q⟩⟩) (.inr hyl))
theorem ps_setDc {i : Nat} {y : Str} {py : Pos} {kx vx tg iter : Expr} {ifs : List Expr} {scope : Scope} {own : List (Str × Nat)} {pos spos : Pos} {wi : TI} {g : TG} {tt : TT} {tk tv : TE} (hc : X.calm = true) (hN : X.N.Nodup) (hy : X.N[i]? = some y) (hyl : X.env.scope.names.lookup y = some .local)
    (hsw : swapsWith (.DictComp kx vx [⟨tg, iter, ifs, 0⟩] scope pos) (some (.Name y py)) spos.line X.env = pure true) (hi : PI X tg iter wi) (ok : BlkOk X.N X.env.scope scope own)
    (hg : ∀ (s : Shared) (H : Hp) (C : Addr) (cl : List (Str × Addr)) (fp : List Addr), PG (X.blk s H scope (compEnvC scope cl C X.env) fp) tg g)
    (ht : ∀ (s : Shared) (H : Hp) (C : Addr) (cl : List (Str × Addr)) (fp : List Addr), PTs (X.blk s H scope (compEnvC scope cl C X.env) fp) ifs tt)
    (kp : ∀ (s : Shared) (H : Hp) (C : Addr) (cl : List (Str × Addr)) (fp : List Addr), PE (X.blk s H scope (compEnvC scope cl C X.env) fp) kx tk)
    (vp : ∀ (s : Shared) (H : Hp) (C : Addr) (cl : List (Str × Addr)) (fp : List Addr), PE (X.blk s H scope (compEnvC scope cl C X.env) fp) vx tv) (hs : ∀ x, foldedSetIterable iter X.env x = pure x := by intro _; rfl) :
    PS X (.Assign [.Name y py] (.DictComp kx vx [⟨tg, iter, ifs, 0⟩] scope pos) spos) (tAsg (tDc wi g tt tk tv (own.map (·.2))) (gName i)) := by
  constructor
  intro pins s σ H D I h
  have made := dc_core (pos := pos) (pos' := firstIterPos [⟨tg, iter, ifs, 0⟩] pos) (use := some (assign (.Name y py) X.env)) (Qf := fun _ s' => SP X pins D .next s') (Q := fun x H1 => gName i x σ H1 D.nx) hc hN I hi ok hg ht kp vp hs h
    fun L C s' m H' I' q hn f => kept_at I' f hn hN hy hyl q
  rw [exec_Assign_Name_used _ _ _ _ hsw]
  exact wpAny_bind (wpAny_standAt (wpAny_bind (wpAny_bind (thn made fun _ _ z => wpAny_pure (wpAny_pure z)))))
end
theorem sw_dict {kx vx : Expr} {gs : List Comprehension} {scope : Scope} {pos py : Pos} {y : Str} {l : Nat} {env : Env} (hk : env.scope.kind = .function) (hy : env.scope.names.lookup y = some .local) (hl : (py.line == pos.line) = true)
    (ha : (scope.names.any fun (n, k) => n == y && (k == .local || k == .cell)) = false) : swapsWith (.DictComp kx vx gs scope pos) (some (.Name y py)) l env = pure true :=
  Eq.trans (b := swapsWith (.ListComp kx gs scope pos) (some (.Name y py)) l env) rfl (sw_true hk hy hl ha)
/-! ### spans: letters with their bounds -/
inductive SpA (H : Hp) : List (Key × V) → List (Nat × Int × Int) → Prop
  | nil : SpA H [] []
  | cons {p : Addr} {c : Nat} {lo hi : Int} {kvs : List (Key × V)} {l : List (Nat × Int × Int)} : H p = some (.tup [.int lo, .int hi]) → SpA H kvs l → SpA H ((Sum.inr (sS c), .ref p) :: kvs) ((c, lo, hi) :: l)
theorem SpA.kt {H H' : Hp} {kvs : List (Key × V)} {l : List (Nat × Int × Int)} (h : SpA H kvs l) (k : Kt H H') : SpA H' kvs l := by
  induction h with
  | nil => exact .nil
  | cons a _ ih => exact .cons (k _ _ a) ih
theorem SpA.snoc {H : Hp} {kvs : List (Key × V)} {l : List (Nat × Int × Int)} {p : Addr} {c : Nat} {lo hi : Int} (h : SpA H kvs l) (hp : H p = some (.tup [.int lo, .int hi])) : SpA H (kvs ++ [(Sum.inr (sS c), .ref p)]) (l ++ [(c, lo, hi)]) := by
  induction h with
  | nil => exact .cons hp .nil
  | cons a _ ih => exact .cons a ih
theorem SpA.len {H : Hp} {kvs : List (Key × V)} {l : List (Nat × Int × Int)} (h : SpA H kvs l) : kvs.length = l.length := by
  induction h with
  | nil => rfl
  | cons _ _ ih => rw [List.length_cons, List.length_cons, ih]
theorem sS_inj {a b : Nat} (h : sS a = sS b) : a = b := by
  have z3 : (#[a] : Array Nat) = #[b] := congrArg Str.cps h
  simpa using z3
theorem SpA.none {H : Hp} {kvs : List (Key × V)} {l : List (Nat × Int × Int)} {c : Nat} (h : SpA H kvs l) (n : c ∉ l.map (·.1)) : valV kvs (Sum.inr (sS c)) = Option.none := by
  induction h with
  | nil => rfl
  | @cons p d lo hi kvs l a r ih =>
    rw [valV_neg (fun z => n ?_)]
    · exact ih fun q => n (List.mem_cons_of_mem _ q)
    · have : d = c := sS_inj (Sum.inr.inj z)
      rw [← this]
      exact List.mem_cons_self ..
/-- at its place: the letter's entry -/
theorem SpA.get {H : Hp} {kvs : List (Key × V)} {l : List (Nat × Int × Int)} (h : SpA H kvs l) {i : Nat} {k : Key} {v : V} (e : kvs[i]? = some (k, v)) : ∃ (p : Addr) (c : Nat) (lo hi : Int), k = Sum.inr (sS c) ∧ v = .ref p ∧ H p = some (.tup [.int lo, .int hi]) ∧ l[i]? = some (c, lo, hi) := by
  induction h generalizing i with
  | nil => simp at e
  | @cons p c lo hi kvs l a r ih =>
    cases i with
    | zero =>
      have z := Option.some.inj e
      cases z
      exact ⟨p, c, lo, hi, rfl, rfl, a, rfl⟩
    | succ i => exact ih (i := i) e
theorem SpA.look {H : Hp} {kvs : List (Key × V)} {l : List (Nat × Int × Int)} (h : SpA H kvs l) (nd : (l.map (·.1)).Nodup) {c : Nat} {lo hi : Int} (m : (c, lo, hi) ∈ l) : ∃ p, valV kvs (Sum.inr (sS c)) = some (.ref p) ∧ H p = some (.tup [.int lo, .int hi]) := by
  induction h with
  | nil => cases m
  | @cons p d lo' hi' kvs l a r ih =>
    rcases List.mem_cons.mp m with z | z
    · cases z
      exact ⟨p, valV_pos rfl, a⟩
    · have nd2 := List.nodup_cons.mp nd
      have hdc : d ≠ c := fun q => nd2.1 (by
        have := List.mem_map_of_mem (f := fun x : Nat × Int × Int => x.1) z
        rw [q]
        exact this)
      obtain ⟨p', h1, h2⟩ := ih nd2.2 z
      refine ⟨p', ?_, h2⟩
      rw [valV_neg (fun q => hdc (sS_inj (Sum.inr.inj q)))]
      exact h1
def spanL (es : List (Nat × Int)) (rc : Option (Nat × Int × Int)) : List (Nat × Int × Int) := es.map (fun p => (p.1, p.2, p.2)) ++ rc.toList
theorem spanL_keys (es : List (Nat × Int)) : (es.map (fun p => (p.1, p.2, p.2))).map (·.1) = es.map (·.1) := by
  rw [List.map_map]
  rfl
theorem spanL_nd {cols : List Nat} {es : List (Nat × Int)} {rc : Option (Nat × Int × Int)} (h : QOk cols es rc) : ((spanL es rc).map (·.1)).Nodup := by
  have h1 : (es.map (·.1)).Nodup := h.up.imp fun {a b} q => by
    have : a < b := q
    omega
  unfold spanL
  rw [List.map_append, spanL_keys]
  cases rc with
  | none => simpa using h1
  | some t =>
    obtain ⟨c, lo, hi⟩ := t
    have := (h.rc c lo hi rfl).2.1
    show (es.map (·.1) ++ [c]).Nodup
    refine List.nodup_append.mpr ⟨h1, by simp, fun a ha b hb z => ?_⟩
    rw [List.mem_singleton.mp hb] at z
    rw [z] at ha
    exact this ha
/-! ### what fits -/
def rowAt (cols : List Nat) (row : List Int) (c : Nat) : Int := row.getD (cols.idxOf c) 0
def spanFit (cols : List Nat) (row : List Int) (p : Nat × Int × Int) : Bool := decide (p.2.1 ≤ rowAt cols row p.1) && decide (rowAt cols row p.1 ≤ p.2.2)
def fitsM (cols : List Nat) (row : List Int) (es : List (Nat × Int)) (rc : Option (Nat × Int × Int)) : Bool := (spanL es rc).all (spanFit cols row)
theorem row_at {cols : List Nat} {row : List Int} {c : Nat} (hl : row.length = cols.length) (h : c ∈ cols) : (row.map V.int)[cols.idxOf c]? = some (.int (rowAt cols row c)) := by
  have hi : cols.idxOf c < row.length := by
    rw [hl]
    exact List.idxOf_lt_length_of_mem h
  unfold rowAt
  rw [List.getElem?_map, List.getElem?_eq_getElem hi, List.getD_eq_getElem?_getD, List.getElem?_eq_getElem hi]
  rfl
/-- the numbers of the rows that fit -/
def ansM (cols : List Nat) (rows : List (List Int)) (es : List (Nat × Int)) (rc : Option (Nat × Int × Int)) : List Int := ((List.range rows.length).filter fun i => fitsM cols (rows.getD i []) es rc).map fun i : Nat => (i : Int)
theorem SpanOk {cols : List Nat} {es : List (Nat × Int)} {rc : Option (Nat × Int × Int)} (h : QOk cols es rc) : ∀ p ∈ spanL es rc, p.1 ∈ cols := fun p hp => by
  unfold spanL at hp
  rcases List.mem_append.mp hp with hp | hp
  · obtain ⟨q, hq, rfl⟩ := List.mem_map.mp hp
    exact (h.ok q hq).1
  · cases rc with
    | none => cases hp
    | some t =>
      have : p = t := by simpa using hp
      obtain ⟨c, lo, hi⟩ := t
      rw [this]
      exact (h.rc c lo hi rfl).1
/-! ### data with lists -/
/-! ### what isinstance tells of data -/
theorem depA_ints : ∀ ns : List Int, PyData.depthAll (ns.map PyData.int) = 0
  | [] => rfl
  | n :: ns => by
    show max (PyData.depth (.int n)) (PyData.depthAll (ns.map PyData.int)) = 0
    rw [depA_ints ns]
    rfl
theorem dep_ints (ns : List Int) : PyData.depth (.list (ns.map PyData.int)) = 1 := by
  show PyData.depthAll (ns.map PyData.int) + 1 = 1
  rw [depA_ints]
end My

set_option Elab.async false
set_option linter.all false
set_option maxRecDepth 100000
set_option maxHeartbeats 1000000
namespace My
open PySem PySem.Spec PyProof.Rows L2
/-! ### lists of numbers compared -/
theorem dp_ints {K : PySem.W.Frag} {H : Hp} : ∀ ns : List Int, DpAll K H (ns.map V.int) (ns.map PyData.int)
  | [] => .nil
  | n :: ns => .cons (.int n) (dp_ints ns)
theorem eqvA_ints : ∀ ns : List Int, PyData.eqvAll (ns.map PyData.int) (ns.map PyData.int) = true
  | [] => rfl
  | n :: ns => by
    show (PyData.eqv (.int n) (.int n) && PyData.eqvAll (ns.map PyData.int) (ns.map PyData.int)) = true
    rw [eqvA_ints ns, Bool.and_true]
    show (n == n) = true
    simp
theorem eqv_ints (ns : List Int) : PyData.eqv (.list (ns.map PyData.int)) (.list (ns.map PyData.int)) = true := eqvA_ints ns
theorem can_ints : ∀ ns : List Int, PyData.canLayAll0 (ns.map PyData.int) = true
  | [] => rfl
  | n :: ns => by
    show (PyData.canLay0 (.int n) && PyData.canLayAll0 (ns.map PyData.int)) = true
    rw [can_ints ns]
    rfl
theorem shaped_ints (ns : List Int) : SeqAt.shaped (.list (ns.map PyData.int)) = true := by
  unfold SeqAt.shaped
  show (PyData.canLayAll0 (ns.map PyData.int) && decide (PyData.depth (.list (ns.map PyData.int)) ≤ 64)) = true
  rw [can_ints, dep_ints]
  rfl
/-! ### questions and what fits -/
theorem QOk.reach {cols : List Nat} {es : List (Nat × Int)} {rc : Option (Nat × Int × Int)} (h : QOk cols es rc) {c : Nat} {lo hi : Int} (h1 : c ∈ cols) (h2 : c ∉ es.map (·.1)) (h3 : 0 ≤ lo) (h4 : lo ≤ hi) (h5 : hi < 1000) : QOk cols es (some (c, lo, hi)) :=
  ⟨h.up, h.ok, h.len, fun c' lo' hi' z => by
    have z2 := Option.some.inj z
    have e1 : c = c' := congrArg (·.1) z2
    have e2 : lo = lo' := congrArg (·.2.1) z2
    have e3 : hi = hi' := congrArg (·.2.2) z2
    rw [← e1, ← e2, ← e3]
    exact ⟨h1, h2, h3, h4, h5⟩⟩
end My

set_option Elab.async false
set_option linter.all false
set_option maxRecDepth 100000
set_option maxHeartbeats 2000000
namespace My
open PySem PySem.Spec PyProof.Rows L2
/-! ### generator expressions whose element changes nothing -/
/-- the element at a place of the walked thing: what it gives, from any state in which what stood still stands -/
def EltQ (X : Cx) (σ : L2.St) (G : Hp) (P : Addr) (scope : Scope) (x : Str) (elt : Expr) (Pf F : Nat → Value → Prop) : Prop :=
  ∀ (pins : List (Addr × Obj)) (u1 : Shared), Inv X pins σ G u1 → ∀ (ce : Env) (B : Around) (E' : Value → Shared → Prop) (i : Nat) (v : Value) (u2 : Shared) (m2 : Str → Option Value), B.handled = none → ce.scope = scope → ce.cells = cloFrom X.env.cells scope.names [] →
    Pf i v → u2.heap.Ns ce.locals m2 → m2 x = some v → (∀ b o, b ≠ P → u1.heap.get? b = some o → u2.heap.get? b = some o) → wpAny (model X.prog X.w) B (eval elt ce) (fun y u3 => F i y ∧ Keeps u2 u3) E' u2
/-- the generator stands, ready to be walked n times -/
def ReadyQ (X : Cx) (pins : List (Addr × Obj)) (σ : L2.St) (G : Hp) (P : Addr) (n : Nat) (F : Nat → Value → Prop) (g : Addr) (u5 : Shared) : Prop :=
  ∃ (fp wr : List Addr) (Gn : Array GenState → Array GenState → Prop) (St : Nat → Shared → Prop),
    WalksS X.prog X.w X.A.in4 g fp wr Gn n F St ∧ St 0 u5 ∧ (∀ i s, St i s → s.TypeIs (.ref g) "generator") ∧ (∀ b ∈ fp, b < u5.heap.objs.size) ∧ g ∈ fp ∧
    ∀ u', Moved wr Gn u5 u' → ∃ G2, GxR.Tabbed P G G2 ∧ Inv X pins σ G2 u'
/-- what a walk over the value v begins with -/
def Src (X : Cx) (pins : List (Addr × Obj)) (σ : L2.St) (G : Hp) (P : Addr) (v : Value) (n : Nat) (Pf : Nat → Value → Prop) : Prop :=
  ∀ (u1 : Shared), Inv X pins σ G u1 → ∀ (Q : Value → Shared → Prop) (E : Value → Shared → Prop), (∀ (o : Obj) (St : Nat → Heap → Prop) (fps : List Addr),
    (∀ A' : Around, A'.handled = none → Walks X.prog X.w A' u1.heap.objs.size (u1.heap.objs.size :: fps) [u1.heap.objs.size] n Pf St) → St 0 (u1.heap.push o) → (∀ b ∈ fps, b < u1.heap.objs.size ∧ b ≠ P) →
    Q (.ref u1.heap.objs.size) { u1 with heap := u1.heap.push o }) → wpAny (model X.prog X.w) X.A (pyIter v) Q E u1
section
variable {X : Cx} {pins : List (Addr × Obj)} {σ : L2.St} {H : Hp} {s : Shared}
theorem src_str {G : Hp} {P : Addr} (a : Str) (t : Tok) : Src X pins σ G P (.str a t) a.cps.size (SignAt a) := by
  intro u1 I Q E h
  refine wpAny_pyIter_str fun o St W hst => ?_
  exact h o St [] W hst (fun b hb => nomatch hb)
/-- what stood stands: a frame knows what it knew -/
theorem grew {s' : Shared} (I : Inv X pins σ H s) (os : s'.os = s.os) (bare : AllBare s'.gens) (kp : ∀ b u, s.heap.get? b = some u → s'.heap.get? b = some u) : Inv X pins σ H s' :=
  I.call' (ch := []) os (Un.kept kp) (I.hok.kept kp) bare fun _ hb => nomatch hb
/-- the code object of a generator expression comes out of its maker's table, or is made and written into it; then the built-ins are looked up -/
theorem gen_code {c P : Addr} {gpos : Pos} {qn : Str} {scope : Scope} {R : Value → Addr → Shared → Prop} (I : Inv X pins σ H s) (TB : LamX.TabB X.base X.mg c P) (hcode : X.env.code = .ref c) (hT : GxR.TabG H P)
    (h : ∀ (code : Value) (H2 : Hp) (s2 : Shared), GxR.Tabbed P H H2 → Inv X pins σ H2 s2 → (∀ b u, b ≠ P → s.heap.get? b = some u → s2.heap.get? b = some u) → s.heap.objs.size ≤ s2.heap.objs.size → R code builtinsNs s2) :
    wpAny (model X.prog X.w) X.A (genexprCode X.env gpos qn scope) (fun code s3 => wpAny (model X.prog X.w) X.A (builtinsFor X.env.globals X.env.builtins) (R code) X.xe s3) X.xe s := by
  obtain ⟨ps, hP, tri⟩ := hT
  have rawP := I.hok P _ hP
  have hd : PySem.W.CodeHd s.heap c P := TB.code.keeps I.bk
  have go : ∀ (code : Value) (g : Heap) (tk : Nat) (more : Array Value), Heap.ExtBut P s.heap g → s.heap.objs.size ≤ g.objs.size → g.get? P = some { cls := .none, data := .fields (ps ++ more) } → TriplesOk (ps ++ more).toList →
      wpAny (model X.prog X.w) X.A (builtinsFor X.env.globals X.env.builtins) (R code) X.xe { s with heap := g, toks := tk } := fun code g tk more ext le tab tri' => by
    have J : Inv X pins σ (upd H P (.tbl (ps ++ more))) { s with heap := g, toks := tk } := GxR.inv_tab (g' := s.gens) (d' := s.drawn) I hP ext tab I.bare
    obtain ⟨bm, ob, b1, b2, _, _, b5, b6, b7, b8⟩ := TB.bm
    refine wpAny_builtinsFor (m := X.mg) ?_ b1 b2 (J.bk _ _ b5) b6 b7 b8 (h code _ _ ⟨⟨_, upd_same, tri'⟩, fun b ne => upd_ne ne⟩ J ext le)
    rw [J.ok.glob]
    exact J.mod.glob.keeps J.bk
  match hf : codeAmong gpos ps.toList with
  | some cv => exact wpAny_genexprCode_hit hcode (hd.code rawP tri) hf (go cv s.heap s.toks #[] (Heap.ExtBut.refl _ _) (Nat.le_refl _) (by rw [Array.append_empty]; exact rawP) (by rw [Array.append_empty]; exact tri))
  | none =>
    refine wpAny_genexprCodeX hcode (hd.code rawP tri) (hd.tab rawP) hf fun c' g tk ext ge lt isC _ isT _ => go _ g tk _ ext (Nat.le_trans ge (Nat.le_of_lt lt)) isT.2 ?_
    obtain ⟨_, _, _, _, _, _, _, _, _, _, _, _, _, _, _, _, _, _, _, z, _⟩ := isC
    exact z
/-- the generator (elt for x in iter), its element changing nothing -/
theorem gen_q {c P : Addr} {elt iter : Expr} {x : Str} {px gpos : Pos} {scope : Scope} {te : TE} {k : Nat} {Q' : Value → Shared → Prop} {R : V → Hp → Nat → (Nat → Value → Prop) → Prop} {R0 : V → Hp → Prop}
    (hr : Room k X.A) (TB : LamX.TabB X.base X.mg c P) (hcode : X.env.code = .ref c) (S : GxR.GenS X.env scope x) (hi : PE X iter te)
    (hs : ∀ v, genFold iter X.env v = pure v) (I : Inv X pins σ H s)
    (h : te σ H R0) (hc : ∀ v G, R0 v G → ∃ (n : Nat) (Pf F : Nat → Value → Prop), (∀ u, RelV v u → Src X pins σ G P u n Pf) ∧ GxR.TabG G P ∧ EltQ X σ G P scope x elt Pf F ∧ R v G n F)
    (hQ : ∀ v G n F g u5, R v G n F → ReadyQ X pins σ G P n F g u5 → Q' (.ref g) u5) :
    wpAny (model X.prog X.w) X.A (eval (.GeneratorExp elt [⟨.Name x px, iter, [], 0⟩] scope gpos) X.env) Q' X.xe s := by
  have deep : X.A.depth < recursionLimit := by
    have := hr.dp
    omega
  refine wpAny_GeneratorExp_walksQ hr.hd S.co (closure_ok S.free) S.cell S.dot S.loc S.kind deep (thn (hi.run pins s σ H _ I h) fun xv u1 ⟨v, G, I1, rv, h0⟩ => ?_) hs
  obtain ⟨n, Pf, F, src, hT, elq, hR⟩ := hc v G h0
  refine src xv rv u1 I1 _ _ fun o St fps W st0 below => ?_
  -- the walked thing's iterator o at i0; the table at P is older
  generalize hi0 : u1.heap.objs.size = i0 at W below ⊢
  have older : P ≠ i0 := fun z => by
    obtain ⟨ps, e, _⟩ := hT
    rw [I1.hok.fresh (Nat.le_of_eq (hi0.trans z.symm))] at e
    cases e
  have Io : Inv X pins σ G { u1 with heap := u1.heap.push o } := grew I1 rfl I1.bare fun b u e => Heap.get?_push_of_some _ e
  refine ⟨Io.nolimit, gen_code Io TB hcode hT fun code G2 s4 tab I4 kp le => ?_⟩
  have lt4 : i0 < s4.heap.objs.size := Nat.lt_of_lt_of_le (by rw [← hi0, Heap.size_push]; exact Nat.lt_succ_self _) le
  have kp1 : ∀ b u, b ≠ P → u1.heap.get? b = some u → s4.heap.get? b = some u := fun b u ne e => kp b u ne (Heap.get?_push_of_some _ e)
  have fo : FpOk X pins G2 i0 := I1.fpOk (Nat.le_of_eq hi0) ((tab.2 i0 older.symm).trans (I1.hok.fresh (Nat.le_of_eq hi0)))
  refine ⟨i0, i0 :: fps, [i0], n, Pf, St, fun _ => true, F, rfl, W, (W X.A hr.hd).frame _ _ _ st0 fun b hb u e => kp b u ?_ e, fun b hb => ?_, I4.nolimit, fun z => ?_, fun g keep => ⟨?_, fun A' E' i v s₂ m₂ hA hv _ hn hm stay => ?_⟩, fun g h5 tk5 gs bare above size5 stay W5 at5 => ?_⟩
  · exact (List.mem_cons.mp hb).elim (fun z q => older (q.symm.trans z)) fun z => (below b z).2
  · exact (List.mem_cons.mp hb).elim (fun z => z ▸ lt4) fun z => Nat.lt_trans (below b z).1 lt4
  · obtain ⟨_, ns, _⟩ := I1.nolimit
    exact Nat.ne_of_lt (hi0 ▸ ns.lt) (List.mem_singleton.mp z)
  · intro A' E' i v s₂ m₂ _ _ _ _ _
    rw [List.forIn_nil]
    exact wpAny_pure ⟨rfl, GxR.keeps_refl _⟩
  · refine elq pins u1 I1 _ A' E' i v s₂ m₂ hA rfl rfl hv hn hm fun b u ne e => ?_
    have here := kp1 b u ne e
    exact stay b (List.mem_range.mpr (Heap.lt_size here)) (fun z => Nat.ne_of_lt (hi0 ▸ Heap.lt_size e) (List.mem_singleton.mp z)) u (keep b u here)
  · rw [show passing (fun _ => true) n 0 = List.range n from GxR.passing_true n] at W5
    rw [List.length_range] at W5
    have place : ∀ {i : Nat} {y : Value}, (∃ j, (List.range n)[i]? = some j ∧ F j y) → F i y := fun ⟨j, e, fj⟩ => by
      obtain ⟨_, q⟩ := List.getElem?_eq_some_iff.mp e
      rw [List.getElem_range] at q
      rw [q]
      exact fj
    have W6 : WalksS X.prog X.w X.A.in4 g (g :: s4.heap.objs.size :: List.range s4.heap.objs.size) [s4.heap.objs.size, i0] (GenOnlyQ s4.gens.size) n F _ := { W5 with item := fun i s Q E lt st k => W5.item i s Q E lt st fun y s' z => k y s' (place z) }
    refine hQ v G n F g _ hR ⟨_, _, _, _, W6, at5, fun i s st => Heap.IsGen.typeIs st.1, fun b hb => ?_, List.mem_cons_self, fun u' mv => ⟨G2, tab, ?_⟩⟩
    · show b < h5.objs.size
      rw [show h5.objs.size = g + 1 from size5]
      rcases List.mem_cons.mp hb with z | z
      · exact z ▸ Nat.lt_succ_self g
      · refine Nat.lt_succ_of_lt ((List.mem_cons.mp z).elim (fun e => e ▸ above) fun e => Nat.lt_trans (List.mem_range.mp e) above)
    · have J := past (t' := s4.toks) (h' := u'.heap) I4 fo fun b u ne e => mv.heap b u (fun z => (List.mem_cons.mp z).elim (fun q => Nat.ne_of_lt (Heap.lt_size e) q) fun q => ne (List.mem_singleton.mp q)) (stay b u e)
      exact grew J mv.os (AllBare.movedS (I4.bare.push bare) mv) fun _ _ e => e
/-! tuple(elt for x in text): numbers -/
def tTupG (P : Addr) (te : TE) (D : V → L2.St → Hp → List V → Prop) : TE := fun σ H Q => te σ H fun v G => ∃ xs : List V, D v σ G xs ∧ GxR.TabG G P ∧ ∀ G2, GxR.Tabbed P G G2 → ∀ p, G2 p = none → Q (.ref p) (upd G2 p (.tup xs))
theorem vals_of_items : ∀ (xs : List V) (us : List Value), xs.length = us.length → (∀ (j : Nat) (x : V) (u : Value), xs[j]? = some x → us[j]? = some u → RelV x u) → Vals xs us
  | [], [], _, _ => .nil
  | x :: xs, u :: us, hl, hh => .cons (hh 0 x u rfl rfl) (vals_of_items xs us (Nat.succ.inj hl) fun j y w h1 h2 => hh (j + 1) y w h1 h2)
theorem pe_tupG {c P : Addr} {elt iter : Expr} {x : Str} {px p pos gpos : Pos} {scope : Scope} {te : TE} {k : Nat} {D : V → L2.St → Hp → List V → Prop}
    (hr : Room k X.A) (hg : Gl X "tuple") (hm : X.mg "tuple" = none) (TB : LamX.TabB X.base X.mg c P) (hcode : X.env.code = .ref c) (S : GxR.GenS X.env scope x) (hi : PE X iter te)
    (hD : ∀ (pins : List (Addr × Obj)) (σ : L2.St) (G : Hp) (v : V) (xs : List V), D v σ G xs → xs.length ≤ sizeLine ∧ ∃ (Pf F : Nat → Value → Prop), (∀ u, RelV v u → Src X pins σ G P u xs.length Pf) ∧ EltQ X σ G P scope x elt Pf F ∧ ∀ (i : Nat) (y : Value) (z : V), xs[i]? = some z → F i y → RelV z y)
    (hs : ∀ v, genFold iter X.env v = pure v := by intro _; rfl)
    (he : starEach [.GeneratorExp elt [⟨.Name x px, iter, [], 0⟩] scope gpos] X.env = (false, eval (.GeneratorExp elt [⟨.Name x px, iter, [], 0⟩] scope gpos) X.env) :: starEach [] X.env := by rfl) :
    PE X (.Call (.Name "tuple" p) [.GeneratorExp elt [⟨.Name x px, iter, [], 0⟩] scope gpos] [] pos) (tTupG P te D) := by
  refine ⟨fun pins s σ H Q I h => ?_⟩
  refine Call_ (ld_blt I hg hm boot_tuple (PyProof.Rows.callWith_type1 ?_ he))
  rw [he]
  refine Calls.spliced_cons (gen_q (R := fun v G n F => ∃ xs : List V, D v σ G xs ∧ xs.length = n ∧ xs.length ≤ sizeLine ∧ (∀ (i : Nat) (y : Value) (z : V), xs[i]? = some z → F i y → RelV z y) ∧ ∀ G2, GxR.Tabbed P G G2 → ∀ p, G2 p = none → Q (.ref p) (upd G2 p (.tup xs))) hr TB hcode S hi hs I h (fun v G h0 => ?_) fun v G n F g u5 hR hG => ?_)
  · obtain ⟨xs, hd, hT, q⟩ := h0
    obtain ⟨hz, Pf, F, hsrc, hel, hF⟩ := hD pins σ G v xs hd
    exact ⟨xs.length, Pf, F, hsrc, hT, hel, xs, hd, rfl, hz, hF, q⟩
  · obtain ⟨xs, hd, hn, hz, hF, q⟩ := hR
    obtain ⟨fp, wr, Gn, St, W, hst, hty, hfp, hgf, hI⟩ := hG
    refine Calls.spliced_nil ?_
    refine call_tuple_gen W.in4_3 hty hst hfp hgf (fun u' acc mv hit => ?_) (by rw [← hn]; exact hz)
    obtain ⟨G2, hTb, J⟩ := hI u' mv
    have hv : Vals xs acc.toList := vals_of_items _ _ (by rw [show acc.toList.length = acc.size from Array.length_toList, hit.1, hn]) fun j z y h1 h2 => hF j y z h1 (hit.2 j y (by rw [← Array.getElem?_toList]; exact h2))
    have J2 : Inv X pins σ (upd G2 u'.heap.objs.size (.tup xs)) { u' with heap := u'.heap.push { cls := .type "tuple", data := .seq acc } } :=
      J.laid (t' := u'.toks) (fun b o e => Heap.get?_push_of_some _ e) (Nat.le_refl _) (show ObjOk X.prog X.w _ _ _ (.tup xs) from ⟨hz, acc.toList, hv, by rw [Array.toArray_toList]; exact IsTup.new _ _⟩)
    exact ⟨.ref u'.heap.objs.size, _, J2, rfl, q G2 hTb _ (J.hok.fresh (Nat.le_refl _))⟩
/-! all(elt for x in ..) -/
/-! ### what a captured name holds -/
theorem clo_look {cells : List (Str × Addr)} {names : List (Str × NameKind)} {y : Str} {c : Addr} (hy : (y, NameKind.free) ∈ names) (hc : cells.lookup y = some c) : (cloFrom cells names []).lookup y = some c := by
  obtain ⟨c', e⟩ := mem_lookup (cloFrom_has (acc := []) (cells := cells) hy)
  have hm : (y, c') ∈ cloFrom cells names [] := by
    have : ∀ {l : List (Str × Addr)} {n : Str} {d : Addr}, l.lookup n = some d → (n, d) ∈ l := by
      intro l
      induction l with
      | nil =>
        intro n d h
        cases h
      | cons p l ih =>
        intro n d h
        rw [List.lookup_cons] at h
        cases hb : n == p.1 with
        | true =>
          rw [hb] at h
          have e1 : n = p.1 := by simpa using hb
          have e2 : p.2 = d := Option.some.inj h
          rw [e1, ← e2]
          exact List.mem_cons_self ..
        | false =>
          rw [hb] at h
          exact List.mem_cons_of_mem _ (ih h)
    exact this e
  rcases cloFrom_mem hm with z | ⟨_, z⟩
  · cases z
  · rw [e, z, hc]
    rfl
theorem capt {G : Hp} {u1 : Shared} {i : Nat} {y : Str} {v : V} {scope : Scope} (I : Inv X pins σ G u1) (hN : X.N[i]? = some y) (hv : σ[i]? = some (some v)) (hk : X.env.scope.names.lookup y = some .cell) (hy : (y, NameKind.free) ∈ scope.names) :
    ∃ u c, RelV v u ∧ (cloFrom X.env.cells scope.names []).lookup y = some c ∧ u1.heap.IsCell c (some u) := by
  obtain ⟨m, hm, hl⟩ := I.loc
  obtain ⟨u, ru, lk⟩ := hl i y v hN hv (.inr (.inl hk))
  rcases lk with ⟨k1, _⟩ | ⟨_, c, hc, hcell⟩
  · have : X.env.kindOf y = some .cell := hk
    rw [this] at k1
    cases k1
  · exact ⟨u, c, ru, clo_look hy hc, hcell⟩
theorem cell_kept {G : Hp} {P c : Addr} {u1 u2 : Shared} {u : Value} (I : Inv X pins σ G u1) (hT : GxR.TabG G P) (hc : u1.heap.IsCell c (some u)) (hk : ∀ b o, b ≠ P → u1.heap.get? b = some o → u2.heap.get? b = some o) : u2.heap.IsCell c (some u) := by
  obtain ⟨o, ho, hd⟩ := hc
  refine ⟨o, hk c o (fun z => ?_) ho, hd⟩
  obtain ⟨ps, hP, _⟩ := hT
  have h1 : u1.heap.get? P = some { cls := .none, data := .fields ps } := I.hok P _ hP
  rw [z, h1] at ho
  cases ho
  cases hd
/-! x in y, y a captured text -/
/-! r[y.index(x)], r a captured tuple of numbers, y a captured text -/
theorem elt_row {G : Hp} {P ra : Addr} {scope : Scope} {x y rn : Str} {p1 p2 p3 p4 p5 p6 : Pos} {i j : Nat} {a : Str} {cols : List Nat} {row : List Int} (hT : GxR.TabG G P) (hN : X.N[i]? = some y) (hv : σ[i]? = some (some (tx cols))) (hk : X.env.scope.names.lookup y = some .cell)
    (hN2 : X.N[j]? = some rn) (hv2 : σ[j]? = some (some (.ref ra))) (hk2 : X.env.scope.names.lookup rn = some .cell) (hra : G ra = some (.tup (row.map V.int))) (hrl : row.length = cols.length) (hac : ∀ c ∈ a.cps.toList, c ∈ cols)
    (hf : scope.kind = .function) (hx : scope.names.lookup x = some .local) (hy : (y, NameKind.free) ∈ scope.names) (hyl : scope.names.lookup y = some .free) (hr : (rn, NameKind.free) ∈ scope.names) (hrf : scope.names.lookup rn = some .free)
    (hline : (p3.endLine == p5.line) = true) (hd1 : (x == ("__debug__" : Str)) = false := by decide) (hd2 : (y == ("__debug__" : Str)) = false := by decide) (hd3 : (y == ("__classdict__" : Str)) = false := by decide) (hd4 : (rn == ("__debug__" : Str)) = false := by decide) (hd5 : (rn == ("__classdict__" : Str)) = false := by decide) :
    EltQ X σ G P scope x (.Subscript (.Name rn p1) (.Call (.Attribute (.Name y p2) "index" p3) [.Name x p4] [] p5) p6) (SignAt a) (fun l w => ∃ c t, a.cps[l]? = some c ∧ w = .int (rowAt cols row c) t) := by
  intro pins u1 I ce B E' l v u2 m2 hB hs hcl hP hn hm hk3
  obtain ⟨c, t, hc, rfl⟩ := hP
  obtain ⟨uy, cl, ru, hl, hcell⟩ := capt I hN hv hk hy
  obtain ⟨t2, rfl⟩ := ru
  obtain ⟨ur, cl2, ru2, hl2, hcell2⟩ := capt I hN2 hv2 hk2 hr
  cases ru2
  have hcc : c ∈ cols := hac c (by
    have : a.cps.toList[l]? = some c := by rw [Array.getElem?_toList]; exact hc
    exact List.mem_of_getElem? this)
  obtain ⟨orest, hocc⟩ := ix_one hcc
  have hat := row_at hrl hcc
  obtain ⟨its, rv, pl, hz⟩ := I.tuple (show SqT X.K G ra (row.map V.int) from .inl (.inl hra))
  obtain ⟨w, hw, rw'⟩ := rv.get hat
  obtain ⟨tw, rfl⟩ := rw'
  have pl2 : u2.heap.IsTuple ra its.toArray := by
    obtain ⟨o, ho, r1, r2⟩ := pl
    refine ⟨o, hk3 ra o (fun z => ?_) ho, r1, r2⟩
    obtain ⟨ps, hPp, _⟩ := hT
    rw [z, hPp] at hra
    cases hra
  have hidx : cols.idxOf c < its.length := (List.getElem?_eq_some_iff.mp hw).1
  have kf : ce.scope.kind = .function := by rw [hs]; exact hf
  refine PyProof.Rows.Subscript_ ?_
  refine wpAny_Name (wpAny_loadName_free kf (show ce.scope.names.lookup rn = some .free by rw [hs]; exact hrf) (by rw [hcl]; exact hl2) (cell_kept I hT hcell2 hk3) ?_ hd5) hd4
  refine wpAny_Call_method_late (by rfl) (by rfl) hline rfl ?_
  refine wpAny_Name (wpAny_loadName_free kf (show ce.scope.names.lookup y = some .free by rw [hs]; exact hyl) (by rw [hcl]; exact hl) (cell_kept I hT hcell hk3) ?_ hd3) hd2
  refine ⟨"str", "str.index", PySem.F.plainAttrs_str, PySem.F.slot_str_index, PySem.F.type_str_index, typeIs_str _ _ _, (fun _ z => nomatch z), ?_⟩
  refine Calls.callWith_builtin (by rfl) (Calls.evalArgs_plain ?_)
  refine Calls.spliced_cons (wpAny_Name (wpAny_loadName_local kf (show ce.scope.names.lookup x = some .local by rw [hs]; exact hx) hn hm ?_) hd1)
  refine Calls.spliced_nil ?_
  refine PySem.SC.index hocc ?_
  have hsz : its.length ≤ sizeLine := by
    have := rv.length
    rw [← this]
    exact hz
  have h63 := line63
  refine subscriptTail_builtinR (x := .int (rowAt cols row c) tw) (s := { u2 with toks := u2.toks + 1 }) pl2.typeIs slot_tuple_getitem.lookup ?_ (by rfl)
  refine getItem_tuple (j := cols.idxOf c) (s := { u2 with toks := u2.toks + 1 }) pl2 (by omega) (by omega) ?_ (by simpa using hw) ⟨rfl, ⟨c, tw, hc, rfl⟩, GxR.keeps_tok _ _⟩
  rw [List.size_toArray]
  exact PySem.seqIndex_of (by omega) (by omega)
end
end My

set_option Elab.async false
set_option linter.all false
set_option maxRecDepth 100000
set_option maxHeartbeats 2000000
namespace My
open PySem PySem.Spec PyProof.Rows L2
section
variable {X : Cx} {pins : List (Addr × Obj)} {σ : L2.St} {H : Hp} {s : Shared}
/-! d[x][n], d a captured dict of pairs of numbers -/
theorem elt_want {G : Hp} {P d : Addr} {scope : Scope} {x dn : Str} {p1 p2 p3 p4 p5 : Pos} {i kd : Nat} {n : Int} {a : Str} {kvs : List (Key × V)} {f : Nat → Int} (hT : GxR.TabG G P) (hN : X.N[i]? = some dn) (hv : σ[i]? = some (some (.ref d))) (hk : X.env.scope.names.lookup dn = some .cell)
    (hd : G d = some (.dK kvs)) (hn01 : n = 0 ∨ n = 1) (hac : ∀ c ∈ a.cps.toList, ∃ (p : Addr) (lo hi : Int), valV kvs (Sum.inr (sS c)) = some (.ref p) ∧ G p = some (.tup [.int lo, .int hi]) ∧ f c = (if n = 0 then lo else hi))
    (hf : scope.kind = .function) (hx : scope.names.lookup x = some .local) (hy : (dn, NameKind.free) ∈ scope.names) (hyl : scope.names.lookup dn = some .free)
    (hd1 : (x == ("__debug__" : Str)) = false := by decide) (hd2 : (dn == ("__debug__" : Str)) = false := by decide) (hd3 : (dn == ("__classdict__" : Str)) = false := by decide) :
    EltQ X σ G P scope x (.Subscript (.Subscript (.Name dn p1) (.Name x p2) p3) (.Constant (.int n) kd p4) p5) (SignAt a) (fun l w => ∃ c t, a.cps[l]? = some c ∧ w = .int (f c) t) := by
  intro pins u1 I ce B E' l v u2 m2 hB hs hcl hP hn hm hk3
  obtain ⟨c, t, hc, rfl⟩ := hP
  obtain ⟨ud, cl, ru, hl, hcell⟩ := capt I hN hv hk hy
  cases ru
  obtain ⟨p, lo, hi, hval, hp, hfc⟩ := hac c (by
    have : a.cps.toList[l]? = some c := by rw [Array.getElem?_toList]; exact hc
    exact List.mem_of_getElem? this)
  have neP : ∀ {b : Addr} {o : HO}, G b = some o → (∀ q, o ≠ .tbl q) → b ≠ P := fun {b o} hb ho z => by
    obtain ⟨ps, hPp, _⟩ := hT
    rw [z, hPp] at hb
    exact ho ps (Option.some.inj hb).symm
  obtain ⟨hz, hds, vs, rel, dd⟩ := dk_of I.hok hd
  have hndP : d ≠ P := neP hd (fun q z => nomatch z)
  have dd2 : u2.heap.DictOf (mixKind X.prog X.w) d vs := by
    exact dd.at fun o ho => hk3 d o hndP ho
  obtain ⟨wv, hw, rwv⟩ := RelO.some_of (v := .ref p) (o := valueAt vs (Sum.inr (sS c))) (by rw [← hval]; exact rel.val _)
  cases rwv
  obtain ⟨its, rv, pl, hz2⟩ := I.tuple (show SqT X.K G p [.int lo, .int hi] from .inl (.inl hp))
  have hnpP : p ≠ P := neP hp (fun q z => nomatch z)
  have pl2 : u2.heap.IsTuple p its.toArray := by
    obtain ⟨o, ho, r⟩ := pl
    exact ⟨o, hk3 p o hnpP ho, r⟩
  have kf : ce.scope.kind = .function := by rw [hs]; exact hf
  refine PyProof.Rows.Subscript_ ?_
  refine subD_of PySem.F.slot_dict_getitem.lookup (fun _ _ => rfl) ?_
  refine wpAny_Name (wpAny_loadName_free kf (show ce.scope.names.lookup dn = some .free by rw [hs]; exact hyl) (by rw [hcl]; exact hl) (cell_kept I hT hcell hk3) ?_ hd3) hd2
  refine wpAny_Name (wpAny_loadName_local kf (show ce.scope.names.lookup x = some .local by rw [hs]; exact hx) hn hm ?_) hd1
  refine ⟨dd2.typeIs, wpAny_getItem_of (k := Sum.inr (sS c)) (kV_is (k := Sum.inr (sS c)) ⟨t, rfl⟩) dd2.mapOf hw ?_⟩
  refine wpAny_Constant_int ?_
  have hl2 : its.length = 2 := rv.length.symm
  have two : ∃ (j : Nat) (tw : Tok), j < 2 ∧ n = (j : Int) ∧ its[j]? = some (.int (f c) tw) := by
    rcases hn01 with z | z
    · obtain ⟨w, hw0, rw0⟩ := rv.get (i := 0) rfl
      obtain ⟨tw, rfl⟩ := rw0
      exact ⟨0, tw, by decide, z, by rw [hw0, hfc, if_pos z]⟩
    · obtain ⟨w, hw0, rw0⟩ := rv.get (i := 1) rfl
      obtain ⟨tw, rfl⟩ := rw0
      exact ⟨1, tw, by decide, z, by rw [hw0, hfc, if_neg (by rw [z]; decide)]⟩
  obtain ⟨j, tw, hj2, hnj, hitj⟩ := two
  refine subscriptTail_builtinR (x := .int (f c) tw) pl2.typeIs slot_tuple_getitem.lookup ?_ (by rfl)
  refine getItem_tuple (j := j) pl2 (by omega) (by omega) ?_ (by simpa using hitj) ⟨rfl, ⟨c, tw, hc, rfl⟩, GxR.keeps_tok _ _⟩
  rw [List.size_toArray, hl2, hnj]
  exact PySem.seqIndex_of (by omega) (by omega)
end
end My

set_option Elab.async false
set_option linter.all false
set_option maxRecDepth 100000
set_option maxHeartbeats 2000000
namespace My
open PySem PySem.Spec PyProof.Rows L2
/-! ### tables of code objects: they may grow, all else stays -/
def TG (Ps : List Addr) (H : Hp) : Prop := ∀ P ∈ Ps, GxR.TabG H P
def Sx (Ps : List Addr) (H H' : Hp) : Prop := ∀ b o, b ∉ Ps → H b = some o → H' b = some o
theorem Sx.rfl' {Ps : List Addr} {H : Hp} : Sx Ps H H := fun _ _ _ h => h
theorem Sx.trans {Ps : List Addr} {H H1 H2 : Hp} (a : Sx Ps H H1) (b : Sx Ps H1 H2) : Sx Ps H H2 := fun c o n h => b c o n (a c o n h)
theorem Same.sx {Ps : List Addr} {H H' : Hp} (s : Same H H') : Sx Ps H H' := fun b o _ h => s b o h
theorem TG.same {Ps : List Addr} {H H' : Hp} (t : TG Ps H) (s : Same H H') : TG Ps H' := fun P hP => by
  obtain ⟨ps, h, r⟩ := t P hP
  exact ⟨ps, s _ _ h, r⟩
theorem TG.not {Ps : List Addr} {H : Hp} {b : Addr} {o : HO} (t : TG Ps H) (h : H b = some o) (ho : ∀ q, o ≠ .tbl q) : b ∉ Ps := fun hb => by
  obtain ⟨ps, h2, _⟩ := t b hb
  rw [h2] at h
  exact ho ps (Option.some.inj h).symm
theorem TG.kp {Ps : List Addr} {H H' : Hp} {r : Addr} {xs : List V} (t : TG Ps H) (hr : H r = some (.lst xs)) (k : Kp r H H') : TG Ps H' := fun P hP => by
  obtain ⟨ps, h, q⟩ := t P hP
  refine ⟨ps, k _ _ (fun z => ?_) h, q⟩
  rw [z, hr] at h
  cases h
theorem TG.new {Ps : List Addr} {H : Hp} {p : Addr} {o : HO} (t : TG Ps H) (n : H p = none) : TG Ps (upd H p o) := t.same (Same.new (Same.refl H) n)
theorem Sx.kt {Ps : List Addr} {H H' : Hp} (t : TG Ps H) (s : Sx Ps H H') : Kt H H' := fun b xs h => s b _ (t.not h fun q z => nomatch z) h
theorem Sx.lst {Ps : List Addr} {H H' : Hp} {b : Addr} {xs : List V} (t : TG Ps H) (s : Sx Ps H H') (h : H b = some (.lst xs)) : H' b = some (.lst xs) := s b _ (t.not h fun q z => nomatch z) h
theorem Sx.dct {Ps : List Addr} {H H' : Hp} {b : Addr} {xs : List (Key × V)} (t : TG Ps H) (s : Sx Ps H H') (h : H b = some (.dK xs)) : H' b = some (.dK xs) := s b _ (t.not h fun q z => nomatch z) h
theorem Sx.new {Ps : List Addr} {H H1 : Hp} {p : Addr} {o : HO} (s : Sx Ps H H1) (n : H1 p = none) : Sx Ps H (upd H1 p o) := fun b x nb h => keep_new (s b x nb h) n
theorem Sx.mut {Ps : List Addr} {H H1 : Hp} {p : Addr} {o : HO} (s : Sx Ps H H1) (n : H p = none) : Sx Ps H (upd H1 p o) := fun b x nb h => keep_ne (s b x nb h) (ne_of_none h n)
theorem Sx.free {Ps : List Addr} {H H' : Hp} {p : Addr} (t : TG Ps H') (s : Sx Ps H H') (h : H' p = none) : H p = none := by
  cases q : H p with
  | none => rfl
  | some o =>
    by_cases hp : p ∈ Ps
    · obtain ⟨ps, h2, _⟩ := t p hp
      rw [h] at h2
      cases h2
    · rw [s p o hp q] at h
      cases h
theorem Sx.seqL {K : PySem.W.Frag} {Ps : List Addr} {H H' : Hp} {a : Addr} {xs : List V} (t : TG Ps H) (s : Sx Ps H H') (h : SqL K H a xs) : SqL K H' a xs := by
  rcases h with (h | ⟨o, h⟩) | h
  · exact .inl (.inl (s.lst t h))
  · exact .inl (.inr ⟨o, s _ _ (t.not h fun q z => nomatch z) h⟩)
  · exact .inr h
/-- one table of them has grown -/
theorem Tabbed.sx {Ps : List Addr} {P : Addr} {H H' : Hp} (hP : P ∈ Ps) (t : GxR.Tabbed P H H') : Sx Ps H H' := fun b o nb h => by
  rw [t.2 b fun z => nb (z ▸ hP)]
  exact h
theorem Tabbed.tg {Ps : List Addr} {P : Addr} {H H' : Hp} (g : TG Ps H) (t : GxR.Tabbed P H H') : TG Ps H' := fun P' hP' => by
  by_cases e : P' = P
  · rw [e]
    exact t.1
  · obtain ⟨ps, h, q⟩ := g P' hP'
    exact ⟨ps, (t.2 P' e).trans h, q⟩
/-! ### a def whose code object is told -/
def FunC (K : PySem.W.Frag) (x qual : Str) (st : Stmt) (f : Addr) (fd : FuncData) (c : Addr) : Prop :=
  ∃ (oc : Value) (od : Option Addr) (kV doc pm : Value) (an : Option Addr) (ct : Value) (osl : Array (Option Value)), fd = PySem.W.fnOf x qual (defArgs st) (defBody st) (defScope st) .none kV doc pm an (.ref c) ct ∧ K.lookup f = some ⟨oc, od, .func fd, osl⟩ ∧ PySem.W.codeIn K (.ref c) qual = true
theorem FunC.ok {P : Program} {w : World} {K : PySem.W.Frag} {mg : Str → Option Value} {base : Heap} {x qual : Str} {st : Stmt} {f c : Addr} {fd : FuncData} {N ps : List Str} {k : Nat} {sp : Sp} (F : FunC K x qual st f fd c) (S : FnScope N ps (defScope st)) (len : ∀ vs H Q E, sp vs H Q E → vs.length = ps.length)
    (hbody : ∀ (A : Around) (outer : List Env) (s : Shared) (H : Hp) (vs : List V) (Q : VK) (E : XK), Room k (A.deeper (envOfC qual (defScope st) s.heap.objs.size f (.ref c))) → sp vs H Q E →
      ∃ t, PSs (cxOf CX0 P w K mg base N qual (defScope st) f (.ref c) A outer s H E).nox (defBody st) t ∧ t { nx := fun _ H' => Q .non H', rt := Q } (start N vs) H) : FnOk P w K mg base CX0 (k + 1) f fd ps sp := by
  obtain ⟨oc, od, kV, doc, pm, an, ct, osl, rfl, lk, hcd⟩ := F
  refine fn_of lk hcd S len fun A outer s H vs Q E hr hsp => ?_
  obtain ⟨t, h, q⟩ := hbody A outer s H vs Q E hr hsp
  exact ⟨t, h.nox, q⟩
/-- the generator expression's scope within a def's -/
def genC (sc scope : Scope) (x : Str) : Bool :=
  (match scope.kind with | .function => true | _ => false) && !scope.isCoroutine && (scope.names.all fun y => match y.2 with | .cell => false | .free => (match sc.names.lookup y.1 with | some .cell => true | _ => false) | _ => true) &&
    (match scope.names.lookup (".0" : Str) with | some .local => true | _ => false) && (match scope.names.lookup x with | some .local => true | _ => false)
theorem genS_by {sc scope : Scope} {x : Str} {env : Env} {n : Nat} (h : genC sc scope x = true) (hc : env.cells = cellsFrom n sc.names []) : GxR.GenS env scope x := by
  unfold genC at h
  simp only [Bool.and_eq_true] at h
  obtain ⟨⟨⟨⟨h1, h2⟩, h3⟩, h4⟩, h5⟩ := h
  rw [List.all_eq_true] at h3
  refine ⟨?_, ?_, fun y hy z => ?_, ?_, ?_, fun y hy z => ?_⟩
  · revert h1
    cases scope.kind <;> simp
  · simpa using h2
  · have := h3 y hy
    rw [z] at this
    cases this
  · revert h4
    cases scope.names.lookup (".0" : Str) with
    | none => simp
    | some k => cases k <;> simp
  · revert h5
    cases scope.names.lookup x with
    | none => simp
    | some k => cases k <;> simp
  · have q := h3 y hy
    rw [z] at q
    have q2 : sc.names.lookup y.1 = some .cell := by
      revert q
      cases sc.names.lookup y.1 with
      | none => simp
      | some k => cases k <;> simp
    have := PySem.W.cellsFrom_some sc.names n [] (.inl q2)
    rw [hc]
    exact Option.isSome_iff_exists.mp this
/-! ### the generator expressions that we met -/
def DRow (P : Addr) (i j : Nat) : V → L2.St → Hp → List V → Prop := fun v σ G xs => GxR.TabG G P ∧ ∃ (a : Str) (cols : List Nat) (ra : Addr) (row : List Int), v = .str a ∧ a.length ≤ sizeLine ∧ σ[i]? = some (some (tx cols)) ∧ σ[j]? = some (some (.ref ra)) ∧ G ra = some (.tup (row.map V.int)) ∧ row.length = cols.length ∧ (∀ c ∈ a.cps.toList, c ∈ cols) ∧ xs = a.cps.toList.map fun c => V.int (rowAt cols row c)
theorem hd_row {X : Cx} {P : Addr} {scope : Scope} {x y rn : Str} {p1 p2 p3 p4 p5 p6 : Pos} {i j : Nat} (hN : X.N[i]? = some y) (hk : X.env.scope.names.lookup y = some .cell) (hN2 : X.N[j]? = some rn) (hk2 : X.env.scope.names.lookup rn = some .cell)
    (hf : scope.kind = .function) (hx : scope.names.lookup x = some .local) (hyl : scope.names.lookup y = some .free) (hrf : scope.names.lookup rn = some .free) (hy : (y, NameKind.free) ∈ scope.names) (hr : (rn, NameKind.free) ∈ scope.names) (hline : (p3.endLine == p5.line) = true)
    (hd1 : (x == ("__debug__" : Str)) = false := by decide) (hd2 : (y == ("__debug__" : Str)) = false := by decide) (hd3 : (y == ("__classdict__" : Str)) = false := by decide) (hd4 : (rn == ("__debug__" : Str)) = false := by decide) (hd5 : (rn == ("__classdict__" : Str)) = false := by decide) :
    ∀ (pins : List (Addr × Obj)) (σ : L2.St) (G : Hp) (v : V) (xs : List V), DRow P i j v σ G xs → xs.length ≤ sizeLine ∧ ∃ (Pf F : Nat → Value → Prop), (∀ u, RelV v u → Src X pins σ G P u xs.length Pf) ∧
      EltQ X σ G P scope x (.Subscript (.Name rn p1) (.Call (.Attribute (.Name y p2) "index" p3) [.Name x p4] [] p5) p6) Pf F ∧ ∀ (l : Nat) (y : Value) (z : V), xs[l]? = some z → F l y → RelV z y := by
  intro pins σ G v xs h
  obtain ⟨hT, a, cols, ra, row, rfl, hz, hv, hv2, hra, hrl, hac, rfl⟩ := h
  have hl : (a.cps.toList.map fun c => V.int (rowAt cols row c)).length = a.cps.size := by rw [List.length_map]; exact Array.length_toList
  refine ⟨by rw [hl]; exact hz, _, _, fun u ru => ?_, elt_row hT hN hv hk hN2 hv2 hk2 hra hrl hac hf hx hy hyl hr hrf hline hd1 hd2 hd3 hd4 hd5, fun l y z h1 h2 => ?_⟩
  · obtain ⟨t, rfl⟩ := ru
    rw [hl]
    exact src_str a t
  · obtain ⟨c, t, hc, rfl⟩ := h2
    rw [List.getElem?_map, Array.getElem?_toList, hc] at h1
    cases h1
    exact ⟨t, rfl⟩
def DWant (P : Addr) (i : Nat) (n : Int) : V → L2.St → Hp → List V → Prop := fun v σ G xs => GxR.TabG G P ∧ ∃ (a : Str) (d : Addr) (kvs : List (Key × V)) (f : Nat → Int), v = .str a ∧ a.length ≤ sizeLine ∧ σ[i]? = some (some (.ref d)) ∧ G d = some (.dK kvs) ∧
  (∀ c ∈ a.cps.toList, ∃ (p : Addr) (lo hi : Int), valV kvs (Sum.inr (sS c)) = some (.ref p) ∧ G p = some (.tup [.int lo, .int hi]) ∧ f c = (if n = 0 then lo else hi)) ∧ xs = a.cps.toList.map fun c => V.int (f c)
theorem hd_want {X : Cx} {P : Addr} {scope : Scope} {x dn : Str} {p1 p2 p3 p4 p5 : Pos} {i kd : Nat} {n : Int} (hn01 : n = 0 ∨ n = 1) (hN : X.N[i]? = some dn) (hk : X.env.scope.names.lookup dn = some .cell)
    (hf : scope.kind = .function) (hx : scope.names.lookup x = some .local) (hyl : scope.names.lookup dn = some .free) (hy : (dn, NameKind.free) ∈ scope.names)
    (hd1 : (x == ("__debug__" : Str)) = false := by decide) (hd2 : (dn == ("__debug__" : Str)) = false := by decide) (hd3 : (dn == ("__classdict__" : Str)) = false := by decide) :
    ∀ (pins : List (Addr × Obj)) (σ : L2.St) (G : Hp) (v : V) (xs : List V), DWant P i n v σ G xs → xs.length ≤ sizeLine ∧ ∃ (Pf F : Nat → Value → Prop), (∀ u, RelV v u → Src X pins σ G P u xs.length Pf) ∧
      EltQ X σ G P scope x (.Subscript (.Subscript (.Name dn p1) (.Name x p2) p3) (.Constant (.int n) kd p4) p5) Pf F ∧ ∀ (l : Nat) (y : Value) (z : V), xs[l]? = some z → F l y → RelV z y := by
  intro pins σ G v xs h
  obtain ⟨hT, a, d, kvs, f, rfl, hz, hv, hd, hac, rfl⟩ := h
  have hl : (a.cps.toList.map fun c => V.int (f c)).length = a.cps.size := by rw [List.length_map]; exact Array.length_toList
  refine ⟨by rw [hl]; exact hz, _, _, fun u ru => ?_, elt_want hT hN hv hk hd hn01 hac hf hx hy hyl hd1 hd2 hd3, fun l y z h1 h2 => ?_⟩
  · obtain ⟨t, rfl⟩ := ru
    rw [hl]
    exact src_str a t
  · obtain ⟨c, t, hc, rfl⟩ := h2
    rw [List.getElem?_map, Array.getElem?_toList, hc] at h1
    cases h1
    exact ⟨t, rfl⟩
/-! ### the end: the tables of all defs are empty -/
def OwnTC (K : PySem.W.Frag) (fa : Addr) (h : Heap) : Prop := ∀ (c P : Addr) (o : Obj) (fd : FuncData) (e : Value) (dd : Option Addr) (vs : Array Value) (sl : Array (Option Value)), K.lookup fa = some o → o.data = .func fd → fd.code = .ref c → K.lookup c = some ⟨e, dd, .fields vs, sl⟩ → vs[11]? = some (.ref P) →
  h.get? P = some { cls := .none, data := .fields #[] } ∧ PySem.W.CodeHd h c P
/-- the table of each def that the top has bound is empty, and its code object shows it -/
theorem own_of {q : Program} {loose : List Str} {mean : ExcName → Option Value} {mg mb : Str → Option Value} {h : Heap} {K : PySem.W.Frag} (KX : K.In h) (T : Top q loose mean mg mb h) {nm : Str} {fb : Addr} (hr : ((recsOf q).any fun e => e.name == nm) = true) (hm : mg nm = some (.ref fb)) : OwnTC K fb h := by
  intro c P o fd e dd vs sl lf df cf lc at11
  obtain ⟨d, hd, en⟩ := List.any_eq_true.mp hr
  obtain ⟨fb', o', fd', c', P', h1, h2, h3, h4, isC, isT⟩ := T.tab d hd
  obtain rfl : fb = fb' := Value.ref.inj (Option.some.inj (hm.symm.trans ((congrArg mg (beq_iff_eq.mp en)).symm.trans h1)))
  obtain rfl : o = o' := Option.some.inj ((KX _ _ lf).symm.trans h2)
  obtain rfl : fd = fd' := Data.func.inj (df.symm.trans h3)
  obtain rfl : c = c' := Value.ref.inj (cf.symm.trans h4)
  have hd := PySem.W.CodeHd.of isC isT
  obtain ⟨⟨oc, vc, g1, _, g3, g4⟩, empty⟩ := isT
  obtain rfl := Option.some.inj ((KX _ _ lc).symm.trans g1)
  obtain rfl : vs = vc := Data.fields.inj g3
  obtain rfl : P = P' := Value.ref.inj (Option.some.inj (at11.symm.trans g4))
  exact ⟨empty, hd⟩
theorem walk_ofTabs {l : PySem.W.OpenLaw} {n k : Nat} {q : Program} {loose : List Str} {XP : (Str → Option Value) → Heap → Prop} {YP : World → Heap → Prop} {d : DefRec} {K : Params → PySem.W.Frag} {CX : World → CXT} {x : Str}
    (most : l.most = some n) (short : n ≤ sizeLine) (plain : d.params.defaults = []) (room : Room k callerA) (inK : ∀ (w : World) (h : Heap), YP w h → (K w.params).In h)
    (F : ∀ (w : World) (mg : Str → Option Value) (fa : Addr) (h : Heap), YP w h → (K w.params).In h → h.Ns mainGlobals mg → mg d.name = some (.ref fa) →
      (∀ (nm : Str) (fb : Addr), ((recsOf q).any fun e => e.name == nm) = true → mg nm = some (.ref fb) → OwnTC (K w.params) fb h) → LamX.LawAtS l w (K w.params) (CX w) k n x mg fa h)
    (calm : ∀ (w : World) (H : Hp) (s : Shared) (e : Value) (s' : Shared), CX w [] H s (fun _ _ _ => False) e s' → False) :
    PySem.W.WalkO q loose XP YP l.row.toRowW d [] (fun f vs => PySem.call f vs) :=
  Att.attach_callB most plain fun w _ s₁ _ _ _ _ _ _ _ a _ ns G Y _ _ _ mgF obj isInts len bits gens =>
    have KX := inK w _ Y
    let ⟨_, _, _, empty, out, code, bind, pre, ok⟩ := F w _ _ _ Y KX G.T.g mgF fun _ _ => own_of KX G.T
    LamX.law_callTs KX G.T.g G.T.b G.T.builtins G.T.nolimit gens empty out code G.T.bmain obj isInts (Nat.le_trans len short) room ok bind (fun H tabs list => pre H a ns len bits tabs list) fun H e s' => calm w H s₁ e s'
end My

set_option Elab.async false
set_option linter.all false
set_option maxRecDepth 100000
set_option maxHeartbeats 2000000
namespace My
open PySem PySem.Spec PyProof.Rows L2
/-! ### texts by their codes -/
theorem inV_signs (c : Nat) : ∀ l : List Nat, inV (sg c) (l.map sg) = decide (c ∈ l)
  | [] => rfl
  | d :: l => by
    have ih := inV_signs c l
    show (((sS d) == (sS c)) || inV (sg c) (l.map sg)) = decide (c ∈ d :: l)
    rw [ih]
    by_cases e : d = c
    · rw [e]
      simp
    · have e2 : ((sS d) == (sS c)) = false := by
        rw [Bool.eq_false_iff]
        intro z
        exact e (sS_inj (by simpa using z))
      have e3 : ¬ c = d := fun z => e z.symm
      rw [e2]
      simp [e3]
theorem flat_signs (l : List Nat) : (l.map sg).all flatV = true := by
  rw [List.all_map, List.all_eq_true]
  intro c _
  rfl
theorem cut_take (l : List Nat) (k : Nat) : cutS ⟨l.toArray⟩ none (some (k : Int)) = ⟨(l.take k).toArray⟩ := by
  unfold cutS
  rw [HT.sIx_none, HT.sIx_nat]
  show (⟨((l.toArray.toList.drop 0).take (min k l.toArray.size - 0)).toArray⟩ : Str) = _
  have e1 : l.toArray.toList = l := by simp
  have e2 : l.toArray.size = l.length := by simp
  rw [e1, e2, List.drop_zero, Nat.sub_zero]
  congr 2
  rw [List.take_eq_take_iff]
  omega
theorem cut_one (l : List Nat) (k : Nat) (hk : k ≤ l.length) : cutS ⟨l.toArray⟩ (some (k : Int)) (some ((k : Int) + 1)) = ⟨((l.drop k).take 1).toArray⟩ := by
  unfold cutS
  have e0 : ((k : Int) + 1) = ((k + 1 : Nat) : Int) := by omega
  rw [e0, HT.sIx_nat, HT.sIx_nat]
  show (⟨((l.toArray.toList.drop (min k l.toArray.size)).take (min (k + 1) l.toArray.size - min k l.toArray.size)).toArray⟩ : Str) = _
  have e1 : l.toArray.toList = l := by simp
  have e2 : l.toArray.size = l.length := by simp
  rw [e1, e2, Nat.min_eq_left hk]
  congr 2
  rw [List.take_eq_take_iff, List.length_drop]
  omega
theorem tx_inj {a b : List Nat} (h : tx a = tx b) : a = b := by
  have h2 : (⟨a.toArray⟩ : Str) = ⟨b.toArray⟩ := V.str.inj h
  have h3 : a.toArray = b.toArray := congrArg Str.cps h2
  simpa using h3
/-! ### the letters that a question uses -/
def eqPart (one : List Nat) (es : List (Nat × Int)) : List Nat := one.takeWhile fun c => decide (c ∈ es.map (·.1))
def usedM (one : List Nat) (es : List (Nat × Int)) (rc : Option (Nat × Int × Int)) : List Nat :=
  match rc with
  | none => eqPart one es
  | some (c, _, _) => if (one.drop (eqPart one es).length).take 1 = [c] then one.take ((eqPart one es).length + 1) else eqPart one es
theorem eqPart_take (one : List Nat) (es : List (Nat × Int)) : eqPart one es = one.take (eqPart one es).length := by
  unfold eqPart
  exact List.prefix_iff_eq_take.mp (List.takeWhile_prefix _)
theorem eqPart_le (one : List Nat) (es : List (Nat × Int)) : (eqPart one es).length ≤ one.length := (List.takeWhile_prefix _).length_le
theorem take_while_at {α : Type} (p : α → Bool) : ∀ (l : List α) (k : Nat), k ≤ l.length → (∀ i (h : i < l.length), i < k → p l[i] = true) → (∀ (h : k < l.length), p l[k] = false) → (l.takeWhile p).length = k
  | [], k, hk, _, _ => by
    have : k = 0 := by
      have : k ≤ 0 := hk
      omega
    rw [this]
    rfl
  | a :: l, 0, _, _, h => by
    have := h (by simp)
    rw [List.takeWhile_cons, show p a = false from this]
    rfl
  | a :: l, k + 1, hk, h1, h2 => by
    have e := h1 0 (by simp) (by omega)
    rw [List.takeWhile_cons, show p a = true from e]
    have ih := take_while_at p l k (by have : k + 1 ≤ l.length + 1 := hk; omega) (fun i hi hik => h1 (i + 1) (by simpa using hi) (by omega)) (fun h => h2 (by simpa using h))
    show (a :: l.takeWhile p).length = k + 1
    rw [List.length_cons, ih]
section
variable (K : PySem.W.Frag) {X : Cx}
theorem ltTK (hu : X.A.units < cLine) (hK : X.K = K := by rfl) : OpR X (compareOp .Lt) (rLtT K) := by
  subst hK
  exact op_ltT hu
theorem leTK (hu : X.A.units < cLine) (hK : X.K = K := by rfl) : OpR X (compareOp .LtE) (rLeT K) := by
  subst hK
  exact op_leT hu
end
/-! ### the bounds that a question asks of a letter -/
def spanOf (es : List (Nat × Int)) (rc : Option (Nat × Int × Int)) (c : Nat) : Int × Int := match (spanL es rc).find? (fun t => decide (t.1 = c)) with
  | some t => t.2
  | none => (0, 0)
theorem spanOf_mem {es : List (Nat × Int)} {rc : Option (Nat × Int × Int)} {c : Nat} {lo hi : Int} (nd : ((spanL es rc).map (·.1)).Nodup) (h : (c, lo, hi) ∈ spanL es rc) : spanOf es rc c = (lo, hi) := by
  unfold spanOf
  generalize spanL es rc = l at nd h
  induction l with
  | nil => cases h
  | cons t l ih =>
    rw [List.find?_cons]
    by_cases e : t.1 = c
    · rw [decide_eq_true e]
      rcases List.mem_cons.mp h with z | z
      · rw [← z]
      · have := (List.nodup_cons.mp nd).1
        exfalso
        apply this
        show t.1 ∈ _
        rw [e]
        exact List.mem_map_of_mem (f := fun t : Nat × Int × Int => t.1) z
    · rw [decide_eq_false e]
      rcases List.mem_cons.mp h with z | z
      · exfalso
        apply e
        rw [← z]
      · exact ih (List.nodup_cons.mp nd).2 z
theorem mem_tw {α : Type} (p : α → Bool) : ∀ (l : List α) (a : α), a ∈ l.takeWhile p → p a = true
  | [], _, h => by cases h
  | b :: l, a, h => by
    rw [List.takeWhile_cons] at h
    by_cases e : p b = true
    · rw [if_pos e] at h
      rcases List.mem_cons.mp h with z | z
      · rw [z]
        exact e
      · exact mem_tw p l a z
    · rw [if_neg e] at h
      cases h
theorem used_span {one : List Nat} {es : List (Nat × Int)} {rc : Option (Nat × Int × Int)} {c : Nat} (h : c ∈ usedM one es rc) : ∃ lo hi, (c, lo, hi) ∈ spanL es rc := by
  have eqp : ∀ c ∈ eqPart one es, ∃ lo hi, (c, lo, hi) ∈ spanL es rc := fun c hc => by
    have hm : c ∈ es.map (·.1) := by
      unfold eqPart at hc
      have := mem_tw _ _ _ hc
      exact of_decide_eq_true this
    obtain ⟨p, hp, rfl⟩ := List.mem_map.mp hm
    exact ⟨p.2, p.2, List.mem_append_left _ (List.mem_map_of_mem (f := fun p : Nat × Int => (p.1, p.2, p.2)) hp)⟩
  cases rc with
  | none => exact eqp c h
  | some t =>
    obtain ⟨d, lo, hi⟩ := t
    have h2 : c ∈ (if (one.drop (eqPart one es).length).take 1 = [d] then one.take ((eqPart one es).length + 1) else eqPart one es) := h
    by_cases e : (one.drop (eqPart one es).length).take 1 = [d]
    · rw [if_pos e, List.take_add, ← eqPart_take, e] at h2
      rcases List.mem_append.mp h2 with z | z
      · exact eqp c z
      · rw [List.mem_singleton.mp z]
        exact ⟨lo, hi, List.mem_append_right _ (by simp)⟩
    · rw [if_neg e] at h2
      exact eqp c h2
theorem used_sub {one : List Nat} {es : List (Nat × Int)} {rc : Option (Nat × Int × Int)} : ∃ k, usedM one es rc = one.take k ∧ k ≤ one.length + 1 := by
  have hl := eqPart_le one es
  cases rc with
  | none => exact ⟨_, eqPart_take one es, by omega⟩
  | some t =>
    obtain ⟨d, lo, hi⟩ := t
    show ∃ k, (if (one.drop (eqPart one es).length).take 1 = [d] then one.take ((eqPart one es).length + 1) else eqPart one es) = one.take k ∧ _
    by_cases e : (one.drop (eqPart one es).length).take 1 = [d]
    · rw [if_pos e]
      exact ⟨_, rfl, by omega⟩
    · rw [if_neg e]
      exact ⟨_, eqPart_take one es, by omega⟩
theorem used_in {one : List Nat} {es : List (Nat × Int)} {rc : Option (Nat × Int × Int)} {c : Nat} (h : c ∈ usedM one es rc) : c ∈ one := by
  obtain ⟨k, e, _⟩ := used_sub (one := one) (es := es) (rc := rc)
  rw [e] at h
  exact List.mem_of_mem_take h
theorem used_len (one : List Nat) (es : List (Nat × Int)) (rc : Option (Nat × Int × Int)) : (usedM one es rc).length ≤ one.length := by
  obtain ⟨k, e, _⟩ := used_sub (one := one) (es := es) (rc := rc)
  rw [e, List.length_take]
  exact Nat.min_le_right _ _
theorem TG.mut {Ps : List Addr} {H : Hp} {p : Addr} {xs : List V} {o : HO} (t : TG Ps H) (h : H p = some (.lst xs)) : TG Ps (upd H p o) := fun P hP => by
  obtain ⟨ps, h2, q⟩ := t P hP
  refine ⟨ps, ?_, q⟩
  rw [upd_ne (fun z => ?_)]
  · exact h2
  · rw [z, h] at h2
    cases h2
theorem row_at_fz {H : Hp} {p : Addr} {row : List Int} (h : H p = some (.tup (row.map V.int))) : Fz H (.ref p) (rowD row) := .tup h FzA.ofInts
/-! ### stretches -/
def keyM (cols : List Nat) (row : List Int) (ls : List Nat) : List Int := ls.map (rowAt cols row)
def leK (ns ms : List Int) : Bool := Ob.lexAt (fun j => decide (ns.getD j 0 = ms.getD j 0)) (fun j => decide (ns.getD j 0 ≤ ms.getD j 0)) (decide (ns.length ≤ ms.length)) 0 (min ns.length ms.length)
def loM (es : List (Nat × Int)) (rc : Option (Nat × Int × Int)) (u : List Nat) : List Int := u.map fun c => (spanOf es rc c).1
def hiM (es : List (Nat × Int)) (rc : Option (Nat × Int × Int)) (u : List Nat) : List Int := u.map fun c => (spanOf es rc c).2
def aheadM (cols : List Nat) (rows : List (List Int)) (one : List Nat) (es : List (Nat × Int)) (rc : Option (Nat × Int × Int)) : Nat := (rows.filter fun row => HT.lexLt (keyM cols row (usedM one es rc)) (loM es rc (usedM one es rc))).length
def behindM (cols : List Nat) (rows : List (List Int)) (one : List Nat) (es : List (Nat × Int)) (rc : Option (Nat × Int × Int)) : Nat := (rows.filter fun row => leK (keyM cols row (usedM one es rc)) (hiM es rc (usedM one es rc))).length
end My

set_option Elab.async false
set_option linter.all false
set_option maxRecDepth 100000
set_option maxHeartbeats 2000000
namespace My
open PySem PySem.Spec PyProof.Rows L2
/-! ### tuples whose own object is told: without a dict of its own -/
def rTupF (K : PySem.W.Frag) : List V → Hp → VK → Prop := fun xs H Q => ∃ (p : Addr) (ys : List V), xs = [.ref p] ∧ SqL K H p ys ∧ ∀ (l : Addr) (o : Obj), H l = none → o.dict = none → Q (.ref l) (upd H l (.frz o (.tup ys)))
section
variable (K : PySem.W.Frag) {X : Cx}
theorem cTupF (hK : X.K = K := by rfl) : CallR X (.type "tuple") (rTupF K) := by
  subst hK
  intro pins s σ H xs us Q I r h
  obtain ⟨p, ys, rfl, hq, q⟩ := h
  obtain ⟨u, rfl, rx⟩ := vals1 r
  cases rx
  obtain ⟨its, rv, pl, hz⟩ := I.list hq
  have hlen := rv.length
  refine call_tuple_list pl.isList (fun h2 kp => ?_) (by rw [List.size_toArray]; omega)
  have I1 : Inv X pins σ H { s with heap := h2 } := I.kept (t' := s.toks) kp
  have new : ObjOk X.prog X.w (upd H h2.objs.size (.frz { cls := .type "tuple", data := .seq its.toArray } (.tup ys))) (h2.push { cls := .type "tuple", data := .seq its.toArray }) h2.objs.size (.frz { cls := .type "tuple", data := .seq its.toArray } (.tup ys)) := ⟨Heap.get?_push_size _ rfl, hz, its, rv, IsTup.new _ _⟩
  have I2 := I1.laid (t' := s.toks) (fun b o e => Heap.get?_push_of_some _ e) (Nat.le_refl _) new
  exact ⟨.ref h2.objs.size, _, I2, rfl, q _ _ (I1.hok.fresh (Nat.le_refl _)) rfl⟩
end
theorem app_txt (a b : List Nat) : ((⟨a.toArray⟩ : Str) ++ (⟨b.toArray⟩ : Str)) = ⟨(a ++ b).toArray⟩ := by
  show (⟨a.toArray ++ b.toArray⟩ : Str) = _
  rw [List.append_toArray]
/-! ### questions: their equals are such a tuple -/
def KT (H H' : Hp) : Prop := Kt H H' ∧ ∀ b o xs, H b = some (.frz o (.tup xs)) → H' b = some (.frz o (.tup xs))
theorem KT.rfl' {H : Hp} : KT H H := ⟨Kt.rfl', fun _ _ _ h => h⟩
theorem KT.trans {H H1 H2 : Hp} (a : KT H H1) (b : KT H1 H2) : KT H H2 := ⟨a.1.trans b.1, fun c o xs h => b.2 c o xs (a.2 c o xs h)⟩
theorem Same.kT {H H' : Hp} (s : Same H H') : KT H H' := ⟨Same.kt s, fun b o xs h => s b _ h⟩
theorem Kp.kT {r : Addr} {H H' : Hp} {xs : List V} (k : Kp r H H') (hr : H r = some (.lst xs)) : KT H H' := ⟨k.kt hr, fun b o ys h => k b _ (fun z => by
  rw [z, hr] at h
  cases h) h⟩
theorem Sx.kT {Ps : List Addr} {H H' : Hp} (t : TG Ps H) (s : Sx Ps H H') : KT H H' := ⟨s.kt t, fun b o xs h => s b _ (t.not h fun q z => nomatch z) h⟩
theorem KT.new {H : Hp} {p : Addr} {o : HO} (n : H p = none) : KT H (upd H p o) := ⟨Kt.new n, fun b u xs h => keep_new h n⟩
theorem KT.lst {H : Hp} {p : Addr} {xs : List V} {o : HO} (n : H p = some (.lst xs)) : KT H (upd H p o) := ⟨Kt.lst n, fun b u ys h => keep_ne h fun z => by
  rw [z, n] at h
  cases h⟩
def EZ (H : Hp) (ev : V) (es : List (Nat × Int)) : Prop := ∃ (ea : Addr) (o : Obj) (ps : List V), ev = .ref ea ∧ o.dict = none ∧ H ea = some (.frz o (.tup ps)) ∧ FzA H ps (es.map eqD)
def QZ (H : Hp) (qv : V) (es : List (Nat × Int)) (rc : Option (Nat × Int × Int)) : Prop := ∃ (qa : Addr) (ev y : V), qv = .ref qa ∧ H qa = some (.tup [ev, y]) ∧ EZ H ev es ∧ Fz H y (rchD rc)
theorem EZ.kT {H H' : Hp} {ev : V} {es : List (Nat × Int)} (h : EZ H ev es) (k : KT H H') : EZ H' ev es := by
  obtain ⟨ea, o, ps, rfl, h1, h2, h3⟩ := h
  exact ⟨ea, o, ps, rfl, h1, k.2 _ _ _ h2, h3.kt k.1⟩
theorem QZ.kT {H H' : Hp} {qv : V} {es : List (Nat × Int)} {rc : Option (Nat × Int × Int)} (h : QZ H qv es rc) (k : KT H H') : QZ H' qv es rc := by
  obtain ⟨qa, ev, y, rfl, h1, h2, h3⟩ := h
  exact ⟨qa, ev, y, rfl, k.1 _ _ h1, h2.kT k, h3.kt k.1⟩
theorem EZ.made {H : Hp} {te : Addr} {o : Obj} {ps : List V} {es : List (Nat × Int)} (n : H te = none) (ho : o.dict = none) (f : FzA H ps (es.map eqD)) : EZ (upd H te (.frz o (.tup ps))) (.ref te) es := ⟨te, o, ps, rfl, ho, upd_same, f.kt (.new n)⟩
theorem QZ.made {H : Hp} {v : Addr} {ev y : V} {es : List (Nat × Int)} {rc : Option (Nat × Int × Int)} (n : H v = none) (e : EZ H ev es) (f : Fz H y (rchD rc)) : QZ (upd H v (.tup [ev, y])) (.ref v) es rc := ⟨v, ev, y, rfl, upd_same, e.kT (.new n), f.kt (.new n)⟩
end My

set_option Elab.async false
set_option linter.all false
set_option maxRecDepth 100000
set_option maxHeartbeats 2000000
namespace My
open PySem PySem.Spec PyProof.Rows L2
section
variable (K : PySem.W.Frag) {X : Cx}
end
/-! ### the order of keys, by a sign -/
theorem lexAt_shift {e r : Nat → Bool} {z : Bool} : ∀ (k i : Nat), Ob.lexAt e r z (i + 1) k = Ob.lexAt (fun j => e (j + 1)) (fun j => r (j + 1)) z i k
  | 0, i => rfl
  | k + 1, i => by
    show (if e (i + 1) = true then Ob.lexAt e r z (i + 1 + 1) k else r (i + 1)) = (if e (i + 1) = true then Ob.lexAt (fun j => e (j + 1)) (fun j => r (j + 1)) z (i + 1) k else r (i + 1))
    rw [lexAt_shift k (i + 1)]
theorem leK_cons (a b : Int) (as bs : List Int) : leK (a :: as) (b :: bs) = if a = b then leK as bs else decide (a ≤ b) := by
  unfold leK
  have e : min (a :: as).length (b :: bs).length = min as.length bs.length + 1 := by
    rw [List.length_cons, List.length_cons]
    omega
  rw [e, Ob.lexAt_succ, lexAt_shift]
  simp only [List.getD_cons_zero, List.getD_cons_succ, List.length_cons, Nat.add_le_add_iff_right, decide_eq_true_eq]
def sgn (k lo hi : Int) : Int := (if decide (hi < k) = true then 1 else 0) - (if decide (k < lo) = true then 1 else 0)
def signF (k lo hi : Nat → Int) (u : List Nat) (s : Int) : Int := u.foldl (fun s c => if s = 0 then sgn (k c) (lo c) (hi c) else s) s
theorem signF_stay (k lo hi : Nat → Int) : ∀ (u : List Nat) (s : Int), s ≠ 0 → signF k lo hi u s = s
  | [], s, _ => rfl
  | c :: u, s, h => by
    show signF k lo hi u (if s = 0 then sgn (k c) (lo c) (hi c) else s) = s
    rw [if_neg h]
    exact signF_stay k lo hi u s h
def Thin (lo hi : Nat → Int) : List Nat → Prop
  | [] => True
  | c :: r => lo c ≤ hi c ∧ (r ≠ [] → lo c = hi c) ∧ Thin lo hi r
theorem Thin.all {lo hi : Nat → Int} : ∀ {l : List Nat}, (∀ c ∈ l, lo c = hi c) → Thin lo hi l
  | [], _ => trivial
  | c :: l, h => ⟨by rw [h c (by simp)]; exact Int.le_refl _, fun _ => h c (by simp), Thin.all fun d hd => h d (by simp [hd])⟩
theorem Thin.app {lo hi : Nat → Int} {d : Nat} (hd : lo d ≤ hi d) : ∀ {l : List Nat}, (∀ c ∈ l, lo c = hi c) → Thin lo hi (l ++ [d])
  | [], _ => ⟨hd, fun z => absurd rfl z, trivial⟩
  | c :: l, h => ⟨by rw [h c (by simp)]; exact Int.le_refl _, fun _ => h c (by simp), Thin.app hd fun e he => h e (by simp [he])⟩
theorem sign_lex (k lo hi : Nat → Int) : ∀ (u : List Nat), Thin lo hi u → HT.lexLt (u.map k) (u.map lo) = decide (signF k lo hi u 0 < 0) ∧ leK (u.map k) (u.map hi) = decide (signF k lo hi u 0 < 1)
  | [], _ => ⟨rfl, rfl⟩
  | c :: u, h => by
    obtain ⟨h1, h2, h3⟩ := h
    have ih := sign_lex k lo hi u h3
    rw [List.map_cons, List.map_cons, List.map_cons, HT.lexLt_cons, leK_cons]
    show _ = decide (signF k lo hi u (if (0 : Int) = 0 then sgn (k c) (lo c) (hi c) else 0) < 0) ∧ _ = decide (signF k lo hi u (if (0 : Int) = 0 then sgn (k c) (lo c) (hi c) else 0) < 1)
    rw [if_pos rfl]
    rcases Int.lt_or_le (k c) (lo c) with e | e
    · have es : sgn (k c) (lo c) (hi c) = -1 := by
        unfold sgn
        rw [decide_eq_false (show ¬ hi c < k c by omega), decide_eq_true e]
        rfl
      rw [es, signF_stay _ _ _ _ _ (by decide), if_neg (show ¬ k c = lo c by omega), if_neg (show ¬ k c = hi c by omega), decide_eq_true e, decide_eq_true (show k c ≤ hi c by omega)]
      exact ⟨rfl, rfl⟩
    · rcases Int.lt_or_le (hi c) (k c) with f | f
      · have es : sgn (k c) (lo c) (hi c) = 1 := by
          unfold sgn
          rw [decide_eq_false (show ¬ k c < lo c by omega), decide_eq_true f]
          rfl
        rw [es, signF_stay _ _ _ _ _ (by decide), if_neg (show ¬ k c = lo c by omega), if_neg (show ¬ k c = hi c by omega), decide_eq_false (show ¬ k c < lo c by omega), decide_eq_false (show ¬ k c ≤ hi c by omega)]
        exact ⟨rfl, rfl⟩
      · have es : sgn (k c) (lo c) (hi c) = 0 := by
          unfold sgn
          rw [decide_eq_false (show ¬ k c < lo c by omega), decide_eq_false (show ¬ hi c < k c by omega)]
          rfl
        rw [es]
        by_cases hu : u = []
        · subst hu
          show (if k c = lo c then false else decide (k c < lo c)) = false ∧ (if k c = hi c then true else decide (k c ≤ hi c)) = true
          rw [decide_eq_false (show ¬ k c < lo c by omega), decide_eq_true f]
          exact ⟨by split <;> rfl, by split <;> rfl⟩
        · have e2 := h2 hu
          rw [if_pos (show k c = lo c by omega), if_pos (show k c = hi c by omega)]
          exact ih
def signM (cols : List Nat) (row : List Int) (es : List (Nat × Int)) (rc : Option (Nat × Int × Int)) (u : List Nat) : Int := signF (rowAt cols row) (fun c => (spanOf es rc c).1) (fun c => (spanOf es rc c).2) u 0
theorem span_eq {cols : List Nat} {es : List (Nat × Int)} {rc : Option (Nat × Int × Int)} (hok : QOk cols es rc) {c : Nat} {v : Int} (h : (c, v) ∈ es) : spanOf es rc c = (v, v) := spanOf_mem (spanL_nd hok) (List.mem_append_left _ (List.mem_map_of_mem (f := fun p : Nat × Int => (p.1, p.2, p.2)) h))
theorem span_rc {cols : List Nat} {es : List (Nat × Int)} {c : Nat} {lo hi : Int} (hok : QOk cols es (some (c, lo, hi))) : spanOf es (some (c, lo, hi)) c = (lo, hi) := spanOf_mem (spanL_nd hok) (List.mem_append_right _ (by simp))
theorem used_thin {cols one : List Nat} {es : List (Nat × Int)} {rc : Option (Nat × Int × Int)} (hok : QOk cols es rc) : Thin (fun c => (spanOf es rc c).1) (fun c => (spanOf es rc c).2) (usedM one es rc) := by
  have eqp : ∀ c ∈ eqPart one es, (spanOf es rc c).1 = (spanOf es rc c).2 := fun c hc => by
    have hm0 := mem_tw (fun c => decide (c ∈ es.map fun p : Nat × Int => p.1)) one c hc
    have hm : c ∈ es.map (·.1) := of_decide_eq_true hm0
    obtain ⟨p, hp, rfl⟩ := List.mem_map.mp hm
    rw [span_eq hok (c := p.1) (v := p.2) hp]
  cases rc with
  | none => exact Thin.all eqp
  | some t =>
    obtain ⟨d, lo, hi⟩ := t
    show Thin _ _ (if (one.drop (eqPart one es).length).take 1 = [d] then one.take ((eqPart one es).length + 1) else eqPart one es)
    by_cases e : (one.drop (eqPart one es).length).take 1 = [d]
    · rw [if_pos e, List.take_add, ← eqPart_take, e]
      refine Thin.app ?_ eqp
      show (spanOf es (some (d, lo, hi)) d).1 ≤ (spanOf es (some (d, lo, hi)) d).2
      rw [span_rc hok]
      exact (hok.rc d lo hi rfl).2.2.2.1
    · rw [if_neg e]
      exact Thin.all eqp
theorem ahead_sign {cols : List Nat} {rows : List (List Int)} {one : List Nat} {es : List (Nat × Int)} {rc : Option (Nat × Int × Int)} (hok : QOk cols es rc) : aheadM cols rows one es rc = (rows.filter fun row => decide (signM cols row es rc (usedM one es rc) < 0)).length := by
  unfold aheadM
  congr 2
  funext row
  exact (sign_lex (rowAt cols row) (fun c => (spanOf es rc c).1) (fun c => (spanOf es rc c).2) _ (used_thin hok)).1
theorem behind_sign {cols : List Nat} {rows : List (List Int)} {one : List Nat} {es : List (Nat × Int)} {rc : Option (Nat × Int × Int)} (hok : QOk cols es rc) : behindM cols rows one es rc = (rows.filter fun row => decide (signM cols row es rc (usedM one es rc) < 1)).length := by
  unfold behindM
  congr 2
  funext row
  exact (sign_lex (rowAt cols row) (fun c => (spanOf es rc c).1) (fun c => (spanOf es rc c).2) _ (used_thin hok)).2
end My

set_option Elab.async false
set_option linter.all false
set_option maxRecDepth 100000
set_option maxHeartbeats 2000000
namespace My
open PySem PySem.Spec PyProof.Rows L2
/-! ### entries: a key of numbers, and a number; sorted -/
abbrev Ent := List Int × Int
def entD (b : Ent) : PyData := .tuple [rowD b.1, .int b.2]
def entLt (b c : Ent) : Bool := if b.1 = c.1 then decide (b.2 < c.2) else decide (b.1 < c.1)
def entLe (b c : Ent) : Bool := !entLt c b
theorem eqvA_int : ∀ ns ms : List Int, PyData.eqvAll (ns.map PyData.int) (ms.map PyData.int) = decide (ns = ms)
  | [], [] => rfl
  | [], m :: ms => by
    show false = _
    simp
  | n :: ns, [] => by
    show false = _
    simp
  | n :: ns, m :: ms => by
    show (PyData.eqv (.int n) (.int m) && PyData.eqvAll (ns.map PyData.int) (ms.map PyData.int)) = _
    rw [eqvA_int ns ms]
    show ((n == m) && _) = _
    by_cases e : n = m
    · subst e
      simp
    · have e2 : (n == m) = false := by simp [e]
      rw [e2]
      simp [e]
theorem dataLt_ent (b c : Ent) : W.dataLt (entD b) (entD c) = entLt b c := by
  unfold entD
  rw [W.dataLt_pair (by show W.alike (.tuple _) (.tuple _) = true; rw [W.alike]; exact W.alike_ints _ _) (by simp [W.alike]), W.dataLt_int]
  have e1 : PyData.eqv (rowD b.1) (rowD c.1) = decide (b.1 = c.1) := eqvA_int _ _
  have e2 : W.dataLt (rowD b.1) (rowD c.1) = decide (b.1 < c.1) := by
    show W.dataLt (.tuple _) (.tuple _) = _
    rw [W.dataLt_tuple]
    exact W.dataLt_ints _ _
  rw [e1, e2]
  unfold entLt
  by_cases e : b.1 = c.1
  · rw [decide_eq_true e, if_pos rfl, if_pos e]
    show (if (b.2 == c.2) = true then false else decide (b.2 < c.2)) = _
    by_cases f : b.2 = c.2
    · rw [f]
      simp
    · simp [f]
  · rw [decide_eq_false e, if_neg (by decide), if_neg e]
def rSortE (K : PySem.W.Frag) : List V → Hp → VK → Prop := fun xs H Q => ∃ (p : Addr) (bs : List (V × Ent)), xs = [.ref p] ∧ SqL K H p (bs.map (·.1)) ∧ (∀ b ∈ bs, Fz H b.1 (entD b.2)) ∧ ∀ l, H l = none → Q (.ref l) (upd H l (.lst ((bs.mergeSort fun b c => entLe b.2 c.2).map (·.1))))
section
variable (K : PySem.W.Frag) {X : Cx}
theorem dep_ent (b : Ent) : (entD b).depth = 2 := by
  show PyData.depthAll [rowD b.1, .int b.2] + 1 = 2
  have : PyData.depth (rowD b.1) = 1 := by
    show PyData.depthAll (b.1.map PyData.int) + 1 = 1
    rw [W.depth_ints]
  show max (PyData.depth (rowD b.1)) (max 0 0) + 1 = 2
  rw [this]
  rfl
theorem each_of {R : Value → V × Ent → Prop} : ∀ {bs : List (V × Ent)} {its : List Value}, Vals (bs.map (·.1)) its → (∀ b ∈ bs, ∀ v, RelV b.1 v → R v b) → W.EachIs R its bs
  | [], _, r, _ => by
    cases r
    exact .nil
  | b :: bs, _, r, h => by
    rw [List.map_cons] at r
    cases r with
    | cons h1 h2 => exact .cons (h b (by simp) _ h1) (each_of h2 fun c hc => h c (by simp [hc]))
theorem vals_each : ∀ {bs : List (V × Ent)} {its : List Value}, W.EachIs (fun v b => RelV b.1 v) its bs → Vals (bs.map (·.1)) its
  | _, _, .nil => .nil
  | _, _, .cons h t => .cons h (vals_each t)
theorem cSortE {k : Nat} (hr : Room k X.A) (hK : X.K = K := by rfl) : CallR X (.builtin "sorted") (rSortE K) := by
  subst hK
  intro pins s σ H xs us Q I r h
  obtain ⟨p, bs, rfl, hq, hf, q⟩ := h
  obtain ⟨u, rfl, rx⟩ := vals1 r
  cases rx
  obtain ⟨its, rv, pl, hz⟩ := I.list hq
  have hun := hr.un
  have e : W.EachIs (fun v (b : V × Ent) => RelV b.1 v) its bs := each_of rv fun b _ v h => h
  have er : W.EachIs (fun v (b : V × Ent) => ∃ as, Reads s.heap v (entD b.2) as) its bs := each_of rv fun b hb v h => Dp.reads I _ _ _ (hf b hb).to h
  rw [List.length_map] at hz
  refine W.sorted_data (enc := fun b : V × Ent => entD b.2) pl.isList e er (W.AllAlike.of fun b c => ?_) (W.Sortable.tuples fun b => ⟨_, _, rfl⟩) hz (fun b _ => ?_) fun out ho eo => ?_
  · show W.alike (.tuple [rowD b.2.1, .int b.2.2]) (.tuple [rowD c.2.1, .int c.2.2]) = true
    rw [W.alike, W.alikeAll, W.alikeAll]
    have : W.alike (rowD b.2.1) (rowD c.2.1) = true := by
      show W.alike (.tuple _) (.tuple _) = true
      rw [W.alike]
      exact W.alike_ints _ _
    rw [this]
    simp [W.alike, W.alikeAll]
  · show X.A.units + 2 + (entD b.2).depth < cLine
    rw [dep_ent]
    omega
  · have ele : W.dataLe false (fun b : V × Ent => entD b.2) = fun b c => entLe b.2 c.2 := by
      funext b c
      show (!W.dataLt (entD c.2) (entD b.2)) = _
      rw [dataLt_ent]
      rfl
    rw [ele] at eo
    obtain ⟨ep, he⟩ := PyProof.Rows.sortedAll_at s.heap its out.toArray
    have hlen : ((bs.mergeSort fun b c => entLe b.2 c.2).map (·.1)).length ≤ sizeLine := by
      rw [List.length_map, List.length_mergeSort]
      exact hz
    have new : ObjOk X.prog X.w (upd H (s.heap.objs.size + 1) (.lst ((bs.mergeSort fun b c => entLe b.2 c.2).map (·.1)))) (sortedAll s.heap its out.toArray) (s.heap.objs.size + 1) (.lst ((bs.mergeSort fun b c => entLe b.2 c.2).map (·.1))) := ⟨hlen, out, ep, vals_each eo, he⟩
    exact ⟨.ref _, _, I.laid (t' := s.toks) (fun _ _ => PyProof.Rows.sortedAll_old) (Nat.le_succ _) new, rfl, q _ (I.hok.fresh (Nat.le_succ _))⟩
end
end My

set_option Elab.async false
set_option linter.all false
set_option maxRecDepth 100000
set_option maxHeartbeats 2000000
namespace My
open PySem PySem.Spec PyProof.Rows L2
/-! ### rows sorted by a list -/
def entAt (cols : List Nat) (rows : List (List Int)) (one : List Nat) (i : Nat) : Ent := (keyM cols (rows.getD i []) one, (i : Int))
def entsM (cols : List Nat) (rows : List (List Int)) (one : List Nat) : List Ent := (List.range rows.length).map (entAt cols rows one)
def sortM (cols : List Nat) (rows : List (List Int)) (one : List Nat) : List Int := ((entsM cols rows one).mergeSort entLe).map (·.2)
theorem sortM_of {cols : List Nat} {rows : List (List Int)} {one : List Nat} {bs : List (V × Ent)} (h : bs.map (·.2) = entsM cols rows one) : (bs.mergeSort fun b c => entLe b.2 c.2).map (·.2.2) = sortM cols rows one := by
  unfold sortM
  rw [← h, ← List.map_mergeSort (r := fun b c : V × Ent => entLe b.2 c.2) (fun a _ b _ => rfl), List.map_map]
  rfl
theorem entLt_irrefl (a : Ent) : entLt a a = false := by
  unfold entLt
  rw [if_pos rfl]
  simp
theorem entLt_trans {a b c : Ent} (h1 : entLt a b = true) (h2 : entLt b c = true) : entLt a c = true := by
  unfold entLt at *
  by_cases e1 : a.1 = b.1
  · rw [if_pos e1] at h1
    by_cases e2 : b.1 = c.1
    · rw [if_pos e2] at h2
      rw [if_pos (e1.trans e2)]
      simp at *
      omega
    · rw [if_neg e2] at h2
      rw [if_neg (by rw [e1]; exact e2), e1]
      exact h2
  · rw [if_neg e1] at h1
    by_cases e2 : b.1 = c.1
    · rw [if_neg (by rw [← e2]; exact e1), ← e2]
      exact h1
    · rw [if_neg e2] at h2
      have t : a.1 < c.1 := List.lt_trans (of_decide_eq_true h1) (of_decide_eq_true h2)
      have ne : a.1 ≠ c.1 := fun z => List.lt_irrefl _ (z ▸ t)
      rw [if_neg ne]
      exact decide_eq_true t
theorem entLt_tri (a b : Ent) : entLt a b = true ∨ a = b ∨ entLt b a = true := by
  unfold entLt
  by_cases e : a.1 = b.1
  · rw [if_pos e, if_pos e.symm]
    rcases Int.lt_trichotomy a.2 b.2 with z | z | z
    · exact .inl (decide_eq_true z)
    · exact .inr (.inl (Prod.ext e z))
    · exact .inr (.inr (decide_eq_true z))
  · rw [if_neg e, if_neg (fun z => e z.symm)]
    by_cases l : a.1 < b.1
    · exact .inl (decide_eq_true l)
    · have l2 : b.1 ≤ a.1 := List.not_lt.mp l
      rcases List.le_iff_lt_or_eq.mp l2 with z | z
      · exact .inr (.inr (decide_eq_true z))
      · exact absurd z.symm e
theorem entLt_asym {a b : Ent} (h : entLt a b = true) : entLt b a = false := by
  cases e : entLt b a with
  | false => rfl
  | true =>
    have := entLt_trans h e
    rw [entLt_irrefl] at this
    cases this
theorem entLe_trans (a b c : Ent) (h1 : entLe a b = true) (h2 : entLe b c = true) : entLe a c = true := by
  unfold entLe at *
  simp only [Bool.not_eq_true'] at *
  rcases entLt_tri c a with z | z | z
  · rcases entLt_tri a b with y | y | y
    · rw [entLt_trans z y] at h2
      cases h2
    · rw [← y] at h2
      rw [h2] at z
      cases z
    · rw [h1] at y
      cases y
  · rw [z]
    exact entLt_irrefl _
  · exact entLt_asym z
theorem entLe_total (a b : Ent) : (entLe a b || entLe b a) = true := by
  unfold entLe
  rcases entLt_tri a b with z | z | z
  · rw [entLt_asym z]
    rfl
  · rw [z, entLt_irrefl]
    rfl
  · rw [entLt_asym z]
    simp
/-! ### a number put in behind all that are not greater -/
theorem leK_le : ∀ (a b : List Int), leK a b = !decide (b < a)
  | [], b => by
    have e1 : leK [] b = true := by
      unfold leK
      simp [Ob.lexAt_zero]
    rw [e1]
    simp
  | a :: as, [] => by
    have e1 : leK (a :: as) [] = false := by
      unfold leK
      simp [Ob.lexAt_zero]
    rw [e1]
    simp
  | a :: as, b :: bs => by
    rw [leK_cons, leK_le as bs]
    by_cases e : a = b
    · subst e
      simp [List.cons_lt_cons_iff]
    · have e2 : ¬ b = a := fun z => e z.symm
      rw [if_neg e]
      by_cases l : a ≤ b
      · have : ¬ b < a := by omega
        simp [List.cons_lt_cons_iff, this, e2, l]
      · have : b < a := by omega
        simp [List.cons_lt_cons_iff, this, l]
end My

set_option Elab.async false
set_option linter.all false
set_option maxRecDepth 100000
set_option maxHeartbeats 2000000
namespace My
open PySem PySem.Spec PyProof.Rows L2
section
variable (K : PySem.W.Frag) {X : Cx}
end
/-! ### put in -/
theorem split_mono {α : Type} (p : α → Bool) : ∀ {l : List α}, l.Pairwise (fun a b => p b = true → p a = true) → (∀ x ∈ l.take (l.filter p).length, p x = true) ∧ ∀ x ∈ l.drop (l.filter p).length, p x = false
  | [], _ => ⟨fun x h => by simp at h, fun x h => by simp at h⟩
  | a :: l, h => by
    obtain ⟨h1, h2⟩ := List.pairwise_cons.mp h
    obtain ⟨i1, i2⟩ := split_mono p h2
    by_cases e : p a = true
    · rw [List.filter_cons, if_pos e, List.length_cons, List.take_succ_cons, List.drop_succ_cons]
      refine ⟨fun x hx => ?_, i2⟩
      rcases List.mem_cons.mp hx with z | z
      · rw [z]
        exact e
      · exact i1 x z
    · have e2 : p a = false := by simpa using e
      have none : l.filter p = [] := by
        rw [List.filter_eq_nil_iff]
        intro b hb z
        exact e (h1 b hb z)
      rw [List.filter_cons, if_neg e, none]
      refine ⟨fun x hx => by simp at hx, fun x hx => ?_⟩
      rcases List.mem_cons.mp (show x ∈ a :: l from hx) with z | z
      · rw [z]
        exact e2
      · cases y : p x with
        | false => rfl
        | true => exact absurd (h1 x z y) e
theorem lt_le {a b : List Int} (h : ¬ b < a) : a < b ∨ a = b := List.le_iff_lt_or_eq.mp (List.not_lt.mp h)
end My

set_option Elab.async false
set_option linter.all false
set_option maxRecDepth 100000
set_option maxHeartbeats 2000000
namespace My
open PySem PySem.Spec PyProof.Rows L2
section
variable (K : PySem.W.Frag) {X : Cx}
theorem slLK (hK : X.K = K := by rfl) : SlR X (rSlL K) := by
  subst hK
  exact sl_list
theorem sortIK (hK : X.K = K := by rfl) : CallR X (.builtin "sorted") (rSortedI K) := by
  subst hK
  exact cr_sortedI
end
theorem cutV_nat (xs : List V) (a b : Nat) (hab : a ≤ b) (hb : b ≤ xs.length) : cutV xs (some (a : Int)) (some (b : Int)) = (xs.drop a).take (b - a) := by
  unfold cutV
  rw [HT.sIx_nat, HT.sIx_nat, Nat.min_eq_left hb, Nat.min_eq_left (Nat.le_trans hab hb)]
/-! ### what a stretch of the sorted rows holds -/
theorem lexLt_lt : ∀ a b : List Int, HT.lexLt a b = decide (a < b)
  | [], [] => by
    rw [HT.lexLt_nil_nil]
    simp
  | [], b :: bs => by
    rw [HT.lexLt_nil_cons]
    simp
  | a :: as, [] => by
    rw [HT.lexLt_cons_nil]
    simp
  | a :: as, b :: bs => by
    rw [HT.lexLt_cons, lexLt_lt as bs]
    by_cases e : a = b
    · subst e
      simp [List.cons_lt_cons_iff]
    · rw [if_neg e]
      simp [List.cons_lt_cons_iff, e]
theorem take_lt : ∀ (k : Nat) (xs ys : List Int), xs.take k < ys.take k → xs < ys
  | 0, xs, ys, h => by
    simp at h
  | k + 1, [], [], h => by
    simp at h
  | k + 1, [], y :: ys, _ => by simp
  | k + 1, x :: xs, [], h => by
    simp at h
  | k + 1, x :: xs, y :: ys, h => by
    rw [List.take_succ_cons, List.take_succ_cons, List.cons_lt_cons_iff] at h
    rw [List.cons_lt_cons_iff]
    rcases h with z | ⟨z, y2⟩
    · exact .inl z
    · exact .inr ⟨z, take_lt k xs ys y2⟩
theorem signF_zero (k lo hi : Nat → Int) : ∀ u : List Nat, (∀ c ∈ u, lo c ≤ k c ∧ k c ≤ hi c) → signF k lo hi u 0 = 0
  | [], _ => rfl
  | c :: u, h => by
    show signF k lo hi u (if (0 : Int) = 0 then sgn (k c) (lo c) (hi c) else 0) = 0
    have h1 := h c (by simp)
    have e : sgn (k c) (lo c) (hi c) = 0 := by
      unfold sgn
      rw [decide_eq_false (show ¬ hi c < k c by omega), decide_eq_false (show ¬ k c < lo c by omega)]
      rfl
    rw [if_pos rfl, e]
    exact signF_zero k lo hi u fun d hd => h d (by simp [hd])
theorem fits_sign {cols : List Nat} {row : List Int} {one : List Nat} {es : List (Nat × Int)} {rc : Option (Nat × Int × Int)} (hok : QOk cols es rc) (h : fitsM cols row es rc = true) : signM cols row es rc (usedM one es rc) = 0 := by
  refine signF_zero _ _ _ _ fun c hc => ?_
  obtain ⟨lo, hi, hm⟩ := used_span hc
  have e := spanOf_mem (spanL_nd hok) hm
  have f := List.all_eq_true.mp h _ hm
  unfold spanFit at f
  simp only [Bool.and_eq_true, decide_eq_true_eq] at f
  show (spanOf es rc c).1 ≤ rowAt cols row c ∧ rowAt cols row c ≤ (spanOf es rc c).2
  rw [e]
  exact f
def idxM (cols : List Nat) (rows : List (List Int)) (one : List Nat) : List Nat := (List.range rows.length).mergeSort fun i j => entLe (entAt cols rows one i) (entAt cols rows one j)
theorem idx_sort (cols : List Nat) (rows : List (List Int)) (one : List Nat) : sortM cols rows one = (idxM cols rows one).map fun i : Nat => (i : Int) := by
  unfold sortM entsM idxM
  rw [← List.map_mergeSort (r := fun i j : Nat => entLe (entAt cols rows one i) (entAt cols rows one j)) (fun a _ b _ => rfl), List.map_map]
  rfl
theorem idx_perm (cols : List Nat) (rows : List (List Int)) (one : List Nat) : (idxM cols rows one).Perm (List.range rows.length) := List.mergeSort_perm _ _
theorem idx_pw (cols : List Nat) (rows : List (List Int)) (one : List Nat) : (idxM cols rows one).Pairwise fun i j => entLe (entAt cols rows one i) (entAt cols rows one j) = true := List.pairwise_mergeSort (le := fun i j : Nat => entLe (entAt cols rows one i) (entAt cols rows one j)) (fun a b c => entLe_trans (entAt cols rows one a) (entAt cols rows one b) (entAt cols rows one c)) (fun a b => entLe_total (entAt cols rows one a) (entAt cols rows one b)) _
theorem key_take {cols : List Nat} {rows : List (List Int)} {one : List Nat} {k a b : Nat} (h : entLe (entAt cols rows one a) (entAt cols rows one b) = true) : ¬ keyM cols (rows.getD b []) (one.take k) < keyM cols (rows.getD a []) (one.take k) := fun z => by
  unfold keyM at z
  rw [List.map_take, List.map_take] at z
  have z2 := take_lt k _ _ z
  unfold entLe entLt at h
  have h2 : (if (entAt cols rows one b).1 = (entAt cols rows one a).1 then decide ((entAt cols rows one b).2 < (entAt cols rows one a).2) else decide ((entAt cols rows one b).1 < (entAt cols rows one a).1)) = false := by simpa using h
  by_cases e : (entAt cols rows one b).1 = (entAt cols rows one a).1
  · have z3 : (entAt cols rows one b).1 < (entAt cols rows one a).1 := z2
    rw [e] at z3
    exact List.lt_irrefl _ z3
  · rw [if_neg e] at h2
    exact of_decide_eq_false h2 z2
def below (cols : List Nat) (rows : List (List Int)) (es : List (Nat × Int)) (rc : Option (Nat × Int × Int)) (u : List Nat) (n : Int) (o : Nat) : Bool := decide (signM cols (rows.getD o []) es rc u < n)
theorem below_mono {cols : List Nat} {rows : List (List Int)} {one : List Nat} {es : List (Nat × Int)} {rc : Option (Nat × Int × Int)} (hok : QOk cols es rc) {n : Int} (hn : n = 0 ∨ n = 1) :
    (idxM cols rows one).Pairwise fun a b => below cols rows es rc (usedM one es rc) n b = true → below cols rows es rc (usedM one es rc) n a = true := by
  refine (idx_pw cols rows one).imp fun {a b} h => ?_
  obtain ⟨k, ek, _⟩ := used_sub (one := one) (es := es) (rc := rc)
  have hk := key_take (k := k) h
  rw [← ek] at hk
  have sa := sign_lex (rowAt cols (rows.getD a [])) (fun c => (spanOf es rc c).1) (fun c => (spanOf es rc c).2) _ (used_thin (one := one) hok)
  have sb := sign_lex (rowAt cols (rows.getD b [])) (fun c => (spanOf es rc c).1) (fun c => (spanOf es rc c).2) _ (used_thin (one := one) hok)
  rcases hn with z | z
  · subst z
    unfold below signM
    rw [← sa.1, ← sb.1, lexLt_lt, lexLt_lt]
    intro y
    refine decide_eq_true ?_
    have y2 := of_decide_eq_true y
    rcases lt_le hk with l | l
    · exact List.lt_trans l y2
    · have l2 : List.map (rowAt cols (rows.getD a [])) (usedM one es rc) = List.map (rowAt cols (rows.getD b [])) (usedM one es rc) := l
      rw [l2]
      exact y2
  · subst z
    unfold below signM
    rw [← sa.2, ← sb.2, leK_le, leK_le]
    intro y
    have y2 : ¬ (usedM one es rc).map (fun c => (spanOf es rc c).2) < (usedM one es rc).map (rowAt cols (rows.getD b [])) := by simpa using y
    have y3 : ¬ (usedM one es rc).map (fun c => (spanOf es rc c).2) < (usedM one es rc).map (rowAt cols (rows.getD a [])) := fun x => by
      rcases lt_le hk with l | l
      · exact y2 (List.lt_trans x l)
      · have l2 : List.map (rowAt cols (rows.getD a [])) (usedM one es rc) = List.map (rowAt cols (rows.getD b [])) (usedM one es rc) := l
        rw [l2] at x
        exact y2 x
    rw [decide_eq_false y3]
    rfl
theorem rows_range (rows : List (List Int)) : (List.range rows.length).map (fun i => rows.getD i []) = rows := by
  apply List.ext_getElem
  · simp
  · intro i h1 h2
    simp [List.getD_eq_getElem?_getD, List.getElem?_eq_getElem h2]
theorem count_idx (cols : List Nat) (rows : List (List Int)) (one : List Nat) (q : List Int → Bool) : ((idxM cols rows one).filter fun o => q (rows.getD o [])).length = (rows.filter q).length := by
  rw [((idx_perm cols rows one).filter _).length_eq]
  conv => rhs; rw [← rows_range rows, List.filter_map, List.length_map]
  rfl
theorem cut_filter {α : Type} (l : List α) (f p q : α → Bool) (a b : Nat) (hab : a ≤ b) (h1 : ∀ x ∈ l.take a, p x = true) (h2 : ∀ x ∈ l.drop b, q x = false) (hf : ∀ x, f x = true → p x = false ∧ q x = true) : ((l.drop a).take (b - a)).filter f = l.filter f := by
  have e1 : (l.take a).filter f = [] := by
    rw [List.filter_eq_nil_iff]
    intro x hx z
    have := (hf x z).1
    rw [h1 x hx] at this
    cases this
  have e2 : (l.drop b).filter f = [] := by
    rw [List.filter_eq_nil_iff]
    intro x hx z
    have := (hf x z).2
    rw [h2 x hx] at this
    cases this
  have e3 : l = l.take a ++ ((l.drop a).take (b - a) ++ l.drop b) := by
    have : l.drop b = (l.drop a).drop (b - a) := by
      rw [List.drop_drop]
      congr 1
      omega
    rw [this, List.take_append_drop, List.take_append_drop]
  conv => rhs; rw [e3, List.filter_append, List.filter_append, e1, e2, List.nil_append, List.append_nil]
theorem ahead_le {cols : List Nat} {rows : List (List Int)} {one : List Nat} {es : List (Nat × Int)} {rc : Option (Nat × Int × Int)} (hok : QOk cols es rc) : aheadM cols rows one es rc ≤ behindM cols rows one es rc := by
  rw [ahead_sign hok, behind_sign hok]
  induction rows with
  | nil => exact Nat.le_refl _
  | cons r rows ih =>
    rw [List.filter_cons, List.filter_cons]
    by_cases e : signM cols r es rc (usedM one es rc) < 0
    · rw [decide_eq_true e, decide_eq_true (show signM cols r es rc (usedM one es rc) < 1 by omega), if_pos rfl, if_pos rfl, List.length_cons, List.length_cons]
      omega
    · rw [decide_eq_false e, if_neg (by decide)]
      split
      · rw [List.length_cons]
        omega
      · exact ih
theorem behind_le (cols : List Nat) (rows : List (List Int)) (one : List Nat) (es : List (Nat × Int)) (rc : Option (Nat × Int × Int)) : behindM cols rows one es rc ≤ rows.length := List.length_filter_le _ _
/-- the rows of the stretch that fit are all that fit -/
theorem read_fits {cols : List Nat} {rows : List (List Int)} {one : List Nat} {es : List (Nat × Int)} {rc : Option (Nat × Int × Int)} (hok : QOk cols es rc) :
    (((idxM cols rows one).drop (aheadM cols rows one es rc)).take (behindM cols rows one es rc - aheadM cols rows one es rc)).filter (fun o => fitsM cols (rows.getD o []) es rc) = (idxM cols rows one).filter fun o => fitsM cols (rows.getD o []) es rc := by
  have m1 := split_mono _ (below_mono (rows := rows) (one := one) hok (.inl rfl))
  have m2 := split_mono _ (below_mono (rows := rows) (one := one) hok (.inr rfl))
  have c1 : ((idxM cols rows one).filter (below cols rows es rc (usedM one es rc) 0)).length = aheadM cols rows one es rc := by
    rw [ahead_sign hok]
    exact count_idx cols rows one fun row => decide (signM cols row es rc (usedM one es rc) < 0)
  have c2 : ((idxM cols rows one).filter (below cols rows es rc (usedM one es rc) 1)).length = behindM cols rows one es rc := by
    rw [behind_sign hok]
    exact count_idx cols rows one fun row => decide (signM cols row es rc (usedM one es rc) < 1)
  rw [c1] at m1
  rw [c2] at m2
  refine cut_filter _ _ (below cols rows es rc (usedM one es rc) 0) (below cols rows es rc (usedM one es rc) 1) _ _ (ahead_le hok) m1.1 m2.2 fun x hx => ?_
  have := fits_sign (one := one) hok hx
  unfold below
  rw [this]
  exact ⟨rfl, rfl⟩
theorem ints_one : ∀ {l k : List Int}, l.Pairwise (· ≤ ·) → k.Pairwise (· ≤ ·) → l.Perm k → l = k
  | [], k, _, _, p => (List.nil_perm.mp p).symm
  | a :: l, [], _, _, p => absurd p.length_eq (by simp)
  | a :: l, b :: k, hl, hk, p => by
    have e : a = b := by
      have ha : a ∈ b :: k := p.mem_iff.mp (by simp)
      have hb : b ∈ a :: l := p.mem_iff.mpr (by simp)
      rcases List.mem_cons.mp ha with z | z
      · exact z
      · rcases List.mem_cons.mp hb with y | y
        · exact y.symm
        · exact Int.le_antisymm ((List.pairwise_cons.mp hl).1 b y) ((List.pairwise_cons.mp hk).1 a z)
    subst e
    rw [ints_one (List.pairwise_cons.mp hl).2 (List.pairwise_cons.mp hk).2 (List.perm_cons a |>.mp p)]
theorem ans_pw (cols : List Nat) (rows : List (List Int)) (es : List (Nat × Int)) (rc : Option (Nat × Int × Int)) : (ansM cols rows es rc).Pairwise (· ≤ ·) := by
  unfold ansM
  rw [List.pairwise_map]
  refine (List.pairwise_lt_range.filter _).imp fun {a b} h => ?_
  have : a < b := h
  omega
theorem read_ans {cols : List Nat} {rows : List (List Int)} {one : List Nat} {es : List (Nat × Int)} {rc : Option (Nat × Int × Int)} (hok : QOk cols es rc) {ns : List Int} (hs : ns.Pairwise (· ≤ ·))
    (hp : ns.Perm (((((idxM cols rows one).drop (aheadM cols rows one es rc)).take (behindM cols rows one es rc - aheadM cols rows one es rc)).filter (fun o => fitsM cols (rows.getD o []) es rc)).map fun i : Nat => (i : Int))) : ns = ansM cols rows es rc := by
  refine ints_one hs (ans_pw cols rows es rc) (hp.trans ?_)
  rw [read_fits hok]
  unfold ansM
  exact ((idx_perm cols rows one).filter _).map _
end My

set_option Elab.async false
set_option linter.all false
set_option maxRecDepth 100000
set_option maxHeartbeats 2000000
namespace My
open PySem PySem.Spec PyProof.Rows L2
/-! ### a walk over a dict's keys, texts of one sign -/
section
variable {X : Cx} {pins : List (Addr × Obj)} {σ : L2.St}
end
theorem SpA.keys {H : Hp} {kvs : List (Key × V)} {l : List (Nat × Int × Int)} (h : SpA H kvs l) : kvs.map (·.1) = (l.map (·.1)).map fun c => (Sum.inr (sS c) : Key) := by
  induction h with
  | nil => rfl
  | cons _ _ ih =>
    rw [List.map_cons, List.map_cons, List.map_cons, ih]
end My

set_option Elab.async false
set_option linter.all false
set_option maxRecDepth 100000
set_option maxHeartbeats 2000000
namespace My
open PySem PySem.Spec PyProof.Rows L2
/-! ### one stretch -/
def stM (cols : List Nat) (rows : List (List Int)) (one : List Nat) (es : List (Nat × Int)) (rc : Option (Nat × Int × Int)) : List Nat := ((idxM cols rows one).drop (aheadM cols rows one es rc)).take (behindM cols rows one es rc - aheadM cols rows one es rc)
theorem fits_in {cols : List Nat} {rows : List (List Int)} {one : List Nat} {es : List (Nat × Int)} {rc : Option (Nat × Int × Int)} (hok : QOk cols es rc) {o : Nat} (ho : o < rows.length) (h : fitsM cols (rows.getD o []) es rc = true) : o ∈ stM cols rows one es rc := by
  have h1 : o ∈ (idxM cols rows one).filter fun o => fitsM cols (rows.getD o []) es rc := List.mem_filter.mpr ⟨(idx_perm cols rows one).mem_iff.mpr (List.mem_range.mpr ho), h⟩
  rw [← read_fits hok] at h1
  exact (List.mem_filter.mp h1).1
/-! the used beginning -/
/-! the letters of the question, the reach's behind, serve it -/
end My

set_option Elab.async false
set_option linter.all false
set_option maxRecDepth 100000
set_option maxHeartbeats 2000000
namespace My
open PySem PySem.Spec PyProof.Rows L2
theorem inV_ints (z : Int) : ∀ ns : List Int, inV (.int z) (ns.map V.int) = decide (z ∈ ns)
  | [] => rfl
  | n :: ns => by
    have ih := inV_ints z ns
    show ((n == z) || inV (.int z) (ns.map V.int)) = decide (z ∈ n :: ns)
    rw [ih]
    by_cases e : n = z
    · subst e
      simp
    · have e2 : (n == z) = false := by simp [e]
      rw [e2, Bool.false_or]
      by_cases f : z ∈ ns
      · rw [decide_eq_true f, decide_eq_true (List.mem_cons_of_mem _ f)]
      · rw [decide_eq_false f, decide_eq_false (fun q => by
          rcases List.mem_cons.mp q with y | y
          · exact e y.symm
          · exact f y)]
theorem flat_ints (ns : List Int) : (ns.map V.int).all flatV = true := by
  rw [List.all_map]
  exact List.all_eq_true.mpr fun _ _ => rfl
theorem nodup_sub_len : ∀ {l m : List Nat}, l.Nodup → (∀ c ∈ l, c ∈ m) → l.length ≤ m.length
  | [], _, _, _ => Nat.zero_le _
  | a :: l, m, h, hs => by
    have h2 := List.nodup_cons.mp h
    have ha := hs a (by simp)
    have ih := nodup_sub_len (m := m.erase a) h2.2 (fun c hc => (List.mem_erase_of_ne (fun e => h2.1 (by rw [← e]; exact hc))).mpr (hs c (by simp [hc])))
    rw [List.length_erase_of_mem ha] at ih
    have hp : 0 < m.length := List.length_pos_of_mem ha
    rw [List.length_cons]
    omega
end My

set_option Elab.async false
set_option linter.all false
set_option maxRecDepth 100000
set_option maxHeartbeats 2000000
namespace My
open PySem PySem.Spec PyProof.Rows L2
/-! ### sorted of a tuple of data -/
def rSortD (K : PySem.W.Frag) {β : Type} (enc : β → PyData) : List V → Hp → VK → Prop := fun xs H Q => ∃ (p : Addr) (bs : List (V × β)), xs = [.ref p] ∧ SqT K H p (bs.map (·.1)) ∧ (∀ b ∈ bs, Dp K H b.1 (enc b.2)) ∧ W.AllAlike (bs.map fun b => enc b.2) ∧ W.Sortable (bs.map fun b => enc b.2) ∧ (∀ b ∈ bs, (enc b.2).depth ≤ 20) ∧
  ∀ l, H l = none → Q (.ref l) (upd H l (.lst ((bs.mergeSort (W.dataLe false fun b => enc b.2)).map (·.1))))
theorem each_ofB {β : Type} {R : Value → V × β → Prop} : ∀ {bs : List (V × β)} {its : List Value}, Vals (bs.map (·.1)) its → (∀ b ∈ bs, ∀ v, RelV b.1 v → R v b) → W.EachIs R its bs
  | [], _, r, _ => by
    cases r
    exact .nil
  | b :: bs, _, r, h => by
    rw [List.map_cons] at r
    cases r with
    | cons h1 h2 => exact .cons (h b (by simp) _ h1) (each_ofB h2 fun c hc => h c (by simp [hc]))
theorem vals_eachB {β : Type} : ∀ {bs : List (V × β)} {its : List Value}, W.EachIs (fun v b => RelV b.1 v) its bs → Vals (bs.map (·.1)) its
  | _, _, .nil => .nil
  | _, _, .cons h t => .cons h (vals_eachB t)
section
variable (K : PySem.W.Frag) {X : Cx}
theorem cSortD {β : Type} {enc : β → PyData} {k : Nat} (hr : Room k X.A) (hK : X.K = K := by rfl) : CallR X (.builtin "sorted") (rSortD K enc) := by
  subst hK
  intro pins s σ H xs us Q I r h
  obtain ⟨p, bs, rfl, hq, hf, hal, hso, hdp, q⟩ := h
  obtain ⟨u, rfl, rx⟩ := vals1 r
  cases rx
  obtain ⟨its, rv, pl, hz⟩ := I.tuple hq
  have hun := hr.un
  have e : W.EachIs (fun v (b : V × β) => RelV b.1 v) its bs := each_ofB rv fun b _ v h => h
  have er : W.EachIs (fun v (b : V × β) => ∃ as, Reads s.heap v (enc b.2) as) its bs := each_ofB rv fun b hb v h => Dp.reads I _ _ _ (hf b hb) h
  rw [List.length_map] at hz
  have hlen : its.length ≤ sizeLine := by
    have := e.length
    rw [this]
    exact hz
  obtain ⟨o, ho, hcl, hdt⟩ := pl
  refine Calls.call_function_entry PyProof.Rows.kind_sorted PyProof.Rows.plain_sorted PyProof.Rows.entry_sorted (PyProof.Rows.args_sorted1 _) ?_
  unfold Builtin.«sorted»
  refine wpAny_bind (m := checkCount "sorted" 1 1 _) (wpAny_pure ?_)
  obtain ⟨nn, hdt⟩ := hdt
  refine wpAny_bind (wpAny_collect_seq p (.inr rfl) ho hcl hdt (fun h' hk => ?_) (by rw [List.size_toArray]; exact hlen))
  have I1 : Inv X pins σ H { s with heap := h' } := I.kept (t' := s.toks) hk
  rw [show its.toArray.toList = its by simp]
  refine wpAny_bind (wpAny_newList ?_ hlen)
  have hnew : (h'.push (seqObj "list" its.toArray 0)).get? h'.objs.size = some (seqObj "list" its.toArray 0) := Heap.get?_push_size _ rfl
  have old : ∀ (b : Addr) (u : Obj), s.heap.get? b = some u → (W.sortingHeap (h'.push (seqObj "list" its.toArray 0)) h'.objs.size its).get? b = some u := fun b u hb =>
    W.sortingHeap_old (Nat.ne_of_lt (Heap.lt_size (hk b u hb))) (Heap.get?_push_of_some _ (hk b u hb))
  have er2 : W.EachIs (fun v (b : V × β) => ∃ as, Reads (W.sortingHeap (h'.push (seqObj "list" its.toArray 0)) h'.objs.size its) v (enc b.2) as) its bs := er.mono fun _ _ ⟨as, r⟩ => ⟨as, PyProof.Rows.Reads.keeps old r⟩
  have eo := W.sortVals_data (enc := fun b : V × β => enc b.2) false e er2 hal
  refine wpAny_bind (wpAny_holding (wpAny_call_entry PyProof.Rows.slot_list_sort ⟨_, hnew, rfl⟩ PyProof.Rows.entry_list_sort
    (W.list_sort_vals (s := { s with heap := h'.push (seqObj "list" its.toArray 0) }) hnew (W.SortsAt.data (s := { s with heap := W.sortingHeap (h'.push (seqObj "list" its.toArray 0)) h'.objs.size its }) (W.each_map (R := fun v d => ∃ as, Reads (W.sortingHeap (h'.push (seqObj "list" its.toArray 0)) h'.objs.size its) v d as) (fun b : V × β => enc b.2) er2) hal hso (fun d hd => ?_)) hlen ⟨_, rfl, ?_⟩)
    (PyProof.Rows.args_list_sort _)))
  · obtain ⟨b, hb, rfl⟩ := List.mem_map.mp hd
    have h1 := hdp b hb
    have h2 : X.A.in1.in1.units ≤ X.A.units + 2 := by
      show X.A.units + 1 + 1 ≤ X.A.units + 2
      omega
    show X.A.in1.in1.units + (enc b.2).depth < cLine
    omega
  · generalize W.sortVals (W.dataKind (W.sortingHeap (h'.push (seqObj "list" its.toArray 0)) h'.objs.size its) (bs.map fun b => enc b.2)) false its its = out at eo
    obtain ⟨ep, hep⟩ := PyProof.Rows.sortedHeap_at (vs := its) (out := out.toArray) hnew
    have hfit : ((bs.mergeSort (W.dataLe false fun b => enc b.2)).map (·.1)).length ≤ sizeLine := by
      rw [List.length_map, List.length_mergeSort]
      exact hz
    refine wpAny_pure ⟨_, rfl, .ref h'.objs.size, upd H h'.objs.size (.lst ((bs.mergeSort (W.dataLe false fun b => enc b.2)).map (·.1))), I1.laid (t' := s.toks) (fun b u eb => ?_) (Nat.le_refl _)
      (show ObjOk X.prog X.w _ _ _ (.lst ((bs.mergeSort (W.dataLe false fun b => enc b.2)).map (·.1))) from ⟨hfit, out, ep, vals_eachB eo, hep⟩), rfl, q _ (I1.hok.fresh (Nat.le_refl _))⟩
    have hb : b < h'.objs.size := Heap.lt_size eb
    rw [PyProof.Rows.sortedHeap_old (Nat.ne_of_lt hb) (by rw [size_push']; exact Nat.lt_succ_of_lt hb)]
    exact Heap.get?_push_of_some _ eb
end
/-! pairs of a letter and a number -/
def prLt (b c : Nat × Int) : Bool := if b.1 = c.1 then decide (b.2 < c.2) else decide (b.1 < c.1)
theorem dataLt_pr (b c : Nat × Int) : W.dataLt (eqD b) (eqD c) = prLt b c := by
  unfold eqD
  rw [W.dataLt_pair (by simp [W.alike]) (by simp [W.alike]), W.dataLt_int, W.dataLt_str]
  have e1 : PyData.eqv (.str (sS b.1)) (.str (sS c.1)) = decide (b.1 = c.1) := by
    show (sS b.1 == sS c.1) = _
    by_cases e : b.1 = c.1
    · rw [e]
      simp
    · rw [decide_eq_false e, Bool.eq_false_iff]
      intro z
      exact e (sS_inj (by simpa using z))
  rw [e1]
  unfold prLt
  by_cases e : b.1 = c.1
  · rw [decide_eq_true e, if_pos rfl, if_pos e]
    show (if (b.2 == c.2) = true then false else decide (b.2 < c.2)) = _
    by_cases f : b.2 = c.2
    · rw [f]
      simp
    · simp [f]
  · rw [decide_eq_false e, if_neg (by decide), if_neg e]
    congr 1
    simp [List.cons_lt_cons_iff]
end My

set_option Elab.async false
set_option linter.all false
set_option maxRecDepth 100000
set_option maxHeartbeats 2000000
namespace My
open PySem PySem.Spec PyProof.Rows L2
/-! ### a <= b <= c <= d as a test -/
section
variable {X : Cx} {a b c d : Expr} {ta tb tc td : TE} {pos : Pos}
def tChain3 (r r' r2 : R2) (ta tb tc td : TE) : TE := fun σ H Q => ta σ H fun x H1 => tb σ H1 fun y H2 => r x y H2 fun z H3 => ∃ k, z = .bl k ∧ (if k = true then tc σ H3 fun v H4 => r' y v H4 fun z2 H5 => ∃ k2, z2 = .bl k2 ∧ (if k2 = true then td σ H5 fun u H6 => r2 v u H6 Q else Q (.bl false) H5) else Q (.bl false) H3)
theorem pt_chain3 {op op' op2 : CmpOp} {r r' r2 : R2} (ho : OpR X (compareOp op) r) (ho' : OpR X (compareOp op') r') (ho2 : OpR X (compareOp op2) r2) (ha : PE X a ta) (hb : PE X b tb) (hc : PE X c tc) (hd : PE X d td)
    (hm : lastMarks [op, op', op2] [b, c, d] = false := by with_unfolding_all rfl) : PT X (.Compare a [op, op', op2] [b, c, d] pos) (tTest (tChain3 r r' r2 ta tb tc td)) := by
  refine ⟨fun pins s σ H Q I h => ?_⟩
  refine isTrue_chain (thn (ha.run pins s σ H _ I h) fun v s1 ⟨x, H1, I1, r1, q1⟩ => test_link (thn (hb.run pins s1 σ H1 _ I1 q1) fun u s2 ⟨y, H2, I2, ry, q2⟩ =>
    thn (ho pins s2 σ H2 x y v u _ I2 r1 ry q2) fun g s3 ⟨z, H3, I3, r3, k, e, q3⟩ => ?_)) hm
  subst e
  cases r3
  refine wpAny_truthy_bool ?_
  cases k with
  | false =>
    obtain ⟨k', e', q'⟩ := q3
    cases e'
    exact ite_ff ⟨H3, I3, q'⟩
  | true =>
    refine ite_tt (test_link (thn (hc.run pins s3 σ H3 _ I3 q3) fun w1 s4 ⟨z1, H4, I4, r4, q4⟩ => thn (ho' pins s4 σ H4 y z1 u w1 _ I4 ry r4 q4) fun g' s5 ⟨z2, H5, I5, r5, k2, e2, q5⟩ => ?_))
    subst e2
    cases r5
    refine wpAny_truthy_bool ?_
    cases k2 with
    | false =>
      obtain ⟨k', e', q'⟩ := q5
      cases e'
      exact ite_ff ⟨H5, I5, q'⟩
    | true =>
      refine ite_tt (test_last (thn (hd.run pins s5 σ H5 _ I5 q5) fun w2 s6 ⟨z3, H6, I6, r6, q6⟩ => thn (ho2 pins s6 σ H6 z1 z3 w1 w2 _ I6 r4 r6 q6) fun g2 s7 ⟨z4, H7, I7, r7, k4, e4, q7⟩ => ?_))
      subst e4
      cases r7
      exact wpAny_truthy_bool ⟨H7, I7, q7⟩
end
/-! ### more letters used, fewer rows -/
theorem signF_app (k lo hi : Nat → Int) : ∀ (u v : List Nat) (z : Int), signF k lo hi (u ++ v) z = signF k lo hi v (signF k lo hi u z)
  | [], v, z => rfl
  | c :: u, v, z => signF_app k lo hi u v _
theorem signF_congr {k lo hi lo' hi' : Nat → Int} : ∀ {u : List Nat} (z : Int), (∀ c ∈ u, lo c = lo' c ∧ hi c = hi' c) → signF k lo hi u z = signF k lo' hi' u z
  | [], z, _ => rfl
  | c :: u, z, h => by
    show signF k lo hi u (if z = 0 then sgn (k c) (lo c) (hi c) else z) = signF k lo' hi' u (if z = 0 then sgn (k c) (lo' c) (hi' c) else z)
    rw [(h c (by simp)).1, (h c (by simp)).2]
    exact signF_congr _ fun d hd => h d (by simp [hd])
theorem cnt_le {α : Type} {p q : α → Bool} : ∀ l : List α, (∀ x ∈ l, p x = true → q x = true) → (l.filter p).length ≤ (l.filter q).length
  | [], _ => Nat.le_refl _
  | a :: l, h => by
    have ih := cnt_le l fun x hx => h x (by simp [hx])
    rw [List.filter_cons, List.filter_cons]
    by_cases e : p a = true
    · rw [if_pos e, if_pos (h a (by simp) e), List.length_cons, List.length_cons]
      omega
    · rw [if_neg e]
      by_cases f : q a = true
      · rw [if_pos f, List.length_cons]
        omega
      · rw [if_neg f]
        exact ih
theorem narrower {cols : List Nat} {rows : List (List Int)} {one one' more : List Nat} {es es' : List (Nat × Int)} {rc rc' : Option (Nat × Int × Int)} (h : QOk cols es rc) (h' : QOk cols es' rc') (hu : usedM one' es' rc' = usedM one es rc ++ more) (hs : ∀ c ∈ usedM one es rc, spanOf es rc c = spanOf es' rc' c) :
    aheadM cols rows one es rc ≤ aheadM cols rows one' es' rc' ∧ behindM cols rows one' es' rc' ≤ behindM cols rows one es rc := by
  rw [ahead_sign h, ahead_sign h', behind_sign h, behind_sign h']
  have key : ∀ row, signM cols row es' rc' (usedM one' es' rc') = signF (rowAt cols row) (fun c => (spanOf es' rc' c).1) (fun c => (spanOf es' rc' c).2) more (signM cols row es rc (usedM one es rc)) := fun row => by
    unfold signM
    rw [hu, signF_app]
    congr 1
    exact signF_congr 0 fun c hc => by rw [hs c hc]; exact ⟨rfl, rfl⟩
  constructor
  · refine cnt_le rows fun row _ hp => ?_
    have h1 : signM cols row es rc (usedM one es rc) < 0 := of_decide_eq_true hp
    refine decide_eq_true ?_
    rw [key, signF_stay _ _ _ _ _ (by omega)]
    exact h1
  · refine cnt_le rows fun row _ hp => ?_
    have h1 : signM cols row es' rc' (usedM one' es' rc') < 1 := of_decide_eq_true hp
    refine decide_eq_true ?_
    by_cases z : signM cols row es rc (usedM one es rc) = 0
    · rw [z]
      decide
    · rw [key, signF_stay _ _ _ _ _ z] at h1
      exact h1
theorem used_un (l : List Nat) (es : List (Nat × Int)) (d : Nat) (lo hi : Int) : usedM l es (some (d, lo, hi)) = (if (l.drop (eqPart l es).length).take 1 = [d] then l.take ((eqPart l es).length + 1) else eqPart l es) := rfl
/-- one letter more -/
theorem used_more (one : List Nat) (c : Nat) (es : List (Nat × Int)) (rc : Option (Nat × Int × Int)) : ∃ more, usedM (one ++ [c]) es rc = usedM one es rc ++ more := by
  have hA : eqPart (one ++ [c]) es = (if (eqPart one es).length = one.length then one ++ [c].takeWhile (fun c => decide (c ∈ es.map fun p : Nat × Int => p.1)) else eqPart one es) := List.takeWhile_append
  by_cases e : (eqPart one es).length = one.length
  · rw [if_pos e] at hA
    have e1 : eqPart one es = one := by
      rw [eqPart_take, e, List.take_length]
    have e2 : usedM one es rc = one := by
      cases rc with
      | none => exact e1
      | some t =>
        obtain ⟨d, lo, hi⟩ := t
        rw [used_un, e, List.drop_length, if_neg (by simp), e1]
    obtain ⟨k, ek, _⟩ := used_sub (one := one ++ [c]) (es := es) (rc := rc)
    rw [e2]
    have hp : ∃ m, eqPart (one ++ [c]) es = one ++ m := ⟨_, hA⟩
    obtain ⟨m, hm⟩ := hp
    cases rc with
    | none => exact ⟨m, hm⟩
    | some t =>
      obtain ⟨d, lo, hi⟩ := t
      rw [used_un]
      split
      · rw [hm, List.length_append, Nat.add_assoc, List.take_append, List.take_of_length_le (by omega)]
        exact ⟨_, rfl⟩
      · exact ⟨m, hm⟩
  · rw [if_neg e] at hA
    have hlt : (eqPart one es).length < one.length := by
      have : (eqPart one es).length ≤ one.length := by
        have h1 : (eqPart one es).length = (one.take (eqPart one es).length).length := by rw [← eqPart_take]
        rw [List.length_take] at h1
        omega
      omega
    refine ⟨[], ?_⟩
    rw [List.append_nil]
    cases rc with
    | none => exact hA
    | some t =>
      obtain ⟨d, lo, hi⟩ := t
      rw [used_un, used_un, hA, List.drop_append_of_le_length (by omega), List.take_append_of_le_length (by rw [List.length_drop]; omega), List.take_append_of_le_length (by omega)]
theorem tw_le {p p' : Nat → Bool} (h : ∀ x, p x = true → p' x = true) : ∀ l : List Nat, (l.takeWhile p).length ≤ (l.takeWhile p').length
  | [] => Nat.le_refl _
  | a :: l => by
    rw [List.takeWhile_cons, List.takeWhile_cons]
    by_cases e : p a = true
    · rw [if_pos e, if_pos (h a e), List.length_cons, List.length_cons]
      have := tw_le h l
      omega
    · rw [if_neg e]
      exact Nat.zero_le _
theorem tw_stop_len {p : Nat → Bool} : ∀ {l : List Nat} {m : Nat} {d : Nat}, (l.drop m).take 1 = [d] → p d = false → (l.takeWhile p).length ≤ m
  | [], m, d, h, _ => Nat.zero_le _
  | a :: l, 0, d, h, hd => by
    have e : a = d := by simpa using h
    rw [List.takeWhile_cons, e, hd]
    exact Nat.le_refl _
  | a :: l, m + 1, d, h, hd => by
    rw [List.takeWhile_cons]
    split
    · rw [List.length_cons]
      have := tw_stop_len (l := l) (m := m) (by simpa using h) hd
      omega
    · exact Nat.zero_le _
/-- a pair more -/
theorem used_pair {one : List Nat} {es es' : List (Nat × Int)} {rc : Option (Nat × Int × Int)} (hsub : ∀ c, c ∈ es.map (·.1) → c ∈ es'.map (·.1)) (hrc : ∀ d lo hi, rc = some (d, lo, hi) → d ∉ es'.map (·.1)) : ∃ more, usedM one es' rc = usedM one es rc ++ more := by
  have hle : (eqPart one es).length ≤ (eqPart one es').length := tw_le (fun c hc => decide_eq_true (hsub c (of_decide_eq_true hc))) one
  have hpre : ∀ {k k' : Nat}, k ≤ k' → ∃ more, one.take k' = one.take k ++ more := fun {k k'} h => ⟨(one.drop k).take (k' - k), by rw [← List.take_add]; congr 1; omega⟩
  cases rc with
  | none =>
    show ∃ more, eqPart one es' = eqPart one es ++ more
    rw [eqPart_take one es, eqPart_take one es']
    exact hpre hle
  | some t =>
    obtain ⟨d, lo, hi⟩ := t
    rw [used_un, used_un]
    by_cases e : (one.drop (eqPart one es).length).take 1 = [d]
    · have h2 : (eqPart one es').length ≤ (eqPart one es).length := tw_stop_len e (decide_eq_false (hrc d lo hi rfl))
      have h3 : (eqPart one es').length = (eqPart one es).length := by omega
      rw [h3, if_pos e, if_pos e]
      exact ⟨[], by rw [List.append_nil]⟩
    · rw [if_neg e]
      split
      · rw [eqPart_take one es]
        exact hpre (Nat.le_succ_of_le hle)
      · rw [eqPart_take one es, eqPart_take one es']
        exact hpre hle
end My

set_option Elab.async false
set_option linter.all false
set_option maxRecDepth 100000
set_option maxHeartbeats 2000000
namespace My
open PySem PySem.Spec PyProof.Rows L2
/-! ### tuple + tuple, the second one not empty -/
def rCatU (K : PySem.W.Frag) : R2 := fun x y H Q => ∃ (a b : Addr) (xs ys : List V), x = .ref a ∧ y = .ref b ∧ SqT K H a xs ∧ H b = some (.tup ys) ∧ ys ≠ [] ∧ xs.length + ys.length ≤ sizeLine ∧ ∀ (p : Addr) (H' : Hp), Same H H' → H' p = some (.tup (xs ++ ys)) → Q (.ref p) H'
theorem catUK (K : PySem.W.Frag) {X : Cx} (hK : X.K = K := by rfl) : OpR X (binaryOp .Add) (rCatU K) := by
  subst hK
  intro pins s σ H x y v u Q I rx ry h
  obtain ⟨a, b, xs, ys, rfl, rfl, ha, hb, hy, hz, q⟩ := h
  exact op_catA pins s σ H _ _ v u Q I rx ry ⟨a, b, xs, ys, rfl, rfl, ha, .inl (.inl hb), hz, fun e => q b H (Same.refl H) (by rw [e, List.nil_append]; exact hb), fun _ e => absurd e hy, fun _ _ p np => q p _ (Same.new (Same.refl H) np) upd_same⟩
/-! ### letters of a question -/
def letsM (es : List (Nat × Int)) (rc : Option (Nat × Int × Int)) : List Nat := es.map (·.1) ++ rc.toList.map (·.1)
theorem lets_span (es : List (Nat × Int)) (rc : Option (Nat × Int × Int)) : (spanL es rc).map (·.1) = letsM es rc := by
  unfold spanL letsM
  rw [List.map_append, List.map_map]
  rfl
theorem used_lets {o : List Nat} {es : List (Nat × Int)} {rc : Option (Nat × Int × Int)} {c : Nat} (hc : c ∈ usedM o es rc) : c ∈ letsM es rc := by
  obtain ⟨lo, hi, hm⟩ := used_span hc
  rw [← lets_span]
  exact List.mem_map_of_mem (f := fun t : Nat × Int × Int => t.1) hm
/-! ### pairs sorted by their letters -/
theorem fzA_zip {H : Hp} : ∀ {vs : List V} {es : List (Nat × Int)}, FzA H vs (es.map eqD) → ∀ b ∈ vs.zip es, Fz H b.1 (eqD b.2)
  | [], [], _, b, hb => nomatch hb
  | v :: vs, [], h, b, hb => by simp at hb
  | [], e :: es, h, b, hb => by simp at hb
  | v :: vs, e :: es, h, b, hb => by
    rw [List.map_cons] at h
    cases h with
    | cons h1 h2 =>
      rw [List.zip_cons_cons] at hb
      rcases List.mem_cons.mp hb with z | z
      · rw [z]
        exact h1
      · exact fzA_zip h2 b z
theorem fzA_unzip {H : Hp} : ∀ {bs : List (V × (Nat × Int))}, (∀ b ∈ bs, Fz H b.1 (eqD b.2)) → FzA H (bs.map (·.1)) ((bs.map (·.2)).map eqD)
  | [], _ => .nil
  | b :: bs, h => .cons (h b (by simp)) (fzA_unzip fun c hc => h c (by simp [hc]))
def prLe (b c : V × (Nat × Int)) : Bool := !prLt c.2 b.2
theorem prLt_iff (b c : Nat × Int) : prLt b c = true ↔ (b.1 < c.1 ∨ (b.1 = c.1 ∧ b.2 < c.2)) := by
  unfold prLt
  split
  · rename_i e
    rw [decide_eq_true_eq]
    omega
  · rename_i e
    rw [decide_eq_true_eq]
    omega
theorem le_pr : W.dataLe false (fun b : V × (Nat × Int) => eqD b.2) = prLe := by
  funext b c
  show (!W.dataLt (eqD c.2) (eqD b.2)) = _
  rw [dataLt_pr]
  rfl
theorem prLe_iff (b c : V × (Nat × Int)) : prLe b c = true ↔ ¬ (c.2.1 < b.2.1 ∨ (c.2.1 = b.2.1 ∧ c.2.2 < b.2.2)) := by
  unfold prLe
  rw [← prLt_iff, Bool.not_eq_true', Bool.not_eq_true]
theorem pr_sorted (bs : List (V × (Nat × Int))) (hnd : ((bs.map (·.2)).map (·.1)).Nodup) : (((bs.mergeSort prLe).map (·.2)).map (·.1)).Pairwise (· < ·) := by
  have h1 : (bs.mergeSort prLe).Pairwise fun a b => prLe a b = true := List.pairwise_mergeSort (fun a b c h h2 => by
    rw [prLe_iff] at *
    omega) (fun a b => by
    cases e : prLe a b with
    | true => rfl
    | false =>
      have e2 : ¬ prLe a b = true := by rw [e]; decide
      rw [prLe_iff] at e2
      rw [Bool.false_or, prLe_iff]
      omega) bs
  have hp : (bs.mergeSort prLe).Perm bs := List.mergeSort_perm _ _
  have hn2 : (((bs.mergeSort prLe).map (·.2)).map (·.1)).Nodup := ((hp.map (fun b : V × (Nat × Int) => b.2)).map (fun p : Nat × Int => p.1)).nodup_iff.mpr hnd
  rw [List.pairwise_map, List.pairwise_map]
  have h2 : (bs.mergeSort prLe).Pairwise fun a b => a.2.1 ≠ b.2.1 := by
    have := hn2
    unfold List.Nodup at this
    rw [List.pairwise_map, List.pairwise_map] at this
    exact this
  refine (h1.and h2).imp fun {a b} q => ?_
  have q1 := (prLe_iff a b).mp q.1
  have q2 := q.2
  omega
/-- the question with a pair more -/
theorem pair_ok {cols : List Nat} {es es' : List (Nat × Int)} {rc : Option (Nat × Int × Int)} {c : Nat} {x : Int} (h : QOk cols es rc) (hcn : cols.Nodup) (hc : c ∈ cols) (hn : c ∉ letsM es rc) (h0 : 0 ≤ x) (h1 : x < 1000) (hp : es'.Perm (es ++ [(c, x)])) (hup : (es'.map (·.1)).Pairwise (· < ·)) : QOk cols es' rc := by
  have hok : ∀ p ∈ es', p.1 ∈ cols ∧ 0 ≤ p.2 ∧ p.2 < 1000 := fun p hpe => by
    rcases List.mem_append.mp (hp.mem_iff.mp hpe) with z | z
    · exact h.ok p z
    · rw [List.mem_singleton.mp z]
      exact ⟨hc, h0, h1⟩
  refine ⟨hup, hok, ?_, fun d lo hi e => ?_⟩
  · have hnd : (es'.map (·.1)).Nodup := hup.imp fun h => Nat.ne_of_lt h
    have := nodup_sub_len hnd (m := cols) fun d hd => by
      obtain ⟨p, hpe, rfl⟩ := List.mem_map.mp hd
      exact (hok p hpe).1
    rw [List.length_map] at this
    exact this
  · have r := h.rc d lo hi e
    refine ⟨r.1, fun z => ?_, r.2.2⟩
    obtain ⟨p, hpe, rfl⟩ := List.mem_map.mp z
    rcases List.mem_append.mp (hp.mem_iff.mp hpe) with y | y
    · exact r.2.1 (List.mem_map_of_mem y)
    · have : p = (c, x) := List.mem_singleton.mp y
      refine hn ?_
      unfold letsM
      rw [e, this]
      simp
theorem pair_span {cols : List Nat} {es es' : List (Nat × Int)} {rc : Option (Nat × Int × Int)} {c : Nat} {x : Int} (h : QOk cols es rc) (h' : QOk cols es' rc) (hp : es'.Perm (es ++ [(c, x)])) {d : Nat} (hd : d ∈ letsM es rc) : spanOf es rc d = spanOf es' rc d := by
  rw [← lets_span] at hd
  obtain ⟨t, ht, rfl⟩ := List.mem_map.mp hd
  obtain ⟨d, lo, hi⟩ := t
  have ht' : (d, lo, hi) ∈ spanL es' rc := by
    rcases List.mem_append.mp ht with z | z
    · obtain ⟨p, hpe, e⟩ := List.mem_map.mp z
      refine List.mem_append_left _ ?_
      rw [← e]
      exact List.mem_map_of_mem (f := fun p : Nat × Int => (p.1, p.2, p.2)) (hp.mem_iff.mpr (List.mem_append_left _ hpe))
    · exact List.mem_append_right _ z
  show spanOf es rc d = spanOf es' rc d
  rw [spanOf_mem (spanL_nd h) ht, spanOf_mem (spanL_nd h') ht']
end My

set_option Elab.async false
set_option linter.all false
set_option maxRecDepth 100000
set_option maxHeartbeats 1000000
namespace My
open PySem PySem.Spec PyProof.Rows L2
def topS (i : Nat) : Stmt := PySem.Challenge.pw_stretchkeep_k12_whole_more_letters_read.main.body.getD i (.Pass ⟨0, 0, 0, 0⟩)
abbrev s_picked : Stmt := topS 1
theorem sc_picked : FnScope ["columns", "row", "letters"] ["columns", "row", "letters"] (defScope s_picked) := ⟨rfl, rfl, rfl, by decide +kernel, rfl, by decide +kernel, by decide +kernel⟩
abbrev s_sorted_by : Stmt := topS 2
theorem sc_sorted_by : FnScope ["table", "one", "columns", "rows", "entries", "number", "row", "key"] ["table", "one"] (defScope s_sorted_by) := ⟨rfl, rfl, rfl, by decide +kernel, rfl, by decide +kernel, by decide +kernel⟩
abbrev s_letters_of : Stmt := topS 4
theorem sc_letters_of : FnScope ["equals", "letter", "number"] ["equals"] (defScope s_letters_of) := ⟨rfl, rfl, rfl, by decide +kernel, rfl, by decide +kernel, by decide +kernel⟩
abbrev s_spans : Stmt := topS 5
theorem sc_spans : FnScope ["question", "equals", "reach", "letter", "wanted", "low", "high", "number"] ["question"] (defScope s_spans) := ⟨rfl, rfl, rfl, by decide +kernel, rfl, by decide +kernel, by decide +kernel⟩
abbrev s_fits : Stmt := topS 6
theorem sc_fits : FnScope ["columns", "row", "question", "wanted", "letter", "low", "high"] ["columns", "row", "question"] (defScope s_fits) := ⟨rfl, rfl, rfl, by decide +kernel, rfl, by decide +kernel, by decide +kernel⟩
abbrev s_answer : Stmt := topS 7
theorem sc_answer : FnScope ["table", "question", "columns", "rows", "number", "row"] ["table", "question"] (defScope s_answer) := ⟨rfl, rfl, rfl, by decide +kernel, rfl, by decide +kernel, by decide +kernel⟩
abbrev s_used : Stmt := topS 9
theorem sc_used : FnScope ["one", "question", "equals", "reach", "letters", "many"] ["one", "question"] (defScope s_used) := ⟨rfl, rfl, rfl, by decide +kernel, rfl, by decide +kernel, by decide +kernel⟩
abbrev s_stretch : Stmt := topS 10
theorem sc_stretch : FnScope ["table", "one", "question", "columns", "rows", "letters", "first", "last", "keys", "ahead", "behind", "wanted", "row", "key"] ["table", "one", "question"] (defScope s_stretch) := ⟨rfl, rfl, rfl, by decide +kernel, rfl, by decide +kernel, by decide +kernel⟩
abbrev s_read : Stmt := topS 11
theorem sc_read : FnScope ["table", "one", "question", "columns", "rows", "start", "end", "there", "found", "number"] ["table", "one", "question"] (defScope s_read) := ⟨rfl, rfl, rfl, by decide +kernel, rfl, by decide +kernel, by decide +kernel⟩
abbrev s_l_reel : Stmt := topS 13
theorem sc_l_reel : FnScope ["script", "k", "number", "stir", "found", "turn"] ["script", "k"] (defScope s_l_reel) := ⟨rfl, rfl, rfl, by decide +kernel, rfl, by decide +kernel, by decide +kernel⟩
abbrev s_l_pick : Stmt := topS 14
theorem sc_l_pick : FnScope ["reel", "many", "digit"] ["reel", "many"] (defScope s_l_pick) := ⟨rfl, rfl, rfl, by decide +kernel, rfl, by decide +kernel, by decide +kernel⟩
abbrev s_l_columns : Stmt := topS 15
theorem sc_l_columns : FnScope ["reel", "many", "left", "found", "k"] ["reel", "many"] (defScope s_l_columns) := ⟨rfl, rfl, rfl, by decide +kernel, rfl, by decide +kernel, by decide +kernel⟩
abbrev s_l_table : Stmt := topS 16
theorem sc_l_table : FnScope ["reel", "most", "rows", "columns", "tops", "many", "letter", "k", "top"] ["reel", "most", "rows"] (defScope s_l_table) := ⟨rfl, rfl, rfl, by decide +kernel, rfl, by decide +kernel, by decide +kernel⟩
abbrev s_l_near : Stmt := topS 17
theorem sc_l_near : FnScope ["reel", "rows", "at", "row", "way", "number"] ["reel", "rows", "at", "row"] (defScope s_l_near) := ⟨rfl, rfl, rfl, by decide +kernel, rfl, by decide +kernel, by decide +kernel⟩
abbrev s_l_question : Stmt := topS 18
theorem sc_l_question : FnScope ["reel", "table", "columns", "rows", "letter", "row", "equals", "k", "left", "at", "low", "high"] ["reel", "table"] (defScope s_l_question) := ⟨rfl, rfl, rfl, by decide +kernel, rfl, by decide +kernel, by decide +kernel⟩
abbrev s_l_one : Stmt := topS 19
theorem sc_l_one : FnScope ["reel", "columns", "left", "found", "k"] ["reel", "columns"] (defScope s_l_one) := ⟨rfl, rfl, rfl, by decide +kernel, rfl, by decide +kernel, by decide +kernel⟩
abbrev s_law : Stmt := topS 20
theorem sc_law : FnScope ["script", "k", "reel", "table", "columns", "rows", "turn", "question", "equals", "reach", "one", "found", "many", "letter", "left", "longer", "asked", "row", "pair", "narrow", "start", "end", "first", "last", "inside", "number", "here"] ["script"] (defScope s_law) := ⟨rfl, rfl, rfl, by decide +kernel, rfl, by decide +kernel, by decide +kernel⟩
structure Ad where
  f_picked : Addr
  d_picked : FuncData
  c_picked : Addr
  P_picked : Addr
  f_sorted_by : Addr
  d_sorted_by : FuncData
  f_letters_of : Addr
  d_letters_of : FuncData
  f_spans : Addr
  d_spans : FuncData
  f_fits : Addr
  d_fits : FuncData
  f_answer : Addr
  d_answer : FuncData
  f_used : Addr
  d_used : FuncData
  f_stretch : Addr
  d_stretch : FuncData
  c_stretch : Addr
  P_stretch : Addr
  f_read : Addr
  d_read : FuncData
  f_l_reel : Addr
  d_l_reel : FuncData
  f_l_pick : Addr
  d_l_pick : FuncData
  f_l_columns : Addr
  d_l_columns : FuncData
  f_l_table : Addr
  d_l_table : FuncData
  f_l_near : Addr
  d_l_near : FuncData
  f_l_question : Addr
  d_l_question : FuncData
  f_l_one : Addr
  d_l_one : FuncData
  f_law : Addr
  d_law : FuncData
abbrev Ad.Ps (Z : Ad) : List Addr := [Z.P_picked, Z.P_stretch]
structure Tb (base : Heap) (mg : Str → Option Value) (Z : Ad) : Prop where
  t_picked : LamX.TabB base mg Z.c_picked Z.P_picked
  t_stretch : LamX.TabB base mg Z.c_stretch Z.P_stretch
structure Tx (K : PySem.W.Frag) (mg : Str → Option Value) (Z : Ad) : Prop where
  F_picked : Fun K "picked" "picked" s_picked Z.f_picked Z.d_picked
  C_picked : FunC K "picked" "picked" s_picked Z.f_picked Z.d_picked Z.c_picked
  b_picked : Binds K Z.d_picked ["columns", "row", "letters"] []
  g_picked : mg "picked" = some (.ref Z.f_picked)
  F_sorted_by : Fun K "sorted_by" "sorted_by" s_sorted_by Z.f_sorted_by Z.d_sorted_by
  b_sorted_by : Binds K Z.d_sorted_by ["table", "one"] []
  g_sorted_by : mg "sorted_by" = some (.ref Z.f_sorted_by)
  F_letters_of : Fun K "letters_of" "letters_of" s_letters_of Z.f_letters_of Z.d_letters_of
  b_letters_of : Binds K Z.d_letters_of ["equals"] []
  g_letters_of : mg "letters_of" = some (.ref Z.f_letters_of)
  F_spans : Fun K "spans" "spans" s_spans Z.f_spans Z.d_spans
  b_spans : Binds K Z.d_spans ["question"] []
  g_spans : mg "spans" = some (.ref Z.f_spans)
  F_fits : Fun K "fits" "fits" s_fits Z.f_fits Z.d_fits
  b_fits : Binds K Z.d_fits ["columns", "row", "question"] []
  g_fits : mg "fits" = some (.ref Z.f_fits)
  F_answer : Fun K "answer" "answer" s_answer Z.f_answer Z.d_answer
  b_answer : Binds K Z.d_answer ["table", "question"] []
  g_answer : mg "answer" = some (.ref Z.f_answer)
  F_used : Fun K "used" "used" s_used Z.f_used Z.d_used
  b_used : Binds K Z.d_used ["one", "question"] []
  g_used : mg "used" = some (.ref Z.f_used)
  F_stretch : Fun K "stretch" "stretch" s_stretch Z.f_stretch Z.d_stretch
  C_stretch : FunC K "stretch" "stretch" s_stretch Z.f_stretch Z.d_stretch Z.c_stretch
  b_stretch : Binds K Z.d_stretch ["table", "one", "question"] []
  g_stretch : mg "stretch" = some (.ref Z.f_stretch)
  F_read : Fun K "read" "read" s_read Z.f_read Z.d_read
  b_read : Binds K Z.d_read ["table", "one", "question"] []
  g_read : mg "read" = some (.ref Z.f_read)
  F_l_reel : Fun K "_law_reel" "_law_reel" s_l_reel Z.f_l_reel Z.d_l_reel
  b_l_reel : Binds K Z.d_l_reel ["script", "k"] []
  g_l_reel : mg "_law_reel" = some (.ref Z.f_l_reel)
  F_l_pick : Fun K "_law_pick" "_law_pick" s_l_pick Z.f_l_pick Z.d_l_pick
  b_l_pick : Binds K Z.d_l_pick ["reel", "many"] []
  g_l_pick : mg "_law_pick" = some (.ref Z.f_l_pick)
  F_l_columns : Fun K "_law_columns" "_law_columns" s_l_columns Z.f_l_columns Z.d_l_columns
  b_l_columns : Binds K Z.d_l_columns ["reel", "many"] []
  g_l_columns : mg "_law_columns" = some (.ref Z.f_l_columns)
  F_l_table : Fun K "_law_table" "_law_table" s_l_table Z.f_l_table Z.d_l_table
  b_l_table : Binds K Z.d_l_table ["reel", "most", "rows"] []
  g_l_table : mg "_law_table" = some (.ref Z.f_l_table)
  F_l_near : Fun K "_law_near" "_law_near" s_l_near Z.f_l_near Z.d_l_near
  b_l_near : Binds K Z.d_l_near ["reel", "rows", "at", "row"] []
  g_l_near : mg "_law_near" = some (.ref Z.f_l_near)
  F_l_question : Fun K "_law_question" "_law_question" s_l_question Z.f_l_question Z.d_l_question
  b_l_question : Binds K Z.d_l_question ["reel", "table"] []
  g_l_question : mg "_law_question" = some (.ref Z.f_l_question)
  F_l_one : Fun K "_law_one" "_law_one" s_l_one Z.f_l_one Z.d_l_one
  b_l_one : Binds K Z.d_l_one ["reel", "columns"] []
  g_l_one : mg "_law_one" = some (.ref Z.f_l_one)
  F_law : Fun K "law" "law" s_law Z.f_law Z.d_law
  b_law : Binds K Z.d_law ["script"] []
  g_law : mg "law" = some (.ref Z.f_law)
  m_len : mg "len" = none
  m_range : mg "range" = none
  m_list : mg "list" = none
  m_sorted : mg "sorted" = none
  m_tuple : mg "tuple" = none
  m_min : mg "min" = none
  m_max : mg "max" = none
  m_enumerate : mg "enumerate" = none
  m_dict : mg "dict" = none
section
variable {P : Program} {w : World} {K : PySem.W.Frag} {mg : Str → Option Value} {base : Heap} {Z : Ad}
/-! ### _law_reel -/
def spReel (K : PySem.W.Frag) : Sp := fun vs H Q _ => ∃ (a : Addr) (ns : List Int) (k : Nat), vs = [.ref a, .int k] ∧ SqL K H a (ns.map V.int) ∧ k < 1000 ∧ ∀ (n : Int) p, H p = none → Q (.ref p) (upd H p (.lst [.int n]))
theorem ok_reel (T : Tx K mg Z) : FnOk P w K mg base CX0 1 Z.f_l_reel Z.d_l_reel ["script", "k"] (spReel K) := by
  refine T.F_l_reel.ok sc_l_reel (fun vs H Q E h => ?_) (fun cdv A outer s H vs Q E hr h => ?_)
  · obtain ⟨a, ns, k, rfl, _⟩ := h
    rfl
  · obtain ⟨a, ns, k, rfl, hS, hk, q⟩ := h
    refine ⟨_, (pss_cons (ps_set (i := 2) sc_l_reel.nd rfl (.inl rfl) (pe_op op_add (pe_op op_mul pe_int (pv 1)) pe_int))
      (pss_mid (ps_if (pt_cmpR op_lt (pv 1) (pe_callB (cLenSq K) (by rfl) T.m_len (by decide +kernel) (pa_cons (pv 0) pa_nil)) (nomark _)) (pss_one (ps_set (i := 2) sc_l_reel.nd rfl (.inl rfl) (pe_ix (ixL K) (pv 0) (pv 1) (fun _ _ => rfl)))) pss_nil)
      (pss_cons (ps_if (pt_cmpR op_eq (pe_op op_mod (pv 2) pe_int) pe_int (nomark _)) (pss_one (ps_ret (pe_lst (pa_cons (pe_op op_fdiv (pv 2) pe_int) pa_nil)))) pss_nil)
      (pss_cons (ps_set (i := 3) sc_l_reel.nd rfl (.inl rfl) (pe_op op_mod (pe_op op_add (pe_op op_add (pe_op op_mul (pe_op op_mod (pv 2) pe_int) pe_int) (pe_op op_mul pe_int (pv 1))) pe_int) pe_int))
      (pss_cons (ps_set (i := 4) sc_l_reel.nd rfl (.inl rfl) pe_int)
      (pss_cons (ps_for PassesOwn.never rfl (pi_range1 (by rfl) T.m_range (pa_cons pe_int pa_nil)) (pg_name (i := 5) sc_l_reel.nd rfl (.inl rfl)) (pss_cons (ps_set (i := 3) sc_l_reel.nd rfl (.inl rfl) (pe_op op_mod (pe_op op_add (pe_op op_add (pe_op op_add (pe_op op_mul (pv 3) (pv 3)) (pe_op op_mul pe_int (pv 3))) (pe_op op_mul pe_int (pv 5))) pe_int) pe_int))
      (pss_one (ps_set (i := 4) sc_l_reel.nd rfl (.inl rfl) (pe_op op_add (pe_op op_mul (pv 4) pe_int) (pv 3))))))
      (pss_one (ps_ret (pe_lst (pa_cons (pv 4) pa_nil)))))))))), ?_⟩
    have b64 : ∀ x : Int, 0 ≤ x → x < 2147483399 → -(2 ^ 64) < x ∧ x < 2 ^ 64 := fun x h0 h1 => ⟨by omega, by omega⟩
    have em : ∀ x : Int, 0 ≤ x % 2147483399 ∧ x % 2147483399 < 2147483399 := fun x => ⟨Int.emod_nonneg _ (by decide), Int.emod_lt_of_pos _ (by decide)⟩
    refine ⟨.int k, rfl, 7, k, rfl, rfl, .inl ⟨by decide, by decide⟩, _, 4, rfl, rfl, ?_⟩
    refine ⟨fun σ H' => ∃ num : Int, σ = [some (.ref a), some (.int k), some (.int num), none, none, none] ∧ H' = H, ?_, ?_⟩
    · refine ⟨.int k, rfl, .ref a, rfl, a, _, rfl, .inl hS, _, _, rfl, rfl, _, rfl, ite2 (fun e => ?_) (fun e => ?_)⟩
      · have e1 : (k : Int) < ((ns.map V.int).length : Nat) := of_decide_eq_true e
        have e2 : k < ns.length := by
          rw [List.length_map] at e1
          omega
        refine ⟨.ref a, rfl, .int k, rfl, a, _, _, .int ns[k], rfl, rfl, hS, atI_nat (by rw [List.getElem?_map, List.getElem?_eq_getElem e2]; rfl), ?_⟩
        exact ⟨_, rfl, rfl⟩
      · exact ⟨_, rfl, rfl⟩
    · intro σ1 H1 hM
      obtain ⟨num, rfl, rfl⟩ := hM
      refine ⟨.int num, rfl, num, 5, rfl, rfl, (by show (0 : Int) < 5; decide), rfl, _, rfl, ite2 (fun e => ?_) (fun e => ?_)⟩
      · refine ⟨.int num, rfl, num, 5, rfl, rfl, ⟨by decide, by decide⟩, (by show 1 ≤ sizeLine; decide), fun p np => ?_⟩
        exact q _ p np
      · refine ⟨.int num, rfl, num, 2147483399, rfl, rfl, (by show (0 : Int) < 2147483399; decide), _, 50021, rfl, rfl, .inl (b64 _ (em _).1 (em _).2), .int k, rfl, 977, k, rfl, rfl, .inl ⟨by decide, by decide⟩, _, _, rfl, rfl, _, 31, rfl, rfl, _, 2147483399, rfl, rfl, (by show (0 : Int) < 2147483399; decide), ?_⟩
        refine ⟨60, rfl, by decide, by decide, for_range (fun i σ H' => ∃ (st fo : Int) (y : Option V), σ = [some (.ref a), some (.int k), some (.int num), some (.int st), some (.int fo), y] ∧ 0 ≤ st ∧ st < 2147483399 ∧ H' = H1) ⟨_, 0, none, rfl, (em _).1, (em _).2, rfl⟩ (fun i σ H' hi hP => ?_) (fun σ H' hP => ?_)⟩
        · obtain ⟨st, fo, y, rfl, s0, s1, rfl⟩ := hP
          refine ⟨.int st, rfl, .int st, rfl, st, st, rfl, rfl, .inl (b64 _ s0 s1), .int st, rfl, 60013, st, rfl, rfl, .inl ⟨by decide, by decide⟩, _, _, rfl, rfl, _, rfl, 29, _, rfl, rfl, .inl ⟨by decide, by decide⟩, _, _, rfl, rfl, _, 5, rfl, rfl, _, 2147483399, rfl, rfl, (by show (0 : Int) < 2147483399; decide), ?_⟩
          refine ⟨.int fo, rfl, fo, 2147483399, rfl, rfl, .inr ⟨by decide, by decide⟩, _, rfl, _, _, rfl, rfl, ?_⟩
          exact ⟨_, _, _, rfl, (em _).1, (em _).2, rfl⟩
        · obtain ⟨st, fo, y, rfl, s0, s1, rfl⟩ := hP
          refine ⟨.int fo, rfl, (by show 1 ≤ sizeLine; decide), fun p np => ?_⟩
          exact q _ p np
/-! ### _law_pick -/
def spPick (K : PySem.W.Frag) : Sp := fun vs H Q _ => ∃ (r : Addr) (n m : Int), vs = [.ref r, .int m] ∧ H r = some (.lst [.int n]) ∧ 0 < m ∧ m < 1073741824 ∧ ∀ (d n' : Int), 0 ≤ d → d < m → Q (.int d) (upd H r (.lst [.int n']))
theorem ok_pick (T : Tx K mg Z) : FnOk P w K mg base CX0 1 Z.f_l_pick Z.d_l_pick ["reel", "many"] (spPick K) := by
  refine T.F_l_pick.ok sc_l_pick (fun vs H Q E h => ?_) (fun cdv A outer s H vs Q E hr h => ?_)
  · obtain ⟨a, n, m, rfl, _⟩ := h
    rfl
  · obtain ⟨r, n, m, rfl, hS, h0, h1, q⟩ := h
    refine ⟨_, (pss_cons (ps_set (i := 2) sc_l_pick.nd rfl (.inl rfl) (pe_op op_mod (pe_ix (ixL K) (pv 0) pe_int (fun _ _ => rfl)) (pv 1)))
      (pss_cons (ps_asg (pe_op op_fdiv (pe_ix (ixL K) (pv 0) pe_int (fun _ _ => rfl)) (pv 1)) (pg_sub (pv 0) pe_int set_list))
      (pss_one (ps_ret (pv 2))))), ?_⟩
    refine ⟨.ref r, rfl, r, [.int n], 0, .int n, rfl, rfl, .inl (.inl hS), rfl, .int m, rfl, n, m, rfl, rfl, h0, ?_⟩
    refine ⟨.ref r, rfl, r, [.int n], 0, .int n, rfl, rfl, .inl (.inl hS), rfl, .int m, rfl, n, m, rfl, rfl, ⟨h0, h1⟩, ?_⟩
    refine ⟨.ref r, rfl, r, [.int n], 0, 0, rfl, rfl, hS, rfl, _, rfl, ?_⟩
    exact q _ _ (Int.emod_nonneg _ (by omega)) (Int.emod_lt_of_pos _ h0)
/-! ### _law_columns -/
def alpha : List Nat := [97, 98, 99, 100, 101, 102, 103, 104, 105, 106, 107, 108, 109, 110, 111, 112, 113, 114, 115, 116, 117, 118, 119, 120, 121, 122]
def spColumns (K : PySem.W.Frag) : Sp := fun vs H Q _ => ∃ (r : Addr) (n : Int) (m : Nat), vs = [.ref r, .int m] ∧ H r = some (.lst [.int n]) ∧ m ≤ 26 ∧ ∀ (l : List Nat) (n' : Int) (H' : Hp), Kp r H H' → H' r = some (.lst [.int n']) → Cols l → l.length = m → Q (tx l) H'
theorem ok_columns (T : Tx K mg Z) : FnOk P w K mg base CX0 2 Z.f_l_columns Z.d_l_columns ["reel", "many"] (spColumns K) := by
  have G_l_pick : FnOk P w K mg base CX0 1 Z.f_l_pick Z.d_l_pick ["reel", "many"] (spPick K) := ok_pick T
  refine T.F_l_columns.ok sc_l_columns (fun vs H Q E h => ?_) (fun cdv A outer s H vs Q E hr h => ?_)
  · obtain ⟨r, n, m, rfl, _⟩ := h
    rfl
  · obtain ⟨r, n, m, rfl, hR, hm, q⟩ := h
    refine ⟨_, (pss_cons (ps_set (i := 2) sc_l_columns.nd rfl (.inl rfl) (pe_callTy call_list_txt (by rfl) T.m_list (by decide +kernel) (pa_cons pe_str pa_nil)))
      (pss_cons (ps_set (i := 3) sc_l_columns.nd rfl (.inl rfl) (pe_lst pa_nil))
      (pss_cons (ps_for PassesOwn.never rfl (pi_range1 (by rfl) T.m_range (pa_cons (pv 1) pa_nil)) (pg_name (i := 4) sc_l_columns.nd rfl (.inl rfl)) (pss_one (ps_expr (bmK K PySem.F.plainAttrs_list PySem.F.slot_list_append PySem.F.type_list_append mt_append (pv 3) (pa_cons (bmK K PySem.F.plainAttrs_list PySem.F.slot_list_pop PySem.F.type_list_pop mt_popAt (pv 2) (pa_cons (pe_call G_l_pick (hr.mono (by omega)) (by rfl) T.g_l_pick T.F_l_pick.kp T.b_l_pick .nil pass0 (pa_cons (pv 0) (pa_cons (pe_callB (cLenSq K) (by rfl) T.m_len (by decide +kernel) (pa_cons (pv 2) pa_nil)) pa_nil))) pa_nil)) pa_nil)))))
      (pss_one (ps_ret (pe_join pe_str (pe_callB cr_sortedS (by rfl) T.m_sorted (by decide +kernel) (pa_cons (pv 3) pa_nil)))))))), ?_⟩
    have ea : (Str.ofString "abcdefghijklmnopqrstuvwxyz").cps.toList = alpha := by decide +kernel
    refine ⟨_, rfl, (by decide +kernel), fun L nL => ?_⟩
    rw [ea]
    refine ⟨Nat.zero_le _, fun F nF => ?_⟩
    have nFL : F ≠ L := fun e => by
      rw [e, upd_same] at nF
      cases nF
    have nF0 : H F = none := by
      rw [upd_ne nFL] at nF
      exact nF
    have nLr : L ≠ r := (ne_of_none hR nL).symm
    have nFr : F ≠ r := (ne_of_none hR nF0).symm
    refine ⟨.int m, rfl, m, rfl, by omega, by omega, for_range (fun i σ H' => ∃ (ll ff : List Nat) (n' : Int) (y : Option V), σ = [some (.ref r), some (.int m), some (.ref L), some (.ref F), y] ∧ Kp r H H' ∧ H' r = some (.lst [.int n']) ∧ H' L = some (.lst (ll.map sg)) ∧ H' F = some (.lst (ff.map sg)) ∧ (ll ++ ff).Perm alpha ∧ ff.length = i)
      ⟨alpha, [], n, none, rfl, ?_, ?_, ?_, ?_, ?_, rfl⟩ (fun i σ H' hi hP => ?_) (fun σ H' hP => ?_)⟩
    · exact (Kp.new Kp.rfl' nL).new nF
    · rw [upd_ne nFr.symm, upd_ne nLr.symm]
      exact hR
    · rw [upd_ne nFL.symm, upd_same]
    · rw [upd_same]
      rfl
    · rw [List.append_nil]
    · obtain ⟨ll, ff, n1, y, rfl, kp, hR1, hL, hF, hp, hl⟩ := hP
      have hlen : ll.length + ff.length = 26 := by
        have := hp.length_eq
        rw [List.length_append] at this
        exact this
      have hll : 0 < ll.length := by
        have : i < m := by omega
        omega
      refine ⟨.ref F, rfl, .inl ⟨rfl, _, .inl (.inl hF)⟩, .ref L, rfl, .inl ⟨rfl, _, .inl (.inl hL)⟩, .ref r, rfl, .ref L, rfl, L, _, rfl, .inl (.inl (.inl hL)), r, n1, _, rfl, hR1, ?_, ?_, fun d n2 d0 d1 => ?_⟩
      · rw [List.length_map]
        omega
      · rw [List.length_map]
        omega
      · rw [List.length_map] at d1
        have hd : d.toNat < ll.length := by omega
        have hL2 : (upd H' r (.lst [.int n2])) L = some (.lst (ll.map sg)) := by
          rw [upd_ne nLr]
          exact hL
        have hF2 : (upd (upd H' r (.lst [.int n2])) L (.lst ((ll.map sg).eraseIdx d.toNat))) F = some (.lst (ff.map sg)) := by
          rw [upd_ne nFL, upd_ne nFr]
          exact hF
        have hy : ll[d.toNat]? = some ll[d.toNat] := List.getElem?_eq_getElem hd
        refine ⟨L, _, d, d.toNat, sg ll[d.toNat], rfl, rfl, hL2, by omega, by omega, PySem.seqIndex_of d0 (by rw [List.length_map]; exact d1), ?_, F, _, _, rfl, rfl, hF2, ?_, ?_⟩
        · rw [List.getElem?_map, hy]
          rfl
        · rw [List.length_map]
          exact small1000 (by omega)
        · refine ⟨ll.eraseIdx d.toNat, ff ++ [ll[d.toNat]], n2, _, rfl, ?_, ?_, ?_, ?_, (popped hy ff).trans hp, by rw [List.length_append, hl]; rfl⟩
          · exact ((Kp.own kp).mut nL).mut nF0
          · rw [upd_ne nFr.symm, upd_ne nLr.symm, upd_same]
          · rw [upd_ne nFL.symm, upd_same, erase_map]
          · rw [upd_same, List.map_append]
            rfl
    · obtain ⟨ll, ff, n1, y, rfl, kp, hR1, hL, hF, hp, hl⟩ := hP
      have hm2 : ff.length = m := by
        rw [hl]
        omega
      refine ⟨⟨_, rfl⟩, .ref F, rfl, F, ff.map sS, rfl, .inl (.inl (by rw [← map_sg]; exact hF)), by rw [List.length_map]; omega, fun ys p hys hso np => ?_⟩
      obtain ⟨l, rfl, pl⟩ := perm_signs hys
      have ndA : (ll ++ ff).Nodup := hp.nodup_iff.mpr (by decide)
      have ndf : ff.Nodup := (List.nodup_append.mp ndA).2.1
      have ndl : l.Nodup := pl.nodup_iff.mpr ndf
      refine ⟨_, p, _, rfl, rfl, .inl (.inl (.inl upd_same)), ?_, ?_⟩
      · have e1 : (Str.ofString "").length = 0 := by decide +kernel
        rw [e1, Nat.mul_zero, Nat.add_zero, List.map_map]
        have e2 : ∀ k : List Nat, (k.map ((fun x : Str => x.length) ∘ sS)).sum = k.length := fun k => by
          induction k with
          | nil => rfl
          | cons a k ih =>
            rw [List.map_cons, List.sum_cons, ih, List.length_cons]
            show 1 + k.length = k.length + 1
            omega
        rw [e2, pl.length_eq]
        omega
      · rw [join_signs]
        refine q l n1 _ (kp.new np) ?_ ⟨strict_of (sorted_signs l hso) ndl, fun c hc => ?_⟩ (by rw [pl.length_eq]; exact hm2)
        · rw [upd_ne (ne_of_none hR1 np)]
          exact hR1
        · have hc2 : c ∈ alpha := hp.mem_iff.mp (List.mem_append_right _ (pl.mem_iff.mp hc))
          have : ∀ c ∈ alpha, 97 ≤ c ∧ c ≤ 122 := by decide
          exact this c hc2

/-! ### _law_table -/
def spTable (K : PySem.W.Frag) : Sp := fun vs H Q _ => ∃ (r : Addr) (n : Int) (most rn : Nat), vs = [.ref r, .int most, .int rn] ∧ H r = some (.lst [.int n]) ∧ 1 ≤ most ∧ most ≤ 26 ∧ rn ≤ 1000 ∧
  ∀ (cols : List Nat) (rows : List (List Int)) (v : V) (n' : Int) (H' : Hp), Kp r H H' → H' r = some (.lst [.int n']) → Fz H' v (tabD cols rows) → Cols cols → 1 ≤ cols.length → cols.length ≤ most → RowsOk cols.length rows → rows.length ≤ rn → Q v H'
theorem ok_table (T : Tx K mg Z) : FnOk P w K mg base CX0 3 Z.f_l_table Z.d_l_table ["reel", "most", "rows"] (spTable K) := by
  have G_l_pick : FnOk P w K mg base CX0 1 Z.f_l_pick Z.d_l_pick ["reel", "many"] (spPick K) := ok_pick T
  have G_l_columns : FnOk P w K mg base CX0 2 Z.f_l_columns Z.d_l_columns ["reel", "many"] (spColumns K) := ok_columns T
  refine T.F_l_table.ok sc_l_table (fun vs H Q E h => ?_) (fun cdv A outer s H vs Q E hr h => ?_)
  · obtain ⟨r, n, most, rn, rfl, _⟩ := h
    rfl
  · obtain ⟨r, n, most, rn, rfl, hR, hm1, hm2, hrn, q⟩ := h
    refine ⟨_, (pss_cons (ps_set (i := 3) sc_l_table.nd rfl (.inl rfl) (pe_call G_l_columns (hr.mono (by omega)) (by rfl) T.g_l_columns T.F_l_columns.kp T.b_l_columns .nil pass0 (pa_cons (pv 0) (pa_cons (pe_op op_add pe_int (pe_call G_l_pick (hr.mono (by omega)) (by rfl) T.g_l_pick T.F_l_pick.kp T.b_l_pick .nil pass0 (pa_cons (pv 0) (pa_cons (pv 1) pa_nil)))) pa_nil))))
      (pss_cons (ps_set (i := 4) sc_l_table.nd rfl (.inr rfl) (pe_lc (own := [("letter", 6)]) (tt := tYes) (by rfl) sc_l_table.nd (pi_str (pv 3)) (blkOk_by (own := [("letter", 6)]) (by kernel_rfl)) (fun _ _ _ _ _ => (pg_name (i := 6) sc_l_table.nd rfl (.inl rfl))) (fun _ _ _ _ _ => pts_nil) (fun _ _ _ _ _ => (pe_ix (ixL K) (pe_lst (pa_cons pe_int (pa_cons pe_int (pa_cons pe_int (pa_cons pe_int pa_nil))))) (pe_call G_l_pick (hr.mono (by omega)) (by rfl) T.g_l_pick T.F_l_pick.kp T.b_l_pick .nil pass0 (pa_cons (pv 0) (pa_cons pe_int pa_nil))) (fun _ _ => rfl)))))
      (pss_cons (ps_set (i := 5) sc_l_table.nd rfl (.inl rfl) (pe_call G_l_pick (hr.mono (by omega)) (by rfl) T.g_l_pick T.F_l_pick.kp T.b_l_pick .nil pass0 (pa_cons (pv 0) (pa_cons (pe_op op_add (pv 2) pe_int) pa_nil))))
      (pss_one (ps_ret (pe_tup (pa_cons (pv 3) (pa_cons (pe_callTy (cTupSq K) (by rfl) T.m_tuple (by decide +kernel) (pa_cons (pe_lc (own := [("k", 7)]) (tt := tYes) (by rfl) sc_l_table.nd (pi_range1 (by rfl) T.m_range (pa_cons (pv 5) pa_nil)) (blkOk_by (own := [("k", 7)]) (by kernel_rfl)) (fun _ _ _ _ _ => (pg_name (i := 7) sc_l_table.nd rfl (.inl rfl))) (fun _ _ _ _ _ => pts_nil) (fun _ _ _ _ _ => (pe_callTy (cTupSq K) (by rfl) T.m_tuple (by decide +kernel) (pa_cons (pe_lc (own := [("top", 8)]) (tt := tYes) (by rfl) sc_l_table.nd (piL K (pv 4)) (blkOk_by (own := [("top", 8)]) (by kernel_rfl)) (fun _ _ _ _ _ => (pg_name (i := 8) sc_l_table.nd rfl (.inl rfl))) (fun _ _ _ _ _ => pts_nil) (fun _ _ _ _ _ => (pe_call G_l_pick (hr.mono (by omega)) (by rfl) T.g_l_pick T.F_l_pick.kp T.b_l_pick .nil pass0 (pa_cons (pv 0) (pa_cons (pv 8) pa_nil))))) pa_nil)))) pa_nil)) pa_nil)))))))), ?_⟩
    -- columns
    refine ⟨.ref r, rfl, .ref r, rfl, .int most, rfl, r, n, most, rfl, hR, by omega, by omega, fun d n1 d0 d1 => ?_⟩
    have hR1 : (upd H r (.lst [.int n1])) r = some (.lst [.int n1]) := upd_same
    refine ⟨1, d, rfl, rfl, r, n1, (1 + d).toNat, by rw [Int.toNat_of_nonneg (by omega)]; rfl, hR1, by omega, fun cols n2 H2 kp2 hR2 hc hl => ?_⟩
    have hkp2 : Kp r H H2 := (Kp.own Kp.rfl').trans kp2
    -- tops
    refine ⟨tx cols, rfl, _, rfl, fun D nD => lc_it walk_str (fun i H' => ∃ (ts : List Int) (n3 : Int), Kp r H2 H' ∧ H' r = some (.lst [.int n3]) ∧ H' D = some (.lst (ts.map V.int)) ∧ ts.length = i ∧ ∀ t ∈ ts, 0 < t ∧ t ≤ 1000)
      ⟨[], n2, Kp.rfl'.new nD, by rw [upd_ne (ne_of_none hR2 nD)]; exact hR2, upd_same, rfl, fun t ht => nomatch ht⟩ (fun _ _ _ _ => trivial) (fun i x H3 H4 hi hP hY => ?_) (fun H3 hP => ?_)⟩
    · obtain ⟨ts, n3, kp3, hR3, hD3, hl3, ht3⟩ := hP
      obtain ⟨rfl, c, hc4, rfl⟩ := hY
      have nDr : D ≠ r := (ne_of_none hR2 nD).symm
      refine ⟨rfl, (by show 4 ≤ sizeLine; decide), fun L nL => ?_⟩
      have nLr : L ≠ r := (ne_of_none hR3 nL).symm
      have nLD : L ≠ D := (ne_of_none hD3 nL).symm
      have hR4 : (upd H4 L (.lst [.int 2, .int 2, .int 4, .int 1000])) r = some (.lst [.int n3]) := by
        rw [upd_ne nLr.symm]
        exact hR3
      refine ⟨.ref r, rfl, r, n3, 4, rfl, hR4, by decide, by decide, fun e n4 e0 e1 => ?_⟩
      obtain ⟨t, ht, hat⟩ := at_ints (ns := [2, 2, 4, 1000]) e0 e1
      refine ⟨L, [2, 2, 4, 1000].map V.int, e, .int t, rfl, rfl, .inl (.inl ?_), hat, ts.map V.int, ?_, ?_, ts ++ [t], n4, ?_, ?_, ?_, ?_, ?_⟩
      · rw [upd_ne nLr, upd_same]
        rfl
      · rw [upd_ne nDr, upd_ne nLD.symm]
        exact hD3
      · rw [List.length_map, hl3]
        have hi2 : i < cols.length := hi
        exact small1000 (by omega)
      · exact ((kp3.new nL).own).mut nD
      · rw [upd_ne nDr.symm, upd_same]
      · rw [upd_same, List.map_append]
        rfl
      · rw [List.length_append, hl3]
        rfl
      · intro u hu
        rcases List.mem_append.mp hu with hu | hu
        · exact ht3 u hu
        · have : ∀ z ∈ ([2, 2, 4, 1000] : List Int), 0 < z ∧ z ≤ 1000 := by decide
          rw [List.mem_singleton.mp hu]
          exact this t ht
    · obtain ⟨ts, n3, kp3, hR3, hD3, hl3, ht3⟩ := hP
      have hlt : ts.length = cols.length := hl3
      -- many
      refine ⟨.ref r, rfl, .int rn, rfl, rn, 1, rfl, rfl, r, n3, _, rfl, hR3, by omega, by omega, fun m n4 m0 m1 => ?_⟩
      have nDr : D ≠ r := (ne_of_none hR2 nD).symm
      have hD4 : (upd H3 r (.lst [.int n4])) D = some (.lst (ts.map V.int)) := by
        rw [upd_ne nDr]
        exact hD3
      have kp4 : Kp r H (upd H3 r (.lst [.int n4])) := (hkp2.trans kp3).own
      -- the rows
      refine ⟨tx cols, rfl, .int m, rfl, m, rfl, by omega, by omega, fun D2 nD2 => lc_range (fun i H' => ∃ (rows : List (List Int)) (vs : List V) (n5 : Int), Kp r H H' ∧ H' r = some (.lst [.int n5]) ∧ H' D = some (.lst (ts.map V.int)) ∧ H' D2 = some (.lst vs) ∧ FzA H' vs (rows.map rowD) ∧ RowsOk cols.length rows ∧ rows.length = i)
        ⟨[], [], n4, kp4.new nD2, ?_, ?_, upd_same, .nil, (fun _ h => nomatch h), rfl⟩ (fun i H5 hi hP => ?_) (fun H5 hP => ?_)⟩
      · rw [upd_ne (ne_of_none upd_same nD2)]
        exact upd_same
      · rw [upd_ne (ne_of_none hD4 nD2)]
        exact hD4
      · obtain ⟨rows, vs, n5, kp5, hR5, hD5, hD25, hF5, hok, hln⟩ := hP
        have nD2r : D2 ≠ r := (ne_of_none (upd_same (H := H3)) nD2).symm
        have nD2D : D2 ≠ D := (ne_of_none hD4 nD2).symm
        have nD2H : H D2 = none := Kp.none kp4 nD2r nD2
        have nDH : H D = none := Kp.none hkp2 nDr nD
        -- one row
        refine ⟨rfl, .ref D, rfl, D, rfl, ⟨_, .inl (.inl hD5)⟩, fun D3 nD3 => lc_list (xs := ts.map V.int) (fun j H' => ∃ (row : List Int) (n6 : Int), Kp r H5 H' ∧ H' r = some (.lst [.int n6]) ∧ H' D3 = some (.lst (row.map V.int)) ∧ row.length = j ∧ ∀ x ∈ row, 0 ≤ x ∧ x < 1000)
          ⟨[], n5, Kp.rfl'.new nD3, ?_, upd_same, rfl, fun _ h => nomatch h⟩ (fun j H' _ hP => ?_) (fun j x H6 hx hP => ?_) (fun H6 hP => ?_)⟩
        · rw [upd_ne (ne_of_none hR5 nD3)]
          exact hR5
        · obtain ⟨row, n6, kp6, _⟩ := hP
          exact .inl (.inl (kp6 D _ nDr hD5))
        · obtain ⟨row, n6, kp6, hR6, hD6, hl6, hx6⟩ := hP
          have nD3r : D3 ≠ r := (ne_of_none hR5 nD3).symm
          rw [List.getElem?_map] at hx
          obtain ⟨t, ht, rfl⟩ := Option.map_eq_some_iff.mp hx
          have tm : t ∈ ts := List.mem_of_getElem? ht
          have hj : j < ts.length := (List.getElem?_eq_some_iff.mp ht).1
          refine ⟨rfl, .ref r, rfl, .int t, rfl, r, n6, t, rfl, hR6, (ht3 t tm).1, by have := (ht3 t tm).2; omega, fun e n7 e0 e1 => ?_⟩
          refine ⟨row.map V.int, ?_, ?_, row ++ [e], n7, (kp6.own).mut nD3, ?_, ?_, ?_, ?_⟩
          · rw [upd_ne nD3r]
            exact hD6
          · rw [List.length_map]
            exact small1000 (by omega)
          · rw [upd_ne nD3r.symm, upd_same]
          · rw [upd_same, List.map_append]
            rfl
          · rw [List.length_append, hl6]
            rfl
          · intro u hu
            rcases List.mem_append.mp hu with hu | hu
            · exact hx6 u hu
            · rw [List.mem_singleton.mp hu]
              have := (ht3 t tm).2
              exact ⟨e0, by omega⟩
        · obtain ⟨row, n6, kp6, hR6, hD6, hl6, hx6⟩ := hP
          rw [List.length_map] at hl6
          refine ⟨D3, row.map V.int, rfl, .inl ⟨.inl (.inl hD6), fun t nt => ?_⟩⟩
          have hD26 : H6 D2 = some (.lst vs) := kp6 D2 _ nD2r hD25
          have hD62 : H6 D = some (.lst (ts.map V.int)) := kp6 D _ nDr hD5
          have ntD2 : t ≠ D2 := (ne_of_none hD26 nt).symm
          have kt : Kt H5 H6 := kp6.kt hR5
          have kt2 : Kt H6 (upd H6 t (.tup (row.map V.int))) := .new nt
          have hD27 : (upd H6 t (.tup (row.map V.int))) D2 = some (.lst vs) := by
            rw [upd_ne ntD2.symm]
            exact hD26
          refine ⟨vs, hD27, ?_, rows ++ [row], vs ++ [.ref t], n6, ?_, ?_, ?_, upd_same, ?_, ?_, by rw [List.length_append, hln]; rfl⟩
          · rw [hF5.len, List.length_map]
            exact small1000 (by omega)
          · exact ((kp5.trans kp6).new nt).mut nD2H
          · rw [upd_ne nD2r.symm, upd_ne (ne_of_none hR6 nt)]
            exact hR6
          · rw [upd_ne nD2D.symm, upd_ne (ne_of_none hD62 nt)]
            exact hD62
          · rw [List.map_append]
            exact (FzA.snoc ((hF5.kt kt).kt kt2) (row_made nt)).kt (.lst hD27)
          · intro x hx
            rcases List.mem_append.mp hx with hx | hx
            · exact hok x hx
            · rw [List.mem_singleton.mp hx]
              exact ⟨hl6.trans hlt, hx6⟩
      · obtain ⟨rows, vs, n5, kp5, hR5, hD5, hD25, hF5, hok, hln⟩ := hP
        refine ⟨D2, vs, rfl, .inl ⟨.inl (.inl hD25), fun R nR => ⟨(by show 2 ≤ sizeLine; decide), fun t nt => ?_⟩⟩⟩
        have f1 : Fz (upd H5 R (.tup vs)) (.ref R) (rowsD rows) := Fz.made nR hF5
        refine q cols rows (.ref t) n5 _ ((kp5.new nR).new nt) ?_ (Fz.made nt (.cons (.str _) (.cons f1 .nil))) hc (by omega) (by omega) hok (by omega)
        rw [upd_ne (ne_of_none (by rw [upd_ne (ne_of_none hR5 nR)]; exact hR5) nt), upd_ne (ne_of_none hR5 nR)]
        exact hR5

/-! ### _law_near -/
def spNear (K : PySem.W.Frag) : Sp := fun vs H Q _ => ∃ (r : Addr) (n : Int) (rs : V) (rows : List (List Int)) (at_ : Nat) (rw_ : V) (row : List Int) (k : Nat), vs = [.ref r, rs, .int at_, rw_] ∧ H r = some (.lst [.int n]) ∧ Fz H rs (rowsD rows) ∧ Fz H rw_ (rowD row) ∧ RowsOk k rows ∧ RowOk k row ∧ at_ < k ∧ rows.length ≤ 1000 ∧
  ∀ (x n' : Int) (H' : Hp), Kp r H H' → H' r = some (.lst [.int n']) → 0 ≤ x → x < 1000 → Q (.int x) H'
theorem ok_near (T : Tx K mg Z) : FnOk P w K mg base CX0 2 Z.f_l_near Z.d_l_near ["reel", "rows", "at", "row"] (spNear K) := by
  have G_l_pick : FnOk P w K mg base CX0 1 Z.f_l_pick Z.d_l_pick ["reel", "many"] (spPick K) := ok_pick T
  refine T.F_l_near.ok sc_l_near (fun vs H Q E h => ?_) (fun cdv A outer s H vs Q E hr h => ?_)
  · obtain ⟨r, n, rs, rows, at_, rw_, row, k, rfl, _⟩ := h
    rfl
  · obtain ⟨r, n, rs, rows, at_, rw_, row, k, rfl, hR, fR, fr, hrs, hro, hat, hlen, q⟩ := h
    obtain ⟨R, vs, rfl, hRR, fvs⟩ := fR.open
    obtain ⟨ra, rfl, hra⟩ := row_open fr
    have nRr : R ≠ r := fun z => by
      rw [z, hR] at hRR
      cases hRR
    have nrar : ra ≠ r := fun z => by
      rw [z, hR] at hra
      cases hra
    refine ⟨_, (pss_cons (ps_set (i := 4) sc_l_near.nd rfl (.inl rfl) (pe_call G_l_pick (hr.mono (by omega)) (by rfl) T.g_l_pick T.F_l_pick.kp T.b_l_pick .nil pass0 (pa_cons (pv 0) (pa_cons pe_int pa_nil))))
      (pss_cons (ps_if (pt_cmpR op_lt (pv 4) pe_int (nomark _)) (pss_one (ps_ret (pe_ix (ixT K) (pv 3) (pv 2) (fun _ _ => rfl)))) pss_nil)
      (pss_cons (ps_if (PW.pt (pw_or (pt_cmpR op_eq (pv 4) pe_int (nomark _)) (pw_or1 (pt_cmpR (eqDK K hr.units) (pv 1) (pe_tup pa_nil) (nomark _))))) (pss_one (ps_ret (pe_call G_l_pick (hr.mono (by omega)) (by rfl) T.g_l_pick T.F_l_pick.kp T.b_l_pick .nil pass0 (pa_cons (pv 0) (pa_cons (pe_ix (ixL K) (pe_lst (pa_cons pe_int (pa_cons pe_int pa_nil))) (pe_call G_l_pick (hr.mono (by omega)) (by rfl) T.g_l_pick T.F_l_pick.kp T.b_l_pick .nil pass0 (pa_cons (pv 0) (pa_cons pe_int pa_nil))) (fun _ _ => rfl)) pa_nil))))) pss_nil)
      (pss_cons (ps_set (i := 5) sc_l_near.nd rfl (.inl rfl) (pe_ix (ixT K) (pe_ix (ixT K) (pv 1) (pe_call G_l_pick (hr.mono (by omega)) (by rfl) T.g_l_pick T.F_l_pick.kp T.b_l_pick .nil pass0 (pa_cons (pv 0) (pa_cons (pe_callB (cLenSq K) (by rfl) T.m_len (by decide +kernel) (pa_cons (pv 1) pa_nil)) pa_nil))) (fun _ _ => rfl)) (pv 2) (fun _ _ => rfl)))
      (pss_one (ps_ret (pe_callB (call_min2 rfl) (by rfl) T.m_min (by decide +kernel) (pa_cons pe_int (pa_cons (pe_callB (call_max2 rfl) (by rfl) T.m_max (by decide +kernel) (pa_cons pe_int (pa_cons (pe_op op_add (pv 5) (pe_ix (ixL K) (pe_lst (pa_cons pe_int (pa_cons pe_int (pa_cons (pe_un un_neg pe_int) pa_nil)))) (pe_op op_mul (pe_op op_sub (pv 4) pe_int) (pe_op op_add pe_int (pe_call G_l_pick (hr.mono (by omega)) (by rfl) T.g_l_pick T.F_l_pick.kp T.b_l_pick .nil pass0 (pa_cons (pv 0) (pa_cons pe_int pa_nil))))) (fun _ _ => rfl))) pa_nil))) pa_nil))))))))), ?_⟩
    refine ⟨.ref r, rfl, r, n, 8, rfl, hR, by decide, by decide, fun way n1 w0 w1 => ?_⟩
    have hR1 : (upd H r (.lst [.int n1])) r = some (.lst [.int n1]) := upd_same
    have hRR1 : (upd H r (.lst [.int n1])) R = some (.tup vs) := by
      rw [upd_ne nRr]
      exact hRR
    have hra1 : (upd H r (.lst [.int n1])) ra = some (.tup (row.map V.int)) := by
      rw [upd_ne nrar]
      exact hra
    have fvs1 : FzA (upd H r (.lst [.int n1])) vs (rows.map rowD) := fvs.kt (.lst hR)
    have kp1 : Kp r H (upd H r (.lst [.int n1])) := Kp.own Kp.rfl'
    generalize upd H r (.lst [.int n1]) = H1 at hR1 hRR1 hra1 fvs1 kp1 ⊢
    have hal : at_ < row.length := by
      rw [hro.1]
      exact hat
    -- if way < 5
    refine ⟨.int way, rfl, _, _, rfl, rfl, _, rfl, ite2 (fun e => ?_) (fun e => ?_)⟩
    · refine ⟨.ref ra, rfl, .int at_, rfl, ra, _, _, .int row[at_], rfl, rfl, .inl (.inl hra1), atI_nat (by rw [List.getElem?_map, List.getElem?_eq_getElem hal]; rfl), ?_⟩
      have := hro.2 row[at_] (List.getElem_mem hal)
      exact q _ n1 _ kp1 hR1 this.1 this.2
    · have w5 : ¬ way < 5 := fun z => e (decide_eq_true z)
      -- what follows where one more is picked
      have pick2 : ∀ (H2 : Hp) (n2 : Int), Kp r H H2 → H2 r = some (.lst [.int n2]) → tRet (tCall (spPick K) [] E0 (tCons (tVar 0) (tCons (tOp (rIxL K) (tLst (tCons (tC (V.int 5)) (tCons (tC (V.int 1000)) tNil))) (tCall (spPick K) [] E0 (tCons (tVar 0) (tCons (tC (V.int 2)) tNil)))) tNil))) { nx := fun x H' => Q V.non H', rt := Q } [some (.ref r), some (.ref R), some (.int at_), some (.ref ra), some (.int way), none] H2 := by
        intro H2 n2 kp2 hR2
        refine ⟨.ref r, rfl, (by show 2 ≤ sizeLine; decide), fun L nL => ?_⟩
        have nLr : L ≠ r := (ne_of_none hR2 nL).symm
        refine ⟨.ref r, rfl, r, n2, 2, rfl, by rw [upd_ne nLr.symm]; exact hR2, by decide, by decide, fun d n3 d0 d1 => ?_⟩
        obtain ⟨t, ht, hat⟩ := at_ints (ns := [5, 1000]) d0 d1
        have ht2 : ∀ z ∈ ([5, 1000] : List Int), 0 < z ∧ z ≤ 1000 := by decide
        refine ⟨L, [5, 1000].map V.int, d, .int t, rfl, rfl, .inl (.inl (by rw [upd_ne nLr, upd_same]; rfl)), hat, r, n3, t, rfl, upd_same, (ht2 t ht).1, by have := (ht2 t ht).2; omega, fun x n4 x0 x1 => ?_⟩
        exact q x n4 _ (((kp2.new nL).own).own) upd_same x0 (by have := (ht2 t ht).2; omega)
      -- way == 5 or rows == ()
      refine ⟨.int way, rfl, rfl, _, rfl, ite2 (fun e5 => ?_) (fun e5 => ?_)⟩
      · exact pick2 H1 n1 kp1 hR1
      · refine ⟨.ref R, rfl, (by show 0 ≤ sizeLine; decide), fun p np => ?_⟩
        have hp : Fz (upd H1 p (.tup [])) (.ref p) (.tuple []) := Fz.made np .nil
        have hRp : Fz (upd H1 p (.tup [])) (.ref R) (rowsD rows) := (Fz.tup hRR1 fvs1).kt (.new np)
        refine ⟨_, _, hRp.to, hp.to, shaped_rows rows, shaped_rows [], _, rfl, ite2 (fun ee => ?_) (fun ee => ?_)⟩
        · exact pick2 _ n1 (kp1.new np) (by rw [upd_ne (ne_of_none hR1 np)]; exact hR1)
        · have ne : rows ≠ [] := fun z => by
            rw [z] at ee
            exact ee rfl
          have hpos : 0 < rows.length := List.length_pos_iff.mpr ne
          have kp2 : Kp r H (upd H1 p (.tup [])) := kp1.new np
          have hR2 : (upd H1 p (.tup [])) r = some (.lst [.int n1]) := by
            rw [upd_ne (ne_of_none hR1 np)]
            exact hR1
          have hRR2 : (upd H1 p (.tup [])) R = some (.tup vs) := by
            rw [upd_ne (ne_of_none hRR1 np)]
            exact hRR1
          have fvs2 : FzA (upd H1 p (.tup [])) vs (rows.map rowD) := fvs1.kt (.new np)
          generalize upd H1 p (.tup []) = H2 at kp2 hR2 hRR2 fvs2 ⊢
          have hvl : vs.length = rows.length := by
            rw [fvs2.len, List.length_map]
          refine ⟨.ref R, rfl, .ref r, rfl, .ref R, rfl, R, vs, rfl, .inr (.inl (.inl hRR2)), r, n1, _, rfl, hR2, by omega, by omega, fun d n3 d0 d1 => ?_⟩
          have hd : d.toNat < rows.length := by omega
          obtain ⟨v, hv, fv⟩ := fvs2.get (i := d.toNat) (d := rowD rows[d.toNat]) (by rw [List.getElem?_map, List.getElem?_eq_getElem hd]; rfl)
          have rok := hrs rows[d.toNat] (List.getElem_mem hd)
          obtain ⟨rb, rfl, hrb⟩ := row_open (fv.kt (Kt.lst hR2 (o := .lst [.int n3])))
          have hal2 : at_ < rows[d.toNat].length := by
            rw [rok.1]
            exact hat
          refine ⟨R, vs, d, .ref rb, rfl, rfl, .inl (.inl (by rw [upd_ne nRr]; exact hRR2)), L2.at_of (j := d.toNat) (by omega) hv, .int at_, rfl, rb, _, _, .int rows[d.toNat][at_], rfl, rfl, .inl (.inl hrb), atI_nat (by rw [List.getElem?_map, List.getElem?_eq_getElem hal2]; rfl), ?_⟩
          -- min(999, max(0, number + [0, 1, -1][(way - 6) * (1 + pick)]))
          refine ⟨_, rfl, 1, rfl, (by show 3 ≤ sizeLine; decide), fun L nL => ?_⟩
          have hR3 : (upd H2 r (.lst [.int n3])) r = some (.lst [.int n3]) := upd_same
          have kp3 : Kp r H (upd H2 r (.lst [.int n3])) := kp2.own
          have nLr : L ≠ r := (ne_of_none hR3 nL).symm
          refine ⟨.int way, rfl, way, 6, rfl, rfl, .ref r, rfl, r, n3, 2, rfl, by rw [upd_ne nLr.symm]; exact hR3, by decide, by decide, fun f n4 f0 f1 => ?_⟩
          have e52 : way ≠ 5 := fun z => e5 (decide_eq_true (by rw [z]))
          have hw : way = 6 ∨ way = 7 := by omega
          have hi0 : 0 ≤ (way - 6) * (1 + f) := Int.mul_nonneg (by omega) (by omega)
          have hi1 : (way - 6) * (1 + f) < 3 := by
            rcases hw with z | z <;> subst z <;> omega
          obtain ⟨t, ht, hti⟩ := at_ints (ns := [0, 1, -1]) hi0 hi1
          refine ⟨1, f, rfl, rfl, way - 6, 1 + f, rfl, rfl, .inl ⟨by omega, by omega⟩, L, [0, 1, -1].map V.int, _, .int t, rfl, rfl, .inl (.inl (by rw [upd_ne nLr, upd_same]; rfl)), hti, _, t, rfl, rfl, 0, _, rfl, 999, _, rfl, ?_⟩
          refine q _ n4 _ ((kp3.new nL).own) upd_same ?_ ?_
          · have m0 : (0 : Int) ≤ (if rows[d.toNat][at_] + t > 0 then rows[d.toNat][at_] + t else 0) := by
              split <;> omega
            split <;> omega
          · split <;> omega

/-! ### _law_question -/
def spQuestion (K : PySem.W.Frag) : Sp := fun vs H Q _ => ∃ (r : Addr) (n : Int) (tb : V) (cols : List Nat) (rows : List (List Int)), vs = [.ref r, tb] ∧ H r = some (.lst [.int n]) ∧ Fz H tb (tabD cols rows) ∧ Cols cols ∧ 1 ≤ cols.length ∧ cols.length ≤ 26 ∧ RowsOk cols.length rows ∧ rows.length ≤ 1000 ∧
  ∀ (es : List (Nat × Int)) (rc : Option (Nat × Int × Int)) (v : V) (n' : Int) (H' : Hp), Kp r H H' → H' r = some (.lst [.int n']) → QZ H' v es rc → QOk cols es rc → Q v H'
theorem ok_question (T : Tx K mg Z) : FnOk P w K mg base CX0 3 Z.f_l_question Z.d_l_question ["reel", "table"] (spQuestion K) := by
  have G_l_pick : FnOk P w K mg base CX0 1 Z.f_l_pick Z.d_l_pick ["reel", "many"] (spPick K) := ok_pick T
  have G_l_near : FnOk P w K mg base CX0 2 Z.f_l_near Z.d_l_near ["reel", "rows", "at", "row"] (spNear K) := ok_near T
  refine T.F_l_question.ok sc_l_question (fun vs H Q E h => ?_) (fun cdv A outer s H vs Q E hr h => ?_)
  · obtain ⟨r, n, tb, cols, rows, rfl, _⟩ := h
    rfl
  · obtain ⟨r, n, tb, cols, rows, rfl, hR, fT, hc, hc1, hc2, hrs, hrn, q⟩ := h
    obtain ⟨t, R, vs, rfl, ht, hRR, fvs⟩ := tab_open fT
    refine ⟨_, (pss_cons (ps_asg (pv 1) (pgT K (n := 2) (pgs_cons (pg_name (i := 2) sc_l_question.nd rfl (.inl rfl)) (pgs_cons (pg_name (i := 3) sc_l_question.nd rfl (.inl rfl)) pgs_nil))))
      (pss_cons (ps_set (i := 5) sc_l_question.nd rfl (.inl rfl) (pe_callTy (cTupSq K) (by rfl) T.m_tuple (by decide +kernel) (pa_cons (pe_lc (own := [("letter", 4)]) (tt := tYes) (by rfl) sc_l_question.nd (pi_str (pv 2)) (blkOk_by (own := [("letter", 4)]) (by kernel_rfl)) (fun _ _ _ _ _ => (pg_name (i := 4) sc_l_question.nd rfl (.inl rfl))) (fun _ _ _ _ _ => pts_nil) (fun _ _ _ _ _ => (pe_call G_l_pick (hr.mono (by omega)) (by rfl) T.g_l_pick T.F_l_pick.kp T.b_l_pick .nil pass0 (pa_cons (pv 0) (pa_cons pe_int pa_nil))))) pa_nil)))
      (pss_mid (ps_if (PW.pt (pw_and (pt_cmpR (neDK K hr.units) (pv 3) (pe_tup pa_nil) (nomark _)) (pw_and1 (pt_cmpR op_gt (pe_call G_l_pick (hr.mono (by omega)) (by rfl) T.g_l_pick T.F_l_pick.kp T.b_l_pick .nil pass0 (pa_cons (pv 0) (pa_cons pe_int pa_nil))) pe_int (nomark _))))) (pss_one (ps_set (i := 5) sc_l_question.nd rfl (.inl rfl) (pe_ix (ixT K) (pv 3) (pe_call G_l_pick (hr.mono (by omega)) (by rfl) T.g_l_pick T.F_l_pick.kp T.b_l_pick .nil pass0 (pa_cons (pv 0) (pa_cons (pe_callB (cLenSq K) (by rfl) T.m_len (by decide +kernel) (pa_cons (pv 3) pa_nil)) pa_nil))) (fun _ _ => rfl)))) pss_nil)
      (pss_cons (ps_set (i := 6) sc_l_question.nd rfl (.inr rfl) (pe_lst pa_nil))
      (pss_cons (ps_for PassesOwn.never rfl (pi_enumS (by rfl) T.m_enumerate (pa_cons (pv 2) pa_nil)) (pgT K (n := 2) (pgs_cons (pg_name (i := 7) sc_l_question.nd rfl (.inl rfl)) (pgs_cons (pg_name (i := 4) sc_l_question.nd rfl (.inl rfl)) pgs_nil))) (pss_one (ps_if (pt_cmpR op_lt (pe_call G_l_pick (hr.mono (by omega)) (by rfl) T.g_l_pick T.F_l_pick.kp T.b_l_pick .nil pass0 (pa_cons (pv 0) (pa_cons pe_int pa_nil))) pe_int (nomark _)) (pss_one (ps_expr (bmK K PySem.F.plainAttrs_list PySem.F.slot_list_append PySem.F.type_list_append mt_append (pv 6) (pa_cons (pe_tup (pa_cons (pv 4) (pa_cons (pe_call G_l_near (hr.mono (by omega)) (by rfl) T.g_l_near T.F_l_near.kp T.b_l_near .nil pass0 (pa_cons (pv 0) (pa_cons (pv 3) (pa_cons (pv 7) (pa_cons (pv 5) pa_nil))))) pa_nil))) pa_nil)))) pss_nil)))
      (pss_cons (ps_setLc (i := 8) (own := [("letter", 4)]) (tt := _) (by rfl) sc_l_question.nd rfl rfl (sw_true rfl rfl rfl (by decide +kernel)) (pi_str (pv 2)) (blkOk_by (own := [("letter", 4)]) (by kernel_rfl)) (fun _ _ _ _ _ => (pg_name (i := 4) sc_l_question.nd rfl (.inl rfl))) (fun _ _ _ _ _ => (pts_one (pt_cmp (pc_dnotin (hu_of hr) (pv 4) (pe_callTy (cDictSq K) (by rfl) T.m_dict (by decide +kernel) (pa_cons (pv 6) pa_nil)))))) (fun _ _ _ _ _ => (pv 4)))
      (pss_cons (ps_if (PW.pt (pw_or (pt_cmpR (eqDK K hr.units) (pv 8) (pe_lst pa_nil) (nomark _)) (pw_or1 (pt_cmpR op_eq (pe_call G_l_pick (hr.mono (by omega)) (by rfl) T.g_l_pick T.F_l_pick.kp T.b_l_pick .nil pass0 (pa_cons (pv 0) (pa_cons pe_int pa_nil))) pe_int (nomark _))))) (pss_one (ps_ret (pe_tup (pa_cons (pe_callTy (cTupF K) (by rfl) T.m_tuple (by decide +kernel) (pa_cons (pv 6) pa_nil)) (pa_cons pe_non pa_nil))))) pss_nil)
      (pss_cons (ps_set (i := 4) sc_l_question.nd rfl (.inl rfl) (pe_ix (ixL K) (pv 8) (pe_call G_l_pick (hr.mono (by omega)) (by rfl) T.g_l_pick T.F_l_pick.kp T.b_l_pick .nil pass0 (pa_cons (pv 0) (pa_cons (pe_callB (cLenSq K) (by rfl) T.m_len (by decide +kernel) (pa_cons (pv 8) pa_nil)) pa_nil))) (fun _ _ => rfl)))
      (pss_cons (ps_set (i := 9) sc_l_question.nd rfl (.inl rfl) (bmK K PySem.F.plainAttrs_str PySem.F.slot_str_index PySem.F.type_str_index mt_sindex (pv 2) (pa_cons (pv 4) pa_nil)))
      (pss_cons (ps_asg (pe_callB cr_sortedI (by rfl) T.m_sorted (by decide +kernel) (pa_cons (pe_lst (pa_cons (pe_call G_l_near (hr.mono (by omega)) (by rfl) T.g_l_near T.F_l_near.kp T.b_l_near .nil pass0 (pa_cons (pv 0) (pa_cons (pv 3) (pa_cons (pv 9) (pa_cons (pv 5) pa_nil))))) (pa_cons (pe_call G_l_near (hr.mono (by omega)) (by rfl) T.g_l_near T.F_l_near.kp T.b_l_near .nil pass0 (pa_cons (pv 0) (pa_cons (pv 3) (pa_cons (pv 9) (pa_cons (pv 5) pa_nil))))) pa_nil))) pa_nil)) (pgU K (n := 2) (pgs_cons (pg_name (i := 10) sc_l_question.nd rfl (.inl rfl)) (pgs_cons (pg_name (i := 11) sc_l_question.nd rfl (.inl rfl)) pgs_nil))))
      (pss_one (ps_ret (pe_tup (pa_cons (pe_callTy (cTupF K) (by rfl) T.m_tuple (by decide +kernel) (pa_cons (pv 6) pa_nil)) (pa_cons (pe_tup (pa_cons (pv 4) (pa_cons (pv 10) (pa_cons (pe_callB (call_min2 rfl) (by rfl) T.m_min (by decide +kernel) (pa_cons pe_int (pa_cons (pe_op op_add (pv 11) (pe_ix (ixL K) (pe_lst (pa_cons pe_int (pa_cons pe_int (pa_cons pe_int (pa_cons pe_int pa_nil))))) (pe_call G_l_pick (hr.mono (by omega)) (by rfl) T.g_l_pick T.F_l_pick.kp T.b_l_pick .nil pass0 (pa_cons (pv 0) (pa_cons pe_int pa_nil))) (fun _ _ => rfl))) pa_nil))) pa_nil)))) pa_nil))))))))))))))), ?_⟩
    refine ⟨.ref t, rfl, t, [tx cols, .ref R], rfl, .inl (.inl ht), rfl, tx cols, [.ref R], rfl, .ref R, [], rfl, rfl, ?_⟩
    have ntr : t ≠ r := fun z => by
      rw [z, hR] at ht
      cases ht
    have nRr : R ≠ r := fun z => by
      rw [z, hR] at hRR
      cases hRR
    -- row
    refine ⟨tx cols, rfl, _, rfl, fun D nD => lc_it walk_str (fun i H' => ∃ (row : List Int) (n3 : Int), Kp r H H' ∧ H' r = some (.lst [.int n3]) ∧ H' D = some (.lst (row.map V.int)) ∧ row.length = i ∧ ∀ x ∈ row, 0 ≤ x ∧ x < 1000)
      ⟨[], n, Kp.rfl'.new nD, by rw [upd_ne (ne_of_none hR nD)]; exact hR, upd_same, rfl, fun t ht => nomatch ht⟩ (fun _ _ _ _ => trivial) (fun i x H3 H4 hi hP hY => ?_) (fun H3 hP => ?_)⟩
    · obtain ⟨row, n3, kp3, hR3, hD3, hl3, ht3⟩ := hP
      obtain ⟨rfl, c, hc4, rfl⟩ := hY
      have nDr : D ≠ r := (ne_of_none hR nD).symm
      have hi2 : i < cols.length := hi
      refine ⟨rfl, .ref r, rfl, r, n3, 5, rfl, hR3, by decide, by decide, fun e n4 e0 e1 => ?_⟩
      refine ⟨row.map V.int, by rw [upd_ne nDr]; exact hD3, by rw [List.length_map]; exact small1000 (by omega), row ++ [e], n4, (kp3.own).mut nD, by rw [upd_ne nDr.symm, upd_same], by rw [upd_same, List.map_append]; rfl, by rw [List.length_append, hl3]; rfl, fun u hu => ?_⟩
      rcases List.mem_append.mp hu with hu | hu
      · exact ht3 u hu
      · rw [List.mem_singleton.mp hu]
        exact ⟨e0, by omega⟩
    · obtain ⟨row0, n3, kp3, hR3, hD3, hl3, ht3⟩ := hP
      refine ⟨D, _, rfl, .inl ⟨.inl (.inl hD3), fun ra nra => ?_⟩⟩
      have hrow0 : RowOk cols.length row0 := ⟨hl3, ht3⟩
      have kpa : Kp r H (upd H3 ra (.tup (row0.map V.int))) := kp3.new nra
      have hRa : (upd H3 ra (.tup (row0.map V.int))) r = some (.lst [.int n3]) := by
        rw [upd_ne (ne_of_none hR3 nra)]
        exact hR3
      have fra : Fz (upd H3 ra (.tup (row0.map V.int))) (.ref ra) (rowD row0) := row_made nra
      generalize upd H3 ra (.tup (row0.map V.int)) = Ha at kpa hRa fra ⊢
      -- the row asked by
      refine ⟨fun σ H' => ∃ (rv : V) (row : List Int) (n' : Int), σ = [some (.ref r), some (.ref t), some (tx cols), some (.ref R), none, some rv, none, none, none, none, none, none] ∧ Kp r H H' ∧ H' r = some (.lst [.int n']) ∧ Fz H' rv (rowD row) ∧ RowOk cols.length row, ?_, ?_⟩
      · refine ⟨.ref R, rfl, (by show 0 ≤ sizeLine; decide), fun p np => ?_⟩
        have kpp : Kp r H (upd Ha p (.tup [])) := kpa.new np
        have hRp : (upd Ha p (.tup [])) r = some (.lst [.int n3]) := by
          rw [upd_ne (ne_of_none hRa np)]
          exact hRa
        have frp : Fz (upd Ha p (.tup [])) (.ref ra) (rowD row0) := fra.kt (.new np)
        have hp : Fz (upd Ha p (.tup [])) (.ref p) (.tuple []) := Fz.made np .nil
        have ktp : Kt H (upd Ha p (.tup [])) := kpp.kt hR
        have fRp : Fz (upd Ha p (.tup [])) (.ref R) (rowsD rows) := (Fz.tup hRR fvs).kt ktp
        generalize upd Ha p (.tup []) = Hp1 at kpp hRp frp hp fRp ktp ⊢
        refine ⟨_, _, fRp.to, hp.to, shaped_rows rows, shaped_rows [], _, rfl, ite2 (fun ee => ?_) (fun ee => ?_)⟩
        · have ne : rows ≠ [] := fun z => by
            rw [z] at ee
            exact absurd ee (by decide)
          have hpos : 0 < rows.length := List.length_pos_iff.mpr ne
          refine ⟨.ref r, rfl, r, n3, 6, rfl, hRp, by decide, by decide, fun d n4 d0 d1 => ⟨d, 0, rfl, rfl, _, rfl, ite2 (fun e6 => ?_) (fun e6 => ?_)⟩⟩
          · have hRR1 : (upd Hp1 r (.lst [.int n4])) R = some (.tup vs) := by
              rw [upd_ne nRr]
              exact ktp R _ hRR
            have hR5 : (upd Hp1 r (.lst [.int n4])) r = some (.lst [.int n4]) := upd_same
            have kt5 : Kt H (upd Hp1 r (.lst [.int n4])) := ktp.trans (.lst hRp)
            have kp5 : Kp r H (upd Hp1 r (.lst [.int n4])) := kpp.own
            generalize upd Hp1 r (.lst [.int n4]) = H5 at hRR1 hR5 kt5 kp5 ⊢
            have fvs5 := fvs.kt kt5
            have hvl : vs.length = rows.length := by
              rw [fvs5.len, List.length_map]
            refine ⟨.ref R, rfl, .ref r, rfl, .ref R, rfl, R, vs, rfl, .inr (.inl (.inl hRR1)), r, n4, _, rfl, hR5, by omega, by omega, fun f n6 f0 f1 => ?_⟩
            have hf : f.toNat < rows.length := by omega
            obtain ⟨v, hv, fv⟩ := fvs5.get (i := f.toNat) (d := rowD rows[f.toNat]) (by rw [List.getElem?_map, List.getElem?_eq_getElem hf]; rfl)
            refine ⟨R, vs, f, v, rfl, rfl, .inl (.inl (by rw [upd_ne nRr]; exact hRR1)), L2.at_of (j := f.toNat) (by omega) hv, ?_⟩
            exact ⟨v, rows[f.toNat], n6, rfl, kp5.own, upd_same, fv.kt (.lst hR5), hrs _ (List.getElem_mem hf)⟩
          · exact ⟨.ref ra, row0, n4, rfl, kpp.own, upd_same, frp.kt (.lst hRp), hrow0⟩
        · exact ⟨.ref ra, row0, n3, rfl, kpp, hRp, frp, hrow0⟩
      · intro σ1 H1 hM
        obtain ⟨rv, row, n1, rfl, kp1, hR1, frv, hrow⟩ := hM
        have kt1 : Kt H H1 := kp1.kt hR
        -- equals = []
        refine ⟨Nat.zero_le _, fun E nE => ?_⟩
        have nEr : E ≠ r := (ne_of_none hR1 nE).symm
        have nEH : H E = none := Kp.none kp1 nEr nE
        refine ⟨tx cols, rfl, _, rfl, for_it walk_es (fun i σ H' => ∃ (es : List (Nat × Int)) (ps : List V) (n' : Int) (y4 y7 : Option V), σ = [some (.ref r), some (.ref t), some (tx cols), some (.ref R), y4, some rv, some (.ref E), y7, none, none, none, none] ∧ Kp r H H' ∧ Kt H1 H' ∧ H' r = some (.lst [.int n']) ∧ H' E = some (.lst ps) ∧ FzA H' ps (es.map eqD) ∧ (es.map (·.1)).Sublist (cols.take i) ∧ ∀ p ∈ es, 0 ≤ p.2 ∧ p.2 < 1000)
          ⟨[], [], n1, none, none, rfl, kp1.new nE, .new nE, by rw [upd_ne nEr.symm]; exact hR1, upd_same, .nil, List.nil_sublist _, fun _ h => nomatch h⟩ (fun _ _ _ _ _ => trivial) (fun i x σ H3 H4 hi hP hY => ?_) (fun σ H3 hP => ?_)⟩
        · obtain ⟨es, ps, n3, y4, y7, rfl, kp3, kt3, hR3, hE3, fps, hsub, hes⟩ := hP
          obtain ⟨T0, x1, x2, rfl, nT, rfl, ex1, ex2⟩ := hY
          have hi2 : i < cols.length := hi
          have e1 : x1 = .int (i : Nat) := (Option.some.inj ex1).symm
          have e2 : x2 = sg cols[i] := by
            have : (some (sg cols[i]) : Option V) = some x2 := by
              rw [← ex2]
              simp [hi2]
            exact (Option.some.inj this).symm
          subst e1 e2
          have kt4 : Kt H3 (upd H3 T0 (.tup [.int (i : Nat), sg cols[i]])) := .new nT
          have kp4 : Kp r H (upd H3 T0 (.tup [.int (i : Nat), sg cols[i]])) := kp3.new nT
          have hR4 : (upd H3 T0 (.tup [.int (i : Nat), sg cols[i]])) r = some (.lst [.int n3]) := by
            rw [upd_ne (ne_of_none hR3 nT)]
            exact hR3
          have hE4 : (upd H3 T0 (.tup [.int (i : Nat), sg cols[i]])) E = some (.lst ps) := by
            rw [upd_ne (ne_of_none hE3 nT)]
            exact hE3
          refine ⟨T0, [.int (i : Nat), sg cols[i]], rfl, .inl (.inl upd_same), rfl, .int (i : Nat), [sg cols[i]], rfl, sg cols[i], [], rfl, rfl, ?_⟩
          have kt34 : Kt H1 (upd H3 T0 (.tup [.int (i : Nat), sg cols[i]])) := kt3.trans kt4
          have fps4 := fps.kt kt4
          clear kt4
          generalize upd H3 T0 (.tup [.int (i : Nat), sg cols[i]]) = H4 at kp4 hR4 hE4 kt34 fps4 ⊢
          have hsub1 : (es.map (·.1)).Sublist (cols.take (i + 1)) := hsub.trans (List.take_sublist_take_left (Nat.le_succ i))
          refine ⟨.ref r, rfl, r, n3, 5, rfl, hR4, by decide, by decide, fun d n5 d0 d1 => ⟨d, 2, rfl, rfl, _, rfl, ite2 (fun e => ?_) (fun e => ?_)⟩⟩
          · have kt5 : Kt H4 (upd H4 r (.lst [.int n5])) := .lst hR4
            have hE5 : (upd H4 r (.lst [.int n5])) E = some (.lst ps) := by
              rw [upd_ne nEr]
              exact hE4
            have hR5 : (upd H4 r (.lst [.int n5])) r = some (.lst [.int n5]) := upd_same
            have kp5 : Kp r H (upd H4 r (.lst [.int n5])) := kp4.own
            have fps5 := fps4.kt kt5
            have kt15 := kt34.trans kt5
            clear kt5
            generalize upd H4 r (.lst [.int n5]) = H5 at hE5 hR5 kp5 fps5 kt15 ⊢
            have fR5 : Fz H5 (.ref R) (rowsD rows) := (Fz.tup hRR fvs).kt (kt1.trans kt15)
            refine ⟨.ref E, rfl, .inl ⟨rfl, _, .inl (.inl hE5)⟩, sg cols[i], rfl, .ref r, rfl, .ref R, rfl, .int (i : Nat), rfl, rv, rfl, r, n5, .ref R, rows, i, rv, row, cols.length, rfl, hR5, fR5, frv.kt kt15, hrs, hrow, hi2, hrn, fun x n6 H6 kp6 hR6 x0 x1 => ?_⟩
            refine ⟨(by show 2 ≤ sizeLine; decide), fun p np => ?_⟩
            have hE6 : H6 E = some (.lst ps) := kp6 E _ nEr hE5
            have hE7 : (upd H6 p (.tup [sg cols[i], .int x])) E = some (.lst ps) := by
              rw [upd_ne (ne_of_none hE6 np)]
              exact hE6
            have kt6 : Kt H5 H6 := kp6.kt hR5
            have kt7 : Kt H6 (upd H6 p (.tup [sg cols[i], .int x])) := .new np
            have fp : Fz (upd H6 p (.tup [sg cols[i], .int x])) (.ref p) (eqD (cols[i], x)) := Fz.made np (.cons (.str _) (.cons (.int _) .nil))
            have hpl : ps.length ≤ 26 := by
              rw [fps.len, List.length_map]
              have := hsub.length_le
              rw [List.length_map, List.length_take] at this
              omega
            refine ⟨E, ps, .ref p, rfl, rfl, hE7, small1000 (by omega), es ++ [(cols[i], x)], ps ++ [.ref p], n6, _, _, rfl, ?_, ?_, ?_, upd_same, ?_, ?_, ?_⟩
            · exact ((kp5.trans kp6).new np).mut nEH
            · exact ((kt15.trans kt6).trans kt7).trans (.lst hE7)
            · rw [upd_ne nEr.symm, upd_ne (ne_of_none hR6 np)]
              exact hR6
            · rw [List.map_append]
              exact (FzA.snoc ((fps5.kt kt6).kt kt7) fp).kt (.lst hE7)
            · rw [List.map_append, List.take_succ_eq_append_getElem hi2]
              exact hsub.append (List.Sublist.refl _)
            · intro u hu
              rcases List.mem_append.mp hu with hu | hu
              · exact hes u hu
              · rw [List.mem_singleton.mp hu]
                exact ⟨x0, x1⟩
          · exact ⟨es, ps, n5, _, _, rfl, kp4.own, kt34.trans (.lst hR4), upd_same, by rw [upd_ne nEr]; exact hE4, fps4.kt (.lst hR4), hsub1, hes⟩
        · obtain ⟨es, ps, n3, y4, y7, rfl, kp3, kt3, hR3, hE3, fps, hsub, hes⟩ := hP
          have hsub2 : (es.map (·.1)).Sublist cols := by
            have : cols.take (⟨cols.toArray⟩ : Str).cps.size = cols := List.take_of_length_le (Nat.le_refl _)
            rw [this] at hsub
            exact hsub
          have hup : (es.map (·.1)).Pairwise (· < ·) := hc.up.sublist hsub2
          have hnd : (es.map (·.1)).Nodup := hc.nd.sublist hsub2
          have hok : ∀ p ∈ es, p.1 ∈ cols ∧ 0 ≤ p.2 ∧ p.2 < 1000 := fun p hp => ⟨hsub2.subset (List.mem_map_of_mem hp), hes p hp⟩
          have hesl : es.length ≤ cols.length := by
            have := hsub2.length_le
            rw [List.length_map] at this
            exact this
          have nRH : ∀ {H' : Hp}, Kt H1 H' → Fz H' (.ref R) (rowsD rows) := fun k => (Fz.tup hRR fvs).kt (kt1.trans k)
          -- left
          refine ⟨tx cols, rfl, _, rfl, fun D nD => lc_it walk_str (fun i H' => Kp r H H' ∧ Kt H3 H' ∧ H' r = some (.lst [.int n3]) ∧ H' E = some (.lst ps) ∧ H' D = some (.lst (((cols.take i).filter fun c => !decide (c ∈ es.map (·.1))).map sg)))
            ⟨kp3.new nD, .new nD, by rw [upd_ne (ne_of_none hR3 nD)]; exact hR3, by rw [upd_ne (ne_of_none hE3 nD)]; exact hE3, upd_same⟩ (fun _ _ _ _ => trivial) (fun i x H4 H5 hi hP hY => ?_) (fun H4 hP => ?_)⟩
          · obtain ⟨kp4, kt4, hR4, hE4, hD4⟩ := hP
            obtain ⟨rfl, c, hc5, rfl⟩ := hY
            have hi2 : i < cols.length := hi
            have ec : cols[i] = c := by
              have : (⟨cols.toArray⟩ : Str).cps[i]? = some cols[i] := by simp [hi2]
              rw [this] at hc5
              exact Option.some.inj hc5
            obtain ⟨pas, rfl, hpas⟩ := pairs_of (K := K) (fps.kt kt4)
            refine ⟨rfl, sg c, rfl, .ref E, rfl, E, pas, es.map kvI, rfl, .inl (.inl hE4), hpas, fun d nd => ?_⟩
            rw [merge_es hnd]
            have nDH : H D = none := Kp.none kp3 (ne_of_none hR3 nD).symm nD
            have nDr : D ≠ r := (ne_of_none hR3 nD).symm
            have nDE : D ≠ E := (ne_of_none hE3 nD).symm
            have kt5 : Kt H3 (upd H5 d (.dK (es.map kvI))) := kt4.trans (.new nd)
            have kp5 : Kp r H (upd H5 d (.dK (es.map kvI))) := kp4.new nd
            have hR5 : (upd H5 d (.dK (es.map kvI))) r = some (.lst [.int n3]) := by
              rw [upd_ne (ne_of_none hR4 nd)]
              exact hR4
            have hE5 : (upd H5 d (.dK (es.map kvI))) E = some (.lst (pas.map V.ref)) := by
              rw [upd_ne (ne_of_none hE4 nd)]
              exact hE4
            have hD5 : (upd H5 d (.dK (es.map kvI))) D = some (.lst (((cols.take i).filter fun c => !decide (c ∈ es.map (·.1))).map sg)) := by
              rw [upd_ne (ne_of_none hD4 nd)]
              exact hD4
            have tk : cols.take (i + 1) = cols.take i ++ [c] := by
              rw [List.take_succ_eq_append_getElem hi2, ec]
            refine ⟨d, _, rfl, DGet.k (k := Sum.inr (sS c)) upd_same, _, rfl, ?_⟩
            rw [val_es]
            refine ite2 (fun e => ?_) (fun e => ?_)
            · have e2 : (!decide (c ∈ es.map (·.1))) = true := e
              refine ⟨sg c, rfl, _, hD5, ?_, kp5.mut nDH, kt5.trans (.lst hD5), by rw [upd_ne nDr.symm]; exact hR5, by rw [upd_ne nDE.symm]; exact hE5, ?_⟩
              · rw [List.length_map]
                have := List.length_filter_le (fun c => !decide (c ∈ es.map (·.1))) (cols.take i)
                rw [List.length_take] at this
                exact small1000 (by omega)
              · rw [upd_same, tk, List.filter_append, List.filter_cons, if_pos e2, List.map_append]
                rfl
            · have e2 : ¬ (!decide (c ∈ es.map (·.1))) = true := e
              refine ⟨kp5, kt5, hR5, hE5, ?_⟩
              rw [hD5, tk, List.filter_append, List.filter_cons, if_neg e2]
              simp
          · obtain ⟨kp4, kt4, hR4, hE4, hD4⟩ := hP
            have tkall : cols.take (⟨cols.toArray⟩ : Str).cps.size = cols := List.take_of_length_le (Nat.le_refl _)
            rw [tkall] at hD4
            generalize hll : (cols.filter fun c => !decide (c ∈ es.map (·.1))) = ll at hD4
            have hlm : ∀ c ∈ ll, c ∈ cols ∧ c ∉ es.map (·.1) := fun c h => by
              rw [← hll] at h
              obtain ⟨h1, h2⟩ := List.mem_filter.mp h
              exact ⟨h1, by simpa using h2⟩
            have kt14 : Kt H1 H4 := kt3.trans kt4
            have fps4 := fps.kt kt4
            have retN : ∀ (H' : Hp) (n' : Int), Kp r H H' → H' r = some (.lst [.int n']) → H' E = some (.lst ps) → FzA H' ps (es.map eqD) → tRet (tTup (tCons (tCB (rTupF K) (tCons (tVar 6) tNil)) (tCons (tC V.non) tNil))) { nx := fun x H' => Q V.non H', rt := Q } [some (.ref r), some (.ref t), some (tx cols), some (.ref R), y4, some rv, some (.ref E), y7, some (.ref D), none, none, none] H' := by
              intro H' n' kp' hR' hE' f'
              refine ⟨.ref E, rfl, E, ps, rfl, .inl (.inl hE'), fun te ob nte hob => ⟨(by show 2 ≤ sizeLine; decide), fun v nv => ?_⟩⟩
              have f1 : EZ (upd H' te (.frz ob (.tup ps))) (.ref te) es := EZ.made nte hob f'
              have hR2 : (upd H' te (.frz ob (.tup ps))) r = some (.lst [.int n']) := by
                rw [upd_ne (ne_of_none hR' nte)]
                exact hR'
              exact q es none (.ref v) n' _ ((kp'.new nte).new nv) (by rw [upd_ne (ne_of_none hR2 nv)]; exact hR2) (QZ.made (rc := none) nv f1 .non) ⟨hup, hok, hesl, fun c lo hi z => nomatch z⟩
            -- left == [] or ..
            refine ⟨.ref D, rfl, (by show 0 ≤ sizeLine; decide), fun p np => ?_⟩
            have hDp : (upd H4 p (.lst [])) D = some (.lst (ll.map sg)) := by
              rw [upd_ne (ne_of_none hD4 np)]
              exact hD4
            have kpp : Kp r H (upd H4 p (.lst [])) := kp4.new np
            have hRp : (upd H4 p (.lst [])) r = some (.lst [.int n3]) := by
              rw [upd_ne (ne_of_none hR4 np)]
              exact hR4
            have hEp : (upd H4 p (.lst [])) E = some (.lst ps) := by
              rw [upd_ne (ne_of_none hE4 np)]
              exact hE4
            have fpsp := fps4.kt (Kt.new np (o := .lst []))
            have ktp : Kt H1 (upd H4 p (.lst [])) := kt14.trans (.new np)
            have hpp : (upd H4 p (.lst [])) p = some (.lst []) := upd_same
            generalize upd H4 p (.lst []) = H5 at hDp kpp hRp hEp fpsp ktp hpp ⊢
            refine ⟨_, _, .lst (.inl (.inl hDp)) (dp_signs ll), .lst (.inl (.inl hpp)) .nil, shaped_signs (fun c h => (hc.az c (hlm c h).1).2), shaped_signs (l := []) (fun c h => nomatch h), _, rfl, ite2 (fun e => ?_) (fun e => ?_)⟩
            · exact retN H5 n3 kpp hRp hEp fpsp
            · have lne : ll ≠ [] := fun z => by
                rw [z] at e
                exact e rfl
              have lpos : 0 < ll.length := List.length_pos_iff.mpr lne
              have llen : ll.length ≤ 26 := by
                rw [← hll]
                have := List.length_filter_le (fun c => !decide (c ∈ es.map (·.1))) cols
                omega
              refine ⟨.ref r, rfl, r, n3, 2, rfl, hRp, by decide, by decide, fun d n6 d0 d1 => ⟨rfl, _, rfl, ite2 (fun e6 => ?_) (fun e6 => ?_)⟩⟩
              · exact retN _ n6 kpp.own upd_same (by rw [upd_ne nEr]; exact hEp) (fpsp.kt (.lst hRp))
              · have nDr : D ≠ r := (ne_of_none hR3 nD).symm
                have hD6 : (upd H5 r (.lst [.int n6])) D = some (.lst (ll.map sg)) := by
                  rw [upd_ne nDr]
                  exact hDp
                have hE6 : (upd H5 r (.lst [.int n6])) E = some (.lst ps) := by
                  rw [upd_ne nEr]
                  exact hEp
                have hR6 : (upd H5 r (.lst [.int n6])) r = some (.lst [.int n6]) := upd_same
                have kp6 : Kp r H (upd H5 r (.lst [.int n6])) := kpp.own
                have kt6 : Kt H1 (upd H5 r (.lst [.int n6])) := ktp.trans (.lst hRp)
                have fps6 := fpsp.kt (Kt.lst hRp (o := .lst [.int n6]))
                generalize upd H5 r (.lst [.int n6]) = H6 at hD6 hE6 hR6 kp6 kt6 fps6 ⊢
                -- letter
                refine ⟨.ref D, rfl, .ref r, rfl, .ref D, rfl, D, _, rfl, .inl (.inl (.inl hD6)), r, n6, _, rfl, hR6, by rw [List.length_map]; omega, by rw [List.length_map]; omega, fun f n7 f0 f1 => ?_⟩
                rw [List.length_map] at f1
                have hf : f.toNat < ll.length := by omega
                have hlc := hlm ll[f.toNat] (List.getElem_mem hf)
                have hD7 : (upd H6 r (.lst [.int n7])) D = some (.lst (ll.map sg)) := by
                  rw [upd_ne nDr]
                  exact hD6
                have hE7 : (upd H6 r (.lst [.int n7])) E = some (.lst ps) := by
                  rw [upd_ne nEr]
                  exact hE6
                have hR7 : (upd H6 r (.lst [.int n7])) r = some (.lst [.int n7]) := upd_same
                have kp7 : Kp r H (upd H6 r (.lst [.int n7])) := kp6.own
                have kt7 : Kt H1 (upd H6 r (.lst [.int n7])) := kt6.trans (.lst hR6)
                have fps7 := fps6.kt (Kt.lst hR6 (o := .lst [.int n7]))
                generalize upd H6 r (.lst [.int n7]) = H7 at hD7 hE7 hR7 kp7 kt7 fps7 ⊢
                generalize hcc : ll[f.toNat] = cc at hlc
                refine ⟨D, ll.map sg, f, sg cc, rfl, rfl, .inl (.inl hD7), L2.at_of (j := f.toNat) (by omega) (by rw [List.getElem?_map, List.getElem?_eq_getElem hf, hcc]; rfl), ?_⟩
                -- at
                obtain ⟨orest, hocc⟩ := ix_one hlc.1
                have hidx : cols.idxOf cc < cols.length := List.idxOf_lt_length_of_mem hlc.1
                refine ⟨tx cols, rfl, rfl, sg cc, rfl, _, _, cols.idxOf cc, orest, rfl, rfl, hocc, ?_⟩
                -- low, high
                refine ⟨.ref r, rfl, .ref R, rfl, .int (cols.idxOf cc : Nat), rfl, rv, rfl, r, n7, .ref R, rows, _, rv, row, cols.length, rfl, hR7, nRH kt7, frv.kt kt7, hrs, hrow, hidx, hrn, fun x1 n8 H8 kp8 hR8 x10 x11 => ?_⟩
                have kt8 : Kt H1 H8 := kt7.trans (kp8.kt hR7)
                refine ⟨.ref r, rfl, .ref R, rfl, .int (cols.idxOf cc : Nat), rfl, rv, rfl, r, n8, .ref R, rows, _, rv, row, cols.length, rfl, hR8, nRH kt8, frv.kt kt8, hrs, hrow, hidx, hrn, fun x2 n9 H9 kp9 hR9 x20 x21 => ?_⟩
                refine ⟨(by show 2 ≤ sizeLine; decide), fun L nL => ?_⟩
                refine ⟨L, [x1, x2], rfl, .inl (.inl upd_same), fun ns p2 hper hpw np2 => ?_⟩
                have hnl : ns.length = 2 := hper.length_eq
                obtain ⟨lo, hi, rfl⟩ : ∃ lo hi, ns = [lo, hi] := by
                  match ns, hnl with
                  | [a, b], _ => exact ⟨a, b, rfl⟩
                have hlohi : lo ≤ hi := (List.pairwise_cons.mp hpw).1 hi (by simp)
                have hbd : ∀ z ∈ [lo, hi], 0 ≤ z ∧ z < 1000 := fun z hz => by
                  have := hper.mem_iff.mp hz
                  rcases List.mem_cons.mp this with h | h
                  · rw [h]
                    exact ⟨x10, x11⟩
                  · rw [List.mem_singleton.mp h]
                    exact ⟨x20, x21⟩
                have blo := hbd lo (by simp)
                have bhi := hbd hi (by simp)
                refine ⟨p2, [.int lo, .int hi], rfl, .inl (.inl upd_same), rfl, .int lo, [.int hi], rfl, .int hi, [], rfl, rfl, ?_⟩
                have kpA : Kp r H (upd (upd H9 L (.lst [.int x1, .int x2])) p2 (.lst (List.map V.int [lo, hi]))) := (((kp7.trans kp8).trans kp9).new nL).new np2
                have hEB : H9 E = some (.lst ps) := kp9 E _ nEr (kp8 E _ nEr hE7)
                have hEC : (upd H9 L (.lst [.int x1, .int x2])) E = some (.lst ps) := by
                  rw [upd_ne (ne_of_none hEB nL)]
                  exact hEB
                have hEA : (upd (upd H9 L (.lst [.int x1, .int x2])) p2 (.lst (List.map V.int [lo, hi]))) E = some (.lst ps) := by
                  rw [upd_ne (ne_of_none hEC np2)]
                  exact hEC
                have hRC : (upd H9 L (.lst [.int x1, .int x2])) r = some (.lst [.int n9]) := by
                  rw [upd_ne (ne_of_none hR9 nL)]
                  exact hR9
                have hRA : (upd (upd H9 L (.lst [.int x1, .int x2])) p2 (.lst (List.map V.int [lo, hi]))) r = some (.lst [.int n9]) := by
                  rw [upd_ne (ne_of_none hRC np2)]
                  exact hRC
                have fpsA : FzA (upd (upd H9 L (.lst [.int x1, .int x2])) p2 (.lst (List.map V.int [lo, hi]))) ps (es.map eqD) := (((fps7.kt (kp8.kt hR7)).kt (kp9.kt hR8)).kt (.new nL)).kt (.new np2)
                generalize upd (upd H9 L (.lst [.int x1, .int x2])) p2 (.lst (List.map V.int [lo, hi])) = HA at kpA hEA hRA fpsA ⊢
                -- the end
                refine ⟨.ref E, rfl, E, ps, rfl, .inl (.inl hEA), fun te ob nte hob => ?_⟩
                have f1 : EZ (upd HA te (.frz ob (.tup ps))) (.ref te) es := EZ.made nte hob fpsA
                have kpB : Kp r H (upd HA te (.frz ob (.tup ps))) := kpA.new nte
                have hRB : (upd HA te (.frz ob (.tup ps))) r = some (.lst [.int n9]) := by
                  rw [upd_ne (ne_of_none hRA nte)]
                  exact hRA
                generalize upd HA te (.frz ob (.tup ps)) = HB at f1 kpB hRB ⊢
                refine ⟨sg cc, rfl, .int lo, rfl, .int hi, rfl, (by show 4 ≤ sizeLine; decide), fun L2 nL2 => ?_⟩
                have nL2r : L2 ≠ r := (ne_of_none hRB nL2).symm
                refine ⟨.ref r, rfl, r, n9, 4, rfl, by rw [upd_ne nL2r.symm]; exact hRB, by decide, by decide, fun g nA g0 g1 => ?_⟩
                obtain ⟨tt, htt, htat⟩ := at_ints (ns := [0, 0, 1, 400]) g0 g1
                have htt2 : 0 ≤ tt := by
                  have : ∀ z ∈ ([0, 0, 1, 400] : List Int), 0 ≤ z := by decide
                  exact this tt htt
                refine ⟨L2, [0, 0, 1, 400].map V.int, g, .int tt, rfl, rfl, .inl (.inl (by rw [upd_ne nL2r, upd_same]; rfl)), htat, hi, tt, rfl, rfl, 999, _, rfl, (by show 3 ≤ sizeLine; decide), fun tr ntr2 => ⟨(by show 2 ≤ sizeLine; decide), fun v nv => ?_⟩⟩
                have hRC2 : (upd (upd HB L2 (.lst [.int 0, .int 0, .int 1, .int 400])) r (.lst [.int nA])) r = some (.lst [.int nA]) := upd_same
                have kpC : Kp r H (upd (upd HB L2 (.lst [.int 0, .int 0, .int 1, .int 400])) r (.lst [.int nA])) := (kpB.new nL2).own
                have ktC : KT HB (upd (upd HB L2 (.lst [.int 0, .int 0, .int 1, .int 400])) r (.lst [.int nA])) := (KT.new nL2).trans (.lst (by rw [upd_ne nL2r.symm]; exact hRB))
                have fr := Fz.made ntr2 (.cons (.str (sS cc)) (.cons (.int lo) (.cons (.int (if hi + tt < 999 then hi + tt else 999)) .nil)))
                refine q es (some (cc, lo, if hi + tt < 999 then hi + tt else 999)) (.ref v) nA _ ((kpC.new ntr2).new nv) ?_ (QZ.made (rc := some _) nv ((f1.kT ktC).kT (.new ntr2)) fr) ⟨hup, hok, hesl, fun c l2 h2 z => ?_⟩
                · exact keep_new (keep_new hRC2 ntr2) nv
                · have z2 := Option.some.inj z
                  have e1 : cc = c := congrArg (·.1) z2
                  have e2 : lo = l2 := congrArg (·.2.1) z2
                  have e3 : (if hi + tt < 999 then hi + tt else 999) = h2 := congrArg (·.2.2) z2
                  rw [← e1, ← e2, ← e3]
                  refine ⟨hlc.1, hlc.2, blo.1, ?_, ?_⟩
                  · split <;> omega
                  · split <;> omega

/-! ### _law_one -/
def spOne (K : PySem.W.Frag) : Sp := fun vs H Q _ => ∃ (r : Addr) (n : Int) (cols : List Nat), vs = [.ref r, tx cols] ∧ H r = some (.lst [.int n]) ∧ 0 < cols.length ∧ cols.length ≤ 26 ∧ ∀ (one rest : List Nat) (n' : Int) (H' : Hp), Kp r H H' → H' r = some (.lst [.int n']) → (rest ++ one).Perm cols → 0 < one.length → Q (tx one) H'
theorem ok_one (T : Tx K mg Z) : FnOk P w K mg base CX0 2 Z.f_l_one Z.d_l_one ["reel", "columns"] (spOne K) := by
  have G_l_pick : FnOk P w K mg base CX0 1 Z.f_l_pick Z.d_l_pick ["reel", "many"] (spPick K) := ok_pick T
  refine T.F_l_one.ok sc_l_one (fun vs H Q E h => ?_) (fun cdv A outer s H vs Q E hr h => ?_)
  · obtain ⟨r, n, cols, rfl, _⟩ := h
    rfl
  · obtain ⟨r, n, cols, rfl, hR, hc0, hc1, q⟩ := h
    refine ⟨_, (pss_cons (ps_set (i := 2) sc_l_one.nd rfl (.inl rfl) (pe_callTy call_list_txt (by rfl) T.m_list (by decide +kernel) (pa_cons (pv 1) pa_nil)))
      (pss_cons (ps_set (i := 3) sc_l_one.nd rfl (.inl rfl) pe_str)
      (pss_cons (ps_for PassesOwn.never rfl (pi_range1 (by rfl) T.m_range (pa_cons (pe_op op_add pe_int (pe_call G_l_pick (hr.mono (by omega)) (by rfl) T.g_l_pick T.F_l_pick.kp T.b_l_pick .nil pass0 (pa_cons (pv 0) (pa_cons (pe_callB call_len_str (by rfl) T.m_len (by decide +kernel) (pa_cons (pv 1) pa_nil)) pa_nil)))) pa_nil)) (pg_name (i := 4) sc_l_one.nd rfl (.inl rfl)) (pss_one (ps_set (i := 3) sc_l_one.nd rfl (.inl rfl) (pe_op op_add_str (pv 3) (bmK K PySem.F.plainAttrs_list PySem.F.slot_list_pop PySem.F.type_list_pop mt_popAt (pv 2) (pa_cons (pe_call G_l_pick (hr.mono (by omega)) (by rfl) T.g_l_pick T.F_l_pick.kp T.b_l_pick .nil pass0 (pa_cons (pv 0) (pa_cons (pe_callB (cLenSq K) (by rfl) T.m_len (by decide +kernel) (pa_cons (pv 2) pa_nil)) pa_nil))) pa_nil))))))
      (pss_one (ps_ret (pv 3)))))), ?_⟩
    refine ⟨tx cols, rfl, _, rfl, by show cols.length ≤ sizeLine; exact Nat.le_of_lt (small1000 (by omega)), fun L nL => ?_⟩
    have ea : (⟨cols.toArray⟩ : Str).cps.toList = cols := by simp
    rw [ea]
    have nLr : L ≠ r := (ne_of_none hR nL).symm
    have hR1 : (upd H L (.lst (cols.map sg))) r = some (.lst [.int n]) := keep_new hR nL
    have hlc : (⟨cols.toArray⟩ : Str).length = cols.length := by
      show cols.toArray.size = cols.length
      simp
    refine ⟨.ref r, rfl, tx cols, rfl, _, rfl, by rw [hlc]; exact Nat.le_of_lt (small1000 (by omega)), r, n, _, rfl, hR1, by rw [hlc]; omega, by rw [hlc]; omega, fun d n1 d0 d1 => ?_⟩
    rw [hlc] at d1
    refine ⟨1, d, rfl, rfl, _, rfl, by omega, by omega, ?_⟩
    refine for_range (fun i σ H' => ∃ (ll ff : List Nat) (n' : Int) (y : Option V), σ = [some (.ref r), some (tx cols), some (.ref L), some (tx ff), y] ∧ Kp r H H' ∧ H' r = some (.lst [.int n']) ∧ H' L = some (.lst (ll.map sg)) ∧ (ll ++ ff).Perm cols ∧ ff.length = i)
      ⟨cols, [], n1, none, rfl, (Kp.new Kp.rfl' nL).own, upd_same, ?_, by rw [List.append_nil], rfl⟩ (fun i σ H' hi hP => ?_) (fun σ H' hP => ?_)
    · rw [upd_ne nLr, upd_same]
    · obtain ⟨ll, ff, n2, y, rfl, kp, hR2, hL, hp, hl⟩ := hP
      have hlen : ll.length + ff.length = cols.length := by
        have := hp.length_eq
        rw [List.length_append] at this
        exact this
      have hll : 0 < ll.length := by omega
      refine ⟨tx ff, rfl, .ref L, rfl, .inl ⟨rfl, _, .inl (.inl hL)⟩, .ref r, rfl, .ref L, rfl, L, _, rfl, .inl (.inl (.inl hL)), r, n2, _, rfl, hR2, ?_, ?_, fun g n3 g0 g1 => ?_⟩
      · rw [List.length_map]
        omega
      · rw [List.length_map]
        omega
      · rw [List.length_map] at g1
        have hg : g.toNat < ll.length := by omega
        have hL2 : (upd H' r (.lst [.int n3])) L = some (.lst (ll.map sg)) := by
          rw [upd_ne nLr]
          exact hL
        have hy : ll[g.toNat]? = some ll[g.toNat] := List.getElem?_eq_getElem hg
        refine ⟨L, _, g, g.toNat, sg ll[g.toNat], rfl, rfl, hL2, by omega, by omega, PySem.seqIndex_of g0 (by rw [List.length_map]; exact g1), ?_, _, _, rfl, rfl, ?_, ?_⟩
        · rw [List.getElem?_map, hy]
          rfl
        · show ff.length + 1 ≤ sizeLine
          exact Nat.le_of_lt (small1000 (by omega))
        · refine ⟨ll.eraseIdx g.toNat, ff ++ [ll[g.toNat]], n3, some (.int (0 + (i : Nat))), ?_, (Kp.own kp).mut nL, ?_, ?_, (popped hy ff).trans hp, by rw [List.length_append, hl]; rfl⟩
          · have e1 : tx (ff ++ [ll[g.toNat]]) = .str ((⟨ff.toArray⟩ : Str) ++ (⟨[ll[g.toNat]].toArray⟩ : Str)) := by
              rw [app_txt]
            rw [e1]
            rfl
          · rw [upd_ne nLr.symm, upd_same]
          · rw [upd_same, erase_map]
    · obtain ⟨ll, ff, n2, y, rfl, kp, hR2, hL, hp, hl⟩ := hP
      exact ⟨_, rfl, q ff ll n2 _ kp hR2 hp (by omega)⟩

/-! ### letters_of -/
def spLetters (K : PySem.W.Frag) : Sp := fun vs H Q _ => ∃ (ev : V) (es : List (Nat × Int)), vs = [ev] ∧ EZ H ev es ∧ es.length ≤ 1000 ∧ ∀ (p : Addr) (H' : Hp), Same H H' → H p = none → H' p = some (.lst ((es.map (·.1)).map sg)) → Q (.ref p) H'
theorem ok_letters (T : Tx K mg Z) : FnOk P w K mg base CX0 1 Z.f_letters_of Z.d_letters_of ["equals"] (spLetters K) := by
  refine T.F_letters_of.ok sc_letters_of (fun vs H Q E h => ?_) (fun cdv A outer s H vs Q E hr h => ?_)
  · obtain ⟨ev, es, rfl, _⟩ := h
    rfl
  · obtain ⟨ev, es, rfl, fe, hel, q⟩ := h
    obtain ⟨ea, ob, ps, rfl, hob, hea, fps⟩ := fe
    have hpl : ps.length = es.length := by rw [fps.len, List.length_map]
    refine ⟨_, (pss_one (ps_ret (pe_lc (own := [("letter", 1), ("number", 2)]) (tt := tYes) (by rfl) sc_letters_of.nd (piT K (pv 0)) (blkOk_by (own := [("letter", 1), ("number", 2)]) (by kernel_rfl)) (fun _ _ _ _ _ => (pgT K (n := 2) (pgs_cons (pg_name (i := 1) sc_letters_of.nd rfl (.inl rfl)) (pgs_cons (pg_name (i := 2) sc_letters_of.nd rfl (.inl rfl)) pgs_nil)))) (fun _ _ _ _ _ => pts_nil) (fun _ _ _ _ _ => (pv 1))))), ?_⟩
    refine ⟨.ref ea, rfl, ea, rfl, ⟨_, .inl (.inr ⟨_, hea⟩)⟩, fun D nD => lc_it (walk_tup (xs := ps)) (fun i H' => Same H H' ∧ H' D = some (.lst (((es.take i).map (·.1)).map sg)))
      ⟨Same.new (Same.refl H) nD, upd_same⟩ (fun i H' _ hP => .inl (.inr ⟨_, hP.1 _ _ hea⟩)) (fun i x H3 H4 hi hP hY => ?_) (fun H3 hP => ?_)⟩
    · obtain ⟨sm, hD⟩ := hP
      obtain ⟨rfl, hx⟩ := hY
      obtain ⟨dd, hdd, fd⟩ := fps.getV hx
      rw [List.getElem?_map] at hdd
      obtain ⟨pr, hpr, rfl⟩ := Option.map_eq_some_iff.mp hdd
      have hi2 : i < es.length := (List.getElem?_eq_some_iff.mp hpr).1
      have epr : es[i] = pr := (List.getElem?_eq_some_iff.mp hpr).2
      obtain ⟨pa, ys, rfl, hpa, fy2⟩ := fd.open
      obtain ⟨c, v, rfl, fc, fv⟩ := fy2.two
      rw [fc.isStr, fv.isInt] at hpa
      refine ⟨pa, [sg pr.1, .int pr.2], rfl, .inl (.inl (sm _ _ hpa)), rfl, sg pr.1, [.int pr.2], rfl, .int pr.2, [], rfl, rfl, rfl, sg pr.1, rfl, _, hD, ?_, Same.mut sm nD, ?_⟩
      · rw [List.length_map, List.length_map, List.length_take]
        exact small1000 (by omega)
      · rw [upd_same, List.take_succ_eq_append_getElem hi2, epr, List.map_append, List.map_append]
        rfl
    · obtain ⟨sm, hD⟩ := hP
      rw [hpl, List.take_of_length_le (Nat.le_refl _)] at hD
      exact q D H3 sm nD hD

/-! ### used -/
def spUsed (K : PySem.W.Frag) : Sp := fun vs H Q _ => ∃ (one : List Nat) (qv : V) (es : List (Nat × Int)) (rc : Option (Nat × Int × Int)), vs = [tx one, qv] ∧ one.length ≤ 1000 ∧ QZ H qv es rc ∧ es.length ≤ 1000 ∧ ∀ (H' : Hp), Same H H' → Q (tx (usedM one es rc)) H'
theorem ok_used (T : Tx K mg Z) : FnOk P w K mg base CX0 2 Z.f_used Z.d_used ["one", "question"] (spUsed K) := by
  have G_letters_of : FnOk P w K mg base CX0 1 Z.f_letters_of Z.d_letters_of ["equals"] (spLetters K) := ok_letters T
  refine T.F_used.ok sc_used (fun vs H Q E h => ?_) (fun cdv A outer s H vs Q E hr h => ?_)
  · obtain ⟨one, qv, es, rc, rfl, _⟩ := h
    rfl
  · obtain ⟨one, qv, es, rc, rfl, hol, fq, hel, q⟩ := h
    obtain ⟨qa, x, y, rfl, hqa, fx, fy⟩ := fq
    have fx2 := fx
    obtain ⟨ea, ob, ps, rfl, hob, hea, fps⟩ := fx2
    refine ⟨_, (pss_cons (ps_asg (pv 1) (pgT K (n := 2) (pgs_cons (pg_name (i := 2) sc_used.nd rfl (.inl rfl)) (pgs_cons (pg_name (i := 3) sc_used.nd rfl (.inl rfl)) pgs_nil))))
      (pss_cons (ps_set (i := 4) sc_used.nd rfl (.inl rfl) (pe_call G_letters_of (hr.mono (by omega)) (by rfl) T.g_letters_of T.F_letters_of.kp T.b_letters_of .nil pass0 (pa_cons (pv 2) pa_nil)))
      (pss_cons (ps_set (i := 5) sc_used.nd rfl (.inl rfl) pe_int)
      (pss_cons (ps_while PassesOwn.never (PW.pt (pw_and (pt_cmpR op_lt (pv 5) (pe_callB call_len_str (by rfl) T.m_len (by decide +kernel) (pa_cons (pv 0) pa_nil)) (nomark _)) (pw_and1 (pt_cmpR (inSq K) (pe_ix ix_str (pv 0) (pv 5) (fun _ _ => rfl)) (pv 4) (by rfl))))) (pss_one (ps_aug (i := 5) sc_used.nd rfl (.inl rfl) pe_int ip_add)))
      (pss_mid (ps_if (PW.pt (pw_and (pt_cmpR op_notN (pv 3) pe_non (nomark _)) (pw_and1 (pt_cmpR op_eq (pe_slice sl_str (pv 0) (po_some (pv 5)) (po_some (pe_op op_add (pv 5) pe_int))) (pe_ix (ixT K) (pv 3) pe_int (fun _ _ => rfl)) (nomark _))))) (pss_one (ps_aug (i := 5) sc_used.nd rfl (.inl rfl) pe_int ip_add)) pss_nil)
      (pss_one (ps_ret (pe_slice sl_str (pv 0) po_none (po_some (pv 5)))))))))), ?_⟩
    refine ⟨.ref qa, rfl, qa, [.ref ea, y], rfl, .inl (.inl hqa), rfl, .ref ea, [y], rfl, y, [], rfl, rfl, ?_⟩
    refine ⟨.ref ea, rfl, .ref ea, es, rfl, fx, hel, fun L H1 sm nL hL => ?_⟩
    -- while
    refine ⟨fun m σ H' => ∃ k : Nat, m = one.length - k ∧ k ≤ one.length ∧ σ = [some (tx one), some (.ref qa), some (.ref ea), some y, some (.ref L), some (.int k)] ∧ H' = H1 ∧ ∀ (i : Nat) (h : i < one.length), i < k → one[i] ∈ es.map (·.1), ⟨_, 0, rfl, Nat.zero_le _, rfl, rfl, fun i _ h => absurd h (Nat.not_lt_zero _)⟩, fun m σ H' hW => ?_⟩
    obtain ⟨k, rfl, hk, rfl, rfl, hin⟩ := hW
    refine ⟨.int k, rfl, tx one, rfl, _, rfl, Nat.le_of_lt (small1000 (show one.length ≤ 1000 from hol)), _, _, rfl, rfl, _, rfl, ite2 (fun e => ?_) (fun e => ?_)⟩
    · have hkl : k < one.length := by
        have : (k : Int) < ((one.length : Nat) : Int) := of_decide_eq_true e
        omega
      have hat : atI (⟨one.toArray⟩ : Str).cps.toList (k : Int) = some one[k] := atI_nat (by simp [hkl])
      refine ⟨tx one, rfl, .int k, rfl, _, _, _, rfl, rfl, Nat.le_of_lt (small1000 (show one.length ≤ 1000 from hol)), hat, .ref L, rfl, L, _, rfl, .inl (.inl (.inl hL)), rfl, flat_signs _, _, rfl, ?_⟩
      show (if inV (sg one[k]) ((es.map (·.1)).map sg) = true then _ else _)
      rw [inV_signs]
      refine ite2 (fun e2 => ?_) (fun e2 => ?_)
      · have hm : one[k] ∈ es.map (·.1) := of_decide_eq_true e2
        refine ⟨fun σ2 H2 => σ2 = [some (tx one), some (.ref qa), some (.ref ea), some y, some (.ref L), some (.int ((k : Int) + 1))] ∧ H2 = H', fun σ2 H2 hN => ?_, ?_⟩
        · obtain ⟨rfl, rfl⟩ := hN
          refine ⟨one.length - (k + 1), by omega, k + 1, rfl, hkl, rfl, rfl, fun i h hi => ?_⟩
          by_cases e3 : i = k
          · subst e3
            exact hm
          · exact hin i h (by omega)
        · exact ⟨_, rfl, _, _, rfl, rfl, rfl, rfl⟩
      · have hno : ∀ h : k < one.length, ¬ one[k] ∈ es.map (·.1) := fun _ z => e2 (decide_eq_true z)
        have hkk : (eqPart one es).length = k := take_while_at _ _ _ hk (fun i h hi => decide_eq_true (hin i h hi)) (fun h => decide_eq_false (hno h))
        have htk : one.take k = eqPart one es := by rw [← hkk]; exact (eqPart_take one es).symm
        refine ⟨fun σ H2 => ∃ k2 : Nat, σ = [some (tx one), some (.ref qa), some (.ref ea), some y, some (.ref L), some (.int k2)] ∧ H2 = H' ∧ one.take k2 = usedM one es rc, ?_, ?_⟩
        · cases rc with
          | none =>
            obtain rfl : y = .non := fy.isNon
            refine ⟨.non, rfl, rfl, _, rfl, ite2 (fun z => ?_) (fun _ => ?_)⟩
            · exact absurd z (by simp)
            · exact ⟨k, rfl, rfl, htk⟩
          | some t3 =>
            obtain ⟨c, lo, hi⟩ := t3
            obtain ⟨ra, zs, rfl, hra, fz⟩ := Fz.open (ds := [.str ⟨#[c]⟩, .int lo, .int hi]) fy
            obtain ⟨z1, z2, z3, rfl, g1, g2, g3⟩ := fz.three
            rw [g1.isStr, g2.isInt, g3.isInt] at hra
            refine ⟨.ref ra, rfl, rfl, _, rfl, ite2 (fun _ => ?_) (fun z => ?_)⟩
            · refine ⟨tx one, rfl, .int k, rfl, _, rfl, .int k, rfl, _, 1, rfl, rfl, _, rfl, _, rfl, Nat.le_of_lt (small1000 (show one.length ≤ 1000 from hol)), .ref ra, rfl, ra, _, 0, sg c, rfl, rfl, .inl (.inl (sm _ _ hra)), rfl, rfl, _, rfl, ?_⟩
              rw [cut_one one k hk]
              refine ite2 (fun z => ?_) (fun z => ?_)
              · have z2 : (one.drop k).take 1 = [c] := tx_inj (of_decide_eq_true z)
                refine ⟨_, rfl, _, _, rfl, rfl, k + 1, rfl, rfl, ?_⟩
                show one.take (k + 1) = (if (one.drop (eqPart one es).length).take 1 = [c] then one.take ((eqPart one es).length + 1) else eqPart one es)
                rw [hkk, if_pos z2]
              · have z2 : ¬ (one.drop k).take 1 = [c] := fun z3 => z (decide_eq_true (by rw [z3]))
                refine ⟨k, rfl, rfl, ?_⟩
                show one.take k = (if (one.drop (eqPart one es).length).take 1 = [c] then one.take ((eqPart one es).length + 1) else eqPart one es)
                rw [hkk, if_neg z2]
                exact htk
            · exact absurd (by simp) z
        · intro σ2 H2 hM
          obtain ⟨k2, rfl, rfl, hk2⟩ := hM
          refine ⟨tx one, rfl, .int k2, rfl, _, rfl, _, rfl, Nat.le_of_lt (small1000 (show one.length ≤ 1000 from hol)), ?_⟩
          rw [cut_take, hk2]
          exact q _ sm
    · have hge : ¬ k < one.length := fun z => e (decide_eq_true (show (k : Int) < ((one.length : Nat) : Int) by omega))
      have hkk : (eqPart one es).length = k := take_while_at _ _ _ hk (fun i h hi => decide_eq_true (hin i h hi)) (fun h => decide_eq_false ((absurd h hge : ¬ one[k] ∈ es.map (·.1))))
      have htk : one.take k = eqPart one es := by rw [← hkk]; exact (eqPart_take one es).symm
      refine ⟨fun σ H2 => ∃ k2 : Nat, σ = [some (tx one), some (.ref qa), some (.ref ea), some y, some (.ref L), some (.int k2)] ∧ H2 = H' ∧ one.take k2 = usedM one es rc, ?_, ?_⟩
      · cases rc with
        | none =>
          obtain rfl : y = .non := fy.isNon
          refine ⟨.non, rfl, rfl, _, rfl, ite2 (fun z => ?_) (fun _ => ?_)⟩
          · exact absurd z (by simp)
          · exact ⟨k, rfl, rfl, htk⟩
        | some t3 =>
          obtain ⟨c, lo, hi⟩ := t3
          obtain ⟨ra, zs, rfl, hra, fz⟩ := Fz.open (ds := [.str ⟨#[c]⟩, .int lo, .int hi]) fy
          obtain ⟨z1, z2, z3, rfl, g1, g2, g3⟩ := fz.three
          rw [g1.isStr, g2.isInt, g3.isInt] at hra
          refine ⟨.ref ra, rfl, rfl, _, rfl, ite2 (fun _ => ?_) (fun z => ?_)⟩
          · refine ⟨tx one, rfl, .int k, rfl, _, rfl, .int k, rfl, _, 1, rfl, rfl, _, rfl, _, rfl, Nat.le_of_lt (small1000 (show one.length ≤ 1000 from hol)), .ref ra, rfl, ra, _, 0, sg c, rfl, rfl, .inl (.inl (sm _ _ hra)), rfl, rfl, _, rfl, ?_⟩
            rw [cut_one one k hk]
            refine ite2 (fun z => ?_) (fun z => ?_)
            · have z2 : (one.drop k).take 1 = [c] := tx_inj (of_decide_eq_true z)
              refine ⟨_, rfl, _, _, rfl, rfl, k + 1, rfl, rfl, ?_⟩
              show one.take (k + 1) = (if (one.drop (eqPart one es).length).take 1 = [c] then one.take ((eqPart one es).length + 1) else eqPart one es)
              rw [hkk, if_pos z2]
            · have z2 : ¬ (one.drop k).take 1 = [c] := fun z3 => z (decide_eq_true (by rw [z3]))
              refine ⟨k, rfl, rfl, ?_⟩
              show one.take k = (if (one.drop (eqPart one es).length).take 1 = [c] then one.take ((eqPart one es).length + 1) else eqPart one es)
              rw [hkk, if_neg z2]
              exact htk
          · exact absurd (by simp) z
      · intro σ2 H2 hM
        obtain ⟨k2, rfl, rfl, hk2⟩ := hM
        refine ⟨tx one, rfl, .int k2, rfl, _, rfl, _, rfl, Nat.le_of_lt (small1000 (show one.length ≤ 1000 from hol)), ?_⟩
        rw [cut_take, hk2]
        exact q _ sm

/-! ### spans -/
def spSpans (K : PySem.W.Frag) : Sp := fun vs H Q _ => ∃ (qv : V) (cols : List Nat) (es : List (Nat × Int)) (rc : Option (Nat × Int × Int)), vs = [qv] ∧ QZ H qv es rc ∧ QOk cols es rc ∧ es.length ≤ 1000 ∧
  ∀ (d : Addr) (kvs : List (Key × V)) (H' : Hp), Same H H' → H d = none → H' d = some (.dK kvs) → SpA H' kvs (spanL es rc) → Q (.ref d) H'
theorem ok_spans (T : Tx K mg Z) : FnOk P w K mg base CX0 1 Z.f_spans Z.d_spans ["question"] (spSpans K) := by
  refine T.F_spans.ok sc_spans (fun vs H Q E h => ?_) (fun cdv A outer s H vs Q E hr h => ?_)
  · obtain ⟨qv, cols, es, rc, rfl, _⟩ := h
    rfl
  · obtain ⟨qv, cols, es, rc, rfl, fq, hok, hel, q⟩ := h
    obtain ⟨qa, x, y, rfl, hqa, fx, fy⟩ := fq
    obtain ⟨ea, ob, ps, rfl, hob, hea, fps⟩ := fx
    have hndE : (es.map (·.1)).Nodup := hok.up.imp fun {a b} q => by
      have : a < b := q
      omega
    refine ⟨_, (pss_cons (ps_asg (pv 0) (pgT K (n := 2) (pgs_cons (pg_name (i := 1) sc_spans.nd rfl (.inl rfl)) (pgs_cons (pg_name (i := 2) sc_spans.nd rfl (.inl rfl)) pgs_nil))))
      (pss_cons (ps_setDc (i := 4) (own := [("letter", 3), ("number", 7)]) (tt := tYes) (by rfl) sc_spans.nd rfl rfl (sw_dict rfl rfl rfl (by decide +kernel)) (piT K (pv 1)) (blkOk_by (own := [("letter", 3), ("number", 7)]) (by kernel_rfl)) (fun _ _ _ _ _ => (pgT K (n := 2) (pgs_cons (pg_name (i := 3) sc_spans.nd rfl (.inl rfl)) (pgs_cons (pg_name (i := 7) sc_spans.nd rfl (.inl rfl)) pgs_nil)))) (fun _ _ _ _ _ => pts_nil) (fun _ _ _ _ _ => (pv 3)) (fun _ _ _ _ _ => (pe_tup (pa_cons (pv 7) (pa_cons (pv 7) pa_nil)))))
      (pss_mid (ps_if (pt_cmpR op_notN (pv 2) pe_non (nomark _)) (pss_cons (ps_asg (pv 2) (pgT K (n := 3) (pgs_cons (pg_name (i := 3) sc_spans.nd rfl (.inl rfl)) (pgs_cons (pg_name (i := 5) sc_spans.nd rfl (.inl rfl)) (pgs_cons (pg_name (i := 6) sc_spans.nd rfl (.inl rfl)) pgs_nil)))))
      (pss_one (ps_dput (hu_of hr) (pv 4) (pv 3) (pe_tup (pa_cons (pv 5) (pa_cons (pv 6) pa_nil))) rfl))) pss_nil)
      (pss_one (ps_ret (pv 4)))))), ?_⟩
    refine ⟨.ref qa, rfl, qa, [.ref ea, y], rfl, .inl (.inl hqa), rfl, .ref ea, [y], rfl, y, [], rfl, rfl, ?_⟩
    refine ⟨.ref ea, rfl, ea, rfl, ⟨_, .inl (.inr ⟨_, hea⟩)⟩, fun D nD => dc_tup (xs := ps) (fun i H' => ∃ kvs, Same H H' ∧ H' D = some (.dK kvs) ∧ SpA H' kvs ((es.take i).map fun p => (p.1, p.2, p.2)))
      ⟨[], Same.new (Same.refl H) nD, upd_same, .nil⟩ (fun i H' _ hP => ?_) (fun i x H3 hx hP => ?_) (fun H3 hP => ?_)⟩
    · obtain ⟨kvs, sm, _⟩ := hP
      exact .inl (.inr ⟨_, sm _ _ hea⟩)
    · obtain ⟨kvs, sm, hD3, fk⟩ := hP
      obtain ⟨dd, hdd, fd⟩ := fps.getV hx
      rw [List.getElem?_map] at hdd
      obtain ⟨pr, hpr, rfl⟩ := Option.map_eq_some_iff.mp hdd
      obtain ⟨pa, ys, rfl, hpa, fy2⟩ := fd.open
      obtain ⟨c, v, rfl, fc, fv⟩ := fy2.two
      rw [fc.isStr, fv.isInt] at hpa
      have hi : i < es.length := (List.getElem?_eq_some_iff.mp hpr).1
      have epr : es[i] = pr := (List.getElem?_eq_some_iff.mp hpr).2
      refine ⟨pa, [sg pr.1, .int pr.2], rfl, .inl (.inl (sm _ _ hpa)), rfl, sg pr.1, [.int pr.2], rfl, .int pr.2, [], rfl, rfl, rfl, sg pr.1, rfl, .int pr.2, rfl, .int pr.2, rfl, (by show 2 ≤ sizeLine; decide), fun tp ntp => ?_⟩
      have hD4 : (upd H3 tp (.tup [.int pr.2, .int pr.2])) D = some (.dK kvs) := keep_new hD3 ntp
      have fk4 := fk.kt (Kt.new ntp (o := .tup [.int pr.2, .int pr.2]))
      have tk : (es.take (i + 1)).map (fun p => (p.1, p.2, p.2)) = (es.take i).map (fun p => (p.1, p.2, p.2)) ++ [(pr.1, pr.2, pr.2)] := by
        rw [List.take_succ_eq_append_getElem hi, epr, List.map_append]
        rfl
      have nk : valV kvs (Sum.inr (sS pr.1)) = none := by
        refine fk.none fun hm => ?_
        rw [spanL_keys] at hm
        have hnd2 : ((es.take (i + 1)).map (·.1)).Nodup := hndE.sublist ((List.take_sublist _ _).map _)
        rw [List.take_succ_eq_append_getElem hi, epr, List.map_append] at hnd2
        exact (List.nodup_append.mp hnd2).2.2 _ hm _ (by simp) rfl
      refine ⟨kvs, Sum.inr (sS pr.1), rfl, hD4, ?_, putK kvs (Sum.inr (sS pr.1)) (.ref tp), ?_, upd_same, ?_⟩
      · rw [fk.len, List.length_map, List.length_take]
        exact small1000 (by omega)
      · exact Same.mut (Same.new sm ntp) nD
      · rw [putK_new _ nk, tk]
        exact (SpA.snoc fk4 upd_same).kt (.dct hD4)
    · obtain ⟨kvs, sm, hD3, fk⟩ := hP
      have hpl : ps.length = es.length := by
        rw [fps.len, List.length_map]
      rw [hpl, List.take_of_length_le (Nat.le_refl _)] at fk
      refine ⟨fun σ H' => ∃ (kvs' : List (Key × V)) (y3 y5 y6 : Option V), σ = [some (.ref qa), some (.ref ea), some y, y3, some (.ref D), y5, y6, none] ∧ Same H H' ∧ H' D = some (.dK kvs') ∧ SpA H' kvs' (spanL es rc), ?_, ?_⟩
      · cases rc with
        | none =>
          have ey : y = .non := fy.isNon
          subst ey
          refine ⟨.non, rfl, rfl, _, rfl, iteNS rfl ?_⟩
          refine ⟨kvs, _, _, _, rfl, sm, hD3, ?_⟩
          unfold spanL
          rw [Option.toList_none, List.append_nil]
          exact fk
        | some t3 =>
          obtain ⟨c, lo, hi⟩ := t3
          obtain ⟨ra, zs, rfl, hra, fz⟩ := Fz.open (ds := [.str ⟨#[c]⟩, .int lo, .int hi]) fy
          obtain ⟨z1, z2, z3, rfl, g1, g2, g3⟩ := fz.three
          rw [g1.isStr, g2.isInt, g3.isInt] at hra
          refine ⟨.ref ra, rfl, rfl, _, rfl, ite2 (fun _ => ?_) (fun e => ?_)⟩
          · refine ⟨.ref ra, rfl, ra, [sg c, .int lo, .int hi], rfl, .inl (.inl (sm _ _ hra)), rfl, sg c, [.int lo, .int hi], rfl, .int lo, [.int hi], rfl, .int hi, [], rfl, rfl, ?_⟩
            refine ⟨.int lo, rfl, .int hi, rfl, (by show 2 ≤ sizeLine; decide), fun tp ntp => ?_⟩
            have hD4 : (upd H3 tp (.tup [.int lo, .int hi])) D = some (.dK kvs) := keep_new hD3 ntp
            have nk : valV kvs (Sum.inr (sS c)) = none := fk.none (by
              rw [spanL_keys]
              exact (hok.rc c lo hi rfl).2.1)
            refine ⟨.ref D, rfl, sg c, rfl, D, _, rfl, DPut.k (k := Sum.inr (sS c)) hD4 (by rw [fk.len, List.length_map]; exact small1000 hel), ?_⟩
            refine ⟨_, _, _, _, rfl, Same.mut (Same.new sm ntp) nD, upd_same, ?_⟩
            rw [putK_new _ nk]
            exact (SpA.snoc (fk.kt (Kt.new ntp)) upd_same).kt (.dct hD4)
          · exact absurd (by simp) e
      · intro σ1 H1 hM
        obtain ⟨kvs', y3, y5, y6, rfl, sm1, hD1, fk1⟩ := hM
        exact ⟨.ref D, rfl, q D kvs' H1 sm1 nD hD1 fk1⟩

/-! ### fits -/
def spFits (K : PySem.W.Frag) : Sp := fun vs H Q _ => ∃ (cols : List Nat) (rv : V) (row : List Int) (qv : V) (es : List (Nat × Int)) (rc : Option (Nat × Int × Int)), vs = [tx cols, rv, qv] ∧ Fz H rv (rowD row) ∧ row.length = cols.length ∧ QZ H qv es rc ∧ QOk cols es rc ∧ es.length ≤ 1000 ∧
  ∀ (H' : Hp), Same H H' → Q (.bl (fitsM cols row es rc)) H'
theorem ok_fits (T : Tx K mg Z) : FnOk P w K mg base CX0 2 Z.f_fits Z.d_fits ["columns", "row", "question"] (spFits K) := by
  have G_spans : FnOk P w K mg base CX0 1 Z.f_spans Z.d_spans ["question"] (spSpans K) := ok_spans T
  refine T.F_fits.ok sc_fits (fun vs H Q E h => ?_) (fun cdv A outer s H vs Q E hr h => ?_)
  · obtain ⟨cols, rv, row, qv, es, rc, rfl, _⟩ := h
    rfl
  · obtain ⟨cols, rv, row, qv, es, rc, rfl, fr, hrl, fq, hok, hel, q⟩ := h
    obtain ⟨ra, rfl, hra⟩ := row_open fr
    refine ⟨_, (pss_cons (ps_set (i := 3) sc_fits.nd rfl (.inl rfl) (pe_call G_spans (hr.mono (by omega)) (by rfl) T.g_spans T.F_spans.kp T.b_spans .nil pass0 (pa_cons (pv 2) pa_nil)))
      (pss_cons (ps_lock (ps_for PassesOwn.never rfl (pi_keys (pv 3)) (pg_name (i := 4) sc_fits.nd rfl (.inl rfl)) (pss_cons (ps_asg (pe_dget (hu_of hr) (pv 3) (pv 4) (fun _ _ => rfl)) (pgT K (n := 2) (pgs_cons (pg_name (i := 5) sc_fits.nd rfl (.inl rfl)) (pgs_cons (pg_name (i := 6) sc_fits.nd rfl (.inl rfl)) pgs_nil))))
      (pss_one (ps_if (pt_not (pt_chain op_le op_le (pv 5) (pe_ix (ixT K) (pv 1) (bmK K PySem.F.plainAttrs_str PySem.F.slot_str_index PySem.F.type_str_index mt_sindex (pv 0) (pa_cons (pv 4) pa_nil)) (fun _ _ => rfl)) (pv 6))) (pss_one (ps_ret pe_bl)) pss_nil)))))
      (pss_one (ps_ret pe_bl)))), ?_⟩
    refine ⟨qv, rfl, qv, cols, es, rc, rfl, fq, hok, hel, fun d kvs H1 sm nd hd fk => ?_⟩
    have ndr : ra ≠ d := ne_of_none hra nd
    have hra1 : H1 ra = some (.tup (row.map V.int)) := sm _ _ hra
    have hback : ∀ od, Same H (upd (upd H1 d (.frz od (.dK kvs))) d (.dK kvs)) := fun od b o e => by
      have nb : b ≠ d := ne_of_none e nd
      rw [upd_ne nb, upd_ne nb]
      exact sm b o e
    refine ⟨d, .dK kvs, hd, trivial, fun od => ⟨.ref d, rfl, d, od, rfl, .inl ⟨kvs, upd_same, for_it walk_keys (fun i σ H' => ∃ y4 y5 y6 : Option V, σ = [some (tx cols), some (.ref ra), some qv, some (.ref d), y4, y5, y6] ∧ H' = upd H1 d (.frz od (.dK kvs)) ∧ ((spanL es rc).take i).all (spanFit cols row) = true)
      ⟨none, none, none, rfl, rfl, rfl⟩ (fun i σ H' _ hP => ?_) (fun i x σ H3 H4 hi hP hY => ?_) (fun σ H3 hP => ?_)⟩⟩⟩
    · obtain ⟨_, _, _, _, rfl, _⟩ := hP
      exact upd_same
    · obtain ⟨y4, y5, y6, rfl, rfl, hall⟩ := hP
      obtain ⟨rfl, k, v, hkv, rfl⟩ := hY
      obtain ⟨p, c, lo, hi2, rfl, rfl, hp, hsp⟩ := fk.get hkv
      have hm : (c, lo, hi2) ∈ spanL es rc := List.mem_of_getElem? hsp
      obtain ⟨p2, hv2, hp2⟩ := fk.look (spanL_nd hok) hm
      have hcc : c ∈ cols := SpanOk hok _ hm
      obtain ⟨orest, hocc⟩ := ix_one hcc
      have npd : p2 ≠ d := fun z => by
        rw [z, hd] at hp2
        cases hp2
      have hat := row_at hrl hcc
      have hsi : i < (spanL es rc).length := (List.getElem?_eq_some_iff.mp hsp).1
      have esi : (spanL es rc)[i] = (c, lo, hi2) := (List.getElem?_eq_some_iff.mp hsp).2
      have tk : (spanL es rc).take (i + 1) = (spanL es rc).take i ++ [(c, lo, hi2)] := by
        rw [List.take_succ_eq_append_getElem hsi, esi]
      have bad : spanFit cols row (c, lo, hi2) = false → fitsM cols row es rc = false := fun z => by
        unfold fitsM
        rw [List.all_eq_false]
        exact ⟨_, hm, by rw [z]; decide⟩
      refine ⟨.ref d, rfl, sg c, rfl, d, .ref p2, rfl, .inl ⟨kvs, Sum.inr (sS c), .inr ⟨od, upd_same⟩, rfl, hv2.symm⟩, ?_⟩
      refine ⟨p2, [.int lo, .int hi2], rfl, .inl (.inl (keep_ne hp2 npd)), rfl, .int lo, [.int hi2], rfl, .int hi2, [], rfl, rfl, ?_⟩
      refine ⟨.int lo, rfl, .ref ra, rfl, tx cols, rfl, rfl, sg c, rfl, _, _, cols.idxOf c, orest, rfl, rfl, hocc, ra, _, _, _, rfl, rfl, .inl (.inl (keep_ne hra1 ndr)), atI_nat hat, lo, _, rfl, rfl, _, rfl, ite2 (fun e => ?_) (fun e => ?_)⟩
      · have e1 : lo ≤ rowAt cols row c := of_decide_eq_true e
        refine ⟨.int hi2, rfl, _, hi2, rfl, rfl, _, rfl, ?_⟩
        by_cases e2 : rowAt cols row c ≤ hi2
        · rw [decide_eq_true e2]
          refine ⟨_, _, _, rfl, rfl, ?_⟩
          rw [tk, List.all_append, hall]
          unfold List.all
          show (true && (spanFit cols row (c, lo, hi2) && true)) = true
          unfold spanFit
          rw [decide_eq_true e1, decide_eq_true e2]
          rfl
        · rw [decide_eq_false e2]
          refine ⟨upd_same, ?_⟩
          have := q _ (hback od)
          rw [bad (by unfold spanFit; rw [decide_eq_false e2, Bool.and_false])] at this
          exact this
      · have e1 : ¬ lo ≤ rowAt cols row c := fun z => e (decide_eq_true z)
        refine ⟨_, rfl, upd_same, ?_⟩
        have := q _ (hback od)
        rw [bad (by unfold spanFit; rw [decide_eq_false e1, Bool.false_and])] at this
        exact this
    · obtain ⟨y4, y5, y6, rfl, rfl, hall⟩ := hP
      refine ⟨upd_same, ?_⟩
      have := q _ (hback od)
      rw [fk.len, List.take_of_length_le (Nat.le_refl _)] at hall
      have e : fitsM cols row es rc = true := hall
      rw [e] at this
      exact this

/-! ### answer -/
def spAnswer (K : PySem.W.Frag) : Sp := fun vs H Q _ => ∃ (tv : V) (cols : List Nat) (rows : List (List Int)) (qv : V) (es : List (Nat × Int)) (rc : Option (Nat × Int × Int)), vs = [tv, qv] ∧ Fz H tv (tabD cols rows) ∧ RowsOk cols.length rows ∧ rows.length ≤ 1000 ∧ QZ H qv es rc ∧ QOk cols es rc ∧ es.length ≤ 1000 ∧
  ∀ (p : Addr) (H' : Hp), Same H H' → H p = none → H' p = some (.lst ((ansM cols rows es rc).map V.int)) → Q (.ref p) H'
theorem ok_answer (T : Tx K mg Z) : FnOk P w K mg base CX0 3 Z.f_answer Z.d_answer ["table", "question"] (spAnswer K) := by
  have G_fits : FnOk P w K mg base CX0 2 Z.f_fits Z.d_fits ["columns", "row", "question"] (spFits K) := ok_fits T
  refine T.F_answer.ok sc_answer (fun vs H Q E h => ?_) (fun cdv A outer s H vs Q E hr h => ?_)
  · obtain ⟨tv, cols, rows, qv, es, rc, rfl, _⟩ := h
    rfl
  · obtain ⟨tv, cols, rows, qv, es, rc, rfl, fT, hrs, hrn, fq, hok, hel, q⟩ := h
    obtain ⟨t, R, vs, rfl, ht, hRR, fvs⟩ := tab_open fT
    have hvl : vs.length = rows.length := by rw [fvs.len, List.length_map]
    refine ⟨_, (pss_cons (ps_asg (pv 0) (pgT K (n := 2) (pgs_cons (pg_name (i := 2) sc_answer.nd rfl (.inr rfl)) (pgs_cons (pg_name (i := 3) sc_answer.nd rfl (.inl rfl)) pgs_nil))))
      (pss_one (ps_ret (pe_lc (own := [("number", 4), ("row", 5)]) (tt := _) (by rfl) sc_answer.nd (enumTK K (by rfl) T.m_enumerate (pa_cons (pv 3) pa_nil)) (blkOk_by (own := [("number", 4), ("row", 5)]) (by kernel_rfl)) (fun _ _ _ _ _ => (pgT K (n := 2) (pgs_cons (pg_name (i := 4) sc_answer.nd rfl (.inl rfl)) (pgs_cons (pg_name (i := 5) sc_answer.nd rfl (.inl rfl)) pgs_nil)))) (fun _ _ _ _ _ => (pts_one (pt_val (pe_call G_fits (hr.mono (by omega)) (by rfl) T.g_fits T.F_fits.kp T.b_fits .nil pass0 (pa_cons (pv 2) (pa_cons (pv 5) (pa_cons (pv 1) pa_nil))))))) (fun _ _ _ _ _ => (pv 4)))))), ?_⟩
    refine ⟨.ref t, rfl, t, [tx cols, .ref R], rfl, .inl (.inl ht), rfl, tx cols, [.ref R], rfl, .ref R, [], rfl, rfl, ?_⟩
    refine ⟨.ref R, rfl, R, vs, rfl, .inl (.inl hRR), fun D nD => lc_it (walk_et (xs := vs)) (fun i H' => Same H H' ∧ H' D = some (.lst ((((List.range i).filter fun i => fitsM cols (rows.getD i []) es rc).map fun i : Nat => (i : Int)).map V.int)))
      ⟨Same.new (Same.refl H) nD, upd_same⟩ (fun i H' _ hP => ?_) (fun i x H3 H4 hi hP hY => ?_) (fun H3 hP => ?_)⟩
    · exact .inl (.inl (hP.1 _ _ hRR))
    · obtain ⟨sm3, hD3⟩ := hP
      obtain ⟨T0, x1, x2, rfl, nT, rfl, ex1, ex2⟩ := hY
      have e1 : x1 = .int (i : Nat) := (Option.some.inj ex1).symm
      subst e1
      obtain ⟨d, hd, fd⟩ := fvs.getV ex2
      rw [List.getElem?_map] at hd
      obtain ⟨row, hrow, rfl⟩ := Option.map_eq_some_iff.mp hd
      have hi2 : i < rows.length := (List.getElem?_eq_some_iff.mp hrow).1
      have erow : rows.getD i [] = row := by rw [List.getD_eq_getElem?_getD, hrow]; rfl
      have rok := hrs row (List.mem_of_getElem? hrow)
      have sm4 : Same H (upd H3 T0 (.tup [.int (i : Nat), x2])) := Same.new sm3 nT
      refine ⟨T0, [.int (i : Nat), x2], rfl, .inl (.inl upd_same), rfl, .int (i : Nat), [x2], rfl, x2, [], rfl, rfl, rfl, tx cols, rfl, x2, rfl, qv, rfl, cols, x2, row, qv, es, rc, rfl, fd.kt (Same.kt sm4), rok.1, fq.kT (Same.kT sm4), hok, hel, fun H5 sm5 => ⟨_, rfl, ite2 (fun e => ?_) (fun e => ?_)⟩⟩
      · have hD5 := sm5 _ _ (keep_new (o := .tup [.int (i : Nat), x2]) hD3 nT)
        refine ⟨.int (i : Nat), rfl, _, hD5, ?_, Same.mut (Same.trans sm4 sm5) nD, ?_⟩
        · rw [List.length_map, List.length_map]
          have := List.length_filter_le (fun i => fitsM cols (rows.getD i []) es rc) (List.range i)
          rw [List.length_range] at this
          exact small1000 (by omega)
        · rw [upd_same, List.range_succ, List.filter_append, List.filter_cons, erow, if_pos e, List.map_append, List.map_append]
          rfl
      · have hD5 := sm5 _ _ (keep_new (o := .tup [.int (i : Nat), x2]) hD3 nT)
        refine ⟨Same.trans sm4 sm5, ?_⟩
        rw [hD5, List.range_succ, List.filter_append, List.filter_cons, erow, if_neg e, List.filter_nil, List.append_nil]
    · obtain ⟨sm3, hD3⟩ := hP
      rw [hvl] at hD3
      exact q D H3 sm3 nD hD3

/-! ### picked -/
def spPicked (K : PySem.W.Frag) (Z : Ad) : Sp := fun vs H Q _ => ∃ (cols : List Nat) (rv : V) (row : List Int) (ls : List Nat), vs = [tx cols, rv, tx ls] ∧ TG Z.Ps H ∧ Fz H rv (rowD row) ∧ row.length = cols.length ∧ (∀ c ∈ ls, c ∈ cols) ∧ ls.length ≤ 1000 ∧
  ∀ (p : Addr) (H' : Hp), Sx Z.Ps H H' → TG Z.Ps H' → H p = none → H' p = some (.tup ((keyM cols row ls).map V.int)) → Q (.ref p) H'
theorem ok_picked (T : Tx K mg Z) (TB : Tb base mg Z) : FnOk P w K mg base CX0 1 Z.f_picked Z.d_picked ["columns", "row", "letters"] (spPicked K Z) := by
  refine T.C_picked.ok sc_picked (fun vs H Q E h => ?_) (fun A outer s H vs Q E hr h => ?_)
  · obtain ⟨cols, rv, row, ls, rfl, _⟩ := h
    rfl
  · obtain ⟨cols, rv, row, ls, rfl, tg, fr, hrl, hls, hll, q⟩ := h
    obtain ⟨ra, rfl, hra⟩ := row_open fr
    refine ⟨_, (pss_one (ps_ret (pe_tupG (D := (DRow Z.P_picked 0 1)) hr (by rfl) T.m_tuple (TB.t_picked) rfl (genS_by (sc := defScope s_picked) (by kernel_rfl) rfl) (pv 2) (hd_row rfl rfl rfl rfl rfl rfl rfl rfl (by decide +kernel) (by decide +kernel) rfl)))), ?_⟩
    have hP : Z.P_picked ∈ Z.Ps := by simp
    have lsl : (⟨ls.toArray⟩ : Str).cps.toList = ls := by simp
    refine ⟨tx ls, rfl, (keyM cols row ls).map V.int, ⟨tg _ hP, _, cols, ra, row, rfl, Nat.le_of_lt (small1000 (show ls.length ≤ 1000 from hll)), rfl, rfl, hra, hrl, by rw [lsl]; exact hls, ?_⟩, tg _ hP, fun G2 hT p np => ?_⟩
    · rw [lsl]
      unfold keyM
      rw [List.map_map]
      rfl
    · refine q p _ ((Tabbed.sx hP hT).new np) ((Tabbed.tg tg hT).new np) ?_ upd_same
      exact Sx.free (Tabbed.tg tg hT) (Tabbed.sx hP hT) np

/-! ### stretch -/
def spStretch (K : PySem.W.Frag) (Z : Ad) : Sp := fun vs H Q _ => ∃ (tv : V) (cols : List Nat) (rows : List (List Int)) (one : List Nat) (qv : V) (es : List (Nat × Int)) (rc : Option (Nat × Int × Int)), vs = [tv, tx one, qv] ∧ TG Z.Ps H ∧ Fz H tv (tabD cols rows) ∧ RowsOk cols.length rows ∧ rows.length ≤ 1000 ∧ one.length ≤ 1000 ∧ (∀ c ∈ one, c ∈ cols) ∧ QZ H qv es rc ∧ QOk cols es rc ∧ es.length ≤ 1000 ∧
  ∀ (p : Addr) (H' : Hp), Sx Z.Ps H H' → TG Z.Ps H' → H p = none → H' p = some (.tup [.int (aheadM cols rows one es rc : Nat), .int (behindM cols rows one es rc : Nat)]) → Q (.ref p) H'
theorem ok_stretch (T : Tx K mg Z) (TB : Tb base mg Z) : FnOk P w K mg base CX0 3 Z.f_stretch Z.d_stretch ["table", "one", "question"] (spStretch K Z) := by
  have G_used : FnOk P w K mg base CX0 2 Z.f_used Z.d_used ["one", "question"] (spUsed K) := ok_used T
  have G_spans : FnOk P w K mg base CX0 1 Z.f_spans Z.d_spans ["question"] (spSpans K) := ok_spans T
  have G_picked : FnOk P w K mg base CX0 1 Z.f_picked Z.d_picked ["columns", "row", "letters"] (spPicked K Z) := ok_picked T TB
  refine T.C_stretch.ok sc_stretch (fun vs H Q E h => ?_) (fun A outer s H vs Q E hr h => ?_)
  · obtain ⟨tv, cols, rows, one, qv, es, rc, rfl, _⟩ := h
    rfl
  · obtain ⟨tv, cols, rows, one, qv, es, rc, rfl, tg, fT, hrs, hrn, hol, hoc, fq, hok, hel, q⟩ := h
    obtain ⟨t, R, vs, rfl, ht, hRR, fvs⟩ := tab_open fT
    have hvl : vs.length = rows.length := by rw [fvs.len, List.length_map]
    refine ⟨_, (pss_cons (ps_asg (pv 0) (pgT K (n := 2) (pgs_cons (pg_name (i := 3) sc_stretch.nd rfl (.inr rfl)) (pgs_cons (pg_name (i := 4) sc_stretch.nd rfl (.inl rfl)) pgs_nil))))
      (pss_cons (ps_set (i := 5) sc_stretch.nd rfl (.inr rfl) (pe_call G_used (hr.mono (by omega)) (by rfl) T.g_used T.F_used.kp T.b_used .nil pass0 (pa_cons (pv 1) (pa_cons (pv 2) pa_nil))))
      (pss_cons (ps_set (i := 11) sc_stretch.nd rfl (.inr rfl) (pe_call G_spans (hr.mono (by omega)) (by rfl) T.g_spans T.F_spans.kp T.b_spans .nil pass0 (pa_cons (pv 2) pa_nil)))
      (pss_cons (ps_set (i := 6) sc_stretch.nd rfl (.inr rfl) (pe_tupG (D := (DWant Z.P_stretch 11 0)) hr (by rfl) T.m_tuple (TB.t_stretch) rfl (genS_by (sc := defScope s_stretch) (by kernel_rfl) rfl) (pv 5) (hd_want (.inl rfl) rfl rfl rfl rfl rfl (by decide +kernel))))
      (pss_cons (ps_set (i := 7) sc_stretch.nd rfl (.inr rfl) (pe_tupG (D := (DWant Z.P_stretch 11 1)) hr (by rfl) T.m_tuple (TB.t_stretch) rfl (genS_by (sc := defScope s_stretch) (by kernel_rfl) rfl) (pv 5) (hd_want (.inr rfl) rfl rfl rfl rfl rfl (by decide +kernel))))
      (pss_cons (ps_setLc (i := 8) (own := [("row", 12)]) (tt := tYes) (by rfl) sc_stretch.nd rfl rfl (sw_true rfl rfl rfl (by decide +kernel)) (piT K (pv 4)) (blkOk_by (own := [("row", 12)]) (by kernel_rfl)) (fun _ _ _ _ _ => (pg_name (i := 12) sc_stretch.nd rfl (.inl rfl))) (fun _ _ _ _ _ => pts_nil) (fun _ _ _ _ _ => (pe_call G_picked (hr.mono (by omega)) (by rfl) T.g_picked T.F_picked.kp T.b_picked .nil pass0 (pa_cons (pv 3) (pa_cons (pv 12) (pa_cons (pv 5) pa_nil))))))
      (pss_cons (ps_set (i := 9) sc_stretch.nd rfl (.inl rfl) (pe_callB (cLenSq K) (by rfl) T.m_len (by decide +kernel) (pa_cons (pe_lc (own := [("key", 13)]) (tt := _) (by rfl) sc_stretch.nd (piL K (pv 8)) (blkOk_by (own := [("key", 13)]) (by kernel_rfl)) (fun _ _ _ _ _ => (pg_name (i := 13) sc_stretch.nd rfl (.inl rfl))) (fun _ _ _ _ _ => (pts_one (pt_cmpR (ltTK K hr.units0) (pv 13) (pv 6) (nomark _)))) (fun _ _ _ _ _ => (pv 13))) pa_nil)))
      (pss_cons (ps_set (i := 10) sc_stretch.nd rfl (.inl rfl) (pe_callB (cLenSq K) (by rfl) T.m_len (by decide +kernel) (pa_cons (pe_lc (own := [("key", 13)]) (tt := _) (by rfl) sc_stretch.nd (piL K (pv 8)) (blkOk_by (own := [("key", 13)]) (by kernel_rfl)) (fun _ _ _ _ _ => (pg_name (i := 13) sc_stretch.nd rfl (.inl rfl))) (fun _ _ _ _ _ => (pts_one (pt_cmpR (leTK K hr.units0) (pv 13) (pv 7) (nomark _)))) (fun _ _ _ _ _ => (pv 13))) pa_nil)))
      (pss_one (ps_ret (pe_tup (pa_cons (pv 9) (pa_cons (pv 10) pa_nil))))))))))))), ?_⟩
    refine ⟨.ref t, rfl, t, [tx cols, .ref R], rfl, .inl (.inl ht), rfl, tx cols, [.ref R], rfl, .ref R, [], rfl, rfl, ?_⟩
    refine ⟨tx one, rfl, qv, rfl, one, qv, es, rc, rfl, hol, fq, hel, fun H1 sm1 => ?_⟩
    refine ⟨qv, rfl, qv, cols, es, rc, rfl, fq.kT (Same.kT sm1), hok, hel, fun d kvs H2 sm2 nd hd fk => ?_⟩
    have sm02 : Same H H2 := Same.trans sm1 sm2
    have tg2 : TG Z.Ps H2 := tg.same sm02
    have hP : Z.P_stretch ∈ Z.Ps := by simp
    have lsl : (⟨(usedM one es rc).toArray⟩ : Str).cps.toList = usedM one es rc := by simp
    have hul : (usedM one es rc).length ≤ 1000 := Nat.le_trans (used_len _ _ _) hol
    have hus : (⟨(usedM one es rc).toArray⟩ : Str).length ≤ sizeLine := Nat.le_of_lt (small1000 (show (usedM one es rc).length ≤ 1000 from hul))
    have want : ∀ (n : Int) (G : Hp) (σ : L2.St), TG Z.Ps G → G d = some (.dK kvs) → SpA G kvs (spanL es rc) → σ[11]? = some (some (.ref d)) → DWant Z.P_stretch 11 n (tx (usedM one es rc)) σ G (((usedM one es rc).map fun c => if n = 0 then (spanOf es rc c).1 else (spanOf es rc c).2).map V.int) := fun n G σ tG hG fG hσ => by
      refine ⟨tG _ hP, _, d, kvs, fun c => if n = 0 then (spanOf es rc c).1 else (spanOf es rc c).2, rfl, hus, hσ, hG, fun c hc => ?_, ?_⟩
      · rw [lsl] at hc
        obtain ⟨lo, hi, hm⟩ := used_span hc
        obtain ⟨p, h1, h2⟩ := fG.look (spanL_nd hok) hm
        refine ⟨p, lo, hi, h1, h2, ?_⟩
        show (if n = 0 then (spanOf es rc c).1 else (spanOf es rc c).2) = _
        rw [spanOf_mem (spanL_nd hok) hm]
      · rw [lsl, List.map_map]
        rfl
    -- first
    refine ⟨tx (usedM one es rc), rfl, (loM es rc (usedM one es rc)).map V.int, want 0 H2 _ tg2 hd fk rfl, tg2 _ hP, fun G3 t3 p3 n3 => ?_⟩
    have sx3 : Sx Z.Ps H2 (upd G3 p3 (.tup ((loM es rc (usedM one es rc)).map V.int))) := (Tabbed.sx hP t3).new n3
    have tg3 : TG Z.Ps (upd G3 p3 (.tup ((loM es rc (usedM one es rc)).map V.int))) := (Tabbed.tg tg2 t3).new n3
    have h33 : (upd G3 p3 (.tup ((loM es rc (usedM one es rc)).map V.int))) p3 = some (.tup ((loM es rc (usedM one es rc)).map V.int)) := upd_same
    generalize upd G3 p3 (.tup ((loM es rc (usedM one es rc)).map V.int)) = H3 at sx3 tg3 h33
    -- last
    refine ⟨tx (usedM one es rc), rfl, (hiM es rc (usedM one es rc)).map V.int, want 1 H3 _ tg3 (sx3.dct tg2 hd) (fk.kt (sx3.kt tg2)) rfl, tg3 _ hP, fun G4 t4 p4 n4 => ?_⟩
    have sx4 : Sx Z.Ps H3 (upd G4 p4 (.tup ((hiM es rc (usedM one es rc)).map V.int))) := (Tabbed.sx hP t4).new n4
    have tg4 : TG Z.Ps (upd G4 p4 (.tup ((hiM es rc (usedM one es rc)).map V.int))) := (Tabbed.tg tg3 t4).new n4
    have h44 : (upd G4 p4 (.tup ((hiM es rc (usedM one es rc)).map V.int))) p4 = some (.tup ((hiM es rc (usedM one es rc)).map V.int)) := upd_same
    generalize upd G4 p4 (.tup ((hiM es rc (usedM one es rc)).map V.int)) = H4 at sx4 tg4 h44
    have sx04 : Sx Z.Ps H H4 := ((Same.sx sm02).trans sx3).trans sx4
    have h43 : H4 p3 = some (.tup ((loM es rc (usedM one es rc)).map V.int)) := sx4.kt tg3 _ _ h33
    have kt04 : Kt H H4 := sx04.kt tg
    have hR4 := kt04 _ _ hRR
    -- keys
    refine ⟨.ref R, rfl, R, rfl, ⟨_, .inl (.inl hR4)⟩, fun D nD => lc_it (walk_tup (xs := vs)) (fun i H' => ∃ ks : List V, Sx Z.Ps H4 H' ∧ TG Z.Ps H' ∧ H' D = some (.lst ks) ∧ FzA H' ks (((rows.take i).map fun row => keyM cols row (usedM one es rc)).map rowD))
      ⟨[], Sx.rfl'.new nD, tg4.new nD, upd_same, .nil⟩ (fun i H' _ hI => ?_) (fun i x H5 H6 hi hI hY => ?_) (fun H5 hI => ?_)⟩
    · obtain ⟨ks, sx, _, _⟩ := hI
      exact .inl (.inl (sx.kt tg4 _ _ hR4))
    · obtain ⟨ks, sx5, tg5, hD5, fks⟩ := hI
      obtain ⟨rfl, ex⟩ := hY
      obtain ⟨dd, hdd, fd⟩ := fvs.getV ex
      rw [List.getElem?_map] at hdd
      obtain ⟨row, hrow, rfl⟩ := Option.map_eq_some_iff.mp hdd
      have hi2 : i < rows.length := (List.getElem?_eq_some_iff.mp hrow).1
      have erow : rows[i] = row := (List.getElem?_eq_some_iff.mp hrow).2
      have rok := hrs row (List.mem_of_getElem? hrow)
      have kt05 := kt04.trans (sx5.kt tg4)
      refine ⟨rfl, tx cols, rfl, x, rfl, tx (usedM one es rc), rfl, cols, x, row, usedM one es rc, rfl, tg5, fd.kt kt05, rok.1, fun c hc => hoc c (used_in hc), hul, fun p H7 sx7 tg7 np hp => ?_⟩
      have hD7 := sx7.lst tg5 hD5
      have fks7 := fks.kt (sx7.kt tg5)
      refine ⟨ks, hD7, ?_, ks ++ [.ref p], (sx5.trans sx7).mut nD, tg7.mut hD7, upd_same, ?_⟩
      · rw [fks.len, List.length_map, List.length_map, List.length_take]
        exact small1000 (by omega)
      · rw [List.take_succ_eq_append_getElem hi2, erow, List.map_append, List.map_append]
        exact (FzA.snoc fks7 (row_at_fz hp)).kt (Kt.lst hD7)
    · obtain ⟨ks, sx5, tg5, hD5, fks⟩ := hI
      rw [hvl, List.take_of_length_le (Nat.le_refl _)] at fks
      have hkl : ks.length = rows.length := by rw [fks.len, List.length_map, List.length_map]
      have h53 := (sx5.kt tg4) _ _ h43
      have h54 := (sx5.kt tg4) _ _ h44
      -- ahead
      refine ⟨.ref D, rfl, D, rfl, ⟨_, .inl (.inl hD5)⟩, fun D6 nD6 => lc_it (walk_list (xs := ks)) (fun i H' => ∃ cs : List V, Same H5 H' ∧ H' D6 = some (.lst cs) ∧ cs.length = ((rows.take i).filter fun row => HT.lexLt (keyM cols row (usedM one es rc)) (loM es rc (usedM one es rc))).length)
        ⟨[], Same.new (Same.refl H5) nD6, upd_same, rfl⟩ (fun i H' _ hI => ?_) (fun i x H6 H7 hi hI hY => ?_) (fun H6 hI => ?_)⟩
      · obtain ⟨cs, sm, _⟩ := hI
        exact .inl (.inl (sm _ _ hD5))
      · obtain ⟨cs, sm6, hD6, hcl⟩ := hI
        obtain ⟨rfl, ex⟩ := hY
        obtain ⟨dd, hdd, fd⟩ := fks.getV ex
        rw [List.getElem?_map] at hdd
        obtain ⟨key, hkey, rfl⟩ := Option.map_eq_some_iff.mp hdd
        rw [List.getElem?_map] at hkey
        obtain ⟨row, hrow, rfl⟩ := Option.map_eq_some_iff.mp hkey
        have hi2 : i < rows.length := (List.getElem?_eq_some_iff.mp hrow).1
        have erow : rows[i] = row := (List.getElem?_eq_some_iff.mp hrow).2
        obtain ⟨ka, rfl, hka⟩ := row_open fd
        refine ⟨rfl, .ref ka, rfl, .ref p3, rfl, ka, p3, _, _, rfl, rfl, .inl (.inl (sm6 _ _ hka)), .inl (.inl (sm6 _ _ h53)), _, rfl, ite2 (fun e => ?_) (fun e => ?_)⟩
        · refine ⟨.ref ka, rfl, cs, hD6, ?_, cs ++ [.ref ka], Same.mut sm6 nD6, upd_same, ?_⟩
          · rw [hcl]
            have := List.length_filter_le (fun row => HT.lexLt (keyM cols row (usedM one es rc)) (loM es rc (usedM one es rc))) (rows.take i)
            rw [List.length_take] at this
            exact small1000 (by omega)
          · rw [List.take_succ_eq_append_getElem hi2, erow, List.filter_append, List.filter_cons, if_pos e, List.length_append, List.length_append, hcl]
            rfl
        · refine ⟨cs, sm6, hD6, ?_⟩
          rw [List.take_succ_eq_append_getElem hi2, erow, List.filter_append, List.filter_cons, if_neg e, List.filter_nil, List.append_nil, hcl]
      · obtain ⟨cs, sm6, hD6, hcl⟩ := hI
        rw [hkl, List.take_of_length_le (Nat.le_refl _)] at hcl
        refine ⟨D6, cs, rfl, .inl (.inl (.inl hD6)), ?_⟩
        rw [hcl]
        -- behind
        refine ⟨.ref D, rfl, D, rfl, ⟨_, .inl (.inl (sm6 _ _ hD5))⟩, fun D8 nD8 => lc_it (walk_list (xs := ks)) (fun i H' => ∃ cs : List V, Same H6 H' ∧ H' D8 = some (.lst cs) ∧ cs.length = ((rows.take i).filter fun row => leK (keyM cols row (usedM one es rc)) (hiM es rc (usedM one es rc))).length)
          ⟨[], Same.new (Same.refl H6) nD8, upd_same, rfl⟩ (fun i H' _ hI => ?_) (fun i x H8 H9 hi hI hY => ?_) (fun H8 hI => ?_)⟩
        · obtain ⟨cs, sm, _⟩ := hI
          exact .inl (.inl (sm _ _ (sm6 _ _ hD5)))
        · obtain ⟨cs2, sm8, hD8, hcl2⟩ := hI
          obtain ⟨rfl, ex⟩ := hY
          obtain ⟨dd, hdd, fd⟩ := fks.getV ex
          rw [List.getElem?_map] at hdd
          obtain ⟨key, hkey, rfl⟩ := Option.map_eq_some_iff.mp hdd
          rw [List.getElem?_map] at hkey
          obtain ⟨row, hrow, rfl⟩ := Option.map_eq_some_iff.mp hkey
          have hi2 : i < rows.length := (List.getElem?_eq_some_iff.mp hrow).1
          have erow : rows[i] = row := (List.getElem?_eq_some_iff.mp hrow).2
          obtain ⟨ka, rfl, hka⟩ := row_open fd
          refine ⟨rfl, .ref ka, rfl, .ref p4, rfl, ka, p4, _, _, rfl, rfl, .inl (.inl (sm8 _ _ (sm6 _ _ hka))), .inl (.inl (sm8 _ _ (sm6 _ _ h54))), _, rfl, ite2 (fun e => ?_) (fun e => ?_)⟩
          · have e' : leK (keyM cols row (usedM one es rc)) (hiM es rc (usedM one es rc)) = true := e
            refine ⟨.ref ka, rfl, cs2, hD8, ?_, cs2 ++ [.ref ka], Same.mut sm8 nD8, upd_same, ?_⟩
            · rw [hcl2]
              have := List.length_filter_le (fun row => leK (keyM cols row (usedM one es rc)) (hiM es rc (usedM one es rc))) (rows.take i)
              rw [List.length_take] at this
              exact small1000 (by omega)
            · rw [List.take_succ_eq_append_getElem hi2, erow, List.filter_append, List.filter_cons, if_pos e', List.length_append, List.length_append, hcl2]
              rfl
          · have e' : ¬ leK (keyM cols row (usedM one es rc)) (hiM es rc (usedM one es rc)) = true := e
            refine ⟨cs2, sm8, hD8, ?_⟩
            rw [List.take_succ_eq_append_getElem hi2, erow, List.filter_append, List.filter_cons, if_neg e', List.filter_nil, List.append_nil, hcl2]
        · obtain ⟨cs2, sm8, hD8, hcl2⟩ := hI
          rw [hkl, List.take_of_length_le (Nat.le_refl _)] at hcl2
          refine ⟨D8, cs2, rfl, .inl (.inl (.inl hD8)), ?_⟩
          rw [hcl2]
          refine ⟨_, rfl, _, rfl, (by show 2 ≤ sizeLine; decide), fun pr npr => ?_⟩
          have sm58 : Same H5 H8 := Same.trans sm6 sm8
          refine q pr _ (((sx04.trans sx5).trans (Same.sx sm58)).new npr) ((tg5.same sm58).new npr) ?_ upd_same
          exact Sx.free (tg5.same sm58) ((sx04.trans sx5).trans (Same.sx sm58)) npr

/-! ### sorted_by -/
def spSorted (K : PySem.W.Frag) (Z : Ad) : Sp := fun vs H Q _ => ∃ (tv : V) (cols : List Nat) (rows : List (List Int)) (one : List Nat), vs = [tv, tx one] ∧ TG Z.Ps H ∧ Fz H tv (tabD cols rows) ∧ RowsOk cols.length rows ∧ rows.length ≤ 1000 ∧ one.length ≤ 1000 ∧ (∀ c ∈ one, c ∈ cols) ∧
  ∀ (p : Addr) (H' : Hp), Sx Z.Ps H H' → TG Z.Ps H' → H p = none → H' p = some (.lst ((sortM cols rows one).map V.int)) → Q (.ref p) H'
theorem ok_sorted (T : Tx K mg Z) (TB : Tb base mg Z) : FnOk P w K mg base CX0 2 Z.f_sorted_by Z.d_sorted_by ["table", "one"] (spSorted K Z) := by
  have G_picked : FnOk P w K mg base CX0 1 Z.f_picked Z.d_picked ["columns", "row", "letters"] (spPicked K Z) := ok_picked T TB
  refine T.F_sorted_by.ok sc_sorted_by (fun vs H Q E h => ?_) (fun cdv A outer s H vs Q E hr h => ?_)
  · obtain ⟨tv, cols, rows, one, rfl, _⟩ := h
    rfl
  · obtain ⟨tv, cols, rows, one, rfl, tg, fT, hrs, hrn, hol, hoc, q⟩ := h
    obtain ⟨t, R, vs, rfl, ht, hRR, fvs⟩ := tab_open fT
    have hvl : vs.length = rows.length := by rw [fvs.len, List.length_map]
    refine ⟨_, (pss_cons (ps_asg (pv 0) (pgT K (n := 2) (pgs_cons (pg_name (i := 2) sc_sorted_by.nd rfl (.inr rfl)) (pgs_cons (pg_name (i := 3) sc_sorted_by.nd rfl (.inl rfl)) pgs_nil))))
      (pss_cons (ps_setLc (i := 4) (own := [("number", 5), ("row", 6)]) (tt := tYes) (by rfl) sc_sorted_by.nd rfl rfl (sw_true rfl rfl rfl (by decide +kernel)) (enumTK K (by rfl) T.m_enumerate (pa_cons (pv 3) pa_nil)) (blkOk_by (own := [("number", 5), ("row", 6)]) (by kernel_rfl)) (fun _ _ _ _ _ => (pgT K (n := 2) (pgs_cons (pg_name (i := 5) sc_sorted_by.nd rfl (.inl rfl)) (pgs_cons (pg_name (i := 6) sc_sorted_by.nd rfl (.inl rfl)) pgs_nil)))) (fun _ _ _ _ _ => pts_nil) (fun _ _ _ _ _ => (pe_tup (pa_cons (pe_call G_picked (hr.mono (by omega)) (by rfl) T.g_picked T.F_picked.kp T.b_picked .nil pass0 (pa_cons (pv 2) (pa_cons (pv 6) (pa_cons (pv 1) pa_nil)))) (pa_cons (pv 5) pa_nil)))))
      (pss_one (ps_ret (pe_lc (own := [("key", 7), ("number", 5)]) (tt := tYes) (by rfl) sc_sorted_by.nd (piL K (pe_callB (cSortE K hr) (by rfl) T.m_sorted (by decide +kernel) (pa_cons (pv 4) pa_nil))) (blkOk_by (own := [("key", 7), ("number", 5)]) (by kernel_rfl)) (fun _ _ _ _ _ => (pgT K (n := 2) (pgs_cons (pg_name (i := 7) sc_sorted_by.nd rfl (.inl rfl)) (pgs_cons (pg_name (i := 5) sc_sorted_by.nd rfl (.inl rfl)) pgs_nil)))) (fun _ _ _ _ _ => pts_nil) (fun _ _ _ _ _ => (pv 5))))))), ?_⟩
    refine ⟨.ref t, rfl, t, [tx cols, .ref R], rfl, .inl (.inl ht), rfl, tx cols, [.ref R], rfl, .ref R, [], rfl, rfl, ?_⟩
    refine ⟨.ref R, rfl, R, vs, rfl, .inl (.inl hRR), fun D nD => lc_it (walk_et (xs := vs)) (fun i H' => ∃ bs : List (V × Ent), Sx Z.Ps H H' ∧ TG Z.Ps H' ∧ H' D = some (.lst (bs.map (·.1))) ∧ bs.map (·.2) = (List.range i).map (entAt cols rows one) ∧ ∀ b ∈ bs, Fz H' b.1 (entD b.2))
      ⟨[], Sx.rfl'.new nD, tg.new nD, upd_same, rfl, fun b hb => nomatch hb⟩ (fun i H' _ hP => ?_) (fun i x H3 H4 hi hP hY => ?_) (fun H3 hP => ?_)⟩
    · obtain ⟨bs, sx, _⟩ := hP
      exact .inl (.inl (sx.kt tg _ _ hRR))
    · obtain ⟨bs, sx3, tg3, hD3, hb3, fb3⟩ := hP
      obtain ⟨T0, x1, x2, rfl, nT, rfl, ex1, ex2⟩ := hY
      have e1 : x1 = .int (i : Nat) := (Option.some.inj ex1).symm
      subst e1
      obtain ⟨d, hd, fd⟩ := fvs.getV ex2
      rw [List.getElem?_map] at hd
      obtain ⟨row, hrow, rfl⟩ := Option.map_eq_some_iff.mp hd
      have hi2 : i < rows.length := (List.getElem?_eq_some_iff.mp hrow).1
      have erow : rows.getD i [] = row := by rw [List.getD_eq_getElem?_getD, hrow]; rfl
      have rok := hrs row (List.mem_of_getElem? hrow)
      have hbl : bs.length = i := by
        have := congrArg List.length hb3
        rw [List.length_map, List.length_map, List.length_range] at this
        exact this
      have sx4 : Sx Z.Ps H (upd H3 T0 (.tup [.int (i : Nat), x2])) := sx3.new nT
      have tg4 : TG Z.Ps (upd H3 T0 (.tup [.int (i : Nat), x2])) := tg3.new nT
      have kt34 : Kt H3 (upd H3 T0 (.tup [.int (i : Nat), x2])) := .new nT
      have hD4 : (upd H3 T0 (.tup [.int (i : Nat), x2])) D = some (.lst (bs.map (·.1))) := keep_new hD3 nT
      have hT4 : (upd H3 T0 (.tup [.int (i : Nat), x2])) T0 = some (.tup [.int (i : Nat), x2]) := upd_same
      generalize upd H3 T0 (.tup [.int (i : Nat), x2]) = H4 at sx4 tg4 kt34 hD4 hT4 ⊢
      refine ⟨T0, [.int (i : Nat), x2], rfl, .inl (.inl hT4), rfl, .int (i : Nat), [x2], rfl, x2, [], rfl, rfl, rfl, tx cols, rfl, x2, rfl, tx one, rfl, cols, x2, row, one, rfl, tg4, fd.kt (sx4.kt tg), rok.1, hoc, hol, fun p H5 sx5 tg5 np hp => ?_⟩
      refine ⟨.int (i : Nat), rfl, (by show 2 ≤ sizeLine; decide), fun ea nea => ?_⟩
      have hD5 := sx5.lst tg4 hD4
      have hD6 : (upd H5 ea (.tup [.ref p, .int (i : Nat)])) D = some (.lst (bs.map (·.1))) := keep_new hD5 nea
      have fe : Fz (upd H5 ea (.tup [.ref p, .int (i : Nat)])) (.ref ea) (entD (entAt cols rows one i)) := by
        unfold entD entAt
        rw [erow]
        exact Fz.made nea (.cons (row_at_fz hp) (.cons (.int _) .nil))
      refine ⟨bs.map (·.1), hD6, ?_, bs ++ [(.ref ea, entAt cols rows one i)], ((sx4.trans sx5).new nea).mut nD, (tg5.new nea).mut hD6, ?_, ?_, fun b hb => ?_⟩
      · rw [List.length_map]
        exact small1000 (by omega)
      · rw [upd_same, List.map_append]
        rfl
      · rw [List.map_append, hb3, List.range_succ, List.map_append]
        rfl
      · rcases List.mem_append.mp hb with z | z
        · exact ((((fb3 b z).kt kt34).kt (sx5.kt tg4)).kt (.new nea)).kt (Kt.lst hD6)
        · rw [List.mem_singleton.mp z]
          exact fe.kt (Kt.lst hD6)
    · obtain ⟨bs, sx3, tg3, hD3, hb3, fb3⟩ := hP
      rw [hvl] at hb3
      have hbl : bs.length = rows.length := by
        have := congrArg List.length hb3
        rw [List.length_map, List.length_map, List.length_range] at this
        exact this
      refine ⟨.ref D, rfl, D, bs, rfl, .inl (.inl hD3), fb3, fun S nS => ?_⟩
      have sm4 : Same H3 (upd H3 S (.lst ((bs.mergeSort fun b c => entLe b.2 c.2).map (·.1)))) := Same.new (Same.refl H3) nS
      have hS4 : (upd H3 S (.lst ((bs.mergeSort fun b c => entLe b.2 c.2).map (·.1)))) S = some (.lst ((bs.mergeSort fun b c => entLe b.2 c.2).map (·.1))) := upd_same
      generalize upd H3 S (.lst ((bs.mergeSort fun b c => entLe b.2 c.2).map (·.1))) = H4 at sm4 hS4 ⊢
      have eM := sortM_of hb3
      have hpm : ∀ b ∈ (bs.mergeSort fun b c => entLe b.2 c.2), b ∈ bs := fun b h => (List.mergeSort_perm _ _).mem_iff.mp h
      have hsl : (bs.mergeSort fun b c => entLe b.2 c.2).length = rows.length := by rw [List.length_mergeSort, hbl]
      generalize (bs.mergeSort fun b c => entLe b.2 c.2) = sb at hS4 eM hpm hsl ⊢
      refine ⟨S, rfl, ⟨_, .inl (.inl hS4)⟩, fun D2 nD2 => lc_it (walk_list (xs := sb.map (·.1))) (fun i H' => Same H4 H' ∧ H' D2 = some (.lst (((sb.take i).map (·.2.2)).map V.int)))
        ⟨Same.new (Same.refl H4) nD2, upd_same⟩ (fun i H' _ hP => .inl (.inl (hP.1 _ _ hS4))) (fun i x H5 H6 hi hP hY => ?_) (fun H5 hP => ?_)⟩
      · obtain ⟨sm5, hD5⟩ := hP
        obtain ⟨rfl, ex⟩ := hY
        rw [List.getElem?_map] at ex
        obtain ⟨b, hb, rfl⟩ := Option.map_eq_some_iff.mp ex
        have hi2 : i < sb.length := (List.getElem?_eq_some_iff.mp hb).1
        have eb : sb[i] = b := (List.getElem?_eq_some_iff.mp hb).2
        have fb := ((fb3 b (hpm b (List.mem_of_getElem? hb))).kt (Same.kt sm4)).kt (Same.kt sm5)
        obtain ⟨ba, xs, eba, hba, fxs⟩ := Fz.open fb
        obtain ⟨z1, z2, rfl, g1, g2⟩ := fxs.two
        rw [g2.isInt] at hba
        refine ⟨ba, [z1, .int b.2.2], eba, .inl (.inl hba), rfl, z1, [.int b.2.2], rfl, .int b.2.2, [], rfl, rfl, rfl, .int b.2.2, rfl, _, hD5, ?_, Same.mut sm5 nD2, ?_⟩
        · rw [List.length_map, List.length_map, List.length_take]
          exact small1000 (by omega)
        · rw [upd_same, List.take_succ_eq_append_getElem hi2, eb, List.map_append, List.map_append]
          rfl
      · obtain ⟨sm5, hD5⟩ := hP
        rw [List.length_map, List.take_of_length_le (Nat.le_refl _), eM] at hD5
        have sm35 := Same.trans sm4 sm5
        have nD23 : H3 D2 = none := Same.free sm4 nD2
        exact q D2 H5 (sx3.trans (Same.sx sm35)) (tg3.same sm35) (Sx.free tg3 sx3 nD23) hD5

/-! ### read -/
def spRead (K : PySem.W.Frag) (Z : Ad) : Sp := fun vs H Q _ => ∃ (tv : V) (cols : List Nat) (rows : List (List Int)) (one : List Nat) (qv : V) (es : List (Nat × Int)) (rc : Option (Nat × Int × Int)), vs = [tv, tx one, qv] ∧ TG Z.Ps H ∧ Fz H tv (tabD cols rows) ∧ RowsOk cols.length rows ∧ rows.length ≤ 1000 ∧ one.length ≤ 1000 ∧ (∀ c ∈ one, c ∈ cols) ∧ QZ H qv es rc ∧ QOk cols es rc ∧ es.length ≤ 1000 ∧
  ∀ (p l : Addr) (H' : Hp), Sx Z.Ps H H' → TG Z.Ps H' → H p = none → H l = none → H' p = some (.tup [.ref l, .int ((behindM cols rows one es rc : Nat) - (aheadM cols rows one es rc : Nat) : Int)]) → H' l = some (.lst ((ansM cols rows es rc).map V.int)) → Q (.ref p) H'
theorem ok_read (T : Tx K mg Z) (TB : Tb base mg Z) : FnOk P w K mg base CX0 4 Z.f_read Z.d_read ["table", "one", "question"] (spRead K Z) := by
  have G_stretch : FnOk P w K mg base CX0 3 Z.f_stretch Z.d_stretch ["table", "one", "question"] (spStretch K Z) := ok_stretch T TB
  have G_sorted_by : FnOk P w K mg base CX0 2 Z.f_sorted_by Z.d_sorted_by ["table", "one"] (spSorted K Z) := ok_sorted T TB
  have G_fits : FnOk P w K mg base CX0 2 Z.f_fits Z.d_fits ["columns", "row", "question"] (spFits K) := ok_fits T
  refine T.F_read.ok sc_read (fun vs H Q E h => ?_) (fun cdv A outer s H vs Q E hr h => ?_)
  · obtain ⟨tv, cols, rows, one, qv, es, rc, rfl, _⟩ := h
    rfl
  · obtain ⟨tv, cols, rows, one, qv, es, rc, rfl, tg, fT, hrs, hrn, hol, hoc, fq, hok, hel, q⟩ := h
    obtain ⟨t, R, vs, rfl, ht, hRR, fvs⟩ := tab_open fT
    have hvl : vs.length = rows.length := by rw [fvs.len, List.length_map]
    refine ⟨_, (pss_cons (ps_asg (pv 0) (pgT K (n := 2) (pgs_cons (pg_name (i := 3) sc_read.nd rfl (.inr rfl)) (pgs_cons (pg_name (i := 4) sc_read.nd rfl (.inr rfl)) pgs_nil))))
      (pss_cons (ps_asg (pe_call G_stretch (hr.mono (by omega)) (by rfl) T.g_stretch T.F_stretch.kp T.b_stretch .nil pass0 (pa_cons (pv 0) (pa_cons (pv 1) (pa_cons (pv 2) pa_nil)))) (pgT K (n := 2) (pgs_cons (pg_name (i := 5) sc_read.nd rfl (.inl rfl)) (pgs_cons (pg_name (i := 6) sc_read.nd rfl (.inl rfl)) pgs_nil))))
      (pss_cons (ps_set (i := 7) sc_read.nd rfl (.inl rfl) (pe_slice (slLK K) (pe_call G_sorted_by (hr.mono (by omega)) (by rfl) T.g_sorted_by T.F_sorted_by.kp T.b_sorted_by .nil pass0 (pa_cons (pv 0) (pa_cons (pv 1) pa_nil))) (po_some (pv 5)) (po_some (pv 6))))
      (pss_cons (ps_setLc (i := 8) (own := [("number", 9)]) (tt := _) (by rfl) sc_read.nd rfl rfl (sw_true rfl rfl rfl (by decide +kernel)) (piL K (pv 7)) (blkOk_by (own := [("number", 9)]) (by kernel_rfl)) (fun _ _ _ _ _ => (pg_name (i := 9) sc_read.nd rfl (.inl rfl))) (fun _ _ _ _ _ => (pts_one (pt_val (pe_call G_fits (hr.mono (by omega)) (by rfl) T.g_fits T.F_fits.kp T.b_fits .nil pass0 (pa_cons (pv 3) (pa_cons (pe_ix (ixT K) (pv 4) (pv 9) (fun _ _ => rfl)) (pa_cons (pv 2) pa_nil))))))) (fun _ _ _ _ _ => (pv 9)))
      (pss_one (ps_ret (pe_tup (pa_cons (pe_callB (sortIK K) (by rfl) T.m_sorted (by decide +kernel) (pa_cons (pv 8) pa_nil)) (pa_cons (pe_op op_sub (pv 6) (pv 5)) pa_nil))))))))), ?_⟩
    refine ⟨.ref t, rfl, t, [tx cols, .ref R], rfl, .inl (.inl ht), rfl, tx cols, [.ref R], rfl, .ref R, [], rfl, rfl, ?_⟩
    refine ⟨.ref t, rfl, tx one, rfl, qv, rfl, .ref t, cols, rows, one, qv, es, rc, rfl, tg, fT, hrs, hrn, hol, hoc, fq, hok, hel, fun sp H1 sx1 tg1 nsp hsp => ?_⟩
    refine ⟨sp, [.int (aheadM cols rows one es rc : Nat), .int (behindM cols rows one es rc : Nat)], rfl, .inl (.inl hsp), rfl, .int (aheadM cols rows one es rc : Nat), [.int (behindM cols rows one es rc : Nat)], rfl, .int (behindM cols rows one es rc : Nat), [], rfl, rfl, ?_⟩
    refine ⟨.ref t, rfl, tx one, rfl, .ref t, cols, rows, one, rfl, tg1, fT.kt (sx1.kt tg), hrs, hrn, hol, hoc, fun L H2 sx2 tg2 nL hL2 => ?_⟩
    rw [idx_sort] at hL2
    refine ⟨.int (aheadM cols rows one es rc : Nat), rfl, _, rfl, .int (behindM cols rows one es rc : Nat), rfl, _, rfl, L, _, rfl, .inl (.inl hL2), fun S nS => ?_⟩
    have hil : (idxM cols rows one).length = rows.length := by rw [(idx_perm cols rows one).length_eq, List.length_range]
    have ecut : cutV (((idxM cols rows one).map fun n : Nat => (n : Int)).map V.int) (some (aheadM cols rows one es rc : Nat)) (some (behindM cols rows one es rc : Nat)) = ((((idxM cols rows one).drop (aheadM cols rows one es rc)).take (behindM cols rows one es rc - aheadM cols rows one es rc)).map fun n : Nat => (n : Int)).map V.int := by
      rw [cutV_nat _ _ _ (ahead_le hok) (by rw [List.length_map, List.length_map, hil]; exact behind_le _ _ _ _ _)]
      simp only [List.map_take, List.map_drop]
    rw [ecut]
    have hin : ∀ o ∈ ((idxM cols rows one).drop (aheadM cols rows one es rc)).take (behindM cols rows one es rc - aheadM cols rows one es rc), o < rows.length := fun o h => List.mem_range.mp ((idx_perm cols rows one).mem_iff.mp (List.mem_of_mem_drop (List.mem_of_mem_take h)))
    have hsl : (((idxM cols rows one).drop (aheadM cols rows one es rc)).take (behindM cols rows one es rc - aheadM cols rows one es rc)).length ≤ 1000 := by
      rw [List.length_take, List.length_drop]
      omega
    have ra := @read_ans cols rows one es rc hok
    generalize ((idxM cols rows one).drop (aheadM cols rows one es rc)).take (behindM cols rows one es rc - aheadM cols rows one es rc) = st at hin hsl ra ⊢
    have sm3 : Same H2 (upd H2 S (.lst ((st.map fun n : Nat => (n : Int)).map V.int))) := Same.new (Same.refl H2) nS
    have hS3 : (upd H2 S (.lst ((st.map fun n : Nat => (n : Int)).map V.int))) S = some (.lst ((st.map fun n : Nat => (n : Int)).map V.int)) := upd_same
    generalize upd H2 S (.lst ((st.map fun n : Nat => (n : Int)).map V.int)) = H3 at sm3 hS3 ⊢
    have sx3 : Sx Z.Ps H H3 := (sx1.trans sx2).trans (Same.sx sm3)
    have tg3 : TG Z.Ps H3 := tg2.same sm3
    have kt3 : KT H H3 := sx3.kT tg
    have hR3 := kt3.1 _ _ hRR
    have fvs3 := fvs.kt kt3.1
    have fq3 := fq.kT kt3
    refine ⟨.ref S, rfl, S, rfl, ⟨_, .inl (.inl hS3)⟩, fun D nD => lc_it (walk_list (xs := (st.map fun n : Nat => (n : Int)).map V.int)) (fun i H' => Same H3 H' ∧ H' D = some (.lst ((((st.take i).filter fun o => fitsM cols (rows.getD o []) es rc).map fun n : Nat => (n : Int)).map V.int)))
      ⟨Same.new (Same.refl H3) nD, upd_same⟩ (fun i H' _ hP => .inl (.inl (hP.1 _ _ hS3))) (fun i x H4 H5 hi hP hY => ?_) (fun H4 hP => ?_)⟩
    · obtain ⟨sm4, hD4⟩ := hP
      obtain ⟨rfl, ex⟩ := hY
      rw [List.getElem?_map, List.getElem?_map] at ex
      obtain ⟨oI, hoI, rfl⟩ := Option.map_eq_some_iff.mp ex
      obtain ⟨o, ho, rfl⟩ := Option.map_eq_some_iff.mp hoI
      have hi2 : i < st.length := (List.getElem?_eq_some_iff.mp ho).1
      have hoj : st[i] = o := (List.getElem?_eq_some_iff.mp ho).2
      have ho2 : o < rows.length := hin o (List.mem_of_getElem? ho)
      obtain ⟨v, hv, fv⟩ := fvs3.get (i := o) (d := rowD rows[o]) (by rw [List.getElem?_map, List.getElem?_eq_getElem ho2]; rfl)
      have eo : rows.getD o [] = rows[o] := by rw [List.getD_eq_getElem?_getD, List.getElem?_eq_getElem ho2]; rfl
      have rok := hrs rows[o] (List.getElem_mem ho2)
      refine ⟨rfl, tx cols, rfl, .ref R, rfl, .int (o : Nat), rfl, R, vs, _, v, rfl, rfl, .inl (.inl (sm4 _ _ hR3)), atI_nat hv, qv, rfl, cols, v, rows[o], qv, es, rc, rfl, fv.kt (Same.kt sm4), rok.1, fq3.kT (Same.kT sm4), hok, hel, fun H7 sm7 => ⟨_, rfl, ite2 (fun e => ?_) (fun e => ?_)⟩⟩
      · have hD7 := sm7 _ _ hD4
        refine ⟨.int (o : Nat), rfl, _, hD7, ?_, Same.mut (Same.trans sm4 sm7) nD, ?_⟩
        · rw [List.length_map, List.length_map]
          have := List.length_filter_le (fun o => fitsM cols (rows.getD o []) es rc) (st.take i)
          rw [List.length_take] at this
          exact small1000 (by omega)
        · rw [upd_same, List.take_succ_eq_append_getElem hi2, hoj, List.filter_append, List.filter_cons, eo, if_pos e, List.map_append, List.map_append]
          rfl
      · have hD7 := sm7 _ _ hD4
        refine ⟨Same.trans sm4 sm7, ?_⟩
        rw [hD7, List.take_succ_eq_append_getElem hi2, hoj, List.filter_append, List.filter_cons, eo, if_neg e, List.filter_nil, List.append_nil]
    · obtain ⟨sm4, hD4⟩ := hP
      rw [List.length_map, List.length_map, List.take_of_length_le (Nat.le_refl _)] at hD4
      refine ⟨.ref D, rfl, D, _, rfl, .inl (.inl hD4), fun ns p hpm hso np => ?_⟩
      rw [ra hso hpm]
      refine ⟨.int (behindM cols rows one es rc : Nat), rfl, .int (aheadM cols rows one es rc : Nat), rfl, _, _, rfl, rfl, (by show 2 ≤ sizeLine; decide), fun pt npt => ?_⟩
      have sx4 : Sx Z.Ps H H4 := sx3.trans (Same.sx sm4)
      have tg4 : TG Z.Ps H4 := tg3.same sm4
      have hp5 : (upd H4 p (.lst ((ansM cols rows es rc).map V.int))) p = some (.lst ((ansM cols rows es rc).map V.int)) := upd_same
      have np0 : H p = none := Sx.free tg4 sx4 np
      have npt0 : H pt = none := Sx.free (tg4.new np) (sx4.new np) npt
      exact q pt p _ ((sx4.new np).new npt) ((tg4.new np).new npt) npt0 np0 upd_same (keep_new hp5 npt)

/-! ### the law -/
abbrev s12 (a r t R qa ea l : Addr) (i j : Nat) (cols one : List Nat) (y : V) (m : Int) (z13 z14 z15 z16 z17 z18 z19 z20 z21 z22 z23 z24 z25 z26 : Option V) : L2.St := [some (.ref a), some (.int (0 + (i : Nat))), some (.ref r), some (.ref t), some (tx cols), some (.ref R), some (.int (0 + (j : Nat))), some (.ref qa), some (.ref ea), some y, some (tx one), some (.ref l), some (.int m), z13, z14, z15, z16, z17, z18, z19, z20, z21, z22, z23, z24, z25, z26]
def spLaw (K : PySem.W.Frag) (Z : Ad) : Sp := fun vs H Q _ => ∃ (a : Addr) (ns : List Int), vs = [.ref a] ∧ SqL K H a (ns.map V.int) ∧ ns.length ≤ 63 ∧ (∀ P ∈ Z.Ps, GxR.TabG H P) ∧ ∀ H', Q (.bl true) H'
set_option maxHeartbeats 16000000 in
theorem ok_law (T : Tx K mg Z) (TB : Tb base mg Z) : FnOk P w K mg base CX0 5 Z.f_law Z.d_law ["script"] (spLaw K Z) := by
  have G_l_reel : FnOk P w K mg base CX0 1 Z.f_l_reel Z.d_l_reel ["script", "k"] (spReel K) := ok_reel T
  have G_l_pick : FnOk P w K mg base CX0 1 Z.f_l_pick Z.d_l_pick ["reel", "many"] (spPick K) := ok_pick T
  have G_l_table : FnOk P w K mg base CX0 3 Z.f_l_table Z.d_l_table ["reel", "most", "rows"] (spTable K) := ok_table T
  have G_l_question : FnOk P w K mg base CX0 3 Z.f_l_question Z.d_l_question ["reel", "table"] (spQuestion K) := ok_question T
  have G_l_one : FnOk P w K mg base CX0 2 Z.f_l_one Z.d_l_one ["reel", "columns"] (spOne K) := ok_one T
  have G_answer : FnOk P w K mg base CX0 3 Z.f_answer Z.d_answer ["table", "question"] (spAnswer K) := ok_answer T
  have G_stretch : FnOk P w K mg base CX0 3 Z.f_stretch Z.d_stretch ["table", "one", "question"] (spStretch K Z) := ok_stretch T TB
  have G_sorted_by : FnOk P w K mg base CX0 2 Z.f_sorted_by Z.d_sorted_by ["table", "one"] (spSorted K Z) := ok_sorted T TB
  have G_read : FnOk P w K mg base CX0 4 Z.f_read Z.d_read ["table", "one", "question"] (spRead K Z) := ok_read T TB
  have G_used : FnOk P w K mg base CX0 2 Z.f_used Z.d_used ["one", "question"] (spUsed K) := ok_used T
  refine T.F_law.ok sc_law (fun vs H Q E h => ?_) (fun cdv A outer s H vs Q E hr h => ?_)
  · obtain ⟨a, ns, rfl, _⟩ := h
    rfl
  · obtain ⟨a, ns, rfl, hS, hlen, tgA, q⟩ := h
    have tg : TG Z.Ps H := tgA
    refine ⟨_, (pss_cons (ps_for PassesOwn.never rfl (pi_range1 (by rfl) T.m_range (pa_cons (pe_callB (call_max2 rfl) (by rfl) T.m_max (by decide +kernel) (pa_cons pe_int (pa_cons (pe_callB (call_min2 rfl) (by rfl) T.m_min (by decide +kernel) (pa_cons pe_int (pa_cons (pe_callB (cLenSq K) (by rfl) T.m_len (by decide +kernel) (pa_cons (pv 0) pa_nil)) pa_nil))) pa_nil))) pa_nil)) (pg_name (i := 1) sc_law.nd rfl (.inl rfl)) (pss_cons (ps_set (i := 2) sc_law.nd rfl (.inl rfl) (pe_call G_l_reel (hr.mono (by omega)) (by rfl) T.g_l_reel T.F_l_reel.kp T.b_l_reel .nil pass0 (pa_cons (pv 0) (pa_cons (pv 1) pa_nil))))
      (pss_cons (ps_set (i := 3) sc_law.nd rfl (.inl rfl) (pe_call G_l_table (hr.mono (by omega)) (by rfl) T.g_l_table T.F_l_table.kp T.b_l_table .nil pass0 (pa_cons (pv 2) (pa_cons pe_int (pa_cons pe_int pa_nil)))))
      (pss_cons (ps_asg (pv 3) (pgT K (n := 2) (pgs_cons (pg_name (i := 4) sc_law.nd rfl (.inl rfl)) (pgs_cons (pg_name (i := 5) sc_law.nd rfl (.inl rfl)) pgs_nil))))
      (pss_one (ps_for PassesOwn.never rfl (pi_range1 (by rfl) T.m_range (pa_cons pe_int pa_nil)) (pg_name (i := 6) sc_law.nd rfl (.inl rfl)) (pss_cons (ps_set (i := 7) sc_law.nd rfl (.inl rfl) (pe_call G_l_question (hr.mono (by omega)) (by rfl) T.g_l_question T.F_l_question.kp T.b_l_question .nil pass0 (pa_cons (pv 2) (pa_cons (pv 3) pa_nil))))
      (pss_cons (ps_asg (pv 7) (pgT K (n := 2) (pgs_cons (pg_name (i := 8) sc_law.nd rfl (.inl rfl)) (pgs_cons (pg_name (i := 9) sc_law.nd rfl (.inl rfl)) pgs_nil))))
      (pss_cons (ps_set (i := 10) sc_law.nd rfl (.inr rfl) (pe_call G_l_one (hr.mono (by omega)) (by rfl) T.g_l_one T.F_l_one.kp T.b_l_one .nil pass0 (pa_cons (pv 2) (pa_cons (pv 4) pa_nil))))
      (pss_cons (ps_asg (pe_call G_read (hr.mono (by omega)) (by rfl) T.g_read T.F_read.kp T.b_read .nil pass0 (pa_cons (pv 3) (pa_cons (pv 10) (pa_cons (pv 7) pa_nil)))) (pgT K (n := 2) (pgs_cons (pg_name (i := 11) sc_law.nd rfl (.inl rfl)) (pgs_cons (pg_name (i := 12) sc_law.nd rfl (.inl rfl)) pgs_nil))))
      (pss_cons (ps_if (pt_cmpR (neDK K hr.units) (pv 11) (pe_call G_answer (hr.mono (by omega)) (by rfl) T.g_answer T.F_answer.kp T.b_answer .nil pass0 (pa_cons (pv 3) (pa_cons (pv 7) pa_nil))) (nomark _)) (pss_one (ps_ret pe_bl)) pss_nil)
      (pss_cons (ps_setLc (i := 14) (own := [("letter", 13)]) (tt := _) (by rfl) sc_law.nd rfl rfl (sw_true rfl rfl rfl (by decide +kernel)) (pi_str (pv 4)) (blkOk_by (own := [("letter", 13)]) (by kernel_rfl)) (fun _ _ _ _ _ => (pg_name (i := 13) sc_law.nd rfl (.inl rfl))) (fun _ _ _ _ _ => (pts_one (pt_cmpR op_notIn_sign (pv 13) (pv 10) (by rfl)))) (fun _ _ _ _ _ => (pv 13)))
      (pss_mid (ps_if (pt_cmpR (neDK K hr.units) (pv 14) (pe_lst pa_nil) (nomark _)) (pss_cons (ps_set (i := 15) sc_law.nd rfl (.inl rfl) (pe_op op_add_str (pv 10) (pe_ix (ixL K) (pv 14) (pe_call G_l_pick (hr.mono (by omega)) (by rfl) T.g_l_pick T.F_l_pick.kp T.b_l_pick .nil pass0 (pa_cons (pv 2) (pa_cons (pe_callB (cLenSq K) (by rfl) T.m_len (by decide +kernel) (pa_cons (pv 14) pa_nil)) pa_nil))) (fun _ _ => rfl))))
      (pss_one (ps_if (pt_cmpR op_gt (pe_ix (ixT K) (pe_call G_read (hr.mono (by omega)) (by rfl) T.g_read T.F_read.kp T.b_read .nil pass0 (pa_cons (pv 3) (pa_cons (pv 15) (pa_cons (pv 7) pa_nil)))) pe_int (fun _ _ => rfl)) (pv 12) (nomark _)) (pss_one (ps_ret pe_bl)) pss_nil))) pss_nil)
      (pss_cons (ps_set (i := 16) sc_law.nd rfl (.inr rfl) (pe_lc (own := [("letter", 13), ("number", 25)]) (tt := tYes) (by rfl) sc_law.nd (piT K (pv 8)) (blkOk_by (own := [("letter", 13), ("number", 25)]) (by kernel_rfl)) (fun _ _ _ _ _ => (pgT K (n := 2) (pgs_cons (pg_name (i := 13) sc_law.nd rfl (.inl rfl)) (pgs_cons (pg_name (i := 25) sc_law.nd rfl (.inl rfl)) pgs_nil)))) (fun _ _ _ _ _ => pts_nil) (fun _ _ _ _ _ => (pv 13))))
      (pss_mid (ps_if (pt_cmpR op_notN (pv 9) pe_non (nomark _)) (pss_one (ps_expr (bmK K PySem.F.plainAttrs_list PySem.F.slot_list_append PySem.F.type_list_append mt_append (pv 16) (pa_cons (pe_ix (ixT K) (pv 9) pe_int (fun _ _ => rfl)) pa_nil)))) pss_nil)
      (pss_cons (ps_setLc (i := 14) (own := [("letter", 13)]) (tt := _) (by rfl) sc_law.nd rfl rfl (sw_true rfl rfl rfl (by decide +kernel)) (pi_str (pv 4)) (blkOk_by (own := [("letter", 13)]) (by kernel_rfl)) (fun _ _ _ _ _ => (pg_name (i := 13) sc_law.nd rfl (.inl rfl))) (fun _ _ _ _ _ => (pts_one (pt_cmpR (notInSq K) (pv 13) (pv 16) (by rfl)))) (fun _ _ _ _ _ => (pv 13)))
      (pss_one (ps_if (PW.pt (pw_and (pt_cmpR (neDK K hr.units) (pv 14) (pe_lst pa_nil) (nomark _)) (pw_and1 (pt_cmpR (neDK K hr.units) (pv 5) (pe_tup pa_nil) (nomark _))))) (pss_cons (ps_set (i := 13) sc_law.nd rfl (.inl rfl) (pe_ix (ixL K) (pv 14) (pe_call G_l_pick (hr.mono (by omega)) (by rfl) T.g_l_pick T.F_l_pick.kp T.b_l_pick .nil pass0 (pa_cons (pv 2) (pa_cons (pe_callB (cLenSq K) (by rfl) T.m_len (by decide +kernel) (pa_cons (pv 14) pa_nil)) pa_nil))) (fun _ _ => rfl)))
      (pss_cons (ps_set (i := 17) sc_law.nd rfl (.inl rfl) (pe_ix (ixT K) (pv 5) (pe_call G_l_pick (hr.mono (by omega)) (by rfl) T.g_l_pick T.F_l_pick.kp T.b_l_pick .nil pass0 (pa_cons (pv 2) (pa_cons (pe_callB (cLenSq K) (by rfl) T.m_len (by decide +kernel) (pa_cons (pv 5) pa_nil)) pa_nil))) (fun _ _ => rfl)))
      (pss_cons (ps_set (i := 18) sc_law.nd rfl (.inl rfl) (pe_tup (pa_cons (pv 13) (pa_cons (pe_ix (ixT K) (pv 17) (bmK K PySem.F.plainAttrs_str PySem.F.slot_str_index PySem.F.type_str_index mt_sindex (pv 4) (pa_cons (pv 13) pa_nil)) (fun _ _ => rfl)) pa_nil))))
      (pss_cons (ps_set (i := 19) sc_law.nd rfl (.inl rfl) (pe_tup (pa_cons (pe_callTy (cTupF K) (by rfl) T.m_tuple (by decide +kernel) (pa_cons (pe_callB (cSortD K (enc := eqD) hr) (by rfl) T.m_sorted (by decide +kernel) (pa_cons (pe_op (catUK K) (pv 8) (pe_tup (pa_cons (pv 18) pa_nil))) pa_nil)) pa_nil)) (pa_cons (pv 9) pa_nil))))
      (pss_cons (ps_asg (pe_call G_stretch (hr.mono (by omega)) (by rfl) T.g_stretch T.F_stretch.kp T.b_stretch .nil pass0 (pa_cons (pv 3) (pa_cons (pv 10) (pa_cons (pv 7) pa_nil)))) (pgT K (n := 2) (pgs_cons (pg_name (i := 20) sc_law.nd rfl (.inl rfl)) (pgs_cons (pg_name (i := 21) sc_law.nd rfl (.inl rfl)) pgs_nil))))
      (pss_cons (ps_asg (pe_call G_stretch (hr.mono (by omega)) (by rfl) T.g_stretch T.F_stretch.kp T.b_stretch .nil pass0 (pa_cons (pv 3) (pa_cons (pv 10) (pa_cons (pv 19) pa_nil)))) (pgT K (n := 2) (pgs_cons (pg_name (i := 22) sc_law.nd rfl (.inl rfl)) (pgs_cons (pg_name (i := 23) sc_law.nd rfl (.inl rfl)) pgs_nil))))
      (pss_cons (ps_if (pt_cmpR op_lt (pe_callB call_len_str (by rfl) T.m_len (by decide +kernel) (pa_cons (pe_call G_used (hr.mono (by omega)) (by rfl) T.g_used T.F_used.kp T.b_used .nil pass0 (pa_cons (pv 10) (pa_cons (pv 19) pa_nil))) pa_nil)) (pe_callB call_len_str (by rfl) T.m_len (by decide +kernel) (pa_cons (pe_call G_used (hr.mono (by omega)) (by rfl) T.g_used T.F_used.kp T.b_used .nil pass0 (pa_cons (pv 10) (pa_cons (pv 7) pa_nil))) pa_nil)) (nomark _)) (pss_one (ps_ret pe_bl)) pss_nil)
      (pss_cons (ps_if (pt_not (pt_chain3 op_le op_le op_le (pv 20) (pv 22) (pv 23) (pv 21))) (pss_one (ps_ret pe_bl)) pss_nil)
      (pss_cons (ps_set (i := 24) sc_law.nd rfl (.inr rfl) (pe_slice (slLK K) (pe_call G_sorted_by (hr.mono (by omega)) (by rfl) T.g_sorted_by T.F_sorted_by.kp T.b_sorted_by .nil pass0 (pa_cons (pv 3) (pa_cons (pv 10) pa_nil))) (po_some (pv 22)) (po_some (pv 23))))
      (pss_one (ps_if (pt_cmpR (neDK K hr.units) (pe_lc (own := [("here", 26)]) (tt := _) (by rfl) sc_law.nd (piL K (pe_call G_answer (hr.mono (by omega)) (by rfl) T.g_answer T.F_answer.kp T.b_answer .nil pass0 (pa_cons (pv 3) (pa_cons (pv 19) pa_nil)))) (blkOk_by (own := [("here", 26)]) (by kernel_rfl)) (fun _ _ _ _ _ => (pg_name (i := 26) sc_law.nd rfl (.inl rfl))) (fun _ _ _ _ _ => (pts_one (pt_cmpR (notInSq K) (pv 26) (pv 24) (by rfl)))) (fun _ _ _ _ _ => (pv 26))) (pe_lst pa_nil) (nomark _)) (pss_one (ps_ret pe_bl)) pss_nil))))))))))) pss_nil))))))))))))))))))
      (pss_one (ps_ret pe_bl))), ?_⟩
    refine ⟨.ref a, rfl, a, _, rfl, .inl hS, 8, _, rfl, 2, _, rfl, _, rfl, ?_, ?_, ?_⟩
    · split <;> (try split) <;> omega
    · split <;> (try split) <;> omega
    generalize hN : (if (if ((ns.map V.int).length : Int) < 8 then ((ns.map V.int).length : Int) else 8) > 2 then (if ((ns.map V.int).length : Int) < 8 then ((ns.map V.int).length : Int) else 8) else 2).toNat = N
    have hN8 : N ≤ 8 := by
      rw [← hN]
      split <;> (try split) <;> omega
    refine for_range (fun i σ H' => ∃ y1 y2 y3 y4 y5 y6 y7 y8 y9 y10 y11 y12 y13 y14 y15 y16 y17 y18 y19 y20 y21 y22 y23 y24 y25 y26 : Option V, σ = [some (.ref a), y1, y2, y3, y4, y5, y6, y7, y8, y9, y10, y11, y12, y13, y14, y15, y16, y17, y18, y19, y20, y21, y22, y23, y24, y25, y26] ∧ SqL K H' a (ns.map V.int) ∧ TG Z.Ps H') ⟨none, none, none, none, none, none, none, none, none, none, none, none, none, none, none, none, none, none, none, none, none, none, none, none, none, none, rfl, hS, tg⟩ (fun i σ H0 hi hP => ?_) (fun σ H0 hP => q H0)
    obtain ⟨y1, y2, y3, y4, y5, y6, y7, y8, y9, y10, y11, y12, y13, y14, y15, y16, y17, y18, y19, y20, y21, y22, y23, y24, y25, y26, rfl, hS0, tg0⟩ := hP
    -- reel
    refine ⟨.ref a, rfl, _, rfl, a, ns, i, by rw [Int.zero_add]; rfl, hS0, by omega, fun n0 r nr => ?_⟩
    have sm1 : Same H0 (upd H0 r (.lst [.int n0])) := Same.new (Same.refl H0) nr
    have hR1 : (upd H0 r (.lst [.int n0])) r = some (.lst [.int n0]) := upd_same
    generalize upd H0 r (.lst [.int n0]) = H1 at sm1 hR1 ⊢
    -- table
    refine ⟨.ref r, rfl, r, n0, 6, 20, rfl, hR1, by decide, by decide, by decide, fun cols rows tv n3 H3 kp3 hR3 fT hc hc1 hc2 hrs hrn => ?_⟩
    have sm3 : Same H0 H3 := Same.kpN sm1 nr kp3
    have tg3 : TG Z.Ps H3 := tg0.same sm3
    obtain ⟨t, R, vs, rfl, ht, hRR, fvs⟩ := tab_open fT
    have hvl : vs.length = rows.length := by rw [fvs.len, List.length_map]
    refine ⟨.ref t, rfl, t, [tx cols, .ref R], rfl, .inl (.inl ht), rfl, tx cols, [.ref R], rfl, .ref R, [], rfl, rfl, ?_⟩
    -- the turns
    refine ⟨3, rfl, by decide, by decide, for_range (fun j σ H' => ∃ (n4 : Int) (y6 y7 y8 y9 y10 y11 y12 y13 y14 y15 y16 y17 y18 y19 y20 y21 y22 y23 y24 y25 y26 : Option V), σ = [some (.ref a), some (.int (0 + (i : Nat))), some (.ref r), some (.ref t), some (tx cols), some (.ref R), y6, y7, y8, y9, y10, y11, y12, y13, y14, y15, y16, y17, y18, y19, y20, y21, y22, y23, y24, y25, y26] ∧ Sx Z.Ps H0 H' ∧ TG Z.Ps H' ∧ H' r = some (.lst [.int n4]) ∧ KT H3 H')
      ⟨n3, _, _, _, _, _, _, _, _, _, _, _, _, _, _, _, _, _, _, _, _, _, rfl, Same.sx sm3, tg3, hR3, KT.rfl'⟩ (fun j σ H4 hj hP => ?_) (fun σ H4 hP => ?_)⟩
    rotate_left
    · obtain ⟨n4, y6, y7, y8, y9, y10, y11, y12, y13, y14, y15, y16, y17, y18, y19, y20, y21, y22, y23, y24, y25, y26, rfl, sx4, tg4, hR4, kt4⟩ := hP
      exact ⟨_, _, _, _, _, _, _, _, _, _, _, _, _, _, _, _, _, _, _, _, _, _, _, _, _, _, rfl, sx4.seqL tg0 hS0, tg4⟩
    obtain ⟨n4, y6, y7, y8, y9, y10, y11, y12, y13, y14, y15, y16, y17, y18, y19, y20, y21, y22, y23, y24, y25, y26, rfl, sx4, tg4, hR4, kt4⟩ := hP
    refine ⟨.ref r, rfl, .ref t, rfl, r, n4, .ref t, cols, rows, rfl, hR4, fT.kt kt4.1, hc, hc1, by omega, hrs, by omega, fun es rc qv n5 H5 kp5 hR5 fq hqok => ?_⟩
    have kpx : ∀ {G G' : Hp}, Sx Z.Ps H0 G → Kp r G G' → Sx Z.Ps H0 G' := fun s k b o nb h => k b o (ne_of_none h nr) (s b o nb h)
    have sx5 : Sx Z.Ps H0 H5 := kpx sx4 kp5
    have tg5 : TG Z.Ps H5 := tg4.kp hR4 kp5
    have kt5 : KT H3 H5 := kt4.trans (kp5.kT hR4)
    have hel : es.length ≤ 6 := by
      have := hqok.len
      omega
    have fq0 := fq
    obtain ⟨qa, ev, y, rfl, hqa, fe, fy⟩ := fq0
    obtain ⟨ea, ob, ps, rfl, hob, hea, fps⟩ := fe
    have hpl : ps.length = es.length := by rw [fps.len, List.length_map]
    refine ⟨.ref qa, rfl, qa, [.ref ea, y], rfl, .inl (.inl hqa), rfl, .ref ea, [y], rfl, y, [], rfl, rfl, ?_⟩
    -- one
    refine ⟨.ref r, rfl, tx cols, rfl, r, n5, cols, rfl, hR5, by omega, by omega, fun one rest n6 H6 kp6 hR6 hperm hone => ?_⟩
    have kt56 : KT H5 H6 := kp6.kT hR5
    have kt6 : KT H3 H6 := kt5.trans kt56
    have sx6 : Sx Z.Ps H0 H6 := kpx sx5 kp6
    have tg6 : TG Z.Ps H6 := tg5.kp hR5 kp6
    have fq6 := fq.kT kt56
    have hol : one.length ≤ 6 := by
      have := hperm.length_eq
      rw [List.length_append] at this
      omega
    have hoc : ∀ c ∈ one, c ∈ cols := fun c h => hperm.mem_iff.mp (List.mem_append_right _ h)
    -- found, many
    refine ⟨.ref t, rfl, tx one, rfl, .ref qa, rfl, .ref t, cols, rows, one, .ref qa, es, rc, rfl, tg6, fT.kt kt6.1, hrs, by omega, by omega, hoc, fq6, hqok, by omega, fun p l H7 sx7 tg7 np nl hp7 hl7 => ?_⟩
    refine ⟨p, [.ref l, .int ((behindM cols rows one es rc : Nat) - (aheadM cols rows one es rc : Nat) : Int)], rfl, .inl (.inl hp7), rfl, .ref l, [.int ((behindM cols rows one es rc : Nat) - (aheadM cols rows one es rc : Nat) : Int)], rfl, .int ((behindM cols rows one es rc : Nat) - (aheadM cols rows one es rc : Nat) : Int), [], rfl, rfl, ?_⟩
    have kt67 : KT H6 H7 := sx7.kT tg6
    refine ⟨.ref l, rfl, .ref t, rfl, .ref qa, rfl, .ref t, cols, rows, .ref qa, es, rc, rfl, fT.kt (kt6.trans kt67).1, hrs, by omega, fq6.kT kt67, hqok, by omega, fun S H8 sm8 nS hS8 => ?_⟩
    refine ⟨_, _, .lst (.inl (.inl (sm8 _ _ hl7))) (dp_ints _), .lst (.inl (.inl hS8)) (dp_ints _), shaped_ints _, shaped_ints _, _, rfl, ?_⟩
    rw [eqv_ints]
    have sx8 : Sx Z.Ps H0 H8 := (sx6.trans sx7).trans (Same.sx sm8)
    have tg8 : TG Z.Ps H8 := tg7.same sm8
    have kt68 : KT H6 H8 := kt67.trans (Same.kT sm8)
    have kt8 : KT H3 H8 := kt6.trans kt68
    have hR8 : H8 r = some (.lst [.int n6]) := sm8 _ _ (sx7.lst tg6 hR6)
    have fq8 := fq6.kT kt68
    -- what is left
    refine ⟨tx cols, rfl, _, rfl, fun D nD => lc_it walk_str (fun m H' => Same H8 H' ∧ H' D = some (.lst (((cols.take m).filter fun c => !decide (c ∈ one)).map sg)))
      ⟨Same.new (Same.refl H8) nD, upd_same⟩ (fun _ _ _ _ => trivial) (fun m x HA HB hm hP hY => ?_) (fun H9 hP => ?_)⟩
    · obtain ⟨smA, hDA⟩ := hP
      obtain ⟨rfl, c, hcc, rfl⟩ := hY
      have hi2 : m < cols.length := by simpa using hm
      have hci : cols[m] = c := by
        have : cols[m]? = some c := by simpa using hcc
        exact (List.getElem?_eq_some_iff.mp this).2
      have efl : (⟨one.toArray⟩ : Str).cps.toList = one := by simp
      refine ⟨rfl, sg c, rfl, tx one, rfl, c, _, rfl, rfl, _, rfl, ?_⟩
      rw [efl]
      refine ite2 (fun e5 => ?_) (fun e5 => ?_)
      · refine ⟨sg c, rfl, _, hDA, ?_, Same.mut smA nD, ?_⟩
        · rw [List.length_map]
          have := List.length_filter_le (fun c => !decide (c ∈ one)) (cols.take m)
          rw [List.length_take] at this
          exact small1000 (by omega)
        · rw [upd_same, List.take_succ_eq_append_getElem hi2, hci, List.filter_append, List.filter_cons, if_pos e5, List.map_append]
          rfl
      · refine ⟨smA, ?_⟩
        rw [hDA, List.take_succ_eq_append_getElem hi2, hci, List.filter_append, List.filter_cons, if_neg e5, List.filter_nil, List.append_nil]
    · obtain ⟨sm9, hD⟩ := hP
      have hn : (⟨cols.toArray⟩ : Str).cps.size = cols.length := by simp
      rw [hn, List.take_of_length_le (Nat.le_refl _)] at hD
      generalize hll : (cols.filter fun c => !decide (c ∈ one)) = ll at hD
      have hlm : ∀ c ∈ ll, c ∈ cols ∧ c ∉ one := fun c h => by
        rw [← hll] at h
        obtain ⟨h1, h2⟩ := List.mem_filter.mp h
        exact ⟨h1, by simpa using h2⟩
      have hllen : ll.length ≤ 6 := by
        rw [← hll]
        exact Nat.le_trans (List.length_filter_le _ _) hc2
      have sx9 : Sx Z.Ps H0 H9 := sx8.trans (Same.sx sm9)
      have tg9 : TG Z.Ps H9 := tg8.same sm9
      have kt89 : KT H8 H9 := Same.kT sm9
      have hR9 := sm9 _ _ hR8
      have nDr : D ≠ r := (ne_of_none hR8 nD).symm
      refine ⟨fun σ H' => ∃ (n' : Int) (z15 : Option V), σ = s12 a r t R qa ea l i j cols one y ((behindM cols rows one es rc : Nat) - (aheadM cols rows one es rc : Nat) : Int) y13 (some (.ref D)) z15 y16 y17 y18 y19 y20 y21 y22 y23 y24 y25 y26 ∧ Sx Z.Ps H0 H' ∧ TG Z.Ps H' ∧ H' r = some (.lst [.int n']) ∧ KT H8 H', ?_, fun σ H10 hM => ?_⟩
      · refine ⟨.ref D, rfl, (by show 0 ≤ sizeLine; decide), fun p np => ?_⟩
        have smA : Same H9 (upd H9 p (.lst [])) := Same.new (Same.refl H9) np
        have hpA : (upd H9 p (.lst [])) p = some (.lst []) := upd_same
        generalize upd H9 p (.lst []) = HA at smA hpA ⊢
        have hDA := smA _ _ hD
        have hRA := smA _ _ hR9
        have sxA : Sx Z.Ps H0 HA := sx9.trans (Same.sx smA)
        have tgA : TG Z.Ps HA := tg9.same smA
        have ktA : KT H8 HA := kt89.trans (Same.kT smA)
        refine ⟨_, _, .lst (.inl (.inl hDA)) (dp_signs ll), .lst (.inl (.inl hpA)) .nil, shaped_signs (fun c h => (hc.az c (hlm c h).1).2), rfl, _, rfl, ite2 (fun e => ?_) (fun e => ?_)⟩
        · have lne : ll ≠ [] := fun z => by
            rw [z] at e
            exact absurd e (by decide)
          have lpos : 0 < ll.length := List.length_pos_iff.mpr lne
          refine ⟨tx one, rfl, .ref D, rfl, .ref r, rfl, .ref D, rfl, D, _, rfl, .inl (.inl (.inl hDA)), r, n6, _, rfl, hRA, by rw [List.length_map]; omega, by rw [List.length_map]; omega, fun f n7 f0 f1 => ?_⟩
          rw [List.length_map] at f1
          have hf : f.toNat < ll.length := by omega
          have hDB : (upd HA r (.lst [.int n7])) D = some (.lst (ll.map sg)) := keep_ne hDA nDr
          have hRB : (upd HA r (.lst [.int n7])) r = some (.lst [.int n7]) := upd_same
          have sxB : Sx Z.Ps H0 (upd HA r (.lst [.int n7])) := sxA.mut nr
          have tgB : TG Z.Ps (upd HA r (.lst [.int n7])) := tgA.mut hRA
          have ktB : KT H8 (upd HA r (.lst [.int n7])) := ktA.trans (.lst hRA)
          generalize upd HA r (.lst [.int n7]) = HB at hDB hRB sxB tgB ktB ⊢
          have hcm := hlm ll[f.toNat] (List.getElem_mem hf)
          generalize hcc : ll[f.toNat] = cc at hcm
          refine ⟨D, ll.map sg, f, sg cc, rfl, rfl, .inl (.inl hDB), L2.at_of (j := f.toNat) (by omega) (by rw [List.getElem?_map, List.getElem?_eq_getElem hf, hcc]; rfl), _, _, rfl, rfl, ?_, ?_⟩
          · show one.toArray.size + 1 ≤ sizeLine
            have : one.toArray.size + 1 ≤ 1000 := by
              rw [List.size_toArray]
              omega
            exact Nat.le_of_lt (small1000 this)
          · rw [show (⟨#[cc]⟩ : Str) = ⟨[cc].toArray⟩ from rfl, app_txt]
            have hol2 : (one ++ [cc]).length ≤ 1000 := by
              rw [List.length_append]
              show one.length + 1 ≤ 1000
              omega
            have hoc2 : ∀ c ∈ one ++ [cc], c ∈ cols := fun c h => by
              rcases List.mem_append.mp h with z | z
              · exact hoc c z
              · rw [List.mem_singleton.mp z]
                exact hcm.1
            obtain ⟨more, hmore⟩ := used_more one cc es rc
            have hnar := narrower (rows := rows) hqok hqok hmore (fun c _ => rfl)
            refine ⟨.ref t, rfl, tx (one ++ [cc]), rfl, .ref qa, rfl, .ref t, cols, rows, one ++ [cc], .ref qa, es, rc, rfl, tgB, fT.kt (kt8.trans ktB).1, hrs, by omega, hol2, hoc2, fq8.kT ktB, hqok, by omega, fun p l2 HC sxC tgC np nl2 hpC hlC => ?_⟩
            refine ⟨p, _, 1, .int _, rfl, rfl, .inl (.inl hpC), rfl, _, rfl, _, _, rfl, rfl, _, rfl, ite2 (fun e2 => ?_) (fun e2 => ?_)⟩
            · have e3 := of_decide_eq_true e2
              have h1 := ahead_le (rows := rows) (one := one ++ [cc]) hqok
              have h2 := ahead_le (rows := rows) (one := one) hqok
              exfalso
              omega
            · exact ⟨n7, _, rfl, sxB.trans sxC, tgC, sxC.lst tgB hRB, ktB.trans (sxC.kT tgB)⟩
        · exact ⟨n6, _, rfl, sxA, tgA, hRA, ktA⟩
      obtain ⟨n10, z15, rfl, sx10, tg10, hR10, kt810⟩ := hM
      have kt10 : KT H3 H10 := kt8.trans kt810
      have fq10 := fq8.kT kt810
      have kt510 : KT H5 H10 := (kt56.trans kt68).trans kt810
      have hea10 := kt510.2 _ _ _ hea
      have fps10 := fps.kt kt510.1
      have fy10 := fy.kt kt510.1
      -- asked
      refine ⟨.ref ea, rfl, ea, rfl, ⟨_, .inl (.inr ⟨_, hea10⟩)⟩, fun As nAs => lc_it (walk_tup (xs := ps)) (fun m H' => Same H10 H' ∧ H' As = some (.lst (((es.take m).map (·.1)).map sg)))
        ⟨Same.new (Same.refl H10) nAs, upd_same⟩ (fun m H' _ hP => .inl (.inr ⟨_, hP.1 _ _ hea10⟩)) (fun m x HB HC hm hP hY => ?_) (fun H11 hP => ?_)⟩
      · obtain ⟨sm, hD2⟩ := hP
        obtain ⟨rfl, hx⟩ := hY
        obtain ⟨dd, hdd, fd⟩ := fps10.getV hx
        rw [List.getElem?_map] at hdd
        obtain ⟨pr, hpr, rfl⟩ := Option.map_eq_some_iff.mp hdd
        have hi2 : m < es.length := (List.getElem?_eq_some_iff.mp hpr).1
        have epr : es[m] = pr := (List.getElem?_eq_some_iff.mp hpr).2
        obtain ⟨pa, ys, rfl, hpa, fy2⟩ := fd.open
        obtain ⟨c, v, rfl, fc, fv⟩ := fy2.two
        rw [fc.isStr, fv.isInt] at hpa
        refine ⟨pa, [sg pr.1, .int pr.2], rfl, .inl (.inl (sm _ _ hpa)), rfl, sg pr.1, [.int pr.2], rfl, .int pr.2, [], rfl, rfl, rfl, sg pr.1, rfl, _, hD2, ?_, Same.mut sm nAs, ?_⟩
        · rw [List.length_map, List.length_map, List.length_take]
          exact small1000 (by omega)
        · rw [upd_same, List.take_succ_eq_append_getElem hi2, epr, List.map_append, List.map_append]
          rfl
      obtain ⟨sm11, hAs⟩ := hP
      rw [hpl, List.take_of_length_le (Nat.le_refl _)] at hAs
      refine ⟨fun σ H' => σ = s12 a r t R qa ea l i j cols one y ((behindM cols rows one es rc : Nat) - (aheadM cols rows one es rc : Nat) : Int) y13 (some (.ref D)) z15 (some (.ref As)) y17 y18 y19 y20 y21 y22 y23 y24 y25 y26 ∧ H' As = some (.lst ((letsM es rc).map sg)) ∧ Same H10 H', ?_, fun σ H12 hM => ?_⟩
      · cases rc with
        | none =>
          obtain rfl : y = .non := fy10.isNon
          refine ⟨.non, rfl, rfl, _, rfl, ite2 (fun z => ?_) (fun _ => ?_)⟩
          · exact absurd z (by simp)
          · exact ⟨rfl, by rw [hAs]; simp [letsM], sm11⟩
        | some t3 =>
          obtain ⟨c, lo, hi⟩ := t3
          obtain ⟨ra, zs, rfl, hra, fz⟩ := Fz.open (ds := [.str ⟨#[c]⟩, .int lo, .int hi]) fy10
          obtain ⟨z1, z2, z3, rfl, g1, g2, g3⟩ := fz.three
          rw [g1.isStr, g2.isInt, g3.isInt] at hra
          refine ⟨.ref ra, rfl, rfl, _, rfl, ite2 (fun _ => ?_) (fun z => ?_)⟩
          · refine ⟨.ref As, rfl, .inl ⟨rfl, _, .inl (.inl hAs)⟩, .ref ra, rfl, ra, _, 0, sg c, rfl, rfl, .inl (.inl (sm11 _ _ hra)), rfl, As, _, sg c, rfl, rfl, hAs, ?_, rfl, ?_, Same.mut sm11 nAs⟩
            · rw [List.length_map, List.length_map]
              exact small1000 (by omega)
            · rw [upd_same]
              simp [letsM]
          · exact absurd (by simp) z
      obtain ⟨rfl, hAs12, sm12⟩ := hM
      refine ⟨tx cols, rfl, _, rfl, fun E2 nE2 => lc_it walk_str (fun m H' => Same H12 H' ∧ H' E2 = some (.lst (((cols.take m).filter fun c => !decide (c ∈ letsM es rc)).map sg)))
        ⟨Same.new (Same.refl H12) nE2, upd_same⟩ (fun _ _ _ _ => trivial) (fun m x HA HB hm hP hY => ?_) (fun H13 hP => ?_)⟩
      · obtain ⟨smA, hDA⟩ := hP
        obtain ⟨rfl, c, hcc, rfl⟩ := hY
        have hi2 : m < cols.length := by simpa using hm
        have hci : cols[m] = c := by
          have : cols[m]? = some c := by simpa using hcc
          exact (List.getElem?_eq_some_iff.mp this).2
        refine ⟨rfl, sg c, rfl, .ref As, rfl, As, _, rfl, .inl (.inl (.inl (smA _ _ hAs12))), rfl, flat_signs _, _, rfl, ?_⟩
        show (if (!inV (sg c) ((letsM es rc).map sg)) = true then _ else _)
        rw [inV_signs]
        refine ite2 (fun e5 => ?_) (fun e5 => ?_)
        · refine ⟨sg c, rfl, _, hDA, ?_, Same.mut smA nE2, ?_⟩
          · rw [List.length_map]
            have := List.length_filter_le (fun c => !decide (c ∈ letsM es rc)) (cols.take m)
            rw [List.length_take] at this
            exact small1000 (by omega)
          · rw [upd_same, List.take_succ_eq_append_getElem hi2, hci, List.filter_append, List.filter_cons, if_pos e5, List.map_append]
            rfl
        · refine ⟨smA, ?_⟩
          rw [hDA, List.take_succ_eq_append_getElem hi2, hci, List.filter_append, List.filter_cons, if_neg e5, List.filter_nil, List.append_nil]
      · obtain ⟨sm13, hE2⟩ := hP
        have hn : (⟨cols.toArray⟩ : Str).cps.size = cols.length := by simp
        rw [hn, List.take_of_length_le (Nat.le_refl _)] at hE2
        generalize hl2 : (cols.filter fun c => !decide (c ∈ letsM es rc)) = l2 at hE2
        have hlm2 : ∀ c ∈ l2, c ∈ cols ∧ c ∉ letsM es rc := fun c h => by
          rw [← hl2] at h
          obtain ⟨h1, h2⟩ := List.mem_filter.mp h
          exact ⟨h1, by simpa using h2⟩
        have hl2len : l2.length ≤ 6 := by
          rw [← hl2]
          exact Nat.le_trans (List.length_filter_le _ _) hc2
        have sm1013 : Same H10 H13 := Same.trans sm12 sm13
        have sx13 : Sx Z.Ps H0 H13 := sx10.trans (Same.sx sm1013)
        have tg13 : TG Z.Ps H13 := tg10.same sm1013
        have kt13 : KT H3 H13 := kt10.trans (Same.kT sm1013)
        have hR13 := sm1013 _ _ hR10
        have nE2r : E2 ≠ r := (ne_of_none (sm12 _ _ hR10) nE2).symm
        refine ⟨.ref E2, rfl, (by show 0 ≤ sizeLine; decide), fun p np => ?_⟩
        have smA : Same H13 (upd H13 p (.lst [])) := Same.new (Same.refl H13) np
        have hpA : (upd H13 p (.lst [])) p = some (.lst []) := upd_same
        generalize upd H13 p (.lst []) = HA at smA hpA ⊢
        have hEA := smA _ _ hE2
        have hRA := smA _ _ hR13
        have sxA : Sx Z.Ps H0 HA := sx13.trans (Same.sx smA)
        have tgA : TG Z.Ps HA := tg13.same smA
        have ktA : KT H3 HA := kt13.trans (Same.kT smA)
        refine ⟨_, _, .lst (.inl (.inl hEA)) (dp_signs l2), .lst (.inl (.inl hpA)) .nil, shaped_signs (fun c h => (hc.az c (hlm2 c h).1).2), rfl, _, rfl, ite2 (fun e => ?_) (fun e => ?_)⟩
        rotate_left
        · exact ⟨n10, _, _, _, _, _, _, _, _, _, _, _, _, _, _, _, _, _, _, _, _, _, rfl, sxA, tgA, hRA, ktA⟩
        have lne : l2 ≠ [] := fun z => by
          rw [z] at e
          exact absurd e (by decide)
        have lpos : 0 < l2.length := List.length_pos_iff.mpr lne
        refine ⟨.ref R, rfl, (by show 0 ≤ sizeLine; decide), fun p2 np2 => ?_⟩
        have smB : Same HA (upd HA p2 (.tup [])) := Same.new (Same.refl HA) np2
        have hpB : Fz (upd HA p2 (.tup [])) (.ref p2) (.tuple []) := Fz.made np2 .nil
        generalize upd HA p2 (.tup []) = HB at smB hpB ⊢
        have hEB := smB _ _ hEA
        have hRB := smB _ _ hRA
        have sxB : Sx Z.Ps H0 HB := sxA.trans (Same.sx smB)
        have tgB : TG Z.Ps HB := tgA.same smB
        have ktB : KT H3 HB := ktA.trans (Same.kT smB)
        have fRB : Fz HB (.ref R) (rowsD rows) := (Fz.tup hRR fvs).kt ktB.1
        refine ⟨_, _, fRB.to, hpB.to, shaped_rows rows, shaped_rows [], _, rfl, ite2 (fun ee => ?_) (fun ee => ?_)⟩
        rotate_left
        · exact ⟨n10, _, _, _, _, _, _, _, _, _, _, _, _, _, _, _, _, _, _, _, _, _, rfl, sxB, tgB, hRB, ktB⟩
        have rne : rows ≠ [] := fun z => by
          rw [z] at ee
          exact absurd ee (by decide)
        have rpos : 0 < rows.length := List.length_pos_iff.mpr rne
        -- letter
        refine ⟨.ref E2, rfl, .ref r, rfl, .ref E2, rfl, E2, _, rfl, .inl (.inl (.inl hEB)), r, n10, _, rfl, hRB, by rw [List.length_map]; omega, by rw [List.length_map]; omega, fun f n14 f0 f1 => ?_⟩
        rw [List.length_map] at f1
        have hf : f.toNat < l2.length := by omega
        have hEC : (upd HB r (.lst [.int n14])) E2 = some (.lst (l2.map sg)) := keep_ne hEB nE2r
        have hRC : (upd HB r (.lst [.int n14])) r = some (.lst [.int n14]) := upd_same
        have sxC : Sx Z.Ps H0 (upd HB r (.lst [.int n14])) := sxB.mut nr
        have tgC : TG Z.Ps (upd HB r (.lst [.int n14])) := tgB.mut hRB
        have ktC : KT H3 (upd HB r (.lst [.int n14])) := ktB.trans (.lst hRB)
        have kt10C : KT H10 (upd HB r (.lst [.int n14])) := (Same.kT (Same.trans (Same.trans sm1013 smA) smB)).trans (.lst hRB)
        generalize upd HB r (.lst [.int n14]) = HC at hEC hRC sxC tgC ktC kt10C ⊢
        have hcm := hlm2 l2[f.toNat] (List.getElem_mem hf)
        generalize hcc : l2[f.toNat] = cc at hcm
        refine ⟨E2, l2.map sg, f, sg cc, rfl, rfl, .inl (.inl hEC), L2.at_of (j := f.toNat) (by omega) (by rw [List.getElem?_map, List.getElem?_eq_getElem hf, hcc]; rfl), ?_⟩
        -- row
        have hRRC := ktC.1 _ _ hRR
        refine ⟨.ref R, rfl, .ref r, rfl, .ref R, rfl, R, vs, rfl, .inr (.inl (.inl hRRC)), r, n14, _, rfl, hRC, by omega, by omega, fun g n15 g0 g1 => ?_⟩
        have hRD : (upd HC r (.lst [.int n15])) r = some (.lst [.int n15]) := upd_same
        have sxD : Sx Z.Ps H0 (upd HC r (.lst [.int n15])) := sxC.mut nr
        have tgD : TG Z.Ps (upd HC r (.lst [.int n15])) := tgC.mut hRC
        have ktD : KT H3 (upd HC r (.lst [.int n15])) := ktC.trans (.lst hRC)
        have kt10D : KT H10 (upd HC r (.lst [.int n15])) := kt10C.trans (.lst hRC)
        generalize upd HC r (.lst [.int n15]) = HD at hRD sxD tgD ktD kt10D ⊢
        have hg : g.toNat < rows.length := by omega
        obtain ⟨v, hv, fv⟩ := (fvs.kt ktD.1).get (i := g.toNat) (d := rowD rows[g.toNat]) (by rw [List.getElem?_map, List.getElem?_eq_getElem hg]; rfl)
        have rok := hrs rows[g.toNat] (List.getElem_mem hg)
        generalize rows[g.toNat] = row at fv rok
        obtain ⟨ra, rfl, hra⟩ := row_open fv
        refine ⟨R, vs, g, .ref ra, rfl, rfl, .inl (.inl (ktD.1 _ _ hRR)), L2.at_of (j := g.toNat) (by omega) hv, ?_⟩
        -- pair
        obtain ⟨orest, hocc⟩ := ix_one hcm.1
        have hidx : cols.idxOf cc < cols.length := List.idxOf_lt_length_of_mem hcm.1
        have hat := row_at rok.1 hcm.1
        have hxm : rowAt cols row cc ∈ row := by
          obtain ⟨n, hn, e⟩ := List.mem_map.mp (List.mem_of_getElem? hat)
          rw [← V.int.inj e]
          exact hn
        have hx0 := rok.2 _ hxm
        generalize rowAt cols row cc = x at hat hx0
        refine ⟨sg cc, rfl, .ref ra, rfl, tx cols, rfl, rfl, sg cc, rfl, _, _, cols.idxOf cc, orest, rfl, rfl, hocc, ra, row.map V.int, _, .int x, rfl, rfl, .inl (.inl hra), atI_nat hat, (by show 2 ≤ sizeLine; decide), fun pp npp => ?_⟩
        have smE : Same HD (upd HD pp (.tup [sg cc, .int x])) := Same.new (Same.refl HD) npp
        have fpp : Fz (upd HD pp (.tup [sg cc, .int x])) (.ref pp) (eqD (cc, x)) := Fz.made npp (.cons (.str _) (.cons (.int _) .nil))
        generalize upd HD pp (.tup [sg cc, .int x]) = HE at smE fpp ⊢
        have kt10E : KT H10 HE := kt10D.trans (Same.kT smE)
        -- narrow
        refine ⟨.ref ea, rfl, .ref pp, rfl, (by show 1 ≤ sizeLine; decide), fun p1 np1 => ?_⟩
        have smF : Same HE (upd HE p1 (.tup [.ref pp])) := Same.new (Same.refl HE) np1
        have hp1 : (upd HE p1 (.tup [.ref pp])) p1 = some (.tup [.ref pp]) := upd_same
        generalize upd HE p1 (.tup [.ref pp]) = HF at smF hp1 ⊢
        refine ⟨ea, p1, ps, [.ref pp], rfl, rfl, .inl (.inr ⟨_, smF _ _ (kt10E.2 _ _ _ hea10)⟩), hp1, by simp, ?_, fun pt HG smG hpt => ?_⟩
        · show ps.length + 1 ≤ sizeLine
          exact Nat.le_of_lt (small1000 (by omega))
        have smDG : Same HD HG := Same.trans (Same.trans smE smF) smG
        have kt10G : KT H10 HG := kt10D.trans (Same.kT smDG)
        have fpsG : FzA HG (ps ++ [.ref pp]) ((es ++ [(cc, x)]).map eqD) := by
          rw [List.map_append]
          exact (fps10.kt kt10G.1).snoc ((fpp.kt (Same.kt smF)).kt (Same.kt smG))
        have hzl : (ps ++ [V.ref pp]).length = (es ++ [(cc, x)]).length := by
          rw [List.length_append, List.length_append, hpl]
          rfl
        have hz1 : ((ps ++ [V.ref pp]).zip (es ++ [(cc, x)])).map (·.1) = ps ++ [V.ref pp] := List.map_fst_zip (Nat.le_of_eq hzl)
        have hz2 : ((ps ++ [V.ref pp]).zip (es ++ [(cc, x)])).map (·.2) = es ++ [(cc, x)] := List.map_snd_zip (Nat.le_of_eq hzl.symm)
        have hfz := fzA_zip fpsG
        generalize (ps ++ [V.ref pp]).zip (es ++ [(cc, x)]) = bs at hz1 hz2 hfz
        refine ⟨pt, bs, rfl, .inl (.inl (by rw [hz1]; exact hpt)), fun b hb => (hfz b hb).to, W.AllAlike.of (fun b c => by simp [eqD, W.alike, W.alikeAll]), W.Sortable.tuples fun b => ⟨_, _, rfl⟩, fun b hb => ?_, fun l3 nl3 => ?_⟩
        · show max 0 (max 0 0) + 1 ≤ 20
          decide
        rw [le_pr]
        have hbp : (bs.mergeSort prLe).Perm bs := List.mergeSort_perm _ _
        have hfz2 : ∀ b ∈ bs.mergeSort prLe, Fz HG b.1 (eqD b.2) := fun b hb => hfz b (hbp.mem_iff.mp hb)
        have hup' : (((bs.mergeSort prLe).map (·.2)).map (·.1)).Pairwise (· < ·) := pr_sorted bs (by
          rw [hz2, List.map_append]
          refine List.nodup_append.mpr ⟨hqok.up.imp fun h => Nat.ne_of_lt h, by simp, fun u hu v hv e => ?_⟩
          have hv2 : v = cc := by simpa using hv
          refine hcm.2 ?_
          unfold letsM
          rw [← hv2, ← e]
          exact List.mem_append_left _ hu)
        have hpe : ((bs.mergeSort prLe).map (·.2)).Perm (es ++ [(cc, x)]) := by
          rw [← hz2]
          exact hbp.map _
        have fvs' := fzA_unzip hfz2
        generalize (bs.mergeSort prLe).map (·.1) = vs' at fvs' ⊢
        generalize (bs.mergeSort prLe).map (·.2) = es' at fvs' hup' hpe
        have hqok' : QOk cols es' rc := pair_ok hqok hc.nd hcm.1 hcm.2 hx0.1 hx0.2 hpe hup'
        have hel' : es'.length ≤ 1000 := by
          have := hqok'.len
          omega
        have smH : Same HG (upd HG l3 (.lst vs')) := Same.new (Same.refl HG) nl3
        have hl3 : (upd HG l3 (.lst vs')) l3 = some (.lst vs') := upd_same
        generalize upd HG l3 (.lst vs') = HH at smH hl3 ⊢
        refine ⟨l3, vs', rfl, .inl (.inl hl3), fun te ob2 nte hob2 => ?_⟩
        have fE : EZ (upd HH te (.frz ob2 (.tup vs'))) (.ref te) es' := EZ.made nte hob2 (fvs'.kt (Same.kt smH))
        have smI : Same HH (upd HH te (.frz ob2 (.tup vs'))) := Same.new (Same.refl HH) nte
        generalize upd HH te (.frz ob2 (.tup vs')) = HI at fE smI ⊢
        have smDI : Same HD HI := Same.trans (Same.trans smDG smH) smI
        have kt10I : KT H10 HI := kt10D.trans (Same.kT smDI)
        refine ⟨y, rfl, (by show 2 ≤ sizeLine; decide), fun nq nnq => ?_⟩
        have fqn : QZ (upd HI nq (.tup [.ref te, y])) (.ref nq) es' rc := QZ.made nnq fE (fy10.kt kt10I.1)
        have smJ : Same HI (upd HI nq (.tup [.ref te, y])) := Same.new (Same.refl HI) nnq
        generalize upd HI nq (.tup [.ref te, y]) = HJ at fqn smJ ⊢
        have smDJ : Same HD HJ := Same.trans smDI smJ
        have sxJ : Sx Z.Ps H0 HJ := sxD.trans (Same.sx smDJ)
        have tgJ : TG Z.Ps HJ := tgD.same smDJ
        have ktJ : KT H3 HJ := ktD.trans (Same.kT smDJ)
        have hRJ := smDJ _ _ hRD
        have fqJ := fq10.kT (kt10D.trans (Same.kT smDJ))
        -- start, end; first, last
        refine ⟨.ref t, rfl, tx one, rfl, .ref qa, rfl, .ref t, cols, rows, one, .ref qa, es, rc, rfl, tgJ, fT.kt ktJ.1, hrs, by omega, by omega, hoc, fqJ, hqok, by omega, fun s1 HK sxK tgK ns1 hs1 => ?_⟩
        refine ⟨s1, [.int (aheadM cols rows one es rc : Nat), .int (behindM cols rows one es rc : Nat)], rfl, .inl (.inl hs1), rfl, .int (aheadM cols rows one es rc : Nat), [.int (behindM cols rows one es rc : Nat)], rfl, .int (behindM cols rows one es rc : Nat), [], rfl, rfl, ?_⟩
        have ktJK : KT HJ HK := sxK.kT tgJ
        refine ⟨.ref t, rfl, tx one, rfl, .ref nq, rfl, .ref t, cols, rows, one, .ref nq, es', rc, rfl, tgK, fT.kt (ktJ.trans ktJK).1, hrs, by omega, by omega, hoc, fqn.kT ktJK, hqok', hel', fun s2 HL sxL tgL ns2 hs2 => ?_⟩
        refine ⟨s2, [.int (aheadM cols rows one es' rc : Nat), .int (behindM cols rows one es' rc : Nat)], rfl, .inl (.inl hs2), rfl, .int (aheadM cols rows one es' rc : Nat), [.int (behindM cols rows one es' rc : Nat)], rfl, .int (behindM cols rows one es' rc : Nat), [], rfl, rfl, ?_⟩
        have sxJL : Sx Z.Ps HJ HL := sxK.trans sxL
        have ktJL : KT HJ HL := sxJL.kT tgJ
        obtain ⟨more, hmore⟩ := used_pair (one := one) (es := es) (es' := es') (rc := rc) (fun c h => by
          obtain ⟨p, hp, rfl⟩ := List.mem_map.mp h
          exact List.mem_map_of_mem (hpe.mem_iff.mpr (List.mem_append_left _ hp))) (fun d lo hi e => (hqok'.rc d lo hi e).2.1)
        have hnar := narrower (rows := rows) hqok hqok' hmore (fun c h => pair_span hqok hqok' hpe (used_lets h))
        -- the used letters
        refine ⟨tx one, rfl, .ref nq, rfl, one, .ref nq, es', rc, rfl, by omega, fqn.kT ktJL, hel', fun HM smM => ?_⟩
        have hsz : ∀ e2 : List (Nat × Int), (⟨(usedM one e2 rc).toArray⟩ : Str).length ≤ sizeLine := fun e2 => by
          show (usedM one e2 rc).toArray.size ≤ sizeLine
          rw [List.size_toArray]
          have := used_len one e2 rc
          exact Nat.le_of_lt (small1000 (by omega))
        refine ⟨_, rfl, hsz es', tx one, rfl, .ref qa, rfl, one, .ref qa, es, rc, rfl, by omega, (fqJ.kT ktJL).kT (Same.kT smM), by omega, fun HN smN => ?_⟩
        refine ⟨_, rfl, hsz es, _, _, rfl, rfl, _, rfl, ite2 (fun e2 => ?_) (fun _ => ?_)⟩
        · have e3 : ((⟨(usedM one es' rc).toArray⟩ : Str).length : Int) < ((⟨(usedM one es rc).toArray⟩ : Str).length : Int) := of_decide_eq_true e2
          have e4 : (usedM one es' rc).toArray.size < (usedM one es rc).toArray.size := Int.ofNat_lt.mp e3
          rw [List.size_toArray, List.size_toArray, hmore, List.length_append] at e4
          exfalso
          omega
        have hle := ahead_le (rows := rows) (one := one) hqok'
        refine ⟨_, rfl, _, rfl, _, _, rfl, rfl, _, rfl, ?_⟩
        rw [decide_eq_true (show ((aheadM cols rows one es rc : Nat) : Int) ≤ (aheadM cols rows one es' rc : Nat) by omega)]
        refine ⟨_, rfl, _, _, rfl, rfl, _, rfl, ?_⟩
        rw [decide_eq_true (show ((aheadM cols rows one es' rc : Nat) : Int) ≤ (behindM cols rows one es' rc : Nat) by omega)]
        refine ⟨_, rfl, _, _, rfl, rfl, _, rfl, ?_⟩
        rw [decide_eq_true (show ((behindM cols rows one es' rc : Nat) : Int) ≤ (behindM cols rows one es rc : Nat) by omega)]
        have smLN : Same HL HN := Same.trans smM smN
        have sxN : Sx Z.Ps H0 HN := (sxJ.trans sxJL).trans (Same.sx smLN)
        have tgN : TG Z.Ps HN := tgL.same smLN
        have ktJN : KT HJ HN := ktJL.trans (Same.kT smLN)
        have hRN := smLN _ _ (sxJL.lst tgJ hRJ)
        -- inside
        refine ⟨.ref t, rfl, tx one, rfl, .ref t, cols, rows, one, rfl, tgN, fT.kt (ktJ.trans ktJN).1, hrs, by omega, by omega, hoc, fun L2 HO_ sxO tgO nL2 hL2 => ?_⟩
        rw [idx_sort] at hL2
        refine ⟨.int (aheadM cols rows one es' rc : Nat), rfl, _, rfl, .int (behindM cols rows one es' rc : Nat), rfl, _, rfl, L2, _, rfl, .inl (.inl hL2), fun IN nIN => ?_⟩
        have hil : (idxM cols rows one).length = rows.length := by rw [(idx_perm cols rows one).length_eq, List.length_range]
        have ecut : cutV (((idxM cols rows one).map fun n : Nat => (n : Int)).map V.int) (some (aheadM cols rows one es' rc : Nat)) (some (behindM cols rows one es' rc : Nat)) = ((stM cols rows one es' rc).map fun n : Nat => (n : Int)).map V.int := by
          unfold stM
          rw [cutV_nat _ _ _ (ahead_le hqok') (by rw [List.length_map, List.length_map, hil]; exact behind_le _ _ _ _ _)]
          simp only [List.map_take, List.map_drop]
        rw [ecut]
        have smP : Same HO_ (upd HO_ IN (.lst (((stM cols rows one es' rc).map fun n : Nat => (n : Int)).map V.int))) := Same.new (Same.refl HO_) nIN
        have hIN : (upd HO_ IN (.lst (((stM cols rows one es' rc).map fun n : Nat => (n : Int)).map V.int))) IN = some (.lst (((stM cols rows one es' rc).map fun n : Nat => (n : Int)).map V.int)) := upd_same
        generalize upd HO_ IN (.lst (((stM cols rows one es' rc).map fun n : Nat => (n : Int)).map V.int)) = HP at smP hIN ⊢
        have sxNP : Sx Z.Ps HN HP := sxO.trans (Same.sx smP)
        have tgP : TG Z.Ps HP := tgO.same smP
        have ktJP : KT HJ HP := ktJN.trans (sxNP.kT tgN)
        refine ⟨.ref t, rfl, .ref nq, rfl, .ref t, cols, rows, .ref nq, es', rc, rfl, fT.kt (ktJ.trans ktJP).1, hrs, by omega, fqn.kT ktJP, hqok', hel', fun S2 HQ smQ nS2 hS2 => ?_⟩
        refine ⟨S2, rfl, ⟨_, .inl (.inl hS2)⟩, fun D3 nD3 => lc_it (walk_list (xs := (ansM cols rows es' rc).map V.int)) (fun m H' => Same HQ H' ∧ H' D3 = some (.lst []))
          ⟨Same.new (Same.refl HQ) nD3, upd_same⟩ (fun m H' _ hP => .inl (.inl (hP.1 _ _ hS2))) (fun m x HR HS hm hP hY => ?_) (fun HR hP => ?_)⟩
        · obtain ⟨smR, hDR⟩ := hP
          obtain ⟨rfl, hx2⟩ := hY
          rw [List.getElem?_map] at hx2
          obtain ⟨nI, hnI, rfl⟩ := Option.map_eq_some_iff.mp hx2
          obtain ⟨m0, hm0, rfl⟩ := List.mem_map.mp (show nI ∈ ((List.range rows.length).filter fun i => fitsM cols (rows.getD i []) es' rc).map fun i : Nat => (i : Int) from List.mem_of_getElem? hnI)
          have hf2 := List.mem_filter.mp hm0
          have hst := fits_in (one := one) hqok' (List.mem_range.mp hf2.1) hf2.2
          refine ⟨rfl, .int (m0 : Int), rfl, .ref IN, rfl, IN, _, rfl, .inl (.inl (.inl (smR _ _ (smQ _ _ hIN)))), rfl, flat_ints _, _, rfl, ?_⟩
          show (if (!inV (.int (m0 : Int)) (((stM cols rows one es' rc).map fun n : Nat => (n : Int)).map V.int)) = true then _ else _)
          rw [inV_ints, decide_eq_true (List.mem_map_of_mem (f := fun n : Nat => (n : Int)) hst)]
          exact ⟨smR, hDR⟩
        · obtain ⟨smR, hDR⟩ := hP
          refine ⟨(by show 0 ≤ sizeLine; decide), fun p9 np9 => ?_⟩
          refine ⟨_, _, .lst (.inl (.inl (keep_new hDR np9))) .nil, .lst (.inl (.inl upd_same)) .nil, rfl, rfl, _, rfl, ite2 (fun e9 => absurd e9 (by decide)) (fun _ => ?_)⟩
          have smPR : Same HP HR := Same.trans smQ smR
          have sxNR : Sx Z.Ps HN HR := sxNP.trans (Same.sx smPR)
          exact ⟨n15, _, _, _, _, _, _, _, _, _, _, _, _, _, _, _, _, _, _, _, _, _, rfl, (sxN.trans sxNR).new np9, (tgP.same smPR).new np9, keep_new (sxNR.lst tgN hRN) np9, ((ktJ.trans ktJN).trans (sxNR.kT tgN)).trans (KT.new np9)⟩

end
theorem all_mk {l : PySem.W.OpenLaw} {q : Program} {w : World} {K : PySem.W.Frag} {h : Heap} {mg : Str → Option Value} {fa : Addr} (X : K.In h) (G : h.Ns mainGlobals mg) (hfa : mg "law" = some (.ref fa))
    (own : ∀ (nm : Str) (fb : Addr), ((recsOf q).any fun e => e.name == nm) = true → mg nm = some (.ref fb) → OwnTC K fb h)
    {oc0 kv0 dc0 pm0 ct0 : Value} {od0 an0 : Option Addr} {sl0 : Array (Option Value)} {f0 : Addr}
    {c0 P0 : Addr} {ec0 : Value} {ed0 : Option Addr} {ev0 : Array Value} {es0 : Array (Option Value)}
    {oc1 kv1 dc1 pm1 cd1 ct1 : Value} {od1 an1 : Option Addr} {sl1 : Array (Option Value)} {f1 : Addr}
    {oc2 kv2 dc2 pm2 cd2 ct2 : Value} {od2 an2 : Option Addr} {sl2 : Array (Option Value)} {f2 : Addr}
    {oc3 kv3 dc3 pm3 cd3 ct3 : Value} {od3 an3 : Option Addr} {sl3 : Array (Option Value)} {f3 : Addr}
    {oc4 kv4 dc4 pm4 cd4 ct4 : Value} {od4 an4 : Option Addr} {sl4 : Array (Option Value)} {f4 : Addr}
    {oc5 kv5 dc5 pm5 cd5 ct5 : Value} {od5 an5 : Option Addr} {sl5 : Array (Option Value)} {f5 : Addr}
    {oc6 kv6 dc6 pm6 cd6 ct6 : Value} {od6 an6 : Option Addr} {sl6 : Array (Option Value)} {f6 : Addr}
    {oc7 kv7 dc7 pm7 ct7 : Value} {od7 an7 : Option Addr} {sl7 : Array (Option Value)} {f7 : Addr}
    {c7 P7 : Addr} {ec7 : Value} {ed7 : Option Addr} {ev7 : Array Value} {es7 : Array (Option Value)}
    {oc8 kv8 dc8 pm8 cd8 ct8 : Value} {od8 an8 : Option Addr} {sl8 : Array (Option Value)} {f8 : Addr}
    {oc9 kv9 dc9 pm9 cd9 ct9 : Value} {od9 an9 : Option Addr} {sl9 : Array (Option Value)} {f9 : Addr}
    {oc10 kv10 dc10 pm10 cd10 ct10 : Value} {od10 an10 : Option Addr} {sl10 : Array (Option Value)} {f10 : Addr}
    {oc11 kv11 dc11 pm11 cd11 ct11 : Value} {od11 an11 : Option Addr} {sl11 : Array (Option Value)} {f11 : Addr}
    {oc12 kv12 dc12 pm12 cd12 ct12 : Value} {od12 an12 : Option Addr} {sl12 : Array (Option Value)} {f12 : Addr}
    {oc13 kv13 dc13 pm13 cd13 ct13 : Value} {od13 an13 : Option Addr} {sl13 : Array (Option Value)} {f13 : Addr}
    {oc14 kv14 dc14 pm14 cd14 ct14 : Value} {od14 an14 : Option Addr} {sl14 : Array (Option Value)} {f14 : Addr}
    {oc15 kv15 dc15 pm15 cd15 ct15 : Value} {od15 an15 : Option Addr} {sl15 : Array (Option Value)} {f15 : Addr}
    {oc16 kv16 dc16 pm16 cd16 ct16 : Value} {od16 an16 : Option Addr} {sl16 : Array (Option Value)} {f16 : Addr}
    (a0 : PySem.W.nsIn K mainGlobals "picked" = some (some (.ref f0)))
    (l0 : K.lookup f0 = some ⟨oc0, od0, .func (PySem.W.fnOf "picked" "picked" (defArgs s_picked) (defBody s_picked) (defScope s_picked) .none kv0 dc0 pm0 an0 (.ref c0) ct0), sl0⟩)
    (c0_ : PySem.W.codeIn K (.ref c0) "picked" = true) (k0 : PySem.W.keepIn K (.ref f0) = true)
    (lc0 : K.lookup c0 = some ⟨ec0, ed0, .fields ev0, es0⟩) (vc0 : ev0[11]? = some (.ref P0)) (np0 : K.lookup P0 = none) (rc0 : ((recsOf q).any fun e => e.name == "picked") = true)
    (a1 : PySem.W.nsIn K mainGlobals "sorted_by" = some (some (.ref f1)))
    (l1 : K.lookup f1 = some ⟨oc1, od1, .func (PySem.W.fnOf "sorted_by" "sorted_by" (defArgs s_sorted_by) (defBody s_sorted_by) (defScope s_sorted_by) .none kv1 dc1 pm1 an1 cd1 ct1), sl1⟩)
    (c1_ : PySem.W.codeIn K cd1 "sorted_by" = true) (k1 : PySem.W.keepIn K (.ref f1) = true)
    (a2 : PySem.W.nsIn K mainGlobals "letters_of" = some (some (.ref f2)))
    (l2 : K.lookup f2 = some ⟨oc2, od2, .func (PySem.W.fnOf "letters_of" "letters_of" (defArgs s_letters_of) (defBody s_letters_of) (defScope s_letters_of) .none kv2 dc2 pm2 an2 cd2 ct2), sl2⟩)
    (c2_ : PySem.W.codeIn K cd2 "letters_of" = true) (k2 : PySem.W.keepIn K (.ref f2) = true)
    (a3 : PySem.W.nsIn K mainGlobals "spans" = some (some (.ref f3)))
    (l3 : K.lookup f3 = some ⟨oc3, od3, .func (PySem.W.fnOf "spans" "spans" (defArgs s_spans) (defBody s_spans) (defScope s_spans) .none kv3 dc3 pm3 an3 cd3 ct3), sl3⟩)
    (c3_ : PySem.W.codeIn K cd3 "spans" = true) (k3 : PySem.W.keepIn K (.ref f3) = true)
    (a4 : PySem.W.nsIn K mainGlobals "fits" = some (some (.ref f4)))
    (l4 : K.lookup f4 = some ⟨oc4, od4, .func (PySem.W.fnOf "fits" "fits" (defArgs s_fits) (defBody s_fits) (defScope s_fits) .none kv4 dc4 pm4 an4 cd4 ct4), sl4⟩)
    (c4_ : PySem.W.codeIn K cd4 "fits" = true) (k4 : PySem.W.keepIn K (.ref f4) = true)
    (a5 : PySem.W.nsIn K mainGlobals "answer" = some (some (.ref f5)))
    (l5 : K.lookup f5 = some ⟨oc5, od5, .func (PySem.W.fnOf "answer" "answer" (defArgs s_answer) (defBody s_answer) (defScope s_answer) .none kv5 dc5 pm5 an5 cd5 ct5), sl5⟩)
    (c5_ : PySem.W.codeIn K cd5 "answer" = true) (k5 : PySem.W.keepIn K (.ref f5) = true)
    (a6 : PySem.W.nsIn K mainGlobals "used" = some (some (.ref f6)))
    (l6 : K.lookup f6 = some ⟨oc6, od6, .func (PySem.W.fnOf "used" "used" (defArgs s_used) (defBody s_used) (defScope s_used) .none kv6 dc6 pm6 an6 cd6 ct6), sl6⟩)
    (c6_ : PySem.W.codeIn K cd6 "used" = true) (k6 : PySem.W.keepIn K (.ref f6) = true)
    (a7 : PySem.W.nsIn K mainGlobals "stretch" = some (some (.ref f7)))
    (l7 : K.lookup f7 = some ⟨oc7, od7, .func (PySem.W.fnOf "stretch" "stretch" (defArgs s_stretch) (defBody s_stretch) (defScope s_stretch) .none kv7 dc7 pm7 an7 (.ref c7) ct7), sl7⟩)
    (c7_ : PySem.W.codeIn K (.ref c7) "stretch" = true) (k7 : PySem.W.keepIn K (.ref f7) = true)
    (lc7 : K.lookup c7 = some ⟨ec7, ed7, .fields ev7, es7⟩) (vc7 : ev7[11]? = some (.ref P7)) (np7 : K.lookup P7 = none) (rc7 : ((recsOf q).any fun e => e.name == "stretch") = true)
    (a8 : PySem.W.nsIn K mainGlobals "read" = some (some (.ref f8)))
    (l8 : K.lookup f8 = some ⟨oc8, od8, .func (PySem.W.fnOf "read" "read" (defArgs s_read) (defBody s_read) (defScope s_read) .none kv8 dc8 pm8 an8 cd8 ct8), sl8⟩)
    (c8_ : PySem.W.codeIn K cd8 "read" = true) (k8 : PySem.W.keepIn K (.ref f8) = true)
    (a9 : PySem.W.nsIn K mainGlobals "_law_reel" = some (some (.ref f9)))
    (l9 : K.lookup f9 = some ⟨oc9, od9, .func (PySem.W.fnOf "_law_reel" "_law_reel" (defArgs s_l_reel) (defBody s_l_reel) (defScope s_l_reel) .none kv9 dc9 pm9 an9 cd9 ct9), sl9⟩)
    (c9_ : PySem.W.codeIn K cd9 "_law_reel" = true) (k9 : PySem.W.keepIn K (.ref f9) = true)
    (a10 : PySem.W.nsIn K mainGlobals "_law_pick" = some (some (.ref f10)))
    (l10 : K.lookup f10 = some ⟨oc10, od10, .func (PySem.W.fnOf "_law_pick" "_law_pick" (defArgs s_l_pick) (defBody s_l_pick) (defScope s_l_pick) .none kv10 dc10 pm10 an10 cd10 ct10), sl10⟩)
    (c10_ : PySem.W.codeIn K cd10 "_law_pick" = true) (k10 : PySem.W.keepIn K (.ref f10) = true)
    (a11 : PySem.W.nsIn K mainGlobals "_law_columns" = some (some (.ref f11)))
    (l11 : K.lookup f11 = some ⟨oc11, od11, .func (PySem.W.fnOf "_law_columns" "_law_columns" (defArgs s_l_columns) (defBody s_l_columns) (defScope s_l_columns) .none kv11 dc11 pm11 an11 cd11 ct11), sl11⟩)
    (c11_ : PySem.W.codeIn K cd11 "_law_columns" = true) (k11 : PySem.W.keepIn K (.ref f11) = true)
    (a12 : PySem.W.nsIn K mainGlobals "_law_table" = some (some (.ref f12)))
    (l12 : K.lookup f12 = some ⟨oc12, od12, .func (PySem.W.fnOf "_law_table" "_law_table" (defArgs s_l_table) (defBody s_l_table) (defScope s_l_table) .none kv12 dc12 pm12 an12 cd12 ct12), sl12⟩)
    (c12_ : PySem.W.codeIn K cd12 "_law_table" = true) (k12 : PySem.W.keepIn K (.ref f12) = true)
    (a13 : PySem.W.nsIn K mainGlobals "_law_near" = some (some (.ref f13)))
    (l13 : K.lookup f13 = some ⟨oc13, od13, .func (PySem.W.fnOf "_law_near" "_law_near" (defArgs s_l_near) (defBody s_l_near) (defScope s_l_near) .none kv13 dc13 pm13 an13 cd13 ct13), sl13⟩)
    (c13_ : PySem.W.codeIn K cd13 "_law_near" = true) (k13 : PySem.W.keepIn K (.ref f13) = true)
    (a14 : PySem.W.nsIn K mainGlobals "_law_question" = some (some (.ref f14)))
    (l14 : K.lookup f14 = some ⟨oc14, od14, .func (PySem.W.fnOf "_law_question" "_law_question" (defArgs s_l_question) (defBody s_l_question) (defScope s_l_question) .none kv14 dc14 pm14 an14 cd14 ct14), sl14⟩)
    (c14_ : PySem.W.codeIn K cd14 "_law_question" = true) (k14 : PySem.W.keepIn K (.ref f14) = true)
    (a15 : PySem.W.nsIn K mainGlobals "_law_one" = some (some (.ref f15)))
    (l15 : K.lookup f15 = some ⟨oc15, od15, .func (PySem.W.fnOf "_law_one" "_law_one" (defArgs s_l_one) (defBody s_l_one) (defScope s_l_one) .none kv15 dc15 pm15 an15 cd15 ct15), sl15⟩)
    (c15_ : PySem.W.codeIn K cd15 "_law_one" = true) (k15 : PySem.W.keepIn K (.ref f15) = true)
    (a16 : PySem.W.nsIn K mainGlobals "law" = some (some (.ref f16)))
    (l16 : K.lookup f16 = some ⟨oc16, od16, .func (PySem.W.fnOf "law" "law" (defArgs s_law) (defBody s_law) (defScope s_law) .none kv16 dc16 pm16 an16 cd16 ct16), sl16⟩)
    (c16_ : PySem.W.codeIn K cd16 "law" = true) (k16 : PySem.W.keepIn K (.ref f16) = true)
    (z0 : PySem.W.nsIn K mainGlobals "len" = some none)
    (z1 : PySem.W.nsIn K mainGlobals "range" = some none)
    (z2 : PySem.W.nsIn K mainGlobals "list" = some none)
    (z3 : PySem.W.nsIn K mainGlobals "sorted" = some none)
    (z4 : PySem.W.nsIn K mainGlobals "tuple" = some none)
    (z5 : PySem.W.nsIn K mainGlobals "min" = some none)
    (z6 : PySem.W.nsIn K mainGlobals "max" = some none)
    (z7 : PySem.W.nsIn K mainGlobals "enumerate" = some none)
    (z8 : PySem.W.nsIn K mainGlobals "dict" = some none)
    : LamX.LawAtS l w K CX0 5 63 "script" mg fa h := by
  have e := hfa.symm.trans (PySem.W.mg_of X G a16)
  cases e
  have F0 := fun_mk (st := s_picked) l0 c0_ k0
  have b0 := F0.binds (ps := ["columns", "row", "letters"]) fun _ _ _ _ _ _ us hl => match us, hl with | [_, _, _], _ => rfl
  have o0 := own "picked" _ rc0 (PySem.W.mg_of X G a0) c0 P0 _ _ _ _ _ _ l0 rfl rfl lc0 vc0
  have F1 := fun_mk (st := s_sorted_by) l1 c1_ k1
  have b1 := F1.binds (ps := ["table", "one"]) fun _ _ _ _ _ _ us hl => match us, hl with | [_, _], _ => rfl
  have F2 := fun_mk (st := s_letters_of) l2 c2_ k2
  have b2 := F2.binds (ps := ["equals"]) fun _ _ _ _ _ _ us hl => match us, hl with | [_], _ => rfl
  have F3 := fun_mk (st := s_spans) l3 c3_ k3
  have b3 := F3.binds (ps := ["question"]) fun _ _ _ _ _ _ us hl => match us, hl with | [_], _ => rfl
  have F4 := fun_mk (st := s_fits) l4 c4_ k4
  have b4 := F4.binds (ps := ["columns", "row", "question"]) fun _ _ _ _ _ _ us hl => match us, hl with | [_, _, _], _ => rfl
  have F5 := fun_mk (st := s_answer) l5 c5_ k5
  have b5 := F5.binds (ps := ["table", "question"]) fun _ _ _ _ _ _ us hl => match us, hl with | [_, _], _ => rfl
  have F6 := fun_mk (st := s_used) l6 c6_ k6
  have b6 := F6.binds (ps := ["one", "question"]) fun _ _ _ _ _ _ us hl => match us, hl with | [_, _], _ => rfl
  have F7 := fun_mk (st := s_stretch) l7 c7_ k7
  have b7 := F7.binds (ps := ["table", "one", "question"]) fun _ _ _ _ _ _ us hl => match us, hl with | [_, _, _], _ => rfl
  have o7 := own "stretch" _ rc7 (PySem.W.mg_of X G a7) c7 P7 _ _ _ _ _ _ l7 rfl rfl lc7 vc7
  have F8 := fun_mk (st := s_read) l8 c8_ k8
  have b8 := F8.binds (ps := ["table", "one", "question"]) fun _ _ _ _ _ _ us hl => match us, hl with | [_, _, _], _ => rfl
  have F9 := fun_mk (st := s_l_reel) l9 c9_ k9
  have b9 := F9.binds (ps := ["script", "k"]) fun _ _ _ _ _ _ us hl => match us, hl with | [_, _], _ => rfl
  have F10 := fun_mk (st := s_l_pick) l10 c10_ k10
  have b10 := F10.binds (ps := ["reel", "many"]) fun _ _ _ _ _ _ us hl => match us, hl with | [_, _], _ => rfl
  have F11 := fun_mk (st := s_l_columns) l11 c11_ k11
  have b11 := F11.binds (ps := ["reel", "many"]) fun _ _ _ _ _ _ us hl => match us, hl with | [_, _], _ => rfl
  have F12 := fun_mk (st := s_l_table) l12 c12_ k12
  have b12 := F12.binds (ps := ["reel", "most", "rows"]) fun _ _ _ _ _ _ us hl => match us, hl with | [_, _, _], _ => rfl
  have F13 := fun_mk (st := s_l_near) l13 c13_ k13
  have b13 := F13.binds (ps := ["reel", "rows", "at", "row"]) fun _ _ _ _ _ _ us hl => match us, hl with | [_, _, _, _], _ => rfl
  have F14 := fun_mk (st := s_l_question) l14 c14_ k14
  have b14 := F14.binds (ps := ["reel", "table"]) fun _ _ _ _ _ _ us hl => match us, hl with | [_, _], _ => rfl
  have F15 := fun_mk (st := s_l_one) l15 c15_ k15
  have b15 := F15.binds (ps := ["reel", "columns"]) fun _ _ _ _ _ _ us hl => match us, hl with | [_, _], _ => rfl
  have F16 := fun_mk (st := s_law) l16 c16_ k16
  have b16 := F16.binds (ps := ["script"]) fun _ _ _ _ _ _ us hl => match us, hl with | [_], _ => rfl
  let Z : Ad := ⟨f0, PySem.W.fnOf "picked" "picked" (defArgs s_picked) (defBody s_picked) (defScope s_picked) .none kv0 dc0 pm0 an0 (.ref c0) ct0, c0, P0, f1, PySem.W.fnOf "sorted_by" "sorted_by" (defArgs s_sorted_by) (defBody s_sorted_by) (defScope s_sorted_by) .none kv1 dc1 pm1 an1 cd1 ct1, f2, PySem.W.fnOf "letters_of" "letters_of" (defArgs s_letters_of) (defBody s_letters_of) (defScope s_letters_of) .none kv2 dc2 pm2 an2 cd2 ct2, f3, PySem.W.fnOf "spans" "spans" (defArgs s_spans) (defBody s_spans) (defScope s_spans) .none kv3 dc3 pm3 an3 cd3 ct3, f4, PySem.W.fnOf "fits" "fits" (defArgs s_fits) (defBody s_fits) (defScope s_fits) .none kv4 dc4 pm4 an4 cd4 ct4, f5, PySem.W.fnOf "answer" "answer" (defArgs s_answer) (defBody s_answer) (defScope s_answer) .none kv5 dc5 pm5 an5 cd5 ct5, f6, PySem.W.fnOf "used" "used" (defArgs s_used) (defBody s_used) (defScope s_used) .none kv6 dc6 pm6 an6 cd6 ct6, f7, PySem.W.fnOf "stretch" "stretch" (defArgs s_stretch) (defBody s_stretch) (defScope s_stretch) .none kv7 dc7 pm7 an7 (.ref c7) ct7, c7, P7, f8, PySem.W.fnOf "read" "read" (defArgs s_read) (defBody s_read) (defScope s_read) .none kv8 dc8 pm8 an8 cd8 ct8, f9, PySem.W.fnOf "_law_reel" "_law_reel" (defArgs s_l_reel) (defBody s_l_reel) (defScope s_l_reel) .none kv9 dc9 pm9 an9 cd9 ct9, f10, PySem.W.fnOf "_law_pick" "_law_pick" (defArgs s_l_pick) (defBody s_l_pick) (defScope s_l_pick) .none kv10 dc10 pm10 an10 cd10 ct10, f11, PySem.W.fnOf "_law_columns" "_law_columns" (defArgs s_l_columns) (defBody s_l_columns) (defScope s_l_columns) .none kv11 dc11 pm11 an11 cd11 ct11, f12, PySem.W.fnOf "_law_table" "_law_table" (defArgs s_l_table) (defBody s_l_table) (defScope s_l_table) .none kv12 dc12 pm12 an12 cd12 ct12, f13, PySem.W.fnOf "_law_near" "_law_near" (defArgs s_l_near) (defBody s_l_near) (defScope s_l_near) .none kv13 dc13 pm13 an13 cd13 ct13, f14, PySem.W.fnOf "_law_question" "_law_question" (defArgs s_l_question) (defBody s_l_question) (defScope s_l_question) .none kv14 dc14 pm14 an14 cd14 ct14, f15, PySem.W.fnOf "_law_one" "_law_one" (defArgs s_l_one) (defBody s_l_one) (defScope s_l_one) .none kv15 dc15 pm15 an15 cd15 ct15, fa, PySem.W.fnOf "law" "law" (defArgs s_law) (defBody s_law) (defScope s_law) .none kv16 dc16 pm16 an16 cd16 ct16⟩
  have T : Tx K mg Z := ⟨F0, ⟨_, _, _, _, _, _, _, _, rfl, l0, c0_⟩, b0, PySem.W.mg_of X G a0, F1, b1, PySem.W.mg_of X G a1, F2, b2, PySem.W.mg_of X G a2, F3, b3, PySem.W.mg_of X G a3, F4, b4, PySem.W.mg_of X G a4, F5, b5, PySem.W.mg_of X G a5, F6, b6, PySem.W.mg_of X G a6, F7, ⟨_, _, _, _, _, _, _, _, rfl, l7, c7_⟩, b7, PySem.W.mg_of X G a7, F8, b8, PySem.W.mg_of X G a8, F9, b9, PySem.W.mg_of X G a9, F10, b10, PySem.W.mg_of X G a10, F11, b11, PySem.W.mg_of X G a11, F12, b12, PySem.W.mg_of X G a12, F13, b13, PySem.W.mg_of X G a13, F14, b14, PySem.W.mg_of X G a14, F15, b15, PySem.W.mg_of X G a15, F16, b16, PySem.W.mg_of X G a16, PySem.W.mg_none_of X G z0, PySem.W.mg_none_of X G z1, PySem.W.mg_none_of X G z2, PySem.W.mg_none_of X G z3, PySem.W.mg_none_of X G z4, PySem.W.mg_none_of X G z5, PySem.W.mg_none_of X G z6, PySem.W.mg_none_of X G z7, PySem.W.mg_none_of X G z8⟩
  have each : ∀ {R : Addr × Addr → Prop}, R (c0, P0) → R (c7, P7) → ∀ p ∈ [(c0, P0), (c7, P7)], R p := fun h0 h7 p hp => by
    simp only [List.mem_cons, List.not_mem_nil, or_false] at hp
    rcases hp with e | e
    · rw [e]
      exact h0
    · rw [e]
      exact h7
  refine ⟨Z.d_law, [(c0, P0), (c7, P7)], spLaw K Z, each o0.1 o7.1, each np0 np7, each o0.2 o7.2, fun s v => .of_eq rfl, fun H a ns hl _ hT hS => ?_, fun base _ _ hTB => ?_⟩
  · refine ⟨a, ns, rfl, hS, hl, fun P hP => ?_, fun _ => rfl⟩
    obtain ⟨p, hp, rfl⟩ : ∃ p ∈ [((c0, P0) : Addr × Addr), ((c7, P7) : Addr × Addr)], p.2 = P := by
      have hP2 : P ∈ [((c0, P0) : Addr × Addr).2, ((c7, P7) : Addr × Addr).2] := hP
      exact List.mem_map.mp (show P ∈ List.map (fun p : Addr × Addr => p.2) [(c0, P0), (c7, P7)] from hP2)
    exact ⟨#[], hT p hp, trivial⟩
  · exact ok_law T ⟨hTB (c0, P0) (by simp), hTB (c7, P7) (by simp)⟩
end My
open PySem PySem.W PyProof.Rows
set_option maxHeartbeats 0 in
theorem PySem.Challenge.cw_stretchkeep_k12_whole_more_letters_read_holds : PySem.Challenge.rw_stretchkeep_k12_whole_more_letters_read.Holds := by
  w_on; o_law; k_head; (case hw => w_witness2)
  k_fill
  refine My.walk_ofTabs (l := PySem.Challenge.rw_stretchkeep_k12_whole_more_letters_read) (n := 63) (k := 5) (x := "script") (CX := fun _ => L2.CX0) rfl (by decide) rfl ⟨rfl, by decide, by decide⟩ (fun w h Y => PySem.W.kIn_of Y) ?F (fun _ _ _ _ _ h => h)
  case F =>
    intro w mg fa h Y KX G hmg own
    refine' My.all_mk KX G hmg own ?a0 ?l0 ?c0_ ?k0 ?lc0 ?vc0 ?np0 ?rc0 ?a1 ?l1 ?c1_ ?k1 ?a2 ?l2 ?c2_ ?k2 ?a3 ?l3 ?c3_ ?k3 ?a4 ?l4 ?c4_ ?k4 ?a5 ?l5 ?c5_ ?k5 ?a6 ?l6 ?c6_ ?k6 ?a7 ?l7 ?c7_ ?k7 ?lc7 ?vc7 ?np7 ?rc7 ?a8 ?l8 ?c8_ ?k8 ?a9 ?l9 ?c9_ ?k9 ?a10 ?l10 ?c10_ ?k10 ?a11 ?l11 ?c11_ ?k11 ?a12 ?l12 ?c12_ ?k12 ?a13 ?l13 ?c13_ ?k13 ?a14 ?l14 ?c14_ ?k14 ?a15 ?l15 ?c15_ ?k15 ?a16 ?l16 ?c16_ ?k16 ?z0 ?z1 ?z2 ?z3 ?z4 ?z5 ?z6 ?z7 ?z8
    (case a0 => k_is)
    (case l0 => k_is)
    (case c0_ => k_is)
    (case k0 => k_is)
    (case lc0 => k_is)
    (case vc0 => rfl)
    (case np0 => first | rfl | kernel_rfl)
    (case rc0 => decide +kernel)
    (case a1 => k_is)
    (case l1 => k_is)
    (case c1_ => k_is)
    (case k1 => k_is)
    (case a2 => k_is)
    (case l2 => k_is)
    (case c2_ => k_is)
    (case k2 => k_is)
    (case a3 => k_is)
    (case l3 => k_is)
    (case c3_ => k_is)
    (case k3 => k_is)
    (case a4 => k_is)
    (case l4 => k_is)
    (case c4_ => k_is)
    (case k4 => k_is)
    (case a5 => k_is)
    (case l5 => k_is)
    (case c5_ => k_is)
    (case k5 => k_is)
    (case a6 => k_is)
    (case l6 => k_is)
    (case c6_ => k_is)
    (case k6 => k_is)
    (case a7 => k_is)
    (case l7 => k_is)
    (case c7_ => k_is)
    (case k7 => k_is)
    (case lc7 => k_is)
    (case vc7 => rfl)
    (case np7 => first | rfl | kernel_rfl)
    (case rc7 => decide +kernel)
    (case a8 => k_is)
    (case l8 => k_is)
    (case c8_ => k_is)
    (case k8 => k_is)
    (case a9 => k_is)
    (case l9 => k_is)
    (case c9_ => k_is)
    (case k9 => k_is)
    (case a10 => k_is)
    (case l10 => k_is)
    (case c10_ => k_is)
    (case k10 => k_is)
    (case a11 => k_is)
    (case l11 => k_is)
    (case c11_ => k_is)
    (case k11 => k_is)
    (case a12 => k_is)
    (case l12 => k_is)
    (case c12_ => k_is)
    (case k12 => k_is)
    (case a13 => k_is)
    (case l13 => k_is)
    (case c13_ => k_is)
    (case k13 => k_is)
    (case a14 => k_is)
    (case l14 => k_is)
    (case c14_ => k_is)
    (case k14 => k_is)
    (case a15 => k_is)
    (case l15 => k_is)
    (case c15_ => k_is)
    (case k15 => k_is)
    (case a16 => k_is)
    (case l16 => k_is)
    (case c16_ => k_is)
    (case k16 => k_is)
    (case z0 => k_is)
    (case z1 => k_is)
    (case z2 => k_is)
    (case z3 => k_is)
    (case z4 => k_is)
    (case z5 => k_is)
    (case z6 => k_is)
    (case z7 => k_is)
    (case z8 => k_is)

