import PyProof.Rows.All
import Wide.All
import OpenK.AllK
import Wide.FinOn
import HandS.ForMost
import HandS.Walk
import HandS.IsInst
import HandS.DictComp
import HandS.SortInts
import HandS.NoneIn
import HandS.Replace
import HandS.TupAny
import HandS.TupLe
import PyProof.ListStr
import PyProof.TupleOfStr
import KE.GoesNew
import HandS.Zip
import HandS.More
import PyProof.StrLawsFirst
import HandS.Conv
import KE.KSortedM
import PySem.Challenge.RW_stretchkeep_k07_whole_answers_parted
set_option Elab.async false
set_option linter.all false
set_option maxRecDepth 100000
namespace My
open PySem PySem.Spec PyProof.Rows L2
/-! ### heaps -/
/-- all but r is as it was -/
def Kp (r : Addr) (H H' : Hp) : Prop := ∀ b o, b ≠ r → H b = some o → H' b = some o
theorem Kp.rfl' {r : Addr} {H : Hp} : Kp r H H := fun _ _ _ h => h
theorem Kp.trans {r : Addr} {H H1 H2 : Hp} (a : Kp r H H1) (b : Kp r H1 H2) : Kp r H H2 := fun c o n h => b c o n (a c o n h)
theorem Kp.new {r p : Addr} {H H1 : Hp} {o : HO} (a : Kp r H H1) (n : H1 p = none) : Kp r H (upd H1 p o) := fun b x nb h => by
  have h1 := a b x nb h
  rw [upd_ne (ne_of_none h1 n)]
  exact h1
theorem Kp.own {r : Addr} {H H1 : Hp} {o : HO} (a : Kp r H H1) : Kp r H (upd H1 r o) := fun b x nb h => by
  rw [upd_ne nb]
  exact a b x nb h
/-- an object that H does not know is written -/
theorem Kp.mut {r p : Addr} {H H1 : Hp} {o : HO} (a : Kp r H H1) (n : H p = none) : Kp r H (upd H1 p o) := fun b x nb h => by
  rw [upd_ne (ne_of_none h n)]
  exact a b x nb h
theorem Same.kp {r : Addr} {H H' : Hp} (s : Same H H') : Kp r H H' := fun b o _ h => s b o h
theorem Same.new {p : Addr} {H H1 : Hp} {o : HO} (a : Same H H1) (n : H1 p = none) : Same H (upd H1 p o) := fun b x h => by
  have h1 := a b x h
  rw [upd_ne (ne_of_none h1 n)]
  exact h1
theorem Same.mut {p : Addr} {H H1 : Hp} {o : HO} (a : Same H H1) (n : H p = none) : Same H (upd H1 p o) := fun b x h => by
  rw [upd_ne (ne_of_none h n)]
  exact a b x h
theorem Same.tup {K : PySem.W.Frag} {H H' : Hp} {a : Addr} {xs : List V} (e : Same H H') (h : SqT K H a xs) : SqT K H' a xs := by
  rcases h with (h | ⟨o, h⟩) | h
  · exact .inl (.inl (e _ _ h))
  · exact .inl (.inr ⟨o, e _ _ h⟩)
  · exact .inr h
theorem Same.kpN {r : Addr} {H H1 H2 : Hp} (s : Same H H1) (n : H r = Option.none) (k : Kp r H1 H2) : Same H H2 := fun b o h => k b o (ne_of_none h n) (s b o h)
theorem Kp.none {r p : Addr} {H H' : Hp} (e : Kp r H H') (n : p ≠ r) (h : H' p = Option.none) : H p = Option.none := by
  cases q : H p with
  | none => rfl
  | some o =>
    rw [e p o n q] at h
    cases h
theorem keep_new {H : Hp} {p b : Addr} {o x : HO} (h : H b = some x) (n : H p = Option.none) : (upd H p o) b = some x := by
  rw [upd_ne (ne_of_none h n)]
  exact h
theorem keep_ne {H : Hp} {p b : Addr} {o x : HO} (h : H b = some x) (n : b ≠ p) : (upd H p o) b = some x := by
  rw [upd_ne n]
  exact h
/-! ### a word between a statement and the rest -/
def tMid (t u : TS) : TS := fun D σ H => ∃ M : L2.St → Hp → Prop, t { D with nx := M } σ H ∧ ∀ σ1 H1, M σ1 H1 → u D σ1 H1
theorem pss_mid {X : Cx} {st : Stmt} {r : List Stmt} {t u : TS} (a : PS X st t) (b : PSs X r u) : PSs X (st :: r) (tMid t u) := ⟨fun pins s σ H D I h => by
  obtain ⟨M, hm, hu⟩ := h
  refine wpAny_execs_cons (thn (a.run pins s σ H { D with nx := M } I hm) fun f s1 q => ?_)
  cases f
  case next =>
    obtain ⟨σ1, H1, I1, q1⟩ := q
    exact b.run pins s1 σ1 H1 D I1 (hu σ1 H1 q1)
  all_goals exact q⟩
/-! ### texts -/
/-- a text of these codes; one sign -/
abbrev tx (l : List Nat) : V := .str ⟨l.toArray⟩
abbrev sg (c : Nat) : V := .str ⟨#[c]⟩
theorem signs_vals {x : Str} {acc : Array Value} (h : ItemsOf (SignAt x) acc x.cps.size) : Vals (x.cps.toList.map sg) acc.toList := by
  obtain ⟨hz, hi⟩ := h
  have key : ∀ (l : List Nat) (us : List Value), l.length = us.length → (∀ (j : Nat) (c : Nat) (v : Value), l[j]? = some c → us[j]? = some v → ∃ t, v = Value.str ⟨#[c]⟩ t) → Vals (l.map sg) us := by
    intro l
    induction l with
    | nil =>
      intro us hl _
      cases us with
      | nil => exact .nil
      | cons a b => cases hl
    | cons c l ih =>
      intro us hl hh
      cases us with
      | nil => cases hl
      | cons u us =>
        refine .cons ?_ (ih us (Nat.succ.inj hl) fun j c v h1 h2 => hh (j + 1) c v h1 h2)
        obtain ⟨t, e⟩ := hh 0 c u rfl rfl
        exact ⟨t, e⟩
  refine key _ _ (by rw [Array.length_toList, Array.length_toList, hz]) fun j c v h1 h2 => ?_
  obtain ⟨cc, t, e1, e2⟩ := hi j v (by rw [← Array.getElem?_toList]; exact h2)
  rw [Array.getElem?_toList] at h1
  rw [h1] at e1
  cases e1
  exact ⟨t, e2⟩
/-- the text of one sign -/
abbrev sS (c : Nat) : Str := ⟨#[c]⟩
theorem str_empty : (Str.ofString "").cps = #[] := by decide +kernel
theorem join_signs : ∀ l : List Nat, Txt.join (Str.ofString "") (l.map sS) = ⟨l.toArray⟩ := by
  intro l
  show PySem.Builtin.Str.glued (Str.ofString "") (l.map sS) = _
  rw [PySem.StrLaws.glued_eq_join]
  induction l with
  | nil => rfl
  | cons c l ih =>
    cases l with
    | nil => rfl
    | cons d l =>
      show sS c ++ Str.ofString "" ++ Str.join (Str.ofString "") ((d :: l).map sS) = _
      rw [ih]
      show (⟨(#[c] ++ (Str.ofString "").cps) ++ (d :: l).toArray⟩ : Str) = _
      rw [str_empty]
      simp
theorem ltCps_one {a b : Nat} (h : ltCps [a] [b] = false) : b ≤ a := by
  simp [ltCps] at h
  exact h
theorem rising_signs : ∀ (l : List Nat) (c : Nat), risingS (sS c) (l.map sS) = true → (c :: l).Pairwise (· ≤ ·)
  | [], c, _ => List.pairwise_singleton _ _
  | d :: l, c, h => by
    have h' : (!ltCps [d] [c] && risingS (sS d) (l.map sS)) = true := h
    rw [Bool.and_eq_true, Bool.not_eq_true'] at h'
    have hd := ltCps_one h'.1
    have ih := rising_signs l d h'.2
    refine List.Pairwise.cons (fun x hx => ?_) ih
    rcases List.mem_cons.mp hx with e | hx
    · rw [e]
      exact hd
    · exact Nat.le_trans hd ((List.pairwise_cons.mp ih).1 x hx)
theorem sorted_signs : ∀ (l : List Nat), sortedS (l.map sS) = true → l.Pairwise (· ≤ ·)
  | [], _ => List.Pairwise.nil
  | c :: l, h => rising_signs l c h
theorem perm_signs {ys : List Str} {l : List Nat} (h : ys.Perm (l.map sS)) : ∃ l' : List Nat, ys = l'.map sS ∧ l'.Perm l := by
  let hd : Str → Nat := fun z => z.cps.toList.headD 0
  refine ⟨ys.map hd, ?_, ?_⟩
  · rw [List.map_map]
    have e : ∀ y ∈ ys, (sS ∘ hd) y = y := fun y hy => by
      obtain ⟨c, _, rfl⟩ := List.mem_map.mp (h.mem_iff.mp hy)
      rfl
    conv => lhs; rw [← List.map_id ys]
    exact (List.map_congr_left e).symm
  · have e := h.map hd
    rw [List.map_map] at e
    have e2 : l.map (hd ∘ sS) = l := by
      conv => rhs; rw [← List.map_id l]
      exact List.map_congr_left fun c _ => rfl
    rw [e2] at e
    exact e
theorem strict_of {l : List Nat} (h : l.Pairwise (· ≤ ·)) (n : l.Nodup) : l.Pairwise (· < ·) := by
  refine (h.and n).imp fun {a b} q => ?_
  have h1 := q.1
  have h2 : a ≠ b := q.2
  omega
theorem map_sg (l : List Nat) : l.map sg = (l.map sS).map V.str := by
  rw [List.map_map]
  rfl
theorem erase_map {α β : Type} (f : α → β) : ∀ (l : List α) (k : Nat), (l.map f).eraseIdx k = (l.eraseIdx k).map f
  | [], _ => rfl
  | _ :: _, 0 => rfl
  | a :: l, k + 1 => by
    show f a :: (l.map f).eraseIdx k = f a :: (l.eraseIdx k).map f
    rw [erase_map f l k]
theorem pop_perm : ∀ {l : List Nat} {k : Nat} {y : Nat}, l[k]? = some y → (y :: l.eraseIdx k).Perm l
  | [], k, y, h => by simp at h
  | a :: l, 0, y, h => by
    have e : a = y := Option.some.inj h
    rw [e]
    exact List.Perm.refl _
  | a :: l, k + 1, y, h => by
    have ih := pop_perm (l := l) (k := k) (y := y) h
    exact (List.Perm.swap a y (l.eraseIdx k)).trans (ih.cons a)
theorem popped {l : List Nat} {k : Nat} {y : Nat} (h : l[k]? = some y) (f : List Nat) : (l.eraseIdx k ++ (f ++ [y])).Perm (l ++ f) := by
  have p := pop_perm h
  have p1 : (l.eraseIdx k ++ (f ++ [y])).Perm ([y] ++ (l.eraseIdx k ++ f)) := by
    rw [← List.append_assoc]
    exact List.perm_append_comm
  refine p1.trans ?_
  rw [← List.append_assoc]
  exact p.append_right f
section
variable {X : Cx}
theorem call_list_txt (hc : X.calm = true := by rfl) : CallR X (.type "list") (fun xs H Q => ∃ z : Str, xs = [.str z] ∧ z.length ≤ sizeLine ∧ ∀ l, H l = none → Q (.ref l) (upd H l (.lst (z.cps.toList.map sg)))) := by
  intro pins s σ H xs us Q I r h
  obtain ⟨z, rfl, hz, q⟩ := h
  obtain ⟨u, rfl, rx⟩ := vals1 r
  obtain ⟨t, rfl⟩ := rx
  refine PySem.call_list_str (I.ok.hd hc) z t (fun h' tk acc c kp e hi => ?_) hz
  have hv := signs_vals hi
  exact ⟨.ref s.heap.objs.size, _, I.laid (t' := tk) kp (Nat.le_refl _) (show ObjOk X.prog X.w _ h' _ (.lst (z.cps.toList.map sg)) from ⟨by rw [List.length_map, Array.length_toList]; exact hz, acc.toList, c, hv, by rw [Array.toArray_toList]; exact e⟩), rfl, q _ (I.hok.fresh (Nat.le_refl _))⟩
end
end My

set_option Elab.async false
set_option linter.all false
set_option maxRecDepth 100000
set_option maxHeartbeats 1000000
namespace My
open PySem PySem.Spec PyProof.Rows L2
/-! ### enumerate over a text, over a tuple -/
def ItEg (go : Nat → Hp → Prop) (val : Nat → Hp → V → Prop) (stop : Nat → Hp → Prop) : It :=
  ⟨go, fun i H v H' => ∃ T x, v = .ref T ∧ H T = none ∧ H' = upd H T (.tup [.int (i : Nat), x]) ∧ val i H x, stop⟩
theorem turn_eg {P : Program} {w : World} {K : PySem.W.Frag} {elts : List Expr} {kk : Nat} {tpos : Pos} {e it : Addr} {Sub : Nat → Heap → Prop} {go stop : Nat → Hp → Prop} {val : Nat → Hp → V → Prop} (hne : e ≠ it)
    (obj : ∀ i h, Sub i h → ∃ o, h.get? it = some o ∧ ∀ v, o.data ≠ .cell v)
    (keep : ∀ i h h', Sub i h → (∀ o, h.get? it = some o → h'.get? it = some o) → Sub i h')
    (draw : ∀ (X : Cx) (pins : List (Addr × Obj)) (σ : L2.St) (H : Hp) (s : Shared) (i : Nat), X.prog = P → X.w = w → X.K = K → X.calm = true → Inv X pins σ H s → (∃ old, IsEnum s.heap e it ((i : Nat) : Int) old) → Sub i s.heap → go i H ∨ stop i H →
      ∃ (fp : List Addr) (n : Nat) (Pd : Nat → Value → Prop) (St : Nat → Heap → Prop), Draws P w X.A.in1 it fp n Pd St ∧ St i s.heap ∧ (∀ j h, St j h → Sub j h) ∧ e ∉ fp ∧ (go i H → i < n) ∧ (stop i H → i = n) ∧ (go i H → ∀ u, Pd i u → ∃ x, RelV x u ∧ val i H x)) :
    Turn P w K (.Tuple elts kk tpos) (ItEg go val stop) [e, it] e (fun i h => (∃ old, IsEnum h e it ((i : Nat) : Int) old) ∧ Sub i h) where
  mem := by simp
  obj := fun i h st b hb => by
    obtain ⟨⟨old, he⟩, hs⟩ := st
    have hb2 : b = e ∨ b = it := by simpa using hb
    rcases hb2 with z | z
    · rw [z]
      exact ⟨_, he, fun v q => nomatch q⟩
    · rw [z]
      exact obj i h hs
  keep := fun i h h' st k => by
    obtain ⟨⟨old, he⟩, hs⟩ := st
    exact ⟨⟨old, k e (by simp) _ he⟩, keep i h h' hs fun o q => k it (by simp) o q⟩
  item := by
    intro X hP hw hK hc i pins s σ H E I hf st hg
    obtain ⟨fp, n, Pd, St, D, hst, hsub, hef, hlt, _, hval⟩ := draw X pins σ H s i hP hw hK hc I st.1 st.2 (.inl hg)
    obtain ⟨⟨old, he⟩, hs⟩ := st
    subst hP hw hK
    have hel : e < s.heap.objs.size := Heap.lt_size he
    have hil : it < s.heap.objs.size := by
      obtain ⟨o, q, _⟩ := obj i _ hs
      exact Heap.lt_size q
    refine wpAny_pyNext_enum_itemC D he hst (hlt hg) hne hef fun u h' tk hu ho hst' hT hsz hk => ?_
    obtain ⟨x, ru, hv⟩ := hval hg u hu
    refine ⟨_, rfl, wpAny_letOwnedTupleGo_enum (s := { s with heap := h', toks := tk + 1 }) ho fun h'' he' sb => ?_⟩
    have hT2 : h''.get? s.heap.objs.size = some { cls := .type "tuple", data := .seq #[.int i tk, u] } := (sb.2 _ (Nat.ne_of_gt hel)).trans hT
    have new : ObjOk X.prog X.w (upd H s.heap.objs.size (.tup [.int (i : Nat), x])) h'' s.heap.objs.size (.tup [.int (i : Nat), x]) := ⟨by show 2 ≤ sizeLine; decide, [.int i tk, u], .cons ⟨_, rfl⟩ (.cons ru .nil), ⟨_, hT2, rfl, _, rfl⟩⟩
    have I1 : Inv X pins σ (upd H s.heap.objs.size (.tup [.int (i : Nat), x])) { s with heap := h'', toks := tk + 1 } :=
      I.turnedNew (ch := [e, it]) (fun b ob hb q => (sb.2 b fun z => hb (by simp [z])).trans (hk b ob (fun z => hb (by simp [z])) (fun z => hb (by simp [z])) q)) hf (Nat.le_refl _) new
    refine ⟨.ref s.heap.objs.size, _, I1, rfl, ⟨_, x, rfl, I.hok.fresh (Nat.le_refl _), rfl, hv⟩, ⟨⟨u, ?_⟩, keep _ _ _ (hsub _ _ hst') fun o q => (sb.2 it (Ne.symm hne)).trans q⟩, fun b hb => ?_⟩
    · have e1 : ((i + 1 : Nat) : Int) = (i : Int) + 1 := by omega
      rw [e1]
      exact he'
    · have hb2 : b = e ∨ b = it := by simpa using hb
      have hb' : b < s.heap.objs.size := by
        rcases hb2 with z | z
        · rw [z]
          exact hel
        · rw [z]
          exact hil
      rw [upd_ne (Nat.ne_of_lt hb')]
      exact (hf b hb).1
  done := by
    intro X hP hw hK hc i pins s σ H E I hf st hg
    obtain ⟨fp, n, Pd, St, D, hst, hsub, hef, _, heq, _⟩ := draw X pins σ H s i hP hw hK hc I st.1 st.2 (.inr hg)
    obtain ⟨⟨old, he⟩, hs⟩ := st
    subst hP hw hK
    have ei := heq hg
    subst ei
    obtain ⟨f0, f1, f2, f3, f4, f5⟩ := hf it (by simp)
    exact wpAny_pyNext_enum_endD D he hst fun h' eb => ⟨rfl, I.turned (t' := s.toks) (fun b o hb q => eb b o hb q) f0 f1 f3 f4 f5⟩
  self := fun A i s Q E st h => by
    obtain ⟨⟨old, he⟩, _⟩ := st
    exact wpAny_pyIter_enum he h
/-- the signs of a text with their places -/
def Ites (z : Str) : It := ItEg (fun i _ => i < z.cps.size) (fun i _ x => ∃ c, z.cps[i]? = some c ∧ x = sg c) (fun i _ => i = z.cps.size)
/-- the items of a tuple with their places -/
def Itet (K : PySem.W.Frag) (a : Addr) : It := ItEg (fun i H => ∃ xs, SqT K H a xs ∧ i < xs.length) (fun i H x => ∀ xs, SqT K H a xs → xs[i]? = some x) (fun i H => ∃ xs, SqT K H a xs ∧ i = xs.length)
theorem turn_es {P : Program} {w : World} {K : PySem.W.Frag} {elts : List Expr} {kk : Nat} {tpos : Pos} {e it : Addr} (z : Str) (t : Tok) (hne : e ≠ it) :
    Turn P w K (.Tuple elts kk tpos) (Ites z) [e, it] e (fun i h => (∃ old, IsEnum h e it ((i : Nat) : Int) old) ∧ h.IsStrIter it (strIterType z) z t i) := by
  refine turn_eg hne (fun i h st => ?_) (fun i h h' st k => ?_) (fun X pins σ H s i hP hw hK hc I hen st hg => ?_)
  · obtain ⟨o, e1, c, d⟩ := st
    exact ⟨o, e1, fun v q => by rw [d] at q; cases q⟩
  · obtain ⟨o, ho, r⟩ := st
    exact ⟨o, k o ho, r⟩
  · have hh : X.A.in1.handled = none := I.ok.hd hc
    subst hP hw hK
    refine ⟨_, _, _, _, Draws.text hh it z t, st, fun _ _ q => q, fun q => hne (by simpa using q), fun q => q, fun q => q, fun _ u hu => ?_⟩
    obtain ⟨c, tk, e1, e2⟩ := hu
    exact ⟨sg c, ⟨tk, e2⟩, c, e1, rfl⟩
theorem turn_et {P : Program} {w : World} {K : PySem.W.Frag} {elts : List Expr} {kk : Nat} {tpos : Pos} {e it : Addr} (a : Addr) (hne : e ≠ it) :
    Turn P w K (.Tuple elts kk tpos) (Itet K a) [e, it] e (fun i h => (∃ old, IsEnum h e it ((i : Nat) : Int) old) ∧ h.IsTupleIter it a i) := by
  refine turn_eg hne (fun i h st => ?_) (fun i h h' st k => ?_) (fun X pins σ H s i hP hw hK hc I hen st hg => ?_)
  · obtain ⟨o, e1, c, d⟩ := st
    exact ⟨o, e1, fun v q => by rw [d] at q; cases q⟩
  · obtain ⟨o, ho, r⟩ := st
    exact ⟨o, k o ho, r⟩
  · have hh : X.A.in1.handled = none := I.ok.hd hc
    subst hP hw hK
    have hx : ∃ xs, SqT X.K H a xs := by
      rcases hg with ⟨xs, q, _⟩ | ⟨xs, q, _⟩
      · exact ⟨xs, q⟩
      · exact ⟨xs, q⟩
    obtain ⟨xs, hq⟩ := hx
    obtain ⟨its, rv, p, hz⟩ := I.tuple hq
    have hl := rv.length
    have same : ∀ ys, SqT X.K H a ys → ys.length = its.length := fun ys hy => by
      rw [I.tuple_inj hy hq]
      exact hl
    have hia : a ≠ it := fun z => by
      obtain ⟨o1, h1, c1, _⟩ := st
      obtain ⟨o2, h2, c2, _⟩ := p
      rw [z] at h2
      rw [h1] at h2
      cases h2
      rw [c1] at c2
      exact absurd c2 (by decide)
    have hea : e ≠ a := fun z => by
      obtain ⟨old, he⟩ := hen
      obtain ⟨o2, h2, c2, _⟩ := p
      rw [← z] at h2
      have he' : s.heap.get? e = some _ := he
      rw [he'] at h2
      cases h2
      exact absurd (show Value.type "enumerate" = Value.type "tuple" from c2) (by decide)
    refine ⟨_, _, _, _, Draws.tuple hh it a hia its.toArray, ⟨st, p⟩, fun _ _ q => q.1, fun q => ?_, fun q => ?_, fun q => ?_, fun q u hu => ?_⟩
    · have q2 : e = it ∨ e = a := by simpa using q
      rcases q2 with z | z
      · exact hne z
      · exact hea z
    · obtain ⟨ys, hy, hi⟩ := q
      have := same ys hy
      simp only [List.size_toArray]
      omega
    · obtain ⟨ys, hy, hi⟩ := q
      have := same ys hy
      simp only [List.size_toArray]
      omega
    · have hu2 : its[i]? = some u := by simpa using hu
      have hi : i < xs.length := by
        have := (List.getElem?_eq_some_iff.mp hu2).1
        omega
      obtain ⟨u', hu', ru⟩ := rv.get (List.getElem?_eq_getElem hi)
      rw [hu2] at hu'
      cases hu'
      refine ⟨xs[i], ru, fun ys hy => ?_⟩
      rw [I.tuple_inj hy hq]
      exact List.getElem?_eq_getElem hi
section
variable {X : Cx}
def iEnumS (ta : TA) : TI := fun σ H R => ta σ H fun vs H1 => ∃ z, vs = [.str z] ∧ R (Ites z) H1
def iEnumT (K : PySem.W.Frag) (ta : TA) : TI := fun σ H R => ta σ H fun vs H1 => ∃ a xs, vs = [.ref a] ∧ SqT K H1 a xs ∧ R (Itet K a) H1
theorem fresh2 {pins : List (Addr × Obj)} {σ : L2.St} {H : Hp} {s : Shared} (I : Inv X pins σ H s) : ∀ b ∈ [s.heap.objs.size + 1, s.heap.objs.size], FpOk X pins H b := fun b hb => by
  have hb2 : b = s.heap.objs.size + 1 ∨ b = s.heap.objs.size := by simpa using hb
  have hle : s.heap.objs.size ≤ b := by
    rcases hb2 with z | z
    · rw [z]
      exact Nat.le_succ _
    · rw [z]
      exact Nat.le_refl _
  exact I.fpOk hle (I.hok.fresh hle)
theorem pi_enumS {e : Expr} {ta : TA} {p pos tpos : Pos} {elts : List Expr} {kk : Nat} (hg : Gl X "enumerate") (hm : X.mg "enumerate" = none) (ha : PA X [e] ta) (hs : starEach [e] X.env = [(false, eval e X.env)] := by rfl) :
    PI X (.Tuple elts kk tpos) (.Call (.Name "enumerate" p) [e] [] pos) (iEnumS ta) := by
  refine ⟨fun pins s σ H R I h => ?_⟩
  refine Call_ (ld_blt I hg hm boot_enumerate (PyProof.Rows.callWith_type1 (thn (ha.run pos pins s σ H _ I h) fun us s1 ⟨vs, H1, I1, r1, q1⟩ => ?_) hs rfl))
  obtain ⟨z, rfl, q⟩ := q1
  obtain ⟨u, rfl, ru⟩ := vals1 r1
  obtain ⟨t, rfl⟩ := ru
  refine call_enumerate_str fun h' he hit hsz hk => wpAny_pyIter_enum he ?_
  exact ⟨s1.heap.objs.size + 1, [s1.heap.objs.size + 1, s1.heap.objs.size], _, _, H1, rfl, I1.kept (t' := s1.toks) hk, turn_es z t (Nat.succ_ne_self _), ⟨⟨.none, he⟩, hit⟩, fresh2 I1, q⟩
theorem meets_enumT (l : Addr) (items : Array Value) (n : Nat) (dct : Option Addr) (sl : Array (Option Value)) :
    Meets (Builtin.«enumerate.__new__» ⟨[.type "enumerate", .ref l], []⟩) (fun _ R s => s.heap.get? l = some ⟨.type "tuple", dct, .seq items n, sl⟩ ∧
      R (.ok (.ret (.ref (s.heap.push { cls := .type "tuple_iterator", data := .fields #[.ref l, .int 0 0] }).objs.size)))
        { s with heap := (s.heap.push { cls := .type "tuple_iterator", data := .fields #[.ref l, .int 0 0] }).push { cls := .type "enumerate", data := .fields #[.none, .bool false, .ref s.heap.objs.size, rawInt 0, .none, .none] } }) :=
  .of_wp fun prog w A R s h => by
    obtain ⟨hp, g, d, tk, os⟩ := s
    obtain ⟨hl, h⟩ := h
    have hsub := sub_enumerate
    have hT : Heap.IsTuple (Shared.heap ⟨hp, g, d, tk, os⟩) l items := ⟨_, hl, rfl, n, rfl⟩
    wp_walk using AutoSeq1.wpAny_loadPart' hl
    refine wpAny_stack_any fun st => wpAny_pure ?_
    split
    · rename_i c _ _ _ _ _
      cases (c == Value.type "enumerate") <;> (wp_walk using AutoSeq1.wpAny_loadPart' hl, wpAny_pyIter_tuple hT; exact ⟨_, rfl, h⟩)
    · wp_walk using AutoSeq1.wpAny_loadPart' hl, wpAny_pyIter_tuple hT
      exact ⟨_, rfl, h⟩
theorem call_enumT {prog : Program} {w : World} {A : Around} {E : Value → Shared → Prop} {s : Shared} {l : Addr} {items : Array Value} {Q : Value → Shared → Prop} (hL : s.heap.IsTuple l items)
    (h : ∀ h', IsEnum h' (s.heap.objs.size + 1) s.heap.objs.size 0 .none → h'.IsTupleIter s.heap.objs.size l 0 → (∀ b o, s.heap.get? b = some o → h'.get? b = some o) → Q (.ref (s.heap.objs.size + 1)) { s with heap := h' }) :
    wpAny (model prog w) A (call (.type "enumerate") [.ref l]) Q E s := by
  obtain ⟨⟨c, dct, dt, sl⟩, hl, hc, n, hd⟩ := hL
  have hc' : c = .type "tuple" := hc
  have hd' : dt = .seq items n := hd
  subst hc' hd'
  refine callType_new F.called_enumerate (by decide) (F.typeCall_enumerate_1 _) (F.newCall_enumerate_1 _) (fun obj => F.args_object_init_2 obj _) F.entry_enumerate_new (meets_enumT l items n dct sl) ⟨hl, ?_⟩
  have hz : (s.heap.push { cls := .type "tuple_iterator", data := .fields #[.ref l, .int 0 0] }).objs.size = s.heap.objs.size + 1 := Heap.size_push ..
  show _ ∧ _
  rw [hz]
  have he : IsEnum ((s.heap.push { cls := .type "tuple_iterator", data := .fields #[.ref l, .int 0 0] }).push { cls := .type "enumerate", data := .fields #[.none, .bool false, .ref s.heap.objs.size, rawInt 0, .none, .none] }) (s.heap.objs.size + 1) s.heap.objs.size 0 .none := by
    have := Heap.get?_push_size (s.heap.push { cls := .type "tuple_iterator", data := .fields #[.ref l, .int 0 0] }) (o := { cls := .type "enumerate", data := .fields #[.none, .bool false, .ref s.heap.objs.size, rawInt 0, .none, .none] }) rfl
    rw [hz] at this
    exact this
  exact ⟨⟨_, he, rfl⟩, h _ he ⟨_, Heap.get?_push_of_some _ (Heap.get?_push_size _ rfl), rfl, rfl⟩ fun b o x => Heap.get?_push_of_some _ (Heap.get?_push_of_some _ x)⟩
theorem pi_enumT {e : Expr} {ta : TA} {p pos tpos : Pos} {elts : List Expr} {kk : Nat} (hg : Gl X "enumerate") (hm : X.mg "enumerate" = none) (ha : PA X [e] ta) (hs : starEach [e] X.env = [(false, eval e X.env)] := by rfl) :
    PI X (.Tuple elts kk tpos) (.Call (.Name "enumerate" p) [e] [] pos) (iEnumT X.K ta) := by
  refine ⟨fun pins s σ H R I h => ?_⟩
  refine Call_ (ld_blt I hg hm boot_enumerate (PyProof.Rows.callWith_type1 (thn (ha.run pos pins s σ H _ I h) fun us s1 ⟨vs, H1, I1, r1, q1⟩ => ?_) hs rfl))
  obtain ⟨a, xs, rfl, hq, q⟩ := q1
  obtain ⟨u, rfl, ru⟩ := vals1 r1
  cases ru
  obtain ⟨its, rv, pl, hz⟩ := I1.tuple hq
  refine call_enumT pl fun h' he hit hk => wpAny_pyIter_enum he ?_
  exact ⟨s1.heap.objs.size + 1, [s1.heap.objs.size + 1, s1.heap.objs.size], _, _, H1, rfl, I1.kept (t' := s1.toks) hk, turn_et a (Nat.succ_ne_self _), ⟨⟨.none, he⟩, hit⟩, fresh2 I1, q⟩
end
theorem walk_es {z : Str} : Walk (Ites z) z.cps.size (fun _ => True) (YPair (fun i => some (.int (i : Nat))) (fun i => z.cps[i]?.map sg)) := by
  refine ⟨fun _ _ hi _ => hi, fun _ _ => rfl, fun i H v H' hi _ y => ?_⟩
  obtain ⟨T, x, h1, h2, h3, c, h4, h5⟩ := y
  exact ⟨T, .int (i : Nat), x, h1, h2, h3, rfl, by show Option.map sg z.cps[i]? = some x; rw [h4, h5]; rfl⟩
theorem walk_et {K : PySem.W.Frag} {a : Addr} {xs : List V} : Walk (Itet K a) xs.length (fun H => SqT K H a xs) (YPair (fun i => some (.int (i : Nat))) (fun i => xs[i]?)) := by
  refine ⟨fun _ _ hi q => ⟨xs, q, hi⟩, fun _ q => ⟨xs, q, rfl⟩, fun i H v H' hi q y => ?_⟩
  obtain ⟨T, x, h1, h2, h3, h4⟩ := y
  exact ⟨T, .int (i : Nat), x, h1, h2, h3, rfl, h4 xs q⟩
end My

set_option Elab.async false
set_option linter.all false
set_option maxRecDepth 100000
set_option maxHeartbeats 1000000
namespace My
open PySem PySem.Spec PyProof.Rows L2
/-! ### calls by named readings -/
def rLenSq (K : PySem.W.Frag) : List V → Hp → VK → Prop := fun xs H Q => ∃ p ys, xs = [.ref p] ∧ (SqL K H p ys ∨ SqT K H p ys) ∧ Q (.int (ys.length : Nat)) H
def rTupSq (K : PySem.W.Frag) : List V → Hp → VK → Prop := fun xs H Q => ∃ p ys, xs = [.ref p] ∧ ((SqL K H p ys ∧ ∀ l, H l = none → Q (.ref l) (upd H l (.tup ys))) ∨ (SqT K H p ys ∧ Q (.ref p) H))
def rDictSq (K : PySem.W.Frag) : List V → Hp → VK → Prop := fun xs H Q => ∃ (a : Addr) (ps : List Addr) (kvs : List (Key × V)), xs = [.ref a] ∧ SqL K H a (ps.map V.ref) ∧ Paired (fun p kv => SqT K H p [kV kv.1, kv.2]) ps kvs ∧ ∀ p, H p = none → Q (.ref p) (upd H p (.dK (mergeK [] kvs)))
section
variable (K : PySem.W.Frag) {X : Cx}
theorem cLenSq (hK : X.K = K := by rfl) : CallR X (.builtin "len") (rLenSq K) := by
  subst hK
  exact call_len_seq
theorem cTupSq (hK : X.K = K := by rfl) : CallR X (.type "tuple") (rTupSq K) := by
  subst hK
  exact call_tuple_of
theorem cDictSq (hK : X.K = K := by rfl) (hc : X.calm = true := by rfl) : CallR X (.type "dict") (rDictSq K) := by
  subst hK
  exact call_dictP hc
theorem ixL (hK : X.K = K := by rfl) : IxR X (rIxL K) := by
  subst hK
  exact ix_list
theorem ixT (hK : X.K = K := by rfl) : IxR X (rIxT K) := by
  subst hK
  exact ix_tup
theorem piL {tg l : Expr} {tl : TE} (hl : PE X l tl) (hK : X.K = K := by rfl) : PI X tg l (iList K tl) := by
  subst hK
  exact pi_list hl
theorem piT {tg l : Expr} {tl : TE} (hl : PE X l tl) (hK : X.K = K := by rfl) : PI X tg l (iTup K tl) := by
  subst hK
  exact pi_tup hl
theorem pgT {es : List Expr} {k : Nat} {t : TGs} {n : Nat} {pos : Pos} (h : PGs X es t) (hK : X.K = K := by rfl) (hc : X.calm = true := by rfl) (hn : (assignEach es X.env).length = n := by rfl) (hst : (assignEach es X.env).findIdx? (·.1) = none := by rfl) : PG X (.Tuple es k pos) (gTup K n t) := by
  subst hK
  exact pg_tup hc h hn hst
theorem pgU {es : List Expr} {k : Nat} {t : TGs} {n : Nat} {pos : Pos} (h : PGs X es t) (hK : X.K = K := by rfl) (hc : X.calm = true := by rfl) (hn : (assignEach es X.env).length = n := by rfl) (hst : (assignEach es X.env).findIdx? (·.1) = none := by rfl) : PG X (.Tuple es k pos) (gUnl K n t) := by
  subst hK
  exact pg_unl hc h hn hst
theorem eqDK (hu : X.A.units + 64 < cLine) (hK : X.K = K := by rfl) : OpR X (compareOp .Eq) (rEqD K) := by
  subst hK
  exact op_eqD hu
theorem neDK (hu : X.A.units + 64 < cLine) (hK : X.K = K := by rfl) : OpR X (compareOp .NotEq) (rNeD K) := by
  subst hK
  exact op_neD hu
theorem bmK {T id : String} {name : Str} {r : V → List V → Hp → VK → Prop} {o e : Expr} {es : List Expr} {to : TE} {t : TA} {apos cpos : Pos} (pa : PlainAttrs T) (slot : Slot T name id) (hty : typeOf (.builtin id) = pure (.type "method_descriptor")) (hm : MtR X id r) (ho : PE X o to) (ha : PA X (e :: es) t) (hK : X.K = K := by rfl)
    (hbase : attributeBase o name X.env (eval o X.env) = eval o X.env := by rfl)
    (hfew : ((backTo cpos (starEach (e :: es) X.env)).all (fun x => !x.1) && (backToKw cpos (keywordEach [] X.env)).all (fun x => x.1.isSome) && decide ((e :: es).length + ([] : List Keyword).length + (if ([] : List Keyword).isEmpty then 0 else 1) < 30)) = true := by rfl)
    (hline : (apos.endLine == cpos.line) = true := by rfl) (hs : starEach (e :: es) X.env = (false, eval e X.env) :: starEach es X.env := by rfl) (hplain : (backTo cpos (starEach es X.env)).any (·.1) = false := by rfl) :
    PE X (.Call (.Attribute o name apos) (e :: es) [] cpos) (tBM K T r to t) := by
  subst hK
  exact pe_bm pa slot hty hm ho ha hbase hfew hline hs hplain
theorem enumTK {e : Expr} {ta : TA} {p pos tpos : Pos} {elts : List Expr} {kk : Nat} (hg : Gl X "enumerate") (hm : X.mg "enumerate" = none) (ha : PA X [e] ta) (hK : X.K = K := by rfl) (hs : starEach [e] X.env = [(false, eval e X.env)] := by rfl) :
    PI X (.Tuple elts kk tpos) (.Call (.Name "enumerate" p) [e] [] pos) (iEnumT K ta) := by
  subst hK
  exact pi_enumT hg hm ha hs
end
/-! ### frozen data: numbers, texts, None, truths, tuples of these -/
mutual
inductive Fz (H : Hp) : V → PyData → Prop
  | non : Fz H .non .none
  | bl (b : Bool) : Fz H (.bl b) (.bool b)
  | int (i : Int) : Fz H (.int i) (.int i)
  | str (x : Str) : Fz H (.str x) (.str x)
  | tup {a : Addr} {xs : List V} {ds : List PyData} : H a = some (.tup xs) → FzA H xs ds → Fz H (.ref a) (.tuple ds)
inductive FzA (H : Hp) : List V → List PyData → Prop
  | nil : FzA H [] []
  | cons {v : V} {vs : List V} {d : PyData} {ds : List PyData} : Fz H v d → FzA H vs ds → FzA H (v :: vs) (d :: ds)
end
/-- tuples stay -/
def Kt (H H' : Hp) : Prop := ∀ b xs, H b = some (.tup xs) → H' b = some (.tup xs)
theorem Kt.rfl' {H : Hp} : Kt H H := fun _ _ h => h
theorem Kt.trans {H H1 H2 : Hp} (a : Kt H H1) (b : Kt H1 H2) : Kt H H2 := fun c o h => b c o (a c o h)
theorem Kt.new {H : Hp} {p : Addr} {o : HO} (n : H p = none) : Kt H (upd H p o) := fun b xs h => by
  rw [upd_ne (ne_of_none h n)]
  exact h
theorem Kt.lst {H : Hp} {p : Addr} {xs : List V} {o : HO} (n : H p = some (.lst xs)) : Kt H (upd H p o) := fun b ys h => by
  have e : b ≠ p := fun z => by
    rw [z, n] at h
    cases h
  rw [upd_ne e]
  exact h
theorem Kt.dct {H : Hp} {p : Addr} {xs : List (Key × V)} {o : HO} (n : H p = some (.dK xs)) : Kt H (upd H p o) := fun b ys h => by
  have e : b ≠ p := fun z => by
    rw [z, n] at h
    cases h
  rw [upd_ne e]
  exact h
theorem Kp.kt {r : Addr} {H H' : Hp} {xs : List V} (k : Kp r H H') (h : H r = some (.lst xs)) : Kt H H' := fun b ys e => k b _ (fun z => by
  rw [z, h] at e
  cases e) e
theorem Same.kt {H H' : Hp} (k : Same H H') : Kt H H' := fun b ys e => k b _ e
mutual
theorem Fz.mono {H H' : Hp} (k : Kt H H') : ∀ (d : PyData) (v : V), Fz H v d → Fz H' v d
  | .none, _, .non => .non
  | .bool _, _, .bl b => .bl b
  | .int _, _, .int i => .int i
  | .str _, _, .str x => .str x
  | .tuple ds, _, .tup h a => .tup (k _ _ h) (FzA.mono k ds _ a)
theorem FzA.mono {H H' : Hp} (k : Kt H H') : ∀ (ds : List PyData) (vs : List V), FzA H vs ds → FzA H' vs ds
  | [], _, .nil => .nil
  | d :: ds, _, .cons h a => .cons (Fz.mono k d _ h) (FzA.mono k ds _ a)
end
theorem Fz.kt {H H' : Hp} {v : V} {d : PyData} (h : Fz H v d) (k : Kt H H') : Fz H' v d := Fz.mono k d v h
theorem FzA.kt {H H' : Hp} {vs : List V} {ds : List PyData} (h : FzA H vs ds) (k : Kt H H') : FzA H' vs ds := FzA.mono k ds vs h
mutual
theorem Fz.dp {K : PySem.W.Frag} {H : Hp} : ∀ (d : PyData) (v : V), Fz H v d → Dp K H v d
  | .none, _, .non => .non
  | .bool _, _, .bl b => .bl b
  | .int _, _, .int i => .int i
  | .str _, _, .str x => .str x
  | .tuple ds, _, .tup h a => .tup (.inl (.inl h)) (FzA.dp ds _ a)
theorem FzA.dp {K : PySem.W.Frag} {H : Hp} : ∀ (ds : List PyData) (vs : List V), FzA H vs ds → DpAll K H vs ds
  | [], _, .nil => .nil
  | d :: ds, _, .cons h a => .cons (Fz.dp d _ h) (FzA.dp ds _ a)
end
theorem Fz.to {K : PySem.W.Frag} {H : Hp} {v : V} {d : PyData} (h : Fz H v d) : Dp K H v d := Fz.dp d v h
theorem FzA.len : ∀ {H : Hp} {vs : List V} {ds : List PyData}, FzA H vs ds → vs.length = ds.length
  | _, _, _, .nil => rfl
  | _, _, _, .cons _ a => by
    rw [List.length_cons, List.length_cons, FzA.len a]
theorem FzA.get : ∀ {H : Hp} {vs : List V} {ds : List PyData} {i : Nat} {d : PyData}, FzA H vs ds → ds[i]? = some d → ∃ v, vs[i]? = some v ∧ Fz H v d
  | _, _, _, _, _, .nil, h => by simp at h
  | _, _, _, 0, _, .cons a _, h => ⟨_, rfl, Option.some.inj h ▸ a⟩
  | _, _, _, i + 1, _, .cons _ a, h => FzA.get (i := i) a h
theorem FzA.getV : ∀ {H : Hp} {vs : List V} {ds : List PyData} {i : Nat} {v : V}, FzA H vs ds → vs[i]? = some v → ∃ d, ds[i]? = some d ∧ Fz H v d
  | _, _, _, _, _, .nil, h => by simp at h
  | _, _, _, 0, _, .cons a _, h => ⟨_, rfl, Option.some.inj h ▸ a⟩
  | _, _, _, i + 1, _, .cons _ a, h => FzA.getV (i := i) a h
theorem FzA.app : ∀ {H : Hp} {vs ws : List V} {ds es : List PyData}, FzA H vs ds → FzA H ws es → FzA H (vs ++ ws) (ds ++ es)
  | _, _, _, _, _, .nil, b => b
  | _, _, _, _, _, .cons a r, b => .cons a (FzA.app r b)
theorem FzA.snoc {H : Hp} {vs : List V} {ds : List PyData} {v : V} {d : PyData} (a : FzA H vs ds) (b : Fz H v d) : FzA H (vs ++ [v]) (ds ++ [d]) := a.app (.cons b .nil)
theorem FzA.ints : ∀ {H : Hp} {ns : List Int} {vs : List V}, FzA H vs (ns.map PyData.int) → vs = ns.map V.int
  | _, [], _, .nil => rfl
  | _, n :: ns, _, .cons (.int _) a => by
    rw [FzA.ints (ns := ns) a]
    rfl
theorem FzA.ofInts : ∀ {H : Hp} {ns : List Int}, FzA H (ns.map V.int) (ns.map PyData.int)
  | _, [] => .nil
  | _, n :: ns => .cons (.int n) (FzA.ofInts (ns := ns))
/-- a tuple, opened -/
theorem Fz.open {H : Hp} {v : V} {ds : List PyData} (h : Fz H v (.tuple ds)) : ∃ (a : Addr) (xs : List V), v = .ref a ∧ H a = some (.tup xs) ∧ FzA H xs ds := by
  cases h with
  | tup h a => exact ⟨_, _, rfl, h, a⟩
theorem FzA.one {H : Hp} {vs : List V} {d : PyData} (h : FzA H vs [d]) : ∃ x, vs = [x] ∧ Fz H x d := by
  cases h with
  | cons a r =>
    cases r
    exact ⟨_, rfl, a⟩
theorem FzA.two {H : Hp} {vs : List V} {d e : PyData} (h : FzA H vs [d, e]) : ∃ x y, vs = [x, y] ∧ Fz H x d ∧ Fz H y e := by
  cases h with
  | cons a r =>
    obtain ⟨y, rfl, b⟩ := r.one
    exact ⟨_, y, rfl, a, b⟩
theorem FzA.three {H : Hp} {vs : List V} {d e f : PyData} (h : FzA H vs [d, e, f]) : ∃ x y z, vs = [x, y, z] ∧ Fz H x d ∧ Fz H y e ∧ Fz H z f := by
  cases h with
  | cons a r =>
    obtain ⟨y, z, rfl, b, c⟩ := r.two
    exact ⟨_, y, z, rfl, a, b, c⟩
theorem Fz.isStr {H : Hp} {v : V} {x : Str} (h : Fz H v (.str x)) : v = .str x := by
  cases h
  rfl
theorem Fz.isInt {H : Hp} {v : V} {i : Int} (h : Fz H v (.int i)) : v = .int i := by
  cases h
  rfl
theorem Fz.isNon {H : Hp} {v : V} (h : Fz H v .none) : v = .non := by
  cases h
  rfl
/-- a tuple just made -/
theorem Fz.made {H : Hp} {p : Addr} {xs : List V} {ds : List PyData} (n : H p = Option.none) (h : FzA H xs ds) : Fz (upd H p (.tup xs)) (.ref p) (.tuple ds) := .tup upd_same (h.kt (.new n))
theorem at_ints {ns : List Int} {d : Int} (h0 : 0 ≤ d) (h1 : d < (ns.length : Nat)) : ∃ t ∈ ns, atI (ns.map V.int) d = some (.int t) := by
  have hd : d.toNat < ns.length := by omega
  refine ⟨ns[d.toNat], List.getElem_mem hd, L2.at_of (j := d.toNat) (by omega) ?_⟩
  rw [List.getElem?_map, List.getElem?_eq_getElem hd]
  rfl
/-! ### tables -/
abbrev rowD (row : List Int) : PyData := .tuple (row.map PyData.int)
abbrev rowsD (rows : List (List Int)) : PyData := .tuple (rows.map rowD)
abbrev tabD (cols : List Nat) (rows : List (List Int)) : PyData := .tuple [.str ⟨cols.toArray⟩, rowsD rows]
/-- rising unlike letters -/
structure Cols (l : List Nat) : Prop where
  up : l.Pairwise (· < ·)
  az : ∀ c ∈ l, 97 ≤ c ∧ c ≤ 122
theorem Cols.nd {l : List Nat} (c : Cols l) : l.Nodup := c.up.imp fun {a b} h => by
  have : a < b := h
  omega
def RowOk (n : Nat) (row : List Int) : Prop := row.length = n ∧ ∀ x ∈ row, 0 ≤ x ∧ x < 1000
def RowsOk (n : Nat) (rows : List (List Int)) : Prop := ∀ row ∈ rows, RowOk n row
theorem row_open {H : Hp} {v : V} {row : List Int} (h : Fz H v (rowD row)) : ∃ a, v = .ref a ∧ H a = some (.tup (row.map V.int)) := by
  obtain ⟨a, xs, rfl, ha, f⟩ := h.open
  rw [FzA.ints f] at ha
  exact ⟨a, rfl, ha⟩
theorem row_made {H : Hp} {p : Addr} {row : List Int} (n : H p = none) : Fz (upd H p (.tup (row.map V.int))) (.ref p) (rowD row) := Fz.made n FzA.ofInts
theorem tab_open {H : Hp} {v : V} {cols : List Nat} {rows : List (List Int)} (h : Fz H v (tabD cols rows)) : ∃ (t R : Addr) (vs : List V), v = .ref t ∧ H t = some (.tup [tx cols, .ref R]) ∧ H R = some (.tup vs) ∧ FzA H vs (rows.map rowD) := by
  obtain ⟨t, xs, rfl, ht, f⟩ := h.open
  obtain ⟨x, y, rfl, fx, fy⟩ := f.two
  obtain ⟨R, vs, rfl, hR, fv⟩ := fy.open
  rw [fx.isStr] at ht
  exact ⟨t, R, vs, rfl, ht, hR, fv⟩
theorem eqv_nil (xs : List PyData) : PyData.eqv (.tuple xs) (.tuple []) = xs.isEmpty := by
  cases xs with
  | nil => rfl
  | cons a b => rfl
theorem can_row (row : List Int) : PyData.canLay0 (rowD row) = true := by
  show PyData.canLayAll0 (row.map PyData.int) = true
  induction row with
  | nil => rfl
  | cons a r ih =>
    show (PyData.canLay0 (.int a) && PyData.canLayAll0 (r.map PyData.int)) = true
    rw [ih]
    rfl
theorem can_rows (rows : List (List Int)) : PyData.canLay0 (rowsD rows) = true := by
  show PyData.canLayAll0 (rows.map rowD) = true
  induction rows with
  | nil => rfl
  | cons a r ih =>
    show (PyData.canLay0 (rowD a) && PyData.canLayAll0 (r.map rowD)) = true
    rw [ih, can_row]
    rfl
theorem dep_row (row : List Int) : PyData.depth (rowD row) ≤ 1 := by
  show PyData.depthAll (row.map PyData.int) + 1 ≤ 1
  induction row with
  | nil => exact Nat.le_refl _
  | cons a r ih =>
    show max (PyData.depth (.int a)) (PyData.depthAll (r.map PyData.int)) + 1 ≤ 1
    have e : PyData.depth (.int a) = 0 := rfl
    rw [e]
    omega
theorem dep_rows (rows : List (List Int)) : PyData.depth (rowsD rows) ≤ 2 := by
  show PyData.depthAll (rows.map rowD) + 1 ≤ 2
  induction rows with
  | nil => decide
  | cons a r ih =>
    show max (PyData.depth (rowD a)) (PyData.depthAll (r.map rowD)) + 1 ≤ 2
    have := dep_row a
    omega
theorem shaped_rows (rows : List (List Int)) : SeqAt.shaped (rowsD rows) = true := by
  unfold SeqAt.shaped
  rw [can_rows, Bool.true_and]
  have := dep_rows rows
  exact decide_eq_true (by omega)
/-! ### questions -/
abbrev eqD (p : Nat × Int) : PyData := .tuple [.str ⟨#[p.1]⟩, .int p.2]
abbrev eqsD (es : List (Nat × Int)) : PyData := .tuple (es.map eqD)
abbrev rchD : Option (Nat × Int × Int) → PyData
  | none => .none
  | some (c, lo, hi) => .tuple [.str ⟨#[c]⟩, .int lo, .int hi]
abbrev qD (es : List (Nat × Int)) (rc : Option (Nat × Int × Int)) : PyData := .tuple [eqsD es, rchD rc]
structure QOk (cols : List Nat) (es : List (Nat × Int)) (rc : Option (Nat × Int × Int)) : Prop where
  up : (es.map (·.1)).Pairwise (· < ·)
  ok : ∀ p ∈ es, p.1 ∈ cols ∧ 0 ≤ p.2 ∧ p.2 < 1000
  len : es.length ≤ cols.length
  rc : ∀ c lo hi, rc = some (c, lo, hi) → c ∈ cols ∧ c ∉ es.map (·.1) ∧ 0 ≤ lo ∧ lo ≤ hi ∧ hi < 1000
theorem idx_first : ∀ {l : List Nat} {c i : Nat}, l[i]? = some c → (∀ k, k < i → l[k]? ≠ some c) → l.idxOf c = i
  | [], c, i, h, _ => by simp at h
  | a :: l, c, 0, h, _ => by
    have e : a = c := Option.some.inj h
    rw [e]
    simp
  | a :: l, c, i + 1, h, hn => by
    have e : a ≠ c := fun z => hn 0 (Nat.succ_pos _) (by rw [z]; rfl)
    have ih := idx_first (l := l) (c := c) (i := i) h fun k hk => hn (k + 1) (Nat.succ_lt_succ hk)
    rw [List.idxOf_cons, ih]
    have eb : (a == c) = false := by simp [e]
    rw [eb]
    rfl
/-- pairs as a dict's entries -/
abbrev kvI (p : Nat × Int) : Key × V := (Sum.inr (sS p.1), .int p.2)
theorem pairs_of {K : PySem.W.Frag} {H : Hp} : ∀ {es : List (Nat × Int)} {vs : List V}, FzA H vs (es.map eqD) → ∃ ps : List Addr, vs = ps.map V.ref ∧ Paired (fun p kv => SqT K H p [kV kv.1, kv.2]) ps (es.map kvI)
  | [], _, .nil => ⟨[], rfl, .nil⟩
  | e :: es, _, .cons a r => by
    obtain ⟨p, xs, rfl, hp, f⟩ := a.open
    obtain ⟨x, y, rfl, fx, fy⟩ := f.two
    obtain ⟨ps, rfl, hps⟩ := pairs_of (K := K) (es := es) r
    rw [fx.isStr, fy.isInt] at hp
    exact ⟨p :: ps, rfl, .cons (.inl (.inl hp)) hps⟩
theorem merge_new : ∀ (more acc : List (Key × V)), ((acc ++ more).map (·.1)).Nodup → mergeK acc more = acc ++ more
  | [], acc, _ => by
    rw [List.append_nil]
    rfl
  | kv :: more, acc, h => by
    have h2 : ((acc ++ [kv]) ++ more).map (·.1) = (acc ++ kv :: more).map (·.1) := by
      rw [List.append_assoc]
      rfl
    have nk : valV acc kv.1 = none := by
      cases e : valV acc kv.1 with
      | none => rfl
      | some v =>
        exfalso
        have hm : kv.1 ∈ acc.map (·.1) := valV_in e
        rw [List.map_append] at h
        have := (List.nodup_append.mp h).2.2
        exact this _ hm _ (by simp) rfl
    show mergeK (putK acc kv.1 kv.2) more = _
    rw [putK_new kv.2 nk]
    have e := merge_new more (acc ++ [(kv.1, kv.2)]) (by
      show (((acc ++ [kv]) ++ more).map (·.1)).Nodup
      rw [h2]
      exact h)
    rw [e, List.append_assoc]
    rfl
theorem keys_nd {es : List (Nat × Int)} (h : (es.map (·.1)).Nodup) : ((es.map kvI).map (·.1)).Nodup := by
  rw [List.map_map]
  have e : es.map ((fun kv : Key × V => kv.1) ∘ kvI) = (es.map (·.1)).map fun c => (Sum.inr (sS c) : Key) := by
    rw [List.map_map]
    rfl
  rw [e]
  refine List.Pairwise.map _ (fun a b hab z => hab ?_) h
  have z2 : sS a = sS b := Sum.inr.inj z
  have z3 : (#[a] : Array Nat) = #[b] := congrArg Str.cps z2
  simpa using z3
theorem merge_es {es : List (Nat × Int)} (h : (es.map (·.1)).Nodup) : mergeK [] (es.map kvI) = es.map kvI := merge_new _ [] (keys_nd h)
theorem val_es (c : Nat) : ∀ es : List (Nat × Int), (valV (es.map kvI) (Sum.inr (sS c))).isSome = decide (c ∈ es.map (·.1))
  | [] => rfl
  | e :: es => by
    by_cases h : e.1 = c
    · rw [List.map_cons, valV_pos (by show Sum.inr (sS e.1) = Sum.inr (sS c); rw [h])]
      simp [h]
    · rw [List.map_cons, valV_neg (fun z => h ?_), val_es c es]
      · have h2 : ¬ c = e.1 := fun z => h z.symm
        simp [h2]
      · have z2 : sS e.1 = sS c := Sum.inr.inj z
        have z3 : (#[e.1] : Array Nat) = #[c] := congrArg Str.cps z2
        simpa using z3
theorem dp_signs {K : PySem.W.Frag} {H : Hp} : ∀ l : List Nat, DpAll K H (l.map sg) (l.map fun c => PyData.str (sS c))
  | [] => .nil
  | c :: l => .cons (.str _) (dp_signs l)
theorem shaped_signs {l : List Nat} (h : ∀ c ∈ l, c ≤ 122) : SeqAt.shaped (.list (l.map fun c => PyData.str (sS c))) = true := by
  have e1 : PyData.canLayAll0 (l.map fun c => PyData.str (sS c)) = true := by
    induction l with
    | nil => rfl
    | cons c l ih =>
      show (PyData.canLay0 (.str (sS c)) && PyData.canLayAll0 (l.map fun c => PyData.str (sS c))) = true
      rw [ih fun d hd => h d (List.mem_cons_of_mem _ hd), Bool.and_true]
      have hc := h c (List.mem_cons_self ..)
      show (#[c] : Array Nat).all (· < 0x110000) = true
      simp
      omega
  have e2 : PyData.depthAll (l.map fun c => PyData.str (sS c)) = 0 := by
    clear h e1
    induction l with
    | nil => rfl
    | cons c l ih =>
      show max (PyData.depth (.str (sS c))) (PyData.depthAll (l.map fun c => PyData.str (sS c))) = 0
      rw [ih]
      rfl
  unfold SeqAt.shaped
  show (PyData.canLayAll0 _ && decide (PyData.depthAll _ + 1 ≤ 64)) = true
  rw [e1, e2]
  rfl
/-- the place of a letter -/
theorem ix_one {l : List Nat} {c : Nat} (h : c ∈ l) : ∃ r, Builtin.Str.occurrences (⟨l.toArray⟩ : Str) ⟨#[c]⟩ 0 (⟨l.toArray⟩ : Str).length 1 = l.idxOf c :: r := by
  have hx : (⟨l.toArray⟩ : Str).cps.toList = l := by simp
  rcases PySem.StrLaws.occ_head (⟨l.toArray⟩ : Str) ⟨#[c]⟩ 1 (Nat.le_refl 1) with ⟨h0, hn⟩ | ⟨i, r, h0, ha, hn⟩
  · exfalso
    obtain ⟨i, hi⟩ := List.mem_iff_getElem?.mp h
    exact hn i ((PySem.StrLaws.subAt_one _ c i).mpr (by rw [hx]; exact hi))
  · refine ⟨r, ?_⟩
    rw [h0]
    have e1 : l[i]? = some c := by
      have := (PySem.StrLaws.subAt_one _ c i).mp ha
      rw [hx] at this
      exact this
    have e3 : l.idxOf c = i := idx_first e1 fun k hk z => hn k hk ((PySem.StrLaws.subAt_one _ c k).mpr (by rw [hx]; exact z))
    rw [e3]
end My

set_option Elab.async false
set_option linter.all false
set_option maxRecDepth 100000
set_option maxHeartbeats 1000000
namespace My
open PySem PySem.Spec PyProof.Rows L2
/-! ### name = {.. for ..} on one line -/
section
variable {X : Cx} {pins : List (Addr × Obj)} {σ : L2.St} {H : Hp} {s : Shared}
/-- an object of the frame's own at C may become anything: all that is known stays -/
theorem past {C : Addr} {h' : Heap} {t' : Nat} (I : Inv X pins σ H s) (f : FpOk X pins H C) (kp : ∀ b u, b ≠ C → s.heap.get? b = some u → h'.get? b = some u) : Inv X pins σ H { s with heap := h', toks := t' } :=
  I.turned kp f.1 f.2.1 f.2.2.2.1 f.2.2.2.2.1 f.2.2.2.2.2
/-- it is neither the frame's dict nor one of its cells -/
theorem apart_of {C a : Addr} {y : Str} (f : FpOk X pins H C) (ha : a = X.env.locals ∨ X.env.cells.lookup y = some a) : C ≠ a := fun z =>
  ha.elim (fun e => f.2.1 (z.trans e)) fun e => f.2.2.2.2.1 y a e z.symm
/-- the dict that was made goes to the name y while the comprehension's frame C is still there -/
theorem kept_at {C L : Addr} {m : Str → Option Value} {i : Nat} {y : Str} {py : Pos} {D : Ends} {E : Value → Shared → Prop} (I : Inv X pins σ H s) (f : FpOk X pins H C) (hn : s.heap.Ns C m) (hN : X.N.Nodup) (hy : X.N[i]? = some y) (hyl : X.env.scope.names.lookup y = some .local)
    (q : D.nx (σ.set i (some (.ref L))) H) : wpAny (model X.prog X.w) X.A (assign (.Name y py) X.env (.ref L)) (fun _ s' => ∃ m', s'.heap.Ns C m' ∧ ∀ h3, Heap.SameBut C s'.heap h3 → SP X pins D .next { s' with heap := h3 }) E s :=
  wpAny_assign_Name (store_ok2 (v := .ref L) I hN hy (.inl hyl) rfl (fun s2 J ⟨_, sb, ha⟩ => ⟨m, hn.sameBut sb (apart_of f ha), fun h3 sb3 => ⟨_, H, past (t' := s2.toks) J f fun b u ne e => (sb3.2 b ne).trans e, q⟩⟩) (.inr hyl))
theorem ps_setDc {i : Nat} {y : Str} {py : Pos} {kx vx tg iter : Expr} {ifs : List Expr} {scope : Scope} {own : List (Str × Nat)} {pos spos : Pos} {wi : TI} {g : TG} {tt : TT} {tk tv : TE} (hc : X.calm = true) (hN : X.N.Nodup) (hy : X.N[i]? = some y) (hyl : X.env.scope.names.lookup y = some .local)
    (hsw : swapsWith (.DictComp kx vx [⟨tg, iter, ifs, 0⟩] scope pos) (some (.Name y py)) spos.line X.env = pure true) (hi : PI X tg iter wi) (ok : BlkOk X.N X.env.scope scope own)
    (hg : ∀ (s : Shared) (H : Hp) (C : Addr) (cl : List (Str × Addr)) (fp : List Addr), PG (X.blk s H scope (compEnvC scope cl C X.env) fp) tg g)
    (ht : ∀ (s : Shared) (H : Hp) (C : Addr) (cl : List (Str × Addr)) (fp : List Addr), PTs (X.blk s H scope (compEnvC scope cl C X.env) fp) ifs tt)
    (kp : ∀ (s : Shared) (H : Hp) (C : Addr) (cl : List (Str × Addr)) (fp : List Addr), PE (X.blk s H scope (compEnvC scope cl C X.env) fp) kx tk)
    (vp : ∀ (s : Shared) (H : Hp) (C : Addr) (cl : List (Str × Addr)) (fp : List Addr), PE (X.blk s H scope (compEnvC scope cl C X.env) fp) vx tv) (hs : ∀ x, foldedSetIterable iter X.env x = pure x := by intro _; rfl) :
    PS X (.Assign [.Name y py] (.DictComp kx vx [⟨tg, iter, ifs, 0⟩] scope pos) spos) (tAsg (tDc wi g tt tk tv (own.map (·.2))) (gName i)) := by
  constructor
  intro pins s σ H D I h
  have made := dc_core (pos := pos) (pos' := firstIterPos [⟨tg, iter, ifs, 0⟩] pos) (use := some (assign (.Name y py) X.env)) (Qf := fun _ s' => SP X pins D .next s') (Q := fun x H1 => gName i x σ H1 D.nx) hc hN I hi ok hg ht kp vp hs h
    fun L C s' m H' I' q hn f => kept_at I' f hn hN hy hyl q
  rw [exec_Assign_Name_used _ _ _ _ hsw]
  exact wpAny_bind (wpAny_standAt (wpAny_bind (wpAny_bind (thn made fun _ _ z => wpAny_pure (wpAny_pure z)))))
end
theorem sw_dict {kx vx : Expr} {gs : List Comprehension} {scope : Scope} {pos py : Pos} {y : Str} {l : Nat} {env : Env} (hk : env.scope.kind = .function) (hy : env.scope.names.lookup y = some .local) (hl : (py.line == pos.line) = true)
    (ha : (scope.names.any fun (n, k) => n == y && (k == .local || k == .cell)) = false) : swapsWith (.DictComp kx vx gs scope pos) (some (.Name y py)) l env = pure true :=
  Eq.trans (b := swapsWith (.ListComp kx gs scope pos) (some (.Name y py)) l env) rfl (sw_true hk hy hl ha)
/-! ### spans: letters with their bounds -/
inductive SpA (H : Hp) : List (Key × V) → List (Nat × Int × Int) → Prop
  | nil : SpA H [] []
  | cons {p : Addr} {c : Nat} {lo hi : Int} {kvs : List (Key × V)} {l : List (Nat × Int × Int)} : H p = some (.tup [.int lo, .int hi]) → SpA H kvs l → SpA H ((Sum.inr (sS c), .ref p) :: kvs) ((c, lo, hi) :: l)
theorem SpA.kt {H H' : Hp} {kvs : List (Key × V)} {l : List (Nat × Int × Int)} (h : SpA H kvs l) (k : Kt H H') : SpA H' kvs l := by
  induction h with
  | nil => exact .nil
  | cons a _ ih => exact .cons (k _ _ a) ih
theorem SpA.snoc {H : Hp} {kvs : List (Key × V)} {l : List (Nat × Int × Int)} {p : Addr} {c : Nat} {lo hi : Int} (h : SpA H kvs l) (hp : H p = some (.tup [.int lo, .int hi])) : SpA H (kvs ++ [(Sum.inr (sS c), .ref p)]) (l ++ [(c, lo, hi)]) := by
  induction h with
  | nil => exact .cons hp .nil
  | cons a _ ih => exact .cons a ih
theorem SpA.len {H : Hp} {kvs : List (Key × V)} {l : List (Nat × Int × Int)} (h : SpA H kvs l) : kvs.length = l.length := by
  induction h with
  | nil => rfl
  | cons _ _ ih => rw [List.length_cons, List.length_cons, ih]
theorem sS_inj {a b : Nat} (h : sS a = sS b) : a = b := by
  have z3 : (#[a] : Array Nat) = #[b] := congrArg Str.cps h
  simpa using z3
theorem SpA.none {H : Hp} {kvs : List (Key × V)} {l : List (Nat × Int × Int)} {c : Nat} (h : SpA H kvs l) (n : c ∉ l.map (·.1)) : valV kvs (Sum.inr (sS c)) = Option.none := by
  induction h with
  | nil => rfl
  | @cons p d lo hi kvs l a r ih =>
    rw [valV_neg (fun z => n ?_)]
    · exact ih fun q => n (List.mem_cons_of_mem _ q)
    · have : d = c := sS_inj (Sum.inr.inj z)
      rw [← this]
      exact List.mem_cons_self ..
/-- at its place: the letter's entry -/
theorem SpA.get {H : Hp} {kvs : List (Key × V)} {l : List (Nat × Int × Int)} (h : SpA H kvs l) {i : Nat} {k : Key} {v : V} (e : kvs[i]? = some (k, v)) : ∃ (p : Addr) (c : Nat) (lo hi : Int), k = Sum.inr (sS c) ∧ v = .ref p ∧ H p = some (.tup [.int lo, .int hi]) ∧ l[i]? = some (c, lo, hi) := by
  induction h generalizing i with
  | nil => simp at e
  | @cons p c lo hi kvs l a r ih =>
    cases i with
    | zero =>
      have z := Option.some.inj e
      cases z
      exact ⟨p, c, lo, hi, rfl, rfl, a, rfl⟩
    | succ i => exact ih (i := i) e
theorem SpA.look {H : Hp} {kvs : List (Key × V)} {l : List (Nat × Int × Int)} (h : SpA H kvs l) (nd : (l.map (·.1)).Nodup) {c : Nat} {lo hi : Int} (m : (c, lo, hi) ∈ l) : ∃ p, valV kvs (Sum.inr (sS c)) = some (.ref p) ∧ H p = some (.tup [.int lo, .int hi]) := by
  induction h with
  | nil => cases m
  | @cons p d lo' hi' kvs l a r ih =>
    rcases List.mem_cons.mp m with z | z
    · cases z
      exact ⟨p, valV_pos rfl, a⟩
    · have nd2 := List.nodup_cons.mp nd
      have hdc : d ≠ c := fun q => nd2.1 (by
        have := List.mem_map_of_mem (f := fun x : Nat × Int × Int => x.1) z
        rw [q]
        exact this)
      obtain ⟨p', h1, h2⟩ := ih nd2.2 z
      refine ⟨p', ?_, h2⟩
      rw [valV_neg (fun q => hdc (sS_inj (Sum.inr.inj q)))]
      exact h1
def spanL (es : List (Nat × Int)) (rc : Option (Nat × Int × Int)) : List (Nat × Int × Int) := es.map (fun p => (p.1, p.2, p.2)) ++ rc.toList
theorem spanL_keys (es : List (Nat × Int)) : (es.map (fun p => (p.1, p.2, p.2))).map (·.1) = es.map (·.1) := by
  rw [List.map_map]
  rfl
theorem spanL_nd {cols : List Nat} {es : List (Nat × Int)} {rc : Option (Nat × Int × Int)} (h : QOk cols es rc) : ((spanL es rc).map (·.1)).Nodup := by
  have h1 : (es.map (·.1)).Nodup := h.up.imp fun {a b} q => by
    have : a < b := q
    omega
  unfold spanL
  rw [List.map_append, spanL_keys]
  cases rc with
  | none => simpa using h1
  | some t =>
    obtain ⟨c, lo, hi⟩ := t
    have := (h.rc c lo hi rfl).2.1
    show (es.map (·.1) ++ [c]).Nodup
    refine List.nodup_append.mpr ⟨h1, by simp, fun a ha b hb z => ?_⟩
    rw [List.mem_singleton.mp hb] at z
    rw [z] at ha
    exact this ha
/-! ### what fits -/
def rowAt (cols : List Nat) (row : List Int) (c : Nat) : Int := row.getD (cols.idxOf c) 0
def spanFit (cols : List Nat) (row : List Int) (p : Nat × Int × Int) : Bool := decide (p.2.1 ≤ rowAt cols row p.1) && decide (rowAt cols row p.1 ≤ p.2.2)
def fitsM (cols : List Nat) (row : List Int) (es : List (Nat × Int)) (rc : Option (Nat × Int × Int)) : Bool := (spanL es rc).all (spanFit cols row)
theorem row_at {cols : List Nat} {row : List Int} {c : Nat} (hl : row.length = cols.length) (h : c ∈ cols) : (row.map V.int)[cols.idxOf c]? = some (.int (rowAt cols row c)) := by
  have hi : cols.idxOf c < row.length := by
    rw [hl]
    exact List.idxOf_lt_length_of_mem h
  unfold rowAt
  rw [List.getElem?_map, List.getElem?_eq_getElem hi, List.getD_eq_getElem?_getD, List.getElem?_eq_getElem hi]
  rfl
/-- the numbers of the rows that fit -/
def ansM (cols : List Nat) (rows : List (List Int)) (es : List (Nat × Int)) (rc : Option (Nat × Int × Int)) : List Int := ((List.range rows.length).filter fun i => fitsM cols (rows.getD i []) es rc).map fun i : Nat => (i : Int)
theorem SpanOk {cols : List Nat} {es : List (Nat × Int)} {rc : Option (Nat × Int × Int)} (h : QOk cols es rc) : ∀ p ∈ spanL es rc, p.1 ∈ cols := fun p hp => by
  unfold spanL at hp
  rcases List.mem_append.mp hp with hp | hp
  · obtain ⟨q, hq, rfl⟩ := List.mem_map.mp hp
    exact (h.ok q hq).1
  · cases rc with
    | none => cases hp
    | some t =>
      have : p = t := by simpa using hp
      obtain ⟨c, lo, hi⟩ := t
      rw [this]
      exact (h.rc c lo hi rfl).1
/-! ### data with lists -/
/-! ### what isinstance tells of data -/
theorem depA_ints : ∀ ns : List Int, PyData.depthAll (ns.map PyData.int) = 0
  | [] => rfl
  | n :: ns => by
    show max (PyData.depth (.int n)) (PyData.depthAll (ns.map PyData.int)) = 0
    rw [depA_ints ns]
    rfl
theorem dep_ints (ns : List Int) : PyData.depth (.list (ns.map PyData.int)) = 1 := by
  show PyData.depthAll (ns.map PyData.int) + 1 = 1
  rw [depA_ints]
theorem ans_len (cols : List Nat) (rows : List (List Int)) (es : List (Nat × Int)) (rc : Option (Nat × Int × Int)) : (ansM cols rows es rc).length ≤ rows.length := by
  unfold ansM
  rw [List.length_map]
  have := List.length_filter_le (fun i => fitsM cols (rows.getD i []) es rc) (List.range rows.length)
  rw [List.length_range] at this
  exact this
end My

set_option Elab.async false
set_option linter.all false
set_option maxRecDepth 100000
set_option maxHeartbeats 1000000
namespace My
open PySem PySem.Spec PyProof.Rows L2
/-! ### lists of numbers compared -/
theorem dp_ints {K : PySem.W.Frag} {H : Hp} : ∀ ns : List Int, DpAll K H (ns.map V.int) (ns.map PyData.int)
  | [] => .nil
  | n :: ns => .cons (.int n) (dp_ints ns)
theorem eqvA_ints : ∀ ns : List Int, PyData.eqvAll (ns.map PyData.int) (ns.map PyData.int) = true
  | [] => rfl
  | n :: ns => by
    show (PyData.eqv (.int n) (.int n) && PyData.eqvAll (ns.map PyData.int) (ns.map PyData.int)) = true
    rw [eqvA_ints ns, Bool.and_true]
    show (n == n) = true
    simp
theorem eqv_ints (ns : List Int) : PyData.eqv (.list (ns.map PyData.int)) (.list (ns.map PyData.int)) = true := eqvA_ints ns
theorem can_ints : ∀ ns : List Int, PyData.canLayAll0 (ns.map PyData.int) = true
  | [] => rfl
  | n :: ns => by
    show (PyData.canLay0 (.int n) && PyData.canLayAll0 (ns.map PyData.int)) = true
    rw [can_ints ns]
    rfl
theorem shaped_ints (ns : List Int) : SeqAt.shaped (.list (ns.map PyData.int)) = true := by
  unfold SeqAt.shaped
  show (PyData.canLayAll0 (ns.map PyData.int) && decide (PyData.depth (.list (ns.map PyData.int)) ≤ 64)) = true
  rw [can_ints, dep_ints]
  rfl
theorem shaped_eqs {es : List (Nat × Int)} (h : ∀ p ∈ es, p.1 ≤ 122) : SeqAt.shaped (eqsD es) = true := by
  have one : ∀ p : Nat × Int, p.1 ≤ 122 → PyData.canLay0 (eqD p) = true ∧ PyData.depth (eqD p) = 1 := fun p hp => by
    refine ⟨?_, rfl⟩
    show ((#[p.1] : Array Nat).all (· < 0x110000) && (true && true)) = true
    simp
    omega
  have e1 : PyData.canLayAll0 (es.map eqD) = true ∧ PyData.depthAll (es.map eqD) ≤ 1 := by
    induction es with
    | nil => exact ⟨rfl, Nat.zero_le _⟩
    | cons p es ih =>
      have hp := one p (h p (List.mem_cons_self ..))
      have ih2 := ih fun q hq => h q (List.mem_cons_of_mem _ hq)
      refine ⟨?_, ?_⟩
      · show (PyData.canLay0 (eqD p) && PyData.canLayAll0 (es.map eqD)) = true
        rw [hp.1, ih2.1]
        rfl
      · show max (PyData.depth (eqD p)) (PyData.depthAll (es.map eqD)) ≤ 1
        rw [hp.2]
        have := ih2.2
        omega
  unfold SeqAt.shaped
  show (PyData.canLayAll0 (es.map eqD) && decide (PyData.depthAll (es.map eqD) + 1 ≤ 64)) = true
  rw [e1.1, Bool.true_and]
  have := e1.2
  exact decide_eq_true (by omega)
theorem some_fewer {cols : List Nat} {rows : List (List Int)} {es : List (Nat × Int)} {c : Nat} {x : Int} (nd : (es.map (·.1)).Nodup) (h : (c, x) ∈ es) (hf : ∀ row : List Int, (fitsM cols row (es.filter fun p => !decide (p.1 = c)) none && spanFit cols row (c, x, x)) = fitsM cols row es none) (hs : ∀ row : List Int, spanFit cols row (c, x, x) = decide (rowAt cols row c = x)) :
    (ansM cols rows (es.filter fun p => !decide (p.1 = c)) none).filter (fun z => decide (rowAt cols (rows.getD z.toNat []) c = x)) = ansM cols rows es none := by
  unfold ansM
  rw [List.filter_map, List.filter_filter]
  congr 2
  funext i
  show (decide (rowAt cols (rows.getD (i : Int).toNat []) c = x) && fitsM cols (rows.getD i []) (es.filter fun p => !decide (p.1 = c)) none) = fitsM cols (rows.getD i []) es none
  rw [Int.toNat_natCast, ← hs, ← hf, Bool.and_comm]
theorem fit_one (cols : List Nat) (row : List Int) (c : Nat) (x : Int) : spanFit cols row (c, x, x) = decide (rowAt cols row c = x) := by
  unfold spanFit
  rw [Bool.eq_iff_iff, Bool.and_eq_true, decide_eq_true_eq, decide_eq_true_eq, decide_eq_true_eq]
  exact ⟨fun h => Int.le_antisymm h.2 h.1, fun h => ⟨Int.le_of_eq h.symm, Int.le_of_eq h⟩⟩
theorem ans_mem {cols : List Nat} {rows : List (List Int)} {es : List (Nat × Int)} {rc : Option (Nat × Int × Int)} {z : Int} (h : z ∈ ansM cols rows es rc) : 0 ≤ z ∧ z < (rows.length : Nat) := by
  obtain ⟨i, hi, rfl⟩ := List.mem_map.mp h
  have := List.mem_range.mp (List.mem_filter.mp hi).1
  omega
/-! ### questions and what fits -/
theorem ans_congr {cols : List Nat} {rows : List (List Int)} {es es' : List (Nat × Int)} {rc rc' : Option (Nat × Int × Int)} (h : ∀ row, fitsM cols row es rc = fitsM cols row es' rc') : ansM cols rows es rc = ansM cols rows es' rc' := by
  unfold ansM
  congr 2
  funext i
  exact h _
theorem fits_reach (cols : List Nat) (row : List Int) (es : List (Nat × Int)) (t : Nat × Int × Int) : fitsM cols row es (some t) = (fitsM cols row es none && spanFit cols row t) := by
  unfold fitsM spanL
  rw [List.all_append, List.all_append]
  show (_ && (spanFit cols row t && true)) = ((_ && true) && spanFit cols row t)
  rw [Bool.and_true, Bool.and_true]
theorem fits_none (cols : List Nat) (row : List Int) (es : List (Nat × Int)) : fitsM cols row es none = es.all fun p => spanFit cols row (p.1, p.2, p.2) := by
  unfold fitsM spanL
  rw [Option.toList_none, List.append_nil, List.all_map]
  rfl
/-- the letter taken out of equals -/
def fewer (es : List (Nat × Int)) (c : Nat) : List (Nat × Int) := es.filter fun p => !decide (p.1 = c)
theorem fits_fewer {cols : List Nat} {row : List Int} {es : List (Nat × Int)} {c : Nat} {x : Int} (nd : (es.map (·.1)).Nodup) (h : (c, x) ∈ es) : (fitsM cols row (fewer es c) none && spanFit cols row (c, x, x)) = fitsM cols row es none := by
  rw [fits_none, fits_none, Bool.eq_iff_iff, Bool.and_eq_true, List.all_eq_true, List.all_eq_true]
  constructor
  · intro ⟨h1, h2⟩ p hp
    by_cases e : p.1 = c
    · have : p = (c, x) := by
        obtain ⟨i, hi⟩ := List.mem_iff_getElem?.mp hp
        obtain ⟨j, hj⟩ := List.mem_iff_getElem?.mp h
        have e1 : (es.map (·.1))[i]? = some c := by
          rw [List.getElem?_map, hi, ← e]
          rfl
        have e2 : (es.map (·.1))[j]? = some c := by
          rw [List.getElem?_map, hj]
          rfl
        have e3 := nd_ix nd e1 e2
        rw [e3, hj] at hi
        exact (Option.some.inj hi).symm
      rw [this]
      exact h2
    · exact h1 p (List.mem_filter.mpr ⟨hp, by simp [e]⟩)
  · intro h1
    exact ⟨fun p hp => h1 p (List.mem_filter.mp hp).1, h1 _ h⟩
theorem perm_parts {α : Type} (p q r : α → Bool) (hr : ∀ a, r a = (p a || q a)) (hd : ∀ a, p a = true → q a = false) : ∀ l : List α, (l.filter p ++ l.filter q).Perm (l.filter r)
  | [] => .nil
  | a :: l => by
    have ih := perm_parts p q r hr hd l
    rw [List.filter_cons, List.filter_cons, List.filter_cons, hr a]
    cases hp : p a with
    | true =>
      rw [hd a hp]
      simpa using ih.cons a
    | false =>
      cases hq : q a with
      | true =>
        simp only [Bool.false_or, if_true, Bool.false_eq_true, if_false]
        exact List.perm_middle.trans (ih.cons a)
      | false => simpa using ih
theorem ans_up (cols : List Nat) (rows : List (List Int)) (es : List (Nat × Int)) (rc : Option (Nat × Int × Int)) : (ansM cols rows es rc).Pairwise (· ≤ ·) := by
  unfold ansM
  refine List.Pairwise.map _ (fun a b h => ?_) (List.Pairwise.filter _ List.pairwise_lt_range)
  have : a < b := h
  omega
theorem ans_parts (cols : List Nat) (rows : List (List Int)) (es : List (Nat × Int)) (c : Nat) {lo mid hi : Int} (h1 : lo ≤ mid) (h2 : mid < hi) :
    (ansM cols rows es (some (c, lo, mid)) ++ ansM cols rows es (some (c, mid + 1, hi))).Perm (ansM cols rows es (some (c, lo, hi))) := by
  unfold ansM
  rw [← List.map_append]
  refine (perm_parts _ _ _ (fun i => ?_) (fun i hp => ?_) _).map _
  · show fitsM cols (rows.getD i []) es (some (c, lo, hi)) = (fitsM cols (rows.getD i []) es (some (c, lo, mid)) || fitsM cols (rows.getD i []) es (some (c, mid + 1, hi)))
    rw [fits_reach, fits_reach, fits_reach, ← Bool.and_or_distrib_left]
    congr 1
    unfold spanFit
    rw [Bool.eq_iff_iff]
    simp only [Bool.or_eq_true, Bool.and_eq_true, decide_eq_true_eq]
    omega
  · have hi2 : fitsM cols (rows.getD i []) es (some (c, lo, mid)) = true := hp
    show fitsM cols (rows.getD i []) es (some (c, mid + 1, hi)) = false
    rw [fits_reach, Bool.and_eq_true] at hi2
    rw [fits_reach]
    have e : spanFit cols (rows.getD i []) (c, mid + 1, hi) = false := by
      have h3 := hi2.2
      unfold spanFit at h3 ⊢
      simp only [Bool.and_eq_true, decide_eq_true_eq] at h3
      have : ¬ (mid + 1 ≤ rowAt cols (rows.getD i []) c) := by omega
      rw [decide_eq_false this, Bool.false_and]
    rw [e, Bool.and_false]
theorem ans_all (cols : List Nat) (rows : List (List Int)) : ansM cols rows [] none = (List.range rows.length).map fun i : Nat => (i : Int) := by
  unfold ansM
  rw [List.filter_eq_self.mpr]
  intro a _
  rfl
theorem rg_all (n : Nat) : rgV 0 (n : Int) = (((List.range n).map fun i : Nat => (i : Int))).map V.int := by
  unfold rgV
  rw [List.map_map, Int.sub_zero, Int.toNat_natCast]
  refine List.map_congr_left fun i _ => ?_
  show V.int (0 + (i : Int)) = V.int (i : Int)
  rw [Int.zero_add]
theorem QOk.sub {cols : List Nat} {es es' : List (Nat × Int)} {rc : Option (Nat × Int × Int)} (h : QOk cols es rc) (s : es'.Sublist es) : QOk cols es' none :=
  ⟨h.up.sublist (s.map _), fun p hp => h.ok p (s.subset hp), Nat.le_trans s.length_le h.len, fun _ _ _ z => nomatch z⟩
theorem QOk.reach {cols : List Nat} {es : List (Nat × Int)} {rc : Option (Nat × Int × Int)} (h : QOk cols es rc) {c : Nat} {lo hi : Int} (h1 : c ∈ cols) (h2 : c ∉ es.map (·.1)) (h3 : 0 ≤ lo) (h4 : lo ≤ hi) (h5 : hi < 1000) : QOk cols es (some (c, lo, hi)) :=
  ⟨h.up, h.ok, h.len, fun c' lo' hi' z => by
    have z2 := Option.some.inj z
    have e1 : c = c' := congrArg (·.1) z2
    have e2 : lo = lo' := congrArg (·.2.1) z2
    have e3 : hi = hi' := congrArg (·.2.2) z2
    rw [← e1, ← e2, ← e3]
    exact ⟨h1, h2, h3, h4, h5⟩⟩
end My

set_option Elab.async false
set_option linter.all false
set_option maxRecDepth 100000
set_option maxHeartbeats 8000000
namespace My
open PySem PySem.Spec PyProof.Rows L2
def topS (i : Nat) : Stmt := PySem.Challenge.pw_stretchkeep_k07_whole_answers_parted.main.body.getD i (.Pass ⟨0, 0, 0, 0⟩)
abbrev s_spans : Stmt := topS 1
theorem sc_spans : FnScope ["question", "equals", "reach", "letter", "wanted", "low", "high", "number"] ["question"] (defScope s_spans) := ⟨rfl, rfl, rfl, by decide +kernel, rfl, by decide +kernel, by decide +kernel⟩
abbrev s_fits : Stmt := topS 2
theorem sc_fits : FnScope ["columns", "row", "question", "wanted", "letter", "low", "high"] ["columns", "row", "question"] (defScope s_fits) := ⟨rfl, rfl, rfl, by decide +kernel, rfl, by decide +kernel, by decide +kernel⟩
abbrev s_answer : Stmt := topS 3
theorem sc_answer : FnScope ["table", "question", "columns", "rows", "number", "row"] ["table", "question"] (defScope s_answer) := ⟨rfl, rfl, rfl, by decide +kernel, rfl, by decide +kernel, by decide +kernel⟩
abbrev s_l_reel : Stmt := topS 5
theorem sc_l_reel : FnScope ["script", "k", "number", "stir", "found", "turn"] ["script", "k"] (defScope s_l_reel) := ⟨rfl, rfl, rfl, by decide +kernel, rfl, by decide +kernel, by decide +kernel⟩
abbrev s_l_pick : Stmt := topS 6
theorem sc_l_pick : FnScope ["reel", "many", "digit"] ["reel", "many"] (defScope s_l_pick) := ⟨rfl, rfl, rfl, by decide +kernel, rfl, by decide +kernel, by decide +kernel⟩
abbrev s_l_columns : Stmt := topS 7
theorem sc_l_columns : FnScope ["reel", "many", "left", "found", "k"] ["reel", "many"] (defScope s_l_columns) := ⟨rfl, rfl, rfl, by decide +kernel, rfl, by decide +kernel, by decide +kernel⟩
abbrev s_l_table : Stmt := topS 8
theorem sc_l_table : FnScope ["reel", "most", "rows", "columns", "tops", "many", "letter", "k", "top"] ["reel", "most", "rows"] (defScope s_l_table) := ⟨rfl, rfl, rfl, by decide +kernel, rfl, by decide +kernel, by decide +kernel⟩
abbrev s_l_near : Stmt := topS 9
theorem sc_l_near : FnScope ["reel", "rows", "at", "row", "way", "number"] ["reel", "rows", "at", "row"] (defScope s_l_near) := ⟨rfl, rfl, rfl, by decide +kernel, rfl, by decide +kernel, by decide +kernel⟩
abbrev s_l_question : Stmt := topS 10
theorem sc_l_question : FnScope ["reel", "table", "columns", "rows", "letter", "row", "equals", "k", "left", "at", "low", "high"] ["reel", "table"] (defScope s_l_question) := ⟨rfl, rfl, rfl, by decide +kernel, rfl, by decide +kernel, by decide +kernel⟩
abbrev s_law : Stmt := topS 11
theorem sc_law : FnScope ["script", "k", "reel", "table", "columns", "rows", "turn", "equals", "reach", "found", "letter", "number", "fewer", "column", "some", "low", "high", "mid", "parts", "pair", "here"] ["script"] (defScope s_law) := ⟨rfl, rfl, rfl, by decide +kernel, rfl, by decide +kernel, by decide +kernel⟩
structure Ad where
  f_spans : Addr
  d_spans : FuncData
  f_fits : Addr
  d_fits : FuncData
  f_answer : Addr
  d_answer : FuncData
  f_l_reel : Addr
  d_l_reel : FuncData
  f_l_pick : Addr
  d_l_pick : FuncData
  f_l_columns : Addr
  d_l_columns : FuncData
  f_l_table : Addr
  d_l_table : FuncData
  f_l_near : Addr
  d_l_near : FuncData
  f_l_question : Addr
  d_l_question : FuncData
  f_law : Addr
  d_law : FuncData
structure Tx (K : PySem.W.Frag) (mg : Str → Option Value) (Z : Ad) : Prop where
  F_spans : Fun K "spans" "spans" s_spans Z.f_spans Z.d_spans
  b_spans : Binds K Z.d_spans ["question"] []
  g_spans : mg "spans" = some (.ref Z.f_spans)
  F_fits : Fun K "fits" "fits" s_fits Z.f_fits Z.d_fits
  b_fits : Binds K Z.d_fits ["columns", "row", "question"] []
  g_fits : mg "fits" = some (.ref Z.f_fits)
  F_answer : Fun K "answer" "answer" s_answer Z.f_answer Z.d_answer
  b_answer : Binds K Z.d_answer ["table", "question"] []
  g_answer : mg "answer" = some (.ref Z.f_answer)
  F_l_reel : Fun K "_law_reel" "_law_reel" s_l_reel Z.f_l_reel Z.d_l_reel
  b_l_reel : Binds K Z.d_l_reel ["script", "k"] []
  g_l_reel : mg "_law_reel" = some (.ref Z.f_l_reel)
  F_l_pick : Fun K "_law_pick" "_law_pick" s_l_pick Z.f_l_pick Z.d_l_pick
  b_l_pick : Binds K Z.d_l_pick ["reel", "many"] []
  g_l_pick : mg "_law_pick" = some (.ref Z.f_l_pick)
  F_l_columns : Fun K "_law_columns" "_law_columns" s_l_columns Z.f_l_columns Z.d_l_columns
  b_l_columns : Binds K Z.d_l_columns ["reel", "many"] []
  g_l_columns : mg "_law_columns" = some (.ref Z.f_l_columns)
  F_l_table : Fun K "_law_table" "_law_table" s_l_table Z.f_l_table Z.d_l_table
  b_l_table : Binds K Z.d_l_table ["reel", "most", "rows"] []
  g_l_table : mg "_law_table" = some (.ref Z.f_l_table)
  F_l_near : Fun K "_law_near" "_law_near" s_l_near Z.f_l_near Z.d_l_near
  b_l_near : Binds K Z.d_l_near ["reel", "rows", "at", "row"] []
  g_l_near : mg "_law_near" = some (.ref Z.f_l_near)
  F_l_question : Fun K "_law_question" "_law_question" s_l_question Z.f_l_question Z.d_l_question
  b_l_question : Binds K Z.d_l_question ["reel", "table"] []
  g_l_question : mg "_law_question" = some (.ref Z.f_l_question)
  F_law : Fun K "law" "law" s_law Z.f_law Z.d_law
  b_law : Binds K Z.d_law ["script"] []
  g_law : mg "law" = some (.ref Z.f_law)
  m_len : mg "len" = none
  m_range : mg "range" = none
  m_list : mg "list" = none
  m_sorted : mg "sorted" = none
  m_tuple : mg "tuple" = none
  m_min : mg "min" = none
  m_max : mg "max" = none
  m_enumerate : mg "enumerate" = none
  m_dict : mg "dict" = none
section
variable {P : Program} {w : World} {K : PySem.W.Frag} {mg : Str → Option Value} {base : Heap} {Z : Ad}
/-! ### _law_reel -/
def spReel (K : PySem.W.Frag) : Sp := fun vs H Q _ => ∃ (a : Addr) (ns : List Int) (k : Nat), vs = [.ref a, .int k] ∧ SqL K H a (ns.map V.int) ∧ k < 1000 ∧ ∀ (n : Int) p, H p = none → Q (.ref p) (upd H p (.lst [.int n]))
theorem ok_reel (T : Tx K mg Z) : FnOk P w K mg base CX0 1 Z.f_l_reel Z.d_l_reel ["script", "k"] (spReel K) := by
  refine T.F_l_reel.ok sc_l_reel (fun vs H Q E h => ?_) (fun cdv A outer s H vs Q E hr h => ?_)
  · obtain ⟨a, ns, k, rfl, _⟩ := h
    rfl
  · obtain ⟨a, ns, k, rfl, hS, hk, q⟩ := h
    refine ⟨_, (pss_cons (ps_set (i := 2) sc_l_reel.nd rfl (.inl rfl) (pe_op op_add (pe_op op_mul pe_int (pv 1)) pe_int))
      (pss_mid (ps_if (pt_cmpR op_lt (pv 1) (pe_callB (cLenSq K) (by rfl) T.m_len (by decide +kernel) (pa_cons (pv 0) pa_nil)) (nomark _)) (pss_one (ps_set (i := 2) sc_l_reel.nd rfl (.inl rfl) (pe_ix (ixL K) (pv 0) (pv 1) (fun _ _ => rfl)))) pss_nil)
      (pss_cons (ps_if (pt_cmpR op_eq (pe_op op_mod (pv 2) pe_int) pe_int (nomark _)) (pss_one (ps_ret (pe_lst (pa_cons (pe_op op_fdiv (pv 2) pe_int) pa_nil)))) pss_nil)
      (pss_cons (ps_set (i := 3) sc_l_reel.nd rfl (.inl rfl) (pe_op op_mod (pe_op op_add (pe_op op_add (pe_op op_mul (pe_op op_mod (pv 2) pe_int) pe_int) (pe_op op_mul pe_int (pv 1))) pe_int) pe_int))
      (pss_cons (ps_set (i := 4) sc_l_reel.nd rfl (.inl rfl) pe_int)
      (pss_cons (ps_for PassesOwn.never rfl (pi_range1 (by rfl) T.m_range (pa_cons pe_int pa_nil)) (pg_name (i := 5) sc_l_reel.nd rfl (.inl rfl)) (pss_cons (ps_set (i := 3) sc_l_reel.nd rfl (.inl rfl) (pe_op op_mod (pe_op op_add (pe_op op_add (pe_op op_add (pe_op op_mul (pv 3) (pv 3)) (pe_op op_mul pe_int (pv 3))) (pe_op op_mul pe_int (pv 5))) pe_int) pe_int))
      (pss_one (ps_set (i := 4) sc_l_reel.nd rfl (.inl rfl) (pe_op op_add (pe_op op_mul (pv 4) pe_int) (pv 3))))))
      (pss_one (ps_ret (pe_lst (pa_cons (pv 4) pa_nil)))))))))), ?_⟩
    have b64 : ∀ x : Int, 0 ≤ x → x < 2147483399 → -(2 ^ 64) < x ∧ x < 2 ^ 64 := fun x h0 h1 => ⟨by omega, by omega⟩
    have em : ∀ x : Int, 0 ≤ x % 2147483399 ∧ x % 2147483399 < 2147483399 := fun x => ⟨Int.emod_nonneg _ (by decide), Int.emod_lt_of_pos _ (by decide)⟩
    refine ⟨.int k, rfl, 7, k, rfl, rfl, .inl ⟨by decide, by decide⟩, _, 4, rfl, rfl, ?_⟩
    refine ⟨fun σ H' => ∃ num : Int, σ = [some (.ref a), some (.int k), some (.int num), none, none, none] ∧ H' = H, ?_, ?_⟩
    · refine ⟨.int k, rfl, .ref a, rfl, a, _, rfl, .inl hS, _, _, rfl, rfl, _, rfl, ite2 (fun e => ?_) (fun e => ?_)⟩
      · have e1 : (k : Int) < ((ns.map V.int).length : Nat) := of_decide_eq_true e
        have e2 : k < ns.length := by
          rw [List.length_map] at e1
          omega
        refine ⟨.ref a, rfl, .int k, rfl, a, _, _, .int ns[k], rfl, rfl, hS, atI_nat (by rw [List.getElem?_map, List.getElem?_eq_getElem e2]; rfl), ?_⟩
        exact ⟨_, rfl, rfl⟩
      · exact ⟨_, rfl, rfl⟩
    · intro σ1 H1 hM
      obtain ⟨num, rfl, rfl⟩ := hM
      refine ⟨.int num, rfl, num, 5, rfl, rfl, (by show (0 : Int) < 5; decide), rfl, _, rfl, ite2 (fun e => ?_) (fun e => ?_)⟩
      · refine ⟨.int num, rfl, num, 5, rfl, rfl, ⟨by decide, by decide⟩, (by show 1 ≤ sizeLine; decide), fun p np => ?_⟩
        exact q _ p np
      · refine ⟨.int num, rfl, num, 2147483399, rfl, rfl, (by show (0 : Int) < 2147483399; decide), _, 50021, rfl, rfl, .inl (b64 _ (em _).1 (em _).2), .int k, rfl, 977, k, rfl, rfl, .inl ⟨by decide, by decide⟩, _, _, rfl, rfl, _, 31, rfl, rfl, _, 2147483399, rfl, rfl, (by show (0 : Int) < 2147483399; decide), ?_⟩
        refine ⟨60, rfl, by decide, by decide, for_range (fun i σ H' => ∃ (st fo : Int) (y : Option V), σ = [some (.ref a), some (.int k), some (.int num), some (.int st), some (.int fo), y] ∧ 0 ≤ st ∧ st < 2147483399 ∧ H' = H1) ⟨_, 0, none, rfl, (em _).1, (em _).2, rfl⟩ (fun i σ H' hi hP => ?_) (fun σ H' hP => ?_)⟩
        · obtain ⟨st, fo, y, rfl, s0, s1, rfl⟩ := hP
          refine ⟨.int st, rfl, .int st, rfl, st, st, rfl, rfl, .inl (b64 _ s0 s1), .int st, rfl, 60013, st, rfl, rfl, .inl ⟨by decide, by decide⟩, _, _, rfl, rfl, _, rfl, 29, _, rfl, rfl, .inl ⟨by decide, by decide⟩, _, _, rfl, rfl, _, 5, rfl, rfl, _, 2147483399, rfl, rfl, (by show (0 : Int) < 2147483399; decide), ?_⟩
          refine ⟨.int fo, rfl, fo, 2147483399, rfl, rfl, .inr ⟨by decide, by decide⟩, _, rfl, _, _, rfl, rfl, ?_⟩
          exact ⟨_, _, _, rfl, (em _).1, (em _).2, rfl⟩
        · obtain ⟨st, fo, y, rfl, s0, s1, rfl⟩ := hP
          refine ⟨.int fo, rfl, (by show 1 ≤ sizeLine; decide), fun p np => ?_⟩
          exact q _ p np
/-! ### _law_pick -/
def spPick (K : PySem.W.Frag) : Sp := fun vs H Q _ => ∃ (r : Addr) (n m : Int), vs = [.ref r, .int m] ∧ H r = some (.lst [.int n]) ∧ 0 < m ∧ m < 1073741824 ∧ ∀ (d n' : Int), 0 ≤ d → d < m → Q (.int d) (upd H r (.lst [.int n']))
theorem ok_pick (T : Tx K mg Z) : FnOk P w K mg base CX0 1 Z.f_l_pick Z.d_l_pick ["reel", "many"] (spPick K) := by
  refine T.F_l_pick.ok sc_l_pick (fun vs H Q E h => ?_) (fun cdv A outer s H vs Q E hr h => ?_)
  · obtain ⟨a, n, m, rfl, _⟩ := h
    rfl
  · obtain ⟨r, n, m, rfl, hS, h0, h1, q⟩ := h
    refine ⟨_, (pss_cons (ps_set (i := 2) sc_l_pick.nd rfl (.inl rfl) (pe_op op_mod (pe_ix (ixL K) (pv 0) pe_int (fun _ _ => rfl)) (pv 1)))
      (pss_cons (ps_asg (pe_op op_fdiv (pe_ix (ixL K) (pv 0) pe_int (fun _ _ => rfl)) (pv 1)) (pg_sub (pv 0) pe_int set_list))
      (pss_one (ps_ret (pv 2))))), ?_⟩
    refine ⟨.ref r, rfl, r, [.int n], 0, .int n, rfl, rfl, .inl (.inl hS), rfl, .int m, rfl, n, m, rfl, rfl, h0, ?_⟩
    refine ⟨.ref r, rfl, r, [.int n], 0, .int n, rfl, rfl, .inl (.inl hS), rfl, .int m, rfl, n, m, rfl, rfl, ⟨h0, h1⟩, ?_⟩
    refine ⟨.ref r, rfl, r, [.int n], 0, 0, rfl, rfl, hS, rfl, _, rfl, ?_⟩
    exact q _ _ (Int.emod_nonneg _ (by omega)) (Int.emod_lt_of_pos _ h0)
/-! ### _law_columns -/
def alpha : List Nat := [97, 98, 99, 100, 101, 102, 103, 104, 105, 106, 107, 108, 109, 110, 111, 112, 113, 114, 115, 116, 117, 118, 119, 120, 121, 122]
def spColumns (K : PySem.W.Frag) : Sp := fun vs H Q _ => ∃ (r : Addr) (n : Int) (m : Nat), vs = [.ref r, .int m] ∧ H r = some (.lst [.int n]) ∧ m ≤ 26 ∧ ∀ (l : List Nat) (n' : Int) (H' : Hp), Kp r H H' → H' r = some (.lst [.int n']) → Cols l → l.length = m → Q (tx l) H'
theorem ok_columns (T : Tx K mg Z) : FnOk P w K mg base CX0 2 Z.f_l_columns Z.d_l_columns ["reel", "many"] (spColumns K) := by
  have G_l_pick : FnOk P w K mg base CX0 1 Z.f_l_pick Z.d_l_pick ["reel", "many"] (spPick K) := ok_pick T
  refine T.F_l_columns.ok sc_l_columns (fun vs H Q E h => ?_) (fun cdv A outer s H vs Q E hr h => ?_)
  · obtain ⟨r, n, m, rfl, _⟩ := h
    rfl
  · obtain ⟨r, n, m, rfl, hR, hm, q⟩ := h
    refine ⟨_, (pss_cons (ps_set (i := 2) sc_l_columns.nd rfl (.inl rfl) (pe_callTy call_list_txt (by rfl) T.m_list (by decide +kernel) (pa_cons pe_str pa_nil)))
      (pss_cons (ps_set (i := 3) sc_l_columns.nd rfl (.inl rfl) (pe_lst pa_nil))
      (pss_cons (ps_for PassesOwn.never rfl (pi_range1 (by rfl) T.m_range (pa_cons (pv 1) pa_nil)) (pg_name (i := 4) sc_l_columns.nd rfl (.inl rfl)) (pss_one (ps_expr (bmK K PySem.F.plainAttrs_list PySem.F.slot_list_append PySem.F.type_list_append mt_append (pv 3) (pa_cons (bmK K PySem.F.plainAttrs_list PySem.F.slot_list_pop PySem.F.type_list_pop mt_popAt (pv 2) (pa_cons (pe_call G_l_pick (hr.mono (by omega)) (by rfl) T.g_l_pick T.F_l_pick.kp T.b_l_pick .nil pass0 (pa_cons (pv 0) (pa_cons (pe_callB (cLenSq K) (by rfl) T.m_len (by decide +kernel) (pa_cons (pv 2) pa_nil)) pa_nil))) pa_nil)) pa_nil)))))
      (pss_one (ps_ret (pe_join pe_str (pe_callB cr_sortedS (by rfl) T.m_sorted (by decide +kernel) (pa_cons (pv 3) pa_nil)))))))), ?_⟩
    have ea : (Str.ofString "abcdefghijklmnopqrstuvwxyz").cps.toList = alpha := by decide +kernel
    refine ⟨_, rfl, (by decide +kernel), fun L nL => ?_⟩
    rw [ea]
    refine ⟨Nat.zero_le _, fun F nF => ?_⟩
    have nFL : F ≠ L := fun e => by
      rw [e, upd_same] at nF
      cases nF
    have nF0 : H F = none := by
      rw [upd_ne nFL] at nF
      exact nF
    have nLr : L ≠ r := (ne_of_none hR nL).symm
    have nFr : F ≠ r := (ne_of_none hR nF0).symm
    refine ⟨.int m, rfl, m, rfl, by omega, by omega, for_range (fun i σ H' => ∃ (ll ff : List Nat) (n' : Int) (y : Option V), σ = [some (.ref r), some (.int m), some (.ref L), some (.ref F), y] ∧ Kp r H H' ∧ H' r = some (.lst [.int n']) ∧ H' L = some (.lst (ll.map sg)) ∧ H' F = some (.lst (ff.map sg)) ∧ (ll ++ ff).Perm alpha ∧ ff.length = i)
      ⟨alpha, [], n, none, rfl, ?_, ?_, ?_, ?_, ?_, rfl⟩ (fun i σ H' hi hP => ?_) (fun σ H' hP => ?_)⟩
    · exact (Kp.new Kp.rfl' nL).new nF
    · rw [upd_ne nFr.symm, upd_ne nLr.symm]
      exact hR
    · rw [upd_ne nFL.symm, upd_same]
    · rw [upd_same]
      rfl
    · rw [List.append_nil]
    · obtain ⟨ll, ff, n1, y, rfl, kp, hR1, hL, hF, hp, hl⟩ := hP
      have hlen : ll.length + ff.length = 26 := by
        have := hp.length_eq
        rw [List.length_append] at this
        exact this
      have hll : 0 < ll.length := by
        have : i < m := by omega
        omega
      refine ⟨.ref F, rfl, .inl ⟨rfl, _, .inl (.inl hF)⟩, .ref L, rfl, .inl ⟨rfl, _, .inl (.inl hL)⟩, .ref r, rfl, .ref L, rfl, L, _, rfl, .inl (.inl (.inl hL)), r, n1, _, rfl, hR1, ?_, ?_, fun d n2 d0 d1 => ?_⟩
      · rw [List.length_map]
        omega
      · rw [List.length_map]
        omega
      · rw [List.length_map] at d1
        have hd : d.toNat < ll.length := by omega
        have hL2 : (upd H' r (.lst [.int n2])) L = some (.lst (ll.map sg)) := by
          rw [upd_ne nLr]
          exact hL
        have hF2 : (upd (upd H' r (.lst [.int n2])) L (.lst ((ll.map sg).eraseIdx d.toNat))) F = some (.lst (ff.map sg)) := by
          rw [upd_ne nFL, upd_ne nFr]
          exact hF
        have hy : ll[d.toNat]? = some ll[d.toNat] := List.getElem?_eq_getElem hd
        refine ⟨L, _, d, d.toNat, sg ll[d.toNat], rfl, rfl, hL2, by omega, by omega, PySem.seqIndex_of d0 (by rw [List.length_map]; exact d1), ?_, F, _, _, rfl, rfl, hF2, ?_, ?_⟩
        · rw [List.getElem?_map, hy]
          rfl
        · rw [List.length_map]
          exact small1000 (by omega)
        · refine ⟨ll.eraseIdx d.toNat, ff ++ [ll[d.toNat]], n2, _, rfl, ?_, ?_, ?_, ?_, (popped hy ff).trans hp, by rw [List.length_append, hl]; rfl⟩
          · exact ((Kp.own kp).mut nL).mut nF0
          · rw [upd_ne nFr.symm, upd_ne nLr.symm, upd_same]
          · rw [upd_ne nFL.symm, upd_same, erase_map]
          · rw [upd_same, List.map_append]
            rfl
    · obtain ⟨ll, ff, n1, y, rfl, kp, hR1, hL, hF, hp, hl⟩ := hP
      have hm2 : ff.length = m := by
        rw [hl]
        omega
      refine ⟨⟨_, rfl⟩, .ref F, rfl, F, ff.map sS, rfl, .inl (.inl (by rw [← map_sg]; exact hF)), by rw [List.length_map]; omega, fun ys p hys hso np => ?_⟩
      obtain ⟨l, rfl, pl⟩ := perm_signs hys
      have ndA : (ll ++ ff).Nodup := hp.nodup_iff.mpr (by decide)
      have ndf : ff.Nodup := (List.nodup_append.mp ndA).2.1
      have ndl : l.Nodup := pl.nodup_iff.mpr ndf
      refine ⟨_, p, _, rfl, rfl, .inl (.inl (.inl upd_same)), ?_, ?_⟩
      · have e1 : (Str.ofString "").length = 0 := by decide +kernel
        rw [e1, Nat.mul_zero, Nat.add_zero, List.map_map]
        have e2 : ∀ k : List Nat, (k.map ((fun x : Str => x.length) ∘ sS)).sum = k.length := fun k => by
          induction k with
          | nil => rfl
          | cons a k ih =>
            rw [List.map_cons, List.sum_cons, ih, List.length_cons]
            show 1 + k.length = k.length + 1
            omega
        rw [e2, pl.length_eq]
        omega
      · rw [join_signs]
        refine q l n1 _ (kp.new np) ?_ ⟨strict_of (sorted_signs l hso) ndl, fun c hc => ?_⟩ (by rw [pl.length_eq]; exact hm2)
        · rw [upd_ne (ne_of_none hR1 np)]
          exact hR1
        · have hc2 : c ∈ alpha := hp.mem_iff.mp (List.mem_append_right _ (pl.mem_iff.mp hc))
          have : ∀ c ∈ alpha, 97 ≤ c ∧ c ≤ 122 := by decide
          exact this c hc2

/-! ### _law_table -/
def spTable (K : PySem.W.Frag) : Sp := fun vs H Q _ => ∃ (r : Addr) (n : Int) (most rn : Nat), vs = [.ref r, .int most, .int rn] ∧ H r = some (.lst [.int n]) ∧ 1 ≤ most ∧ most ≤ 26 ∧ rn ≤ 1000 ∧
  ∀ (cols : List Nat) (rows : List (List Int)) (v : V) (n' : Int) (H' : Hp), Kp r H H' → H' r = some (.lst [.int n']) → Fz H' v (tabD cols rows) → Cols cols → 1 ≤ cols.length → cols.length ≤ most → RowsOk cols.length rows → rows.length ≤ rn → Q v H'
theorem ok_table (T : Tx K mg Z) : FnOk P w K mg base CX0 3 Z.f_l_table Z.d_l_table ["reel", "most", "rows"] (spTable K) := by
  have G_l_pick : FnOk P w K mg base CX0 1 Z.f_l_pick Z.d_l_pick ["reel", "many"] (spPick K) := ok_pick T
  have G_l_columns : FnOk P w K mg base CX0 2 Z.f_l_columns Z.d_l_columns ["reel", "many"] (spColumns K) := ok_columns T
  refine T.F_l_table.ok sc_l_table (fun vs H Q E h => ?_) (fun cdv A outer s H vs Q E hr h => ?_)
  · obtain ⟨r, n, most, rn, rfl, _⟩ := h
    rfl
  · obtain ⟨r, n, most, rn, rfl, hR, hm1, hm2, hrn, q⟩ := h
    refine ⟨_, (pss_cons (ps_set (i := 3) sc_l_table.nd rfl (.inl rfl) (pe_call G_l_columns (hr.mono (by omega)) (by rfl) T.g_l_columns T.F_l_columns.kp T.b_l_columns .nil pass0 (pa_cons (pv 0) (pa_cons (pe_op op_add pe_int (pe_call G_l_pick (hr.mono (by omega)) (by rfl) T.g_l_pick T.F_l_pick.kp T.b_l_pick .nil pass0 (pa_cons (pv 0) (pa_cons (pv 1) pa_nil)))) pa_nil))))
      (pss_cons (ps_set (i := 4) sc_l_table.nd rfl (.inr rfl) (pe_lc (own := [("letter", 6)]) (tt := tYes) (by rfl) sc_l_table.nd (pi_str (pv 3)) (blkOk_by (own := [("letter", 6)]) (by kernel_rfl)) (fun _ _ _ _ _ => (pg_name (i := 6) sc_l_table.nd rfl (.inl rfl))) (fun _ _ _ _ _ => pts_nil) (fun _ _ _ _ _ => (pe_ix (ixL K) (pe_lst (pa_cons pe_int (pa_cons pe_int (pa_cons pe_int (pa_cons pe_int pa_nil))))) (pe_call G_l_pick (hr.mono (by omega)) (by rfl) T.g_l_pick T.F_l_pick.kp T.b_l_pick .nil pass0 (pa_cons (pv 0) (pa_cons pe_int pa_nil))) (fun _ _ => rfl)))))
      (pss_cons (ps_set (i := 5) sc_l_table.nd rfl (.inl rfl) (pe_call G_l_pick (hr.mono (by omega)) (by rfl) T.g_l_pick T.F_l_pick.kp T.b_l_pick .nil pass0 (pa_cons (pv 0) (pa_cons (pe_op op_add (pv 2) pe_int) pa_nil))))
      (pss_one (ps_ret (pe_tup (pa_cons (pv 3) (pa_cons (pe_callTy (cTupSq K) (by rfl) T.m_tuple (by decide +kernel) (pa_cons (pe_lc (own := [("k", 7)]) (tt := tYes) (by rfl) sc_l_table.nd (pi_range1 (by rfl) T.m_range (pa_cons (pv 5) pa_nil)) (blkOk_by (own := [("k", 7)]) (by kernel_rfl)) (fun _ _ _ _ _ => (pg_name (i := 7) sc_l_table.nd rfl (.inl rfl))) (fun _ _ _ _ _ => pts_nil) (fun _ _ _ _ _ => (pe_callTy (cTupSq K) (by rfl) T.m_tuple (by decide +kernel) (pa_cons (pe_lc (own := [("top", 8)]) (tt := tYes) (by rfl) sc_l_table.nd (piL K (pv 4)) (blkOk_by (own := [("top", 8)]) (by kernel_rfl)) (fun _ _ _ _ _ => (pg_name (i := 8) sc_l_table.nd rfl (.inl rfl))) (fun _ _ _ _ _ => pts_nil) (fun _ _ _ _ _ => (pe_call G_l_pick (hr.mono (by omega)) (by rfl) T.g_l_pick T.F_l_pick.kp T.b_l_pick .nil pass0 (pa_cons (pv 0) (pa_cons (pv 8) pa_nil))))) pa_nil)))) pa_nil)) pa_nil)))))))), ?_⟩
    -- columns
    refine ⟨.ref r, rfl, .ref r, rfl, .int most, rfl, r, n, most, rfl, hR, by omega, by omega, fun d n1 d0 d1 => ?_⟩
    have hR1 : (upd H r (.lst [.int n1])) r = some (.lst [.int n1]) := upd_same
    refine ⟨1, d, rfl, rfl, r, n1, (1 + d).toNat, by rw [Int.toNat_of_nonneg (by omega)]; rfl, hR1, by omega, fun cols n2 H2 kp2 hR2 hc hl => ?_⟩
    have hkp2 : Kp r H H2 := (Kp.own Kp.rfl').trans kp2
    -- tops
    refine ⟨tx cols, rfl, _, rfl, fun D nD => lc_it walk_str (fun i H' => ∃ (ts : List Int) (n3 : Int), Kp r H2 H' ∧ H' r = some (.lst [.int n3]) ∧ H' D = some (.lst (ts.map V.int)) ∧ ts.length = i ∧ ∀ t ∈ ts, 0 < t ∧ t ≤ 1000)
      ⟨[], n2, Kp.rfl'.new nD, by rw [upd_ne (ne_of_none hR2 nD)]; exact hR2, upd_same, rfl, fun t ht => nomatch ht⟩ (fun _ _ _ _ => trivial) (fun i x H3 H4 hi hP hY => ?_) (fun H3 hP => ?_)⟩
    · obtain ⟨ts, n3, kp3, hR3, hD3, hl3, ht3⟩ := hP
      obtain ⟨rfl, c, hc4, rfl⟩ := hY
      have nDr : D ≠ r := (ne_of_none hR2 nD).symm
      refine ⟨rfl, (by show 4 ≤ sizeLine; decide), fun L nL => ?_⟩
      have nLr : L ≠ r := (ne_of_none hR3 nL).symm
      have nLD : L ≠ D := (ne_of_none hD3 nL).symm
      have hR4 : (upd H4 L (.lst [.int 2, .int 2, .int 4, .int 1000])) r = some (.lst [.int n3]) := by
        rw [upd_ne nLr.symm]
        exact hR3
      refine ⟨.ref r, rfl, r, n3, 4, rfl, hR4, by decide, by decide, fun e n4 e0 e1 => ?_⟩
      obtain ⟨t, ht, hat⟩ := at_ints (ns := [2, 2, 4, 1000]) e0 e1
      refine ⟨L, [2, 2, 4, 1000].map V.int, e, .int t, rfl, rfl, .inl (.inl ?_), hat, ts.map V.int, ?_, ?_, ts ++ [t], n4, ?_, ?_, ?_, ?_, ?_⟩
      · rw [upd_ne nLr, upd_same]
        rfl
      · rw [upd_ne nDr, upd_ne nLD.symm]
        exact hD3
      · rw [List.length_map, hl3]
        have hi2 : i < cols.length := hi
        exact small1000 (by omega)
      · exact ((kp3.new nL).own).mut nD
      · rw [upd_ne nDr.symm, upd_same]
      · rw [upd_same, List.map_append]
        rfl
      · rw [List.length_append, hl3]
        rfl
      · intro u hu
        rcases List.mem_append.mp hu with hu | hu
        · exact ht3 u hu
        · have : ∀ z ∈ ([2, 2, 4, 1000] : List Int), 0 < z ∧ z ≤ 1000 := by decide
          rw [List.mem_singleton.mp hu]
          exact this t ht
    · obtain ⟨ts, n3, kp3, hR3, hD3, hl3, ht3⟩ := hP
      have hlt : ts.length = cols.length := hl3
      -- many
      refine ⟨.ref r, rfl, .int rn, rfl, rn, 1, rfl, rfl, r, n3, _, rfl, hR3, by omega, by omega, fun m n4 m0 m1 => ?_⟩
      have nDr : D ≠ r := (ne_of_none hR2 nD).symm
      have hD4 : (upd H3 r (.lst [.int n4])) D = some (.lst (ts.map V.int)) := by
        rw [upd_ne nDr]
        exact hD3
      have kp4 : Kp r H (upd H3 r (.lst [.int n4])) := (hkp2.trans kp3).own
      -- the rows
      refine ⟨tx cols, rfl, .int m, rfl, m, rfl, by omega, by omega, fun D2 nD2 => lc_range (fun i H' => ∃ (rows : List (List Int)) (vs : List V) (n5 : Int), Kp r H H' ∧ H' r = some (.lst [.int n5]) ∧ H' D = some (.lst (ts.map V.int)) ∧ H' D2 = some (.lst vs) ∧ FzA H' vs (rows.map rowD) ∧ RowsOk cols.length rows ∧ rows.length = i)
        ⟨[], [], n4, kp4.new nD2, ?_, ?_, upd_same, .nil, (fun _ h => nomatch h), rfl⟩ (fun i H5 hi hP => ?_) (fun H5 hP => ?_)⟩
      · rw [upd_ne (ne_of_none upd_same nD2)]
        exact upd_same
      · rw [upd_ne (ne_of_none hD4 nD2)]
        exact hD4
      · obtain ⟨rows, vs, n5, kp5, hR5, hD5, hD25, hF5, hok, hln⟩ := hP
        have nD2r : D2 ≠ r := (ne_of_none (upd_same (H := H3)) nD2).symm
        have nD2D : D2 ≠ D := (ne_of_none hD4 nD2).symm
        have nD2H : H D2 = none := Kp.none kp4 nD2r nD2
        have nDH : H D = none := Kp.none hkp2 nDr nD
        -- one row
        refine ⟨rfl, .ref D, rfl, D, rfl, ⟨_, .inl (.inl hD5)⟩, fun D3 nD3 => lc_list (xs := ts.map V.int) (fun j H' => ∃ (row : List Int) (n6 : Int), Kp r H5 H' ∧ H' r = some (.lst [.int n6]) ∧ H' D3 = some (.lst (row.map V.int)) ∧ row.length = j ∧ ∀ x ∈ row, 0 ≤ x ∧ x < 1000)
          ⟨[], n5, Kp.rfl'.new nD3, ?_, upd_same, rfl, fun _ h => nomatch h⟩ (fun j H' _ hP => ?_) (fun j x H6 hx hP => ?_) (fun H6 hP => ?_)⟩
        · rw [upd_ne (ne_of_none hR5 nD3)]
          exact hR5
        · obtain ⟨row, n6, kp6, _⟩ := hP
          exact .inl (.inl (kp6 D _ nDr hD5))
        · obtain ⟨row, n6, kp6, hR6, hD6, hl6, hx6⟩ := hP
          have nD3r : D3 ≠ r := (ne_of_none hR5 nD3).symm
          rw [List.getElem?_map] at hx
          obtain ⟨t, ht, rfl⟩ := Option.map_eq_some_iff.mp hx
          have tm : t ∈ ts := List.mem_of_getElem? ht
          have hj : j < ts.length := (List.getElem?_eq_some_iff.mp ht).1
          refine ⟨rfl, .ref r, rfl, .int t, rfl, r, n6, t, rfl, hR6, (ht3 t tm).1, by have := (ht3 t tm).2; omega, fun e n7 e0 e1 => ?_⟩
          refine ⟨row.map V.int, ?_, ?_, row ++ [e], n7, (kp6.own).mut nD3, ?_, ?_, ?_, ?_⟩
          · rw [upd_ne nD3r]
            exact hD6
          · rw [List.length_map]
            exact small1000 (by omega)
          · rw [upd_ne nD3r.symm, upd_same]
          · rw [upd_same, List.map_append]
            rfl
          · rw [List.length_append, hl6]
            rfl
          · intro u hu
            rcases List.mem_append.mp hu with hu | hu
            · exact hx6 u hu
            · rw [List.mem_singleton.mp hu]
              have := (ht3 t tm).2
              exact ⟨e0, by omega⟩
        · obtain ⟨row, n6, kp6, hR6, hD6, hl6, hx6⟩ := hP
          rw [List.length_map] at hl6
          refine ⟨D3, row.map V.int, rfl, .inl ⟨.inl (.inl hD6), fun t nt => ?_⟩⟩
          have hD26 : H6 D2 = some (.lst vs) := kp6 D2 _ nD2r hD25
          have hD62 : H6 D = some (.lst (ts.map V.int)) := kp6 D _ nDr hD5
          have ntD2 : t ≠ D2 := (ne_of_none hD26 nt).symm
          have kt : Kt H5 H6 := kp6.kt hR5
          have kt2 : Kt H6 (upd H6 t (.tup (row.map V.int))) := .new nt
          have hD27 : (upd H6 t (.tup (row.map V.int))) D2 = some (.lst vs) := by
            rw [upd_ne ntD2.symm]
            exact hD26
          refine ⟨vs, hD27, ?_, rows ++ [row], vs ++ [.ref t], n6, ?_, ?_, ?_, upd_same, ?_, ?_, by rw [List.length_append, hln]; rfl⟩
          · rw [hF5.len, List.length_map]
            exact small1000 (by omega)
          · exact ((kp5.trans kp6).new nt).mut nD2H
          · rw [upd_ne nD2r.symm, upd_ne (ne_of_none hR6 nt)]
            exact hR6
          · rw [upd_ne nD2D.symm, upd_ne (ne_of_none hD62 nt)]
            exact hD62
          · rw [List.map_append]
            exact (FzA.snoc ((hF5.kt kt).kt kt2) (row_made nt)).kt (.lst hD27)
          · intro x hx
            rcases List.mem_append.mp hx with hx | hx
            · exact hok x hx
            · rw [List.mem_singleton.mp hx]
              exact ⟨hl6.trans hlt, hx6⟩
      · obtain ⟨rows, vs, n5, kp5, hR5, hD5, hD25, hF5, hok, hln⟩ := hP
        refine ⟨D2, vs, rfl, .inl ⟨.inl (.inl hD25), fun R nR => ⟨(by show 2 ≤ sizeLine; decide), fun t nt => ?_⟩⟩⟩
        have f1 : Fz (upd H5 R (.tup vs)) (.ref R) (rowsD rows) := Fz.made nR hF5
        refine q cols rows (.ref t) n5 _ ((kp5.new nR).new nt) ?_ (Fz.made nt (.cons (.str _) (.cons f1 .nil))) hc (by omega) (by omega) hok (by omega)
        rw [upd_ne (ne_of_none (by rw [upd_ne (ne_of_none hR5 nR)]; exact hR5) nt), upd_ne (ne_of_none hR5 nR)]
        exact hR5

/-! ### _law_near -/
def spNear (K : PySem.W.Frag) : Sp := fun vs H Q _ => ∃ (r : Addr) (n : Int) (rs : V) (rows : List (List Int)) (at_ : Nat) (rw_ : V) (row : List Int) (k : Nat), vs = [.ref r, rs, .int at_, rw_] ∧ H r = some (.lst [.int n]) ∧ Fz H rs (rowsD rows) ∧ Fz H rw_ (rowD row) ∧ RowsOk k rows ∧ RowOk k row ∧ at_ < k ∧ rows.length ≤ 1000 ∧
  ∀ (x n' : Int) (H' : Hp), Kp r H H' → H' r = some (.lst [.int n']) → 0 ≤ x → x < 1000 → Q (.int x) H'
theorem ok_near (T : Tx K mg Z) : FnOk P w K mg base CX0 2 Z.f_l_near Z.d_l_near ["reel", "rows", "at", "row"] (spNear K) := by
  have G_l_pick : FnOk P w K mg base CX0 1 Z.f_l_pick Z.d_l_pick ["reel", "many"] (spPick K) := ok_pick T
  refine T.F_l_near.ok sc_l_near (fun vs H Q E h => ?_) (fun cdv A outer s H vs Q E hr h => ?_)
  · obtain ⟨r, n, rs, rows, at_, rw_, row, k, rfl, _⟩ := h
    rfl
  · obtain ⟨r, n, rs, rows, at_, rw_, row, k, rfl, hR, fR, fr, hrs, hro, hat, hlen, q⟩ := h
    obtain ⟨R, vs, rfl, hRR, fvs⟩ := fR.open
    obtain ⟨ra, rfl, hra⟩ := row_open fr
    have nRr : R ≠ r := fun z => by
      rw [z, hR] at hRR
      cases hRR
    have nrar : ra ≠ r := fun z => by
      rw [z, hR] at hra
      cases hra
    refine ⟨_, (pss_cons (ps_set (i := 4) sc_l_near.nd rfl (.inl rfl) (pe_call G_l_pick (hr.mono (by omega)) (by rfl) T.g_l_pick T.F_l_pick.kp T.b_l_pick .nil pass0 (pa_cons (pv 0) (pa_cons pe_int pa_nil))))
      (pss_cons (ps_if (pt_cmpR op_lt (pv 4) pe_int (nomark _)) (pss_one (ps_ret (pe_ix (ixT K) (pv 3) (pv 2) (fun _ _ => rfl)))) pss_nil)
      (pss_cons (ps_if (PW.pt (pw_or (pt_cmpR op_eq (pv 4) pe_int (nomark _)) (pw_or1 (pt_cmpR (eqDK K hr.units) (pv 1) (pe_tup pa_nil) (nomark _))))) (pss_one (ps_ret (pe_call G_l_pick (hr.mono (by omega)) (by rfl) T.g_l_pick T.F_l_pick.kp T.b_l_pick .nil pass0 (pa_cons (pv 0) (pa_cons (pe_ix (ixL K) (pe_lst (pa_cons pe_int (pa_cons pe_int pa_nil))) (pe_call G_l_pick (hr.mono (by omega)) (by rfl) T.g_l_pick T.F_l_pick.kp T.b_l_pick .nil pass0 (pa_cons (pv 0) (pa_cons pe_int pa_nil))) (fun _ _ => rfl)) pa_nil))))) pss_nil)
      (pss_cons (ps_set (i := 5) sc_l_near.nd rfl (.inl rfl) (pe_ix (ixT K) (pe_ix (ixT K) (pv 1) (pe_call G_l_pick (hr.mono (by omega)) (by rfl) T.g_l_pick T.F_l_pick.kp T.b_l_pick .nil pass0 (pa_cons (pv 0) (pa_cons (pe_callB (cLenSq K) (by rfl) T.m_len (by decide +kernel) (pa_cons (pv 1) pa_nil)) pa_nil))) (fun _ _ => rfl)) (pv 2) (fun _ _ => rfl)))
      (pss_one (ps_ret (pe_callB (call_min2 rfl) (by rfl) T.m_min (by decide +kernel) (pa_cons pe_int (pa_cons (pe_callB (call_max2 rfl) (by rfl) T.m_max (by decide +kernel) (pa_cons pe_int (pa_cons (pe_op op_add (pv 5) (pe_ix (ixL K) (pe_lst (pa_cons pe_int (pa_cons pe_int (pa_cons (pe_un un_neg pe_int) pa_nil)))) (pe_op op_mul (pe_op op_sub (pv 4) pe_int) (pe_op op_add pe_int (pe_call G_l_pick (hr.mono (by omega)) (by rfl) T.g_l_pick T.F_l_pick.kp T.b_l_pick .nil pass0 (pa_cons (pv 0) (pa_cons pe_int pa_nil))))) (fun _ _ => rfl))) pa_nil))) pa_nil))))))))), ?_⟩
    refine ⟨.ref r, rfl, r, n, 8, rfl, hR, by decide, by decide, fun way n1 w0 w1 => ?_⟩
    have hR1 : (upd H r (.lst [.int n1])) r = some (.lst [.int n1]) := upd_same
    have hRR1 : (upd H r (.lst [.int n1])) R = some (.tup vs) := by
      rw [upd_ne nRr]
      exact hRR
    have hra1 : (upd H r (.lst [.int n1])) ra = some (.tup (row.map V.int)) := by
      rw [upd_ne nrar]
      exact hra
    have fvs1 : FzA (upd H r (.lst [.int n1])) vs (rows.map rowD) := fvs.kt (.lst hR)
    have kp1 : Kp r H (upd H r (.lst [.int n1])) := Kp.own Kp.rfl'
    generalize upd H r (.lst [.int n1]) = H1 at hR1 hRR1 hra1 fvs1 kp1 ⊢
    have hal : at_ < row.length := by
      rw [hro.1]
      exact hat
    -- if way < 5
    refine ⟨.int way, rfl, _, _, rfl, rfl, _, rfl, ite2 (fun e => ?_) (fun e => ?_)⟩
    · refine ⟨.ref ra, rfl, .int at_, rfl, ra, _, _, .int row[at_], rfl, rfl, .inl (.inl hra1), atI_nat (by rw [List.getElem?_map, List.getElem?_eq_getElem hal]; rfl), ?_⟩
      have := hro.2 row[at_] (List.getElem_mem hal)
      exact q _ n1 _ kp1 hR1 this.1 this.2
    · have w5 : ¬ way < 5 := fun z => e (decide_eq_true z)
      -- what follows where one more is picked
      have pick2 : ∀ (H2 : Hp) (n2 : Int), Kp r H H2 → H2 r = some (.lst [.int n2]) → tRet (tCall (spPick K) [] E0 (tCons (tVar 0) (tCons (tOp (rIxL K) (tLst (tCons (tC (V.int 5)) (tCons (tC (V.int 1000)) tNil))) (tCall (spPick K) [] E0 (tCons (tVar 0) (tCons (tC (V.int 2)) tNil)))) tNil))) { nx := fun x H' => Q V.non H', rt := Q } [some (.ref r), some (.ref R), some (.int at_), some (.ref ra), some (.int way), none] H2 := by
        intro H2 n2 kp2 hR2
        refine ⟨.ref r, rfl, (by show 2 ≤ sizeLine; decide), fun L nL => ?_⟩
        have nLr : L ≠ r := (ne_of_none hR2 nL).symm
        refine ⟨.ref r, rfl, r, n2, 2, rfl, by rw [upd_ne nLr.symm]; exact hR2, by decide, by decide, fun d n3 d0 d1 => ?_⟩
        obtain ⟨t, ht, hat⟩ := at_ints (ns := [5, 1000]) d0 d1
        have ht2 : ∀ z ∈ ([5, 1000] : List Int), 0 < z ∧ z ≤ 1000 := by decide
        refine ⟨L, [5, 1000].map V.int, d, .int t, rfl, rfl, .inl (.inl (by rw [upd_ne nLr, upd_same]; rfl)), hat, r, n3, t, rfl, upd_same, (ht2 t ht).1, by have := (ht2 t ht).2; omega, fun x n4 x0 x1 => ?_⟩
        exact q x n4 _ (((kp2.new nL).own).own) upd_same x0 (by have := (ht2 t ht).2; omega)
      -- way == 5 or rows == ()
      refine ⟨.int way, rfl, rfl, _, rfl, ite2 (fun e5 => ?_) (fun e5 => ?_)⟩
      · exact pick2 H1 n1 kp1 hR1
      · refine ⟨.ref R, rfl, (by show 0 ≤ sizeLine; decide), fun p np => ?_⟩
        have hp : Fz (upd H1 p (.tup [])) (.ref p) (.tuple []) := Fz.made np .nil
        have hRp : Fz (upd H1 p (.tup [])) (.ref R) (rowsD rows) := (Fz.tup hRR1 fvs1).kt (.new np)
        refine ⟨_, _, hRp.to, hp.to, shaped_rows rows, shaped_rows [], _, rfl, ite2 (fun ee => ?_) (fun ee => ?_)⟩
        · exact pick2 _ n1 (kp1.new np) (by rw [upd_ne (ne_of_none hR1 np)]; exact hR1)
        · have ne : rows ≠ [] := fun z => by
            rw [z] at ee
            exact ee rfl
          have hpos : 0 < rows.length := List.length_pos_iff.mpr ne
          have kp2 : Kp r H (upd H1 p (.tup [])) := kp1.new np
          have hR2 : (upd H1 p (.tup [])) r = some (.lst [.int n1]) := by
            rw [upd_ne (ne_of_none hR1 np)]
            exact hR1
          have hRR2 : (upd H1 p (.tup [])) R = some (.tup vs) := by
            rw [upd_ne (ne_of_none hRR1 np)]
            exact hRR1
          have fvs2 : FzA (upd H1 p (.tup [])) vs (rows.map rowD) := fvs1.kt (.new np)
          generalize upd H1 p (.tup []) = H2 at kp2 hR2 hRR2 fvs2 ⊢
          have hvl : vs.length = rows.length := by
            rw [fvs2.len, List.length_map]
          refine ⟨.ref R, rfl, .ref r, rfl, .ref R, rfl, R, vs, rfl, .inr (.inl (.inl hRR2)), r, n1, _, rfl, hR2, by omega, by omega, fun d n3 d0 d1 => ?_⟩
          have hd : d.toNat < rows.length := by omega
          obtain ⟨v, hv, fv⟩ := fvs2.get (i := d.toNat) (d := rowD rows[d.toNat]) (by rw [List.getElem?_map, List.getElem?_eq_getElem hd]; rfl)
          have rok := hrs rows[d.toNat] (List.getElem_mem hd)
          obtain ⟨rb, rfl, hrb⟩ := row_open (fv.kt (Kt.lst hR2 (o := .lst [.int n3])))
          have hal2 : at_ < rows[d.toNat].length := by
            rw [rok.1]
            exact hat
          refine ⟨R, vs, d, .ref rb, rfl, rfl, .inl (.inl (by rw [upd_ne nRr]; exact hRR2)), L2.at_of (j := d.toNat) (by omega) hv, .int at_, rfl, rb, _, _, .int rows[d.toNat][at_], rfl, rfl, .inl (.inl hrb), atI_nat (by rw [List.getElem?_map, List.getElem?_eq_getElem hal2]; rfl), ?_⟩
          -- min(999, max(0, number + [0, 1, -1][(way - 6) * (1 + pick)]))
          refine ⟨_, rfl, 1, rfl, (by show 3 ≤ sizeLine; decide), fun L nL => ?_⟩
          have hR3 : (upd H2 r (.lst [.int n3])) r = some (.lst [.int n3]) := upd_same
          have kp3 : Kp r H (upd H2 r (.lst [.int n3])) := kp2.own
          have nLr : L ≠ r := (ne_of_none hR3 nL).symm
          refine ⟨.int way, rfl, way, 6, rfl, rfl, .ref r, rfl, r, n3, 2, rfl, by rw [upd_ne nLr.symm]; exact hR3, by decide, by decide, fun f n4 f0 f1 => ?_⟩
          have e52 : way ≠ 5 := fun z => e5 (decide_eq_true (by rw [z]))
          have hw : way = 6 ∨ way = 7 := by omega
          have hi0 : 0 ≤ (way - 6) * (1 + f) := Int.mul_nonneg (by omega) (by omega)
          have hi1 : (way - 6) * (1 + f) < 3 := by
            rcases hw with z | z <;> subst z <;> omega
          obtain ⟨t, ht, hti⟩ := at_ints (ns := [0, 1, -1]) hi0 hi1
          refine ⟨1, f, rfl, rfl, way - 6, 1 + f, rfl, rfl, .inl ⟨by omega, by omega⟩, L, [0, 1, -1].map V.int, _, .int t, rfl, rfl, .inl (.inl (by rw [upd_ne nLr, upd_same]; rfl)), hti, _, t, rfl, rfl, 0, _, rfl, 999, _, rfl, ?_⟩
          refine q _ n4 _ ((kp3.new nL).own) upd_same ?_ ?_
          · have m0 : (0 : Int) ≤ (if rows[d.toNat][at_] + t > 0 then rows[d.toNat][at_] + t else 0) := by
              split <;> omega
            split <;> omega
          · split <;> omega

/-! ### _law_question -/
def spQuestion (K : PySem.W.Frag) : Sp := fun vs H Q _ => ∃ (r : Addr) (n : Int) (tb : V) (cols : List Nat) (rows : List (List Int)), vs = [.ref r, tb] ∧ H r = some (.lst [.int n]) ∧ Fz H tb (tabD cols rows) ∧ Cols cols ∧ 1 ≤ cols.length ∧ cols.length ≤ 26 ∧ RowsOk cols.length rows ∧ rows.length ≤ 1000 ∧
  ∀ (es : List (Nat × Int)) (rc : Option (Nat × Int × Int)) (v : V) (n' : Int) (H' : Hp), Kp r H H' → H' r = some (.lst [.int n']) → Fz H' v (qD es rc) → QOk cols es rc → Q v H'
theorem ok_question (T : Tx K mg Z) : FnOk P w K mg base CX0 3 Z.f_l_question Z.d_l_question ["reel", "table"] (spQuestion K) := by
  have G_l_pick : FnOk P w K mg base CX0 1 Z.f_l_pick Z.d_l_pick ["reel", "many"] (spPick K) := ok_pick T
  have G_l_near : FnOk P w K mg base CX0 2 Z.f_l_near Z.d_l_near ["reel", "rows", "at", "row"] (spNear K) := ok_near T
  refine T.F_l_question.ok sc_l_question (fun vs H Q E h => ?_) (fun cdv A outer s H vs Q E hr h => ?_)
  · obtain ⟨r, n, tb, cols, rows, rfl, _⟩ := h
    rfl
  · obtain ⟨r, n, tb, cols, rows, rfl, hR, fT, hc, hc1, hc2, hrs, hrn, q⟩ := h
    obtain ⟨t, R, vs, rfl, ht, hRR, fvs⟩ := tab_open fT
    refine ⟨_, (pss_cons (ps_asg (pv 1) (pgT K (n := 2) (pgs_cons (pg_name (i := 2) sc_l_question.nd rfl (.inl rfl)) (pgs_cons (pg_name (i := 3) sc_l_question.nd rfl (.inl rfl)) pgs_nil))))
      (pss_cons (ps_set (i := 5) sc_l_question.nd rfl (.inl rfl) (pe_callTy (cTupSq K) (by rfl) T.m_tuple (by decide +kernel) (pa_cons (pe_lc (own := [("letter", 4)]) (tt := tYes) (by rfl) sc_l_question.nd (pi_str (pv 2)) (blkOk_by (own := [("letter", 4)]) (by kernel_rfl)) (fun _ _ _ _ _ => (pg_name (i := 4) sc_l_question.nd rfl (.inl rfl))) (fun _ _ _ _ _ => pts_nil) (fun _ _ _ _ _ => (pe_call G_l_pick (hr.mono (by omega)) (by rfl) T.g_l_pick T.F_l_pick.kp T.b_l_pick .nil pass0 (pa_cons (pv 0) (pa_cons pe_int pa_nil))))) pa_nil)))
      (pss_mid (ps_if (PW.pt (pw_and (pt_cmpR (neDK K hr.units) (pv 3) (pe_tup pa_nil) (nomark _)) (pw_and1 (pt_cmpR op_gt (pe_call G_l_pick (hr.mono (by omega)) (by rfl) T.g_l_pick T.F_l_pick.kp T.b_l_pick .nil pass0 (pa_cons (pv 0) (pa_cons pe_int pa_nil))) pe_int (nomark _))))) (pss_one (ps_set (i := 5) sc_l_question.nd rfl (.inl rfl) (pe_ix (ixT K) (pv 3) (pe_call G_l_pick (hr.mono (by omega)) (by rfl) T.g_l_pick T.F_l_pick.kp T.b_l_pick .nil pass0 (pa_cons (pv 0) (pa_cons (pe_callB (cLenSq K) (by rfl) T.m_len (by decide +kernel) (pa_cons (pv 3) pa_nil)) pa_nil))) (fun _ _ => rfl)))) pss_nil)
      (pss_cons (ps_set (i := 6) sc_l_question.nd rfl (.inr rfl) (pe_lst pa_nil))
      (pss_cons (ps_for PassesOwn.never rfl (pi_enumS (by rfl) T.m_enumerate (pa_cons (pv 2) pa_nil)) (pgT K (n := 2) (pgs_cons (pg_name (i := 7) sc_l_question.nd rfl (.inl rfl)) (pgs_cons (pg_name (i := 4) sc_l_question.nd rfl (.inl rfl)) pgs_nil))) (pss_one (ps_if (pt_cmpR op_lt (pe_call G_l_pick (hr.mono (by omega)) (by rfl) T.g_l_pick T.F_l_pick.kp T.b_l_pick .nil pass0 (pa_cons (pv 0) (pa_cons pe_int pa_nil))) pe_int (nomark _)) (pss_one (ps_expr (bmK K PySem.F.plainAttrs_list PySem.F.slot_list_append PySem.F.type_list_append mt_append (pv 6) (pa_cons (pe_tup (pa_cons (pv 4) (pa_cons (pe_call G_l_near (hr.mono (by omega)) (by rfl) T.g_l_near T.F_l_near.kp T.b_l_near .nil pass0 (pa_cons (pv 0) (pa_cons (pv 3) (pa_cons (pv 7) (pa_cons (pv 5) pa_nil))))) pa_nil))) pa_nil)))) pss_nil)))
      (pss_cons (ps_setLc (i := 8) (own := [("letter", 4)]) (tt := _) (by rfl) sc_l_question.nd rfl rfl (sw_true rfl rfl rfl (by decide +kernel)) (pi_str (pv 2)) (blkOk_by (own := [("letter", 4)]) (by kernel_rfl)) (fun _ _ _ _ _ => (pg_name (i := 4) sc_l_question.nd rfl (.inl rfl))) (fun _ _ _ _ _ => (pts_one (pt_cmp (pc_dnotin (hu_of hr) (pv 4) (pe_callTy (cDictSq K) (by rfl) T.m_dict (by decide +kernel) (pa_cons (pv 6) pa_nil)))))) (fun _ _ _ _ _ => (pv 4)))
      (pss_cons (ps_if (PW.pt (pw_or (pt_cmpR (eqDK K hr.units) (pv 8) (pe_lst pa_nil) (nomark _)) (pw_or1 (pt_cmpR op_eq (pe_call G_l_pick (hr.mono (by omega)) (by rfl) T.g_l_pick T.F_l_pick.kp T.b_l_pick .nil pass0 (pa_cons (pv 0) (pa_cons pe_int pa_nil))) pe_int (nomark _))))) (pss_one (ps_ret (pe_tup (pa_cons (pe_callTy (cTupSq K) (by rfl) T.m_tuple (by decide +kernel) (pa_cons (pv 6) pa_nil)) (pa_cons pe_non pa_nil))))) pss_nil)
      (pss_cons (ps_set (i := 4) sc_l_question.nd rfl (.inl rfl) (pe_ix (ixL K) (pv 8) (pe_call G_l_pick (hr.mono (by omega)) (by rfl) T.g_l_pick T.F_l_pick.kp T.b_l_pick .nil pass0 (pa_cons (pv 0) (pa_cons (pe_callB (cLenSq K) (by rfl) T.m_len (by decide +kernel) (pa_cons (pv 8) pa_nil)) pa_nil))) (fun _ _ => rfl)))
      (pss_cons (ps_set (i := 9) sc_l_question.nd rfl (.inl rfl) (bmK K PySem.F.plainAttrs_str PySem.F.slot_str_index PySem.F.type_str_index mt_sindex (pv 2) (pa_cons (pv 4) pa_nil)))
      (pss_cons (ps_asg (pe_callB cr_sortedI (by rfl) T.m_sorted (by decide +kernel) (pa_cons (pe_lst (pa_cons (pe_call G_l_near (hr.mono (by omega)) (by rfl) T.g_l_near T.F_l_near.kp T.b_l_near .nil pass0 (pa_cons (pv 0) (pa_cons (pv 3) (pa_cons (pv 9) (pa_cons (pv 5) pa_nil))))) (pa_cons (pe_call G_l_near (hr.mono (by omega)) (by rfl) T.g_l_near T.F_l_near.kp T.b_l_near .nil pass0 (pa_cons (pv 0) (pa_cons (pv 3) (pa_cons (pv 9) (pa_cons (pv 5) pa_nil))))) pa_nil))) pa_nil)) (pgU K (n := 2) (pgs_cons (pg_name (i := 10) sc_l_question.nd rfl (.inl rfl)) (pgs_cons (pg_name (i := 11) sc_l_question.nd rfl (.inl rfl)) pgs_nil))))
      (pss_one (ps_ret (pe_tup (pa_cons (pe_callTy (cTupSq K) (by rfl) T.m_tuple (by decide +kernel) (pa_cons (pv 6) pa_nil)) (pa_cons (pe_tup (pa_cons (pv 4) (pa_cons (pv 10) (pa_cons (pe_callB (call_min2 rfl) (by rfl) T.m_min (by decide +kernel) (pa_cons pe_int (pa_cons (pe_op op_add (pv 11) (pe_ix (ixL K) (pe_lst (pa_cons pe_int (pa_cons pe_int (pa_cons pe_int (pa_cons pe_int pa_nil))))) (pe_call G_l_pick (hr.mono (by omega)) (by rfl) T.g_l_pick T.F_l_pick.kp T.b_l_pick .nil pass0 (pa_cons (pv 0) (pa_cons pe_int pa_nil))) (fun _ _ => rfl))) pa_nil))) pa_nil)))) pa_nil))))))))))))))), ?_⟩
    refine ⟨.ref t, rfl, t, [tx cols, .ref R], rfl, .inl (.inl ht), rfl, tx cols, [.ref R], rfl, .ref R, [], rfl, rfl, ?_⟩
    have ntr : t ≠ r := fun z => by
      rw [z, hR] at ht
      cases ht
    have nRr : R ≠ r := fun z => by
      rw [z, hR] at hRR
      cases hRR
    -- row
    refine ⟨tx cols, rfl, _, rfl, fun D nD => lc_it walk_str (fun i H' => ∃ (row : List Int) (n3 : Int), Kp r H H' ∧ H' r = some (.lst [.int n3]) ∧ H' D = some (.lst (row.map V.int)) ∧ row.length = i ∧ ∀ x ∈ row, 0 ≤ x ∧ x < 1000)
      ⟨[], n, Kp.rfl'.new nD, by rw [upd_ne (ne_of_none hR nD)]; exact hR, upd_same, rfl, fun t ht => nomatch ht⟩ (fun _ _ _ _ => trivial) (fun i x H3 H4 hi hP hY => ?_) (fun H3 hP => ?_)⟩
    · obtain ⟨row, n3, kp3, hR3, hD3, hl3, ht3⟩ := hP
      obtain ⟨rfl, c, hc4, rfl⟩ := hY
      have nDr : D ≠ r := (ne_of_none hR nD).symm
      have hi2 : i < cols.length := hi
      refine ⟨rfl, .ref r, rfl, r, n3, 5, rfl, hR3, by decide, by decide, fun e n4 e0 e1 => ?_⟩
      refine ⟨row.map V.int, by rw [upd_ne nDr]; exact hD3, by rw [List.length_map]; exact small1000 (by omega), row ++ [e], n4, (kp3.own).mut nD, by rw [upd_ne nDr.symm, upd_same], by rw [upd_same, List.map_append]; rfl, by rw [List.length_append, hl3]; rfl, fun u hu => ?_⟩
      rcases List.mem_append.mp hu with hu | hu
      · exact ht3 u hu
      · rw [List.mem_singleton.mp hu]
        exact ⟨e0, by omega⟩
    · obtain ⟨row0, n3, kp3, hR3, hD3, hl3, ht3⟩ := hP
      refine ⟨D, _, rfl, .inl ⟨.inl (.inl hD3), fun ra nra => ?_⟩⟩
      have hrow0 : RowOk cols.length row0 := ⟨hl3, ht3⟩
      have kpa : Kp r H (upd H3 ra (.tup (row0.map V.int))) := kp3.new nra
      have hRa : (upd H3 ra (.tup (row0.map V.int))) r = some (.lst [.int n3]) := by
        rw [upd_ne (ne_of_none hR3 nra)]
        exact hR3
      have fra : Fz (upd H3 ra (.tup (row0.map V.int))) (.ref ra) (rowD row0) := row_made nra
      generalize upd H3 ra (.tup (row0.map V.int)) = Ha at kpa hRa fra ⊢
      -- the row asked by
      refine ⟨fun σ H' => ∃ (rv : V) (row : List Int) (n' : Int), σ = [some (.ref r), some (.ref t), some (tx cols), some (.ref R), none, some rv, none, none, none, none, none, none] ∧ Kp r H H' ∧ H' r = some (.lst [.int n']) ∧ Fz H' rv (rowD row) ∧ RowOk cols.length row, ?_, ?_⟩
      · refine ⟨.ref R, rfl, (by show 0 ≤ sizeLine; decide), fun p np => ?_⟩
        have kpp : Kp r H (upd Ha p (.tup [])) := kpa.new np
        have hRp : (upd Ha p (.tup [])) r = some (.lst [.int n3]) := by
          rw [upd_ne (ne_of_none hRa np)]
          exact hRa
        have frp : Fz (upd Ha p (.tup [])) (.ref ra) (rowD row0) := fra.kt (.new np)
        have hp : Fz (upd Ha p (.tup [])) (.ref p) (.tuple []) := Fz.made np .nil
        have ktp : Kt H (upd Ha p (.tup [])) := kpp.kt hR
        have fRp : Fz (upd Ha p (.tup [])) (.ref R) (rowsD rows) := (Fz.tup hRR fvs).kt ktp
        generalize upd Ha p (.tup []) = Hp1 at kpp hRp frp hp fRp ktp ⊢
        refine ⟨_, _, fRp.to, hp.to, shaped_rows rows, shaped_rows [], _, rfl, ite2 (fun ee => ?_) (fun ee => ?_)⟩
        · have ne : rows ≠ [] := fun z => by
            rw [z] at ee
            exact absurd ee (by decide)
          have hpos : 0 < rows.length := List.length_pos_iff.mpr ne
          refine ⟨.ref r, rfl, r, n3, 6, rfl, hRp, by decide, by decide, fun d n4 d0 d1 => ⟨d, 0, rfl, rfl, _, rfl, ite2 (fun e6 => ?_) (fun e6 => ?_)⟩⟩
          · have hRR1 : (upd Hp1 r (.lst [.int n4])) R = some (.tup vs) := by
              rw [upd_ne nRr]
              exact ktp R _ hRR
            have hR5 : (upd Hp1 r (.lst [.int n4])) r = some (.lst [.int n4]) := upd_same
            have kt5 : Kt H (upd Hp1 r (.lst [.int n4])) := ktp.trans (.lst hRp)
            have kp5 : Kp r H (upd Hp1 r (.lst [.int n4])) := kpp.own
            generalize upd Hp1 r (.lst [.int n4]) = H5 at hRR1 hR5 kt5 kp5 ⊢
            have fvs5 := fvs.kt kt5
            have hvl : vs.length = rows.length := by
              rw [fvs5.len, List.length_map]
            refine ⟨.ref R, rfl, .ref r, rfl, .ref R, rfl, R, vs, rfl, .inr (.inl (.inl hRR1)), r, n4, _, rfl, hR5, by omega, by omega, fun f n6 f0 f1 => ?_⟩
            have hf : f.toNat < rows.length := by omega
            obtain ⟨v, hv, fv⟩ := fvs5.get (i := f.toNat) (d := rowD rows[f.toNat]) (by rw [List.getElem?_map, List.getElem?_eq_getElem hf]; rfl)
            refine ⟨R, vs, f, v, rfl, rfl, .inl (.inl (by rw [upd_ne nRr]; exact hRR1)), L2.at_of (j := f.toNat) (by omega) hv, ?_⟩
            exact ⟨v, rows[f.toNat], n6, rfl, kp5.own, upd_same, fv.kt (.lst hR5), hrs _ (List.getElem_mem hf)⟩
          · exact ⟨.ref ra, row0, n4, rfl, kpp.own, upd_same, frp.kt (.lst hRp), hrow0⟩
        · exact ⟨.ref ra, row0, n3, rfl, kpp, hRp, frp, hrow0⟩
      · intro σ1 H1 hM
        obtain ⟨rv, row, n1, rfl, kp1, hR1, frv, hrow⟩ := hM
        have kt1 : Kt H H1 := kp1.kt hR
        -- equals = []
        refine ⟨Nat.zero_le _, fun E nE => ?_⟩
        have nEr : E ≠ r := (ne_of_none hR1 nE).symm
        have nEH : H E = none := Kp.none kp1 nEr nE
        refine ⟨tx cols, rfl, _, rfl, for_it walk_es (fun i σ H' => ∃ (es : List (Nat × Int)) (ps : List V) (n' : Int) (y4 y7 : Option V), σ = [some (.ref r), some (.ref t), some (tx cols), some (.ref R), y4, some rv, some (.ref E), y7, none, none, none, none] ∧ Kp r H H' ∧ Kt H1 H' ∧ H' r = some (.lst [.int n']) ∧ H' E = some (.lst ps) ∧ FzA H' ps (es.map eqD) ∧ (es.map (·.1)).Sublist (cols.take i) ∧ ∀ p ∈ es, 0 ≤ p.2 ∧ p.2 < 1000)
          ⟨[], [], n1, none, none, rfl, kp1.new nE, .new nE, by rw [upd_ne nEr.symm]; exact hR1, upd_same, .nil, List.nil_sublist _, fun _ h => nomatch h⟩ (fun _ _ _ _ _ => trivial) (fun i x σ H3 H4 hi hP hY => ?_) (fun σ H3 hP => ?_)⟩
        · obtain ⟨es, ps, n3, y4, y7, rfl, kp3, kt3, hR3, hE3, fps, hsub, hes⟩ := hP
          obtain ⟨T0, x1, x2, rfl, nT, rfl, ex1, ex2⟩ := hY
          have hi2 : i < cols.length := hi
          have e1 : x1 = .int (i : Nat) := (Option.some.inj ex1).symm
          have e2 : x2 = sg cols[i] := by
            have : (some (sg cols[i]) : Option V) = some x2 := by
              rw [← ex2]
              simp [hi2]
            exact (Option.some.inj this).symm
          subst e1 e2
          have kt4 : Kt H3 (upd H3 T0 (.tup [.int (i : Nat), sg cols[i]])) := .new nT
          have kp4 : Kp r H (upd H3 T0 (.tup [.int (i : Nat), sg cols[i]])) := kp3.new nT
          have hR4 : (upd H3 T0 (.tup [.int (i : Nat), sg cols[i]])) r = some (.lst [.int n3]) := by
            rw [upd_ne (ne_of_none hR3 nT)]
            exact hR3
          have hE4 : (upd H3 T0 (.tup [.int (i : Nat), sg cols[i]])) E = some (.lst ps) := by
            rw [upd_ne (ne_of_none hE3 nT)]
            exact hE3
          refine ⟨T0, [.int (i : Nat), sg cols[i]], rfl, .inl (.inl upd_same), rfl, .int (i : Nat), [sg cols[i]], rfl, sg cols[i], [], rfl, rfl, ?_⟩
          have kt34 : Kt H1 (upd H3 T0 (.tup [.int (i : Nat), sg cols[i]])) := kt3.trans kt4
          have fps4 := fps.kt kt4
          clear kt4
          generalize upd H3 T0 (.tup [.int (i : Nat), sg cols[i]]) = H4 at kp4 hR4 hE4 kt34 fps4 ⊢
          have hsub1 : (es.map (·.1)).Sublist (cols.take (i + 1)) := hsub.trans (List.take_sublist_take_left (Nat.le_succ i))
          refine ⟨.ref r, rfl, r, n3, 5, rfl, hR4, by decide, by decide, fun d n5 d0 d1 => ⟨d, 2, rfl, rfl, _, rfl, ite2 (fun e => ?_) (fun e => ?_)⟩⟩
          · have kt5 : Kt H4 (upd H4 r (.lst [.int n5])) := .lst hR4
            have hE5 : (upd H4 r (.lst [.int n5])) E = some (.lst ps) := by
              rw [upd_ne nEr]
              exact hE4
            have hR5 : (upd H4 r (.lst [.int n5])) r = some (.lst [.int n5]) := upd_same
            have kp5 : Kp r H (upd H4 r (.lst [.int n5])) := kp4.own
            have fps5 := fps4.kt kt5
            have kt15 := kt34.trans kt5
            clear kt5
            generalize upd H4 r (.lst [.int n5]) = H5 at hE5 hR5 kp5 fps5 kt15 ⊢
            have fR5 : Fz H5 (.ref R) (rowsD rows) := (Fz.tup hRR fvs).kt (kt1.trans kt15)
            refine ⟨.ref E, rfl, .inl ⟨rfl, _, .inl (.inl hE5)⟩, sg cols[i], rfl, .ref r, rfl, .ref R, rfl, .int (i : Nat), rfl, rv, rfl, r, n5, .ref R, rows, i, rv, row, cols.length, rfl, hR5, fR5, frv.kt kt15, hrs, hrow, hi2, hrn, fun x n6 H6 kp6 hR6 x0 x1 => ?_⟩
            refine ⟨(by show 2 ≤ sizeLine; decide), fun p np => ?_⟩
            have hE6 : H6 E = some (.lst ps) := kp6 E _ nEr hE5
            have hE7 : (upd H6 p (.tup [sg cols[i], .int x])) E = some (.lst ps) := by
              rw [upd_ne (ne_of_none hE6 np)]
              exact hE6
            have kt6 : Kt H5 H6 := kp6.kt hR5
            have kt7 : Kt H6 (upd H6 p (.tup [sg cols[i], .int x])) := .new np
            have fp : Fz (upd H6 p (.tup [sg cols[i], .int x])) (.ref p) (eqD (cols[i], x)) := Fz.made np (.cons (.str _) (.cons (.int _) .nil))
            have hpl : ps.length ≤ 26 := by
              rw [fps.len, List.length_map]
              have := hsub.length_le
              rw [List.length_map, List.length_take] at this
              omega
            refine ⟨E, ps, .ref p, rfl, rfl, hE7, small1000 (by omega), es ++ [(cols[i], x)], ps ++ [.ref p], n6, _, _, rfl, ?_, ?_, ?_, upd_same, ?_, ?_, ?_⟩
            · exact ((kp5.trans kp6).new np).mut nEH
            · exact ((kt15.trans kt6).trans kt7).trans (.lst hE7)
            · rw [upd_ne nEr.symm, upd_ne (ne_of_none hR6 np)]
              exact hR6
            · rw [List.map_append]
              exact (FzA.snoc ((fps5.kt kt6).kt kt7) fp).kt (.lst hE7)
            · rw [List.map_append, List.take_succ_eq_append_getElem hi2]
              exact hsub.append (List.Sublist.refl _)
            · intro u hu
              rcases List.mem_append.mp hu with hu | hu
              · exact hes u hu
              · rw [List.mem_singleton.mp hu]
                exact ⟨x0, x1⟩
          · exact ⟨es, ps, n5, _, _, rfl, kp4.own, kt34.trans (.lst hR4), upd_same, by rw [upd_ne nEr]; exact hE4, fps4.kt (.lst hR4), hsub1, hes⟩
        · obtain ⟨es, ps, n3, y4, y7, rfl, kp3, kt3, hR3, hE3, fps, hsub, hes⟩ := hP
          have hsub2 : (es.map (·.1)).Sublist cols := by
            have : cols.take (⟨cols.toArray⟩ : Str).cps.size = cols := List.take_of_length_le (Nat.le_refl _)
            rw [this] at hsub
            exact hsub
          have hup : (es.map (·.1)).Pairwise (· < ·) := hc.up.sublist hsub2
          have hnd : (es.map (·.1)).Nodup := hc.nd.sublist hsub2
          have hok : ∀ p ∈ es, p.1 ∈ cols ∧ 0 ≤ p.2 ∧ p.2 < 1000 := fun p hp => ⟨hsub2.subset (List.mem_map_of_mem hp), hes p hp⟩
          have hesl : es.length ≤ cols.length := by
            have := hsub2.length_le
            rw [List.length_map] at this
            exact this
          have nRH : ∀ {H' : Hp}, Kt H1 H' → Fz H' (.ref R) (rowsD rows) := fun k => (Fz.tup hRR fvs).kt (kt1.trans k)
          -- left
          refine ⟨tx cols, rfl, _, rfl, fun D nD => lc_it walk_str (fun i H' => Kp r H H' ∧ Kt H3 H' ∧ H' r = some (.lst [.int n3]) ∧ H' E = some (.lst ps) ∧ H' D = some (.lst (((cols.take i).filter fun c => !decide (c ∈ es.map (·.1))).map sg)))
            ⟨kp3.new nD, .new nD, by rw [upd_ne (ne_of_none hR3 nD)]; exact hR3, by rw [upd_ne (ne_of_none hE3 nD)]; exact hE3, upd_same⟩ (fun _ _ _ _ => trivial) (fun i x H4 H5 hi hP hY => ?_) (fun H4 hP => ?_)⟩
          · obtain ⟨kp4, kt4, hR4, hE4, hD4⟩ := hP
            obtain ⟨rfl, c, hc5, rfl⟩ := hY
            have hi2 : i < cols.length := hi
            have ec : cols[i] = c := by
              have : (⟨cols.toArray⟩ : Str).cps[i]? = some cols[i] := by simp [hi2]
              rw [this] at hc5
              exact Option.some.inj hc5
            obtain ⟨pas, rfl, hpas⟩ := pairs_of (K := K) (fps.kt kt4)
            refine ⟨rfl, sg c, rfl, .ref E, rfl, E, pas, es.map kvI, rfl, .inl (.inl hE4), hpas, fun d nd => ?_⟩
            rw [merge_es hnd]
            have nDH : H D = none := Kp.none kp3 (ne_of_none hR3 nD).symm nD
            have nDr : D ≠ r := (ne_of_none hR3 nD).symm
            have nDE : D ≠ E := (ne_of_none hE3 nD).symm
            have kt5 : Kt H3 (upd H5 d (.dK (es.map kvI))) := kt4.trans (.new nd)
            have kp5 : Kp r H (upd H5 d (.dK (es.map kvI))) := kp4.new nd
            have hR5 : (upd H5 d (.dK (es.map kvI))) r = some (.lst [.int n3]) := by
              rw [upd_ne (ne_of_none hR4 nd)]
              exact hR4
            have hE5 : (upd H5 d (.dK (es.map kvI))) E = some (.lst (pas.map V.ref)) := by
              rw [upd_ne (ne_of_none hE4 nd)]
              exact hE4
            have hD5 : (upd H5 d (.dK (es.map kvI))) D = some (.lst (((cols.take i).filter fun c => !decide (c ∈ es.map (·.1))).map sg)) := by
              rw [upd_ne (ne_of_none hD4 nd)]
              exact hD4
            have tk : cols.take (i + 1) = cols.take i ++ [c] := by
              rw [List.take_succ_eq_append_getElem hi2, ec]
            refine ⟨d, _, rfl, DGet.k (k := Sum.inr (sS c)) upd_same, _, rfl, ?_⟩
            rw [val_es]
            refine ite2 (fun e => ?_) (fun e => ?_)
            · have e2 : (!decide (c ∈ es.map (·.1))) = true := e
              refine ⟨sg c, rfl, _, hD5, ?_, kp5.mut nDH, kt5.trans (.lst hD5), by rw [upd_ne nDr.symm]; exact hR5, by rw [upd_ne nDE.symm]; exact hE5, ?_⟩
              · rw [List.length_map]
                have := List.length_filter_le (fun c => !decide (c ∈ es.map (·.1))) (cols.take i)
                rw [List.length_take] at this
                exact small1000 (by omega)
              · rw [upd_same, tk, List.filter_append, List.filter_cons, if_pos e2, List.map_append]
                rfl
            · have e2 : ¬ (!decide (c ∈ es.map (·.1))) = true := e
              refine ⟨kp5, kt5, hR5, hE5, ?_⟩
              rw [hD5, tk, List.filter_append, List.filter_cons, if_neg e2]
              simp
          · obtain ⟨kp4, kt4, hR4, hE4, hD4⟩ := hP
            have tkall : cols.take (⟨cols.toArray⟩ : Str).cps.size = cols := List.take_of_length_le (Nat.le_refl _)
            rw [tkall] at hD4
            generalize hll : (cols.filter fun c => !decide (c ∈ es.map (·.1))) = ll at hD4
            have hlm : ∀ c ∈ ll, c ∈ cols ∧ c ∉ es.map (·.1) := fun c h => by
              rw [← hll] at h
              obtain ⟨h1, h2⟩ := List.mem_filter.mp h
              exact ⟨h1, by simpa using h2⟩
            have kt14 : Kt H1 H4 := kt3.trans kt4
            have fps4 := fps.kt kt4
            have retN : ∀ (H' : Hp) (n' : Int), Kp r H H' → H' r = some (.lst [.int n']) → H' E = some (.lst ps) → FzA H' ps (es.map eqD) → tRet (tTup (tCons (tCB (rTupSq K) (tCons (tVar 6) tNil)) (tCons (tC V.non) tNil))) { nx := fun x H' => Q V.non H', rt := Q } [some (.ref r), some (.ref t), some (tx cols), some (.ref R), y4, some rv, some (.ref E), y7, some (.ref D), none, none, none] H' := by
              intro H' n' kp' hR' hE' f'
              refine ⟨.ref E, rfl, E, ps, rfl, .inl ⟨.inl (.inl hE'), fun te nte => ⟨(by show 2 ≤ sizeLine; decide), fun v nv => ?_⟩⟩⟩
              have f1 : Fz (upd H' te (.tup ps)) (.ref te) (eqsD es) := Fz.made nte f'
              have hR2 : (upd H' te (.tup ps)) r = some (.lst [.int n']) := by
                rw [upd_ne (ne_of_none hR' nte)]
                exact hR'
              exact q es none (.ref v) n' _ ((kp'.new nte).new nv) (by rw [upd_ne (ne_of_none hR2 nv)]; exact hR2) (Fz.made nv (.cons f1 (.cons .non .nil))) ⟨hup, hok, hesl, fun c lo hi z => nomatch z⟩
            -- left == [] or ..
            refine ⟨.ref D, rfl, (by show 0 ≤ sizeLine; decide), fun p np => ?_⟩
            have hDp : (upd H4 p (.lst [])) D = some (.lst (ll.map sg)) := by
              rw [upd_ne (ne_of_none hD4 np)]
              exact hD4
            have kpp : Kp r H (upd H4 p (.lst [])) := kp4.new np
            have hRp : (upd H4 p (.lst [])) r = some (.lst [.int n3]) := by
              rw [upd_ne (ne_of_none hR4 np)]
              exact hR4
            have hEp : (upd H4 p (.lst [])) E = some (.lst ps) := by
              rw [upd_ne (ne_of_none hE4 np)]
              exact hE4
            have fpsp := fps4.kt (Kt.new np (o := .lst []))
            have ktp : Kt H1 (upd H4 p (.lst [])) := kt14.trans (.new np)
            have hpp : (upd H4 p (.lst [])) p = some (.lst []) := upd_same
            generalize upd H4 p (.lst []) = H5 at hDp kpp hRp hEp fpsp ktp hpp ⊢
            refine ⟨_, _, .lst (.inl (.inl hDp)) (dp_signs ll), .lst (.inl (.inl hpp)) .nil, shaped_signs (fun c h => (hc.az c (hlm c h).1).2), shaped_signs (l := []) (fun c h => nomatch h), _, rfl, ite2 (fun e => ?_) (fun e => ?_)⟩
            · exact retN H5 n3 kpp hRp hEp fpsp
            · have lne : ll ≠ [] := fun z => by
                rw [z] at e
                exact e rfl
              have lpos : 0 < ll.length := List.length_pos_iff.mpr lne
              have llen : ll.length ≤ 26 := by
                rw [← hll]
                have := List.length_filter_le (fun c => !decide (c ∈ es.map (·.1))) cols
                omega
              refine ⟨.ref r, rfl, r, n3, 2, rfl, hRp, by decide, by decide, fun d n6 d0 d1 => ⟨rfl, _, rfl, ite2 (fun e6 => ?_) (fun e6 => ?_)⟩⟩
              · exact retN _ n6 kpp.own upd_same (by rw [upd_ne nEr]; exact hEp) (fpsp.kt (.lst hRp))
              · have nDr : D ≠ r := (ne_of_none hR3 nD).symm
                have hD6 : (upd H5 r (.lst [.int n6])) D = some (.lst (ll.map sg)) := by
                  rw [upd_ne nDr]
                  exact hDp
                have hE6 : (upd H5 r (.lst [.int n6])) E = some (.lst ps) := by
                  rw [upd_ne nEr]
                  exact hEp
                have hR6 : (upd H5 r (.lst [.int n6])) r = some (.lst [.int n6]) := upd_same
                have kp6 : Kp r H (upd H5 r (.lst [.int n6])) := kpp.own
                have kt6 : Kt H1 (upd H5 r (.lst [.int n6])) := ktp.trans (.lst hRp)
                have fps6 := fpsp.kt (Kt.lst hRp (o := .lst [.int n6]))
                generalize upd H5 r (.lst [.int n6]) = H6 at hD6 hE6 hR6 kp6 kt6 fps6 ⊢
                -- letter
                refine ⟨.ref D, rfl, .ref r, rfl, .ref D, rfl, D, _, rfl, .inl (.inl (.inl hD6)), r, n6, _, rfl, hR6, by rw [List.length_map]; omega, by rw [List.length_map]; omega, fun f n7 f0 f1 => ?_⟩
                rw [List.length_map] at f1
                have hf : f.toNat < ll.length := by omega
                have hlc := hlm ll[f.toNat] (List.getElem_mem hf)
                have hD7 : (upd H6 r (.lst [.int n7])) D = some (.lst (ll.map sg)) := by
                  rw [upd_ne nDr]
                  exact hD6
                have hE7 : (upd H6 r (.lst [.int n7])) E = some (.lst ps) := by
                  rw [upd_ne nEr]
                  exact hE6
                have hR7 : (upd H6 r (.lst [.int n7])) r = some (.lst [.int n7]) := upd_same
                have kp7 : Kp r H (upd H6 r (.lst [.int n7])) := kp6.own
                have kt7 : Kt H1 (upd H6 r (.lst [.int n7])) := kt6.trans (.lst hR6)
                have fps7 := fps6.kt (Kt.lst hR6 (o := .lst [.int n7]))
                generalize upd H6 r (.lst [.int n7]) = H7 at hD7 hE7 hR7 kp7 kt7 fps7 ⊢
                generalize hcc : ll[f.toNat] = cc at hlc
                refine ⟨D, ll.map sg, f, sg cc, rfl, rfl, .inl (.inl hD7), L2.at_of (j := f.toNat) (by omega) (by rw [List.getElem?_map, List.getElem?_eq_getElem hf, hcc]; rfl), ?_⟩
                -- at
                obtain ⟨orest, hocc⟩ := ix_one hlc.1
                have hidx : cols.idxOf cc < cols.length := List.idxOf_lt_length_of_mem hlc.1
                refine ⟨tx cols, rfl, rfl, sg cc, rfl, _, _, cols.idxOf cc, orest, rfl, rfl, hocc, ?_⟩
                -- low, high
                refine ⟨.ref r, rfl, .ref R, rfl, .int (cols.idxOf cc : Nat), rfl, rv, rfl, r, n7, .ref R, rows, _, rv, row, cols.length, rfl, hR7, nRH kt7, frv.kt kt7, hrs, hrow, hidx, hrn, fun x1 n8 H8 kp8 hR8 x10 x11 => ?_⟩
                have kt8 : Kt H1 H8 := kt7.trans (kp8.kt hR7)
                refine ⟨.ref r, rfl, .ref R, rfl, .int (cols.idxOf cc : Nat), rfl, rv, rfl, r, n8, .ref R, rows, _, rv, row, cols.length, rfl, hR8, nRH kt8, frv.kt kt8, hrs, hrow, hidx, hrn, fun x2 n9 H9 kp9 hR9 x20 x21 => ?_⟩
                refine ⟨(by show 2 ≤ sizeLine; decide), fun L nL => ?_⟩
                refine ⟨L, [x1, x2], rfl, .inl (.inl upd_same), fun ns p2 hper hpw np2 => ?_⟩
                have hnl : ns.length = 2 := hper.length_eq
                obtain ⟨lo, hi, rfl⟩ : ∃ lo hi, ns = [lo, hi] := by
                  match ns, hnl with
                  | [a, b], _ => exact ⟨a, b, rfl⟩
                have hlohi : lo ≤ hi := (List.pairwise_cons.mp hpw).1 hi (by simp)
                have hbd : ∀ z ∈ [lo, hi], 0 ≤ z ∧ z < 1000 := fun z hz => by
                  have := hper.mem_iff.mp hz
                  rcases List.mem_cons.mp this with h | h
                  · rw [h]
                    exact ⟨x10, x11⟩
                  · rw [List.mem_singleton.mp h]
                    exact ⟨x20, x21⟩
                have blo := hbd lo (by simp)
                have bhi := hbd hi (by simp)
                refine ⟨p2, [.int lo, .int hi], rfl, .inl (.inl upd_same), rfl, .int lo, [.int hi], rfl, .int hi, [], rfl, rfl, ?_⟩
                have kpA : Kp r H (upd (upd H9 L (.lst [.int x1, .int x2])) p2 (.lst (List.map V.int [lo, hi]))) := (((kp7.trans kp8).trans kp9).new nL).new np2
                have hEB : H9 E = some (.lst ps) := kp9 E _ nEr (kp8 E _ nEr hE7)
                have hEC : (upd H9 L (.lst [.int x1, .int x2])) E = some (.lst ps) := by
                  rw [upd_ne (ne_of_none hEB nL)]
                  exact hEB
                have hEA : (upd (upd H9 L (.lst [.int x1, .int x2])) p2 (.lst (List.map V.int [lo, hi]))) E = some (.lst ps) := by
                  rw [upd_ne (ne_of_none hEC np2)]
                  exact hEC
                have hRC : (upd H9 L (.lst [.int x1, .int x2])) r = some (.lst [.int n9]) := by
                  rw [upd_ne (ne_of_none hR9 nL)]
                  exact hR9
                have hRA : (upd (upd H9 L (.lst [.int x1, .int x2])) p2 (.lst (List.map V.int [lo, hi]))) r = some (.lst [.int n9]) := by
                  rw [upd_ne (ne_of_none hRC np2)]
                  exact hRC
                have fpsA : FzA (upd (upd H9 L (.lst [.int x1, .int x2])) p2 (.lst (List.map V.int [lo, hi]))) ps (es.map eqD) := (((fps7.kt (kp8.kt hR7)).kt (kp9.kt hR8)).kt (.new nL)).kt (.new np2)
                generalize upd (upd H9 L (.lst [.int x1, .int x2])) p2 (.lst (List.map V.int [lo, hi])) = HA at kpA hEA hRA fpsA ⊢
                -- the end
                refine ⟨.ref E, rfl, E, ps, rfl, .inl ⟨.inl (.inl hEA), fun te nte => ?_⟩⟩
                have f1 : Fz (upd HA te (.tup ps)) (.ref te) (eqsD es) := Fz.made nte fpsA
                have kpB : Kp r H (upd HA te (.tup ps)) := kpA.new nte
                have hRB : (upd HA te (.tup ps)) r = some (.lst [.int n9]) := by
                  rw [upd_ne (ne_of_none hRA nte)]
                  exact hRA
                generalize upd HA te (.tup ps) = HB at f1 kpB hRB ⊢
                refine ⟨sg cc, rfl, .int lo, rfl, .int hi, rfl, (by show 4 ≤ sizeLine; decide), fun L2 nL2 => ?_⟩
                have nL2r : L2 ≠ r := (ne_of_none hRB nL2).symm
                refine ⟨.ref r, rfl, r, n9, 4, rfl, by rw [upd_ne nL2r.symm]; exact hRB, by decide, by decide, fun g nA g0 g1 => ?_⟩
                obtain ⟨tt, htt, htat⟩ := at_ints (ns := [0, 0, 1, 400]) g0 g1
                have htt2 : 0 ≤ tt := by
                  have : ∀ z ∈ ([0, 0, 1, 400] : List Int), 0 ≤ z := by decide
                  exact this tt htt
                refine ⟨L2, [0, 0, 1, 400].map V.int, g, .int tt, rfl, rfl, .inl (.inl (by rw [upd_ne nL2r, upd_same]; rfl)), htat, hi, tt, rfl, rfl, 999, _, rfl, (by show 3 ≤ sizeLine; decide), fun tr ntr2 => ⟨(by show 2 ≤ sizeLine; decide), fun v nv => ?_⟩⟩
                have hRC2 : (upd (upd HB L2 (.lst [.int 0, .int 0, .int 1, .int 400])) r (.lst [.int nA])) r = some (.lst [.int nA]) := upd_same
                have kpC : Kp r H (upd (upd HB L2 (.lst [.int 0, .int 0, .int 1, .int 400])) r (.lst [.int nA])) := (kpB.new nL2).own
                have ktC : Kt HB (upd (upd HB L2 (.lst [.int 0, .int 0, .int 1, .int 400])) r (.lst [.int nA])) := (Kt.new nL2).trans (.lst (by rw [upd_ne nL2r.symm]; exact hRB))
                have fr := Fz.made ntr2 (.cons (.str (sS cc)) (.cons (.int lo) (.cons (.int (if hi + tt < 999 then hi + tt else 999)) .nil)))
                refine q es (some (cc, lo, if hi + tt < 999 then hi + tt else 999)) (.ref v) nA _ ((kpC.new ntr2).new nv) ?_ (Fz.made nv (.cons ((f1.kt ktC).kt (.new ntr2)) (.cons fr .nil))) ⟨hup, hok, hesl, fun c l2 h2 z => ?_⟩
                · exact keep_new (keep_new hRC2 ntr2) nv
                · have z2 := Option.some.inj z
                  have e1 : cc = c := congrArg (·.1) z2
                  have e2 : lo = l2 := congrArg (·.2.1) z2
                  have e3 : (if hi + tt < 999 then hi + tt else 999) = h2 := congrArg (·.2.2) z2
                  rw [← e1, ← e2, ← e3]
                  refine ⟨hlc.1, hlc.2, blo.1, ?_, ?_⟩
                  · split <;> omega
                  · split <;> omega

/-! ### spans -/
def spSpans (K : PySem.W.Frag) : Sp := fun vs H Q _ => ∃ (qv : V) (cols : List Nat) (es : List (Nat × Int)) (rc : Option (Nat × Int × Int)), vs = [qv] ∧ Fz H qv (qD es rc) ∧ QOk cols es rc ∧ es.length ≤ 1000 ∧
  ∀ (d : Addr) (kvs : List (Key × V)) (H' : Hp), Same H H' → H d = none → H' d = some (.dK kvs) → SpA H' kvs (spanL es rc) → Q (.ref d) H'
theorem ok_spans (T : Tx K mg Z) : FnOk P w K mg base CX0 1 Z.f_spans Z.d_spans ["question"] (spSpans K) := by
  refine T.F_spans.ok sc_spans (fun vs H Q E h => ?_) (fun cdv A outer s H vs Q E hr h => ?_)
  · obtain ⟨qv, cols, es, rc, rfl, _⟩ := h
    rfl
  · obtain ⟨qv, cols, es, rc, rfl, fq, hok, hel, q⟩ := h
    obtain ⟨qa, xs, rfl, hqa, fx⟩ := fq.open
    obtain ⟨x, y, rfl, fx, fy⟩ := fx.two
    obtain ⟨ea, ps, rfl, hea, fps⟩ := fx.open
    have hndE : (es.map (·.1)).Nodup := hok.up.imp fun {a b} q => by
      have : a < b := q
      omega
    refine ⟨_, (pss_cons (ps_asg (pv 0) (pgT K (n := 2) (pgs_cons (pg_name (i := 1) sc_spans.nd rfl (.inl rfl)) (pgs_cons (pg_name (i := 2) sc_spans.nd rfl (.inl rfl)) pgs_nil))))
      (pss_cons (ps_setDc (i := 4) (own := [("letter", 3), ("number", 7)]) (tt := tYes) (by rfl) sc_spans.nd rfl rfl (sw_dict rfl rfl rfl (by decide +kernel)) (piT K (pv 1)) (blkOk_by (own := [("letter", 3), ("number", 7)]) (by kernel_rfl)) (fun _ _ _ _ _ => (pgT K (n := 2) (pgs_cons (pg_name (i := 3) sc_spans.nd rfl (.inl rfl)) (pgs_cons (pg_name (i := 7) sc_spans.nd rfl (.inl rfl)) pgs_nil)))) (fun _ _ _ _ _ => pts_nil) (fun _ _ _ _ _ => (pv 3)) (fun _ _ _ _ _ => (pe_tup (pa_cons (pv 7) (pa_cons (pv 7) pa_nil)))))
      (pss_mid (ps_if (pt_cmpR op_notN (pv 2) pe_non (nomark _)) (pss_cons (ps_asg (pv 2) (pgT K (n := 3) (pgs_cons (pg_name (i := 3) sc_spans.nd rfl (.inl rfl)) (pgs_cons (pg_name (i := 5) sc_spans.nd rfl (.inl rfl)) (pgs_cons (pg_name (i := 6) sc_spans.nd rfl (.inl rfl)) pgs_nil)))))
      (pss_one (ps_dput (hu_of hr) (pv 4) (pv 3) (pe_tup (pa_cons (pv 5) (pa_cons (pv 6) pa_nil))) rfl))) pss_nil)
      (pss_one (ps_ret (pv 4)))))), ?_⟩
    refine ⟨.ref qa, rfl, qa, [.ref ea, y], rfl, .inl (.inl hqa), rfl, .ref ea, [y], rfl, y, [], rfl, rfl, ?_⟩
    refine ⟨.ref ea, rfl, ea, rfl, ⟨_, .inl (.inl hea)⟩, fun D nD => dc_tup (xs := ps) (fun i H' => ∃ kvs, Same H H' ∧ H' D = some (.dK kvs) ∧ SpA H' kvs ((es.take i).map fun p => (p.1, p.2, p.2)))
      ⟨[], Same.new (Same.refl H) nD, upd_same, .nil⟩ (fun i H' _ hP => ?_) (fun i x H3 hx hP => ?_) (fun H3 hP => ?_)⟩
    · obtain ⟨kvs, sm, _⟩ := hP
      exact .inl (.inl (sm _ _ hea))
    · obtain ⟨kvs, sm, hD3, fk⟩ := hP
      obtain ⟨dd, hdd, fd⟩ := fps.getV hx
      rw [List.getElem?_map] at hdd
      obtain ⟨pr, hpr, rfl⟩ := Option.map_eq_some_iff.mp hdd
      obtain ⟨pa, ys, rfl, hpa, fy2⟩ := fd.open
      obtain ⟨c, v, rfl, fc, fv⟩ := fy2.two
      rw [fc.isStr, fv.isInt] at hpa
      have hi : i < es.length := (List.getElem?_eq_some_iff.mp hpr).1
      have epr : es[i] = pr := (List.getElem?_eq_some_iff.mp hpr).2
      refine ⟨pa, [sg pr.1, .int pr.2], rfl, .inl (.inl (sm _ _ hpa)), rfl, sg pr.1, [.int pr.2], rfl, .int pr.2, [], rfl, rfl, rfl, sg pr.1, rfl, .int pr.2, rfl, .int pr.2, rfl, (by show 2 ≤ sizeLine; decide), fun tp ntp => ?_⟩
      have hD4 : (upd H3 tp (.tup [.int pr.2, .int pr.2])) D = some (.dK kvs) := keep_new hD3 ntp
      have fk4 := fk.kt (Kt.new ntp (o := .tup [.int pr.2, .int pr.2]))
      have tk : (es.take (i + 1)).map (fun p => (p.1, p.2, p.2)) = (es.take i).map (fun p => (p.1, p.2, p.2)) ++ [(pr.1, pr.2, pr.2)] := by
        rw [List.take_succ_eq_append_getElem hi, epr, List.map_append]
        rfl
      have nk : valV kvs (Sum.inr (sS pr.1)) = none := by
        refine fk.none fun hm => ?_
        rw [spanL_keys] at hm
        have hnd2 : ((es.take (i + 1)).map (·.1)).Nodup := hndE.sublist ((List.take_sublist _ _).map _)
        rw [List.take_succ_eq_append_getElem hi, epr, List.map_append] at hnd2
        exact (List.nodup_append.mp hnd2).2.2 _ hm _ (by simp) rfl
      refine ⟨kvs, Sum.inr (sS pr.1), rfl, hD4, ?_, putK kvs (Sum.inr (sS pr.1)) (.ref tp), ?_, upd_same, ?_⟩
      · rw [fk.len, List.length_map, List.length_take]
        exact small1000 (by omega)
      · exact Same.mut (Same.new sm ntp) nD
      · rw [putK_new _ nk, tk]
        exact (SpA.snoc fk4 upd_same).kt (.dct hD4)
    · obtain ⟨kvs, sm, hD3, fk⟩ := hP
      have hpl : ps.length = es.length := by
        rw [fps.len, List.length_map]
      rw [hpl, List.take_of_length_le (Nat.le_refl _)] at fk
      refine ⟨fun σ H' => ∃ (kvs' : List (Key × V)) (y3 y5 y6 : Option V), σ = [some (.ref qa), some (.ref ea), some y, y3, some (.ref D), y5, y6, none] ∧ Same H H' ∧ H' D = some (.dK kvs') ∧ SpA H' kvs' (spanL es rc), ?_, ?_⟩
      · cases rc with
        | none =>
          have ey : y = .non := fy.isNon
          subst ey
          refine ⟨.non, rfl, rfl, _, rfl, iteNS rfl ?_⟩
          refine ⟨kvs, _, _, _, rfl, sm, hD3, ?_⟩
          unfold spanL
          rw [Option.toList_none, List.append_nil]
          exact fk
        | some t3 =>
          obtain ⟨c, lo, hi⟩ := t3
          obtain ⟨ra, zs, rfl, hra, fz⟩ := Fz.open (ds := [.str ⟨#[c]⟩, .int lo, .int hi]) fy
          obtain ⟨z1, z2, z3, rfl, g1, g2, g3⟩ := fz.three
          rw [g1.isStr, g2.isInt, g3.isInt] at hra
          refine ⟨.ref ra, rfl, rfl, _, rfl, ite2 (fun _ => ?_) (fun e => ?_)⟩
          · refine ⟨.ref ra, rfl, ra, [sg c, .int lo, .int hi], rfl, .inl (.inl (sm _ _ hra)), rfl, sg c, [.int lo, .int hi], rfl, .int lo, [.int hi], rfl, .int hi, [], rfl, rfl, ?_⟩
            refine ⟨.int lo, rfl, .int hi, rfl, (by show 2 ≤ sizeLine; decide), fun tp ntp => ?_⟩
            have hD4 : (upd H3 tp (.tup [.int lo, .int hi])) D = some (.dK kvs) := keep_new hD3 ntp
            have nk : valV kvs (Sum.inr (sS c)) = none := fk.none (by
              rw [spanL_keys]
              exact (hok.rc c lo hi rfl).2.1)
            refine ⟨.ref D, rfl, sg c, rfl, D, _, rfl, DPut.k (k := Sum.inr (sS c)) hD4 (by rw [fk.len, List.length_map]; exact small1000 hel), ?_⟩
            refine ⟨_, _, _, _, rfl, Same.mut (Same.new sm ntp) nD, upd_same, ?_⟩
            rw [putK_new _ nk]
            exact (SpA.snoc (fk.kt (Kt.new ntp)) upd_same).kt (.dct hD4)
          · exact absurd (by simp) e
      · intro σ1 H1 hM
        obtain ⟨kvs', y3, y5, y6, rfl, sm1, hD1, fk1⟩ := hM
        exact ⟨.ref D, rfl, q D kvs' H1 sm1 nD hD1 fk1⟩

/-! ### fits -/
def spFits (K : PySem.W.Frag) : Sp := fun vs H Q _ => ∃ (cols : List Nat) (rv : V) (row : List Int) (qv : V) (es : List (Nat × Int)) (rc : Option (Nat × Int × Int)), vs = [tx cols, rv, qv] ∧ Fz H rv (rowD row) ∧ row.length = cols.length ∧ Fz H qv (qD es rc) ∧ QOk cols es rc ∧ es.length ≤ 1000 ∧
  ∀ (H' : Hp), Same H H' → Q (.bl (fitsM cols row es rc)) H'
theorem ok_fits (T : Tx K mg Z) : FnOk P w K mg base CX0 2 Z.f_fits Z.d_fits ["columns", "row", "question"] (spFits K) := by
  have G_spans : FnOk P w K mg base CX0 1 Z.f_spans Z.d_spans ["question"] (spSpans K) := ok_spans T
  refine T.F_fits.ok sc_fits (fun vs H Q E h => ?_) (fun cdv A outer s H vs Q E hr h => ?_)
  · obtain ⟨cols, rv, row, qv, es, rc, rfl, _⟩ := h
    rfl
  · obtain ⟨cols, rv, row, qv, es, rc, rfl, fr, hrl, fq, hok, hel, q⟩ := h
    obtain ⟨ra, rfl, hra⟩ := row_open fr
    refine ⟨_, (pss_cons (ps_set (i := 3) sc_fits.nd rfl (.inl rfl) (pe_call G_spans (hr.mono (by omega)) (by rfl) T.g_spans T.F_spans.kp T.b_spans .nil pass0 (pa_cons (pv 2) pa_nil)))
      (pss_cons (ps_lock (ps_for PassesOwn.never rfl (pi_keys (pv 3)) (pg_name (i := 4) sc_fits.nd rfl (.inl rfl)) (pss_cons (ps_asg (pe_dget (hu_of hr) (pv 3) (pv 4) (fun _ _ => rfl)) (pgT K (n := 2) (pgs_cons (pg_name (i := 5) sc_fits.nd rfl (.inl rfl)) (pgs_cons (pg_name (i := 6) sc_fits.nd rfl (.inl rfl)) pgs_nil))))
      (pss_one (ps_if (pt_not (pt_chain op_le op_le (pv 5) (pe_ix (ixT K) (pv 1) (bmK K PySem.F.plainAttrs_str PySem.F.slot_str_index PySem.F.type_str_index mt_sindex (pv 0) (pa_cons (pv 4) pa_nil)) (fun _ _ => rfl)) (pv 6))) (pss_one (ps_ret pe_bl)) pss_nil)))))
      (pss_one (ps_ret pe_bl)))), ?_⟩
    refine ⟨qv, rfl, qv, cols, es, rc, rfl, fq, hok, hel, fun d kvs H1 sm nd hd fk => ?_⟩
    have ndr : ra ≠ d := ne_of_none hra nd
    have hra1 : H1 ra = some (.tup (row.map V.int)) := sm _ _ hra
    have hback : ∀ od, Same H (upd (upd H1 d (.frz od (.dK kvs))) d (.dK kvs)) := fun od b o e => by
      have nb : b ≠ d := ne_of_none e nd
      rw [upd_ne nb, upd_ne nb]
      exact sm b o e
    refine ⟨d, .dK kvs, hd, trivial, fun od => ⟨.ref d, rfl, d, od, rfl, .inl ⟨kvs, upd_same, for_it walk_keys (fun i σ H' => ∃ y4 y5 y6 : Option V, σ = [some (tx cols), some (.ref ra), some qv, some (.ref d), y4, y5, y6] ∧ H' = upd H1 d (.frz od (.dK kvs)) ∧ ((spanL es rc).take i).all (spanFit cols row) = true)
      ⟨none, none, none, rfl, rfl, rfl⟩ (fun i σ H' _ hP => ?_) (fun i x σ H3 H4 hi hP hY => ?_) (fun σ H3 hP => ?_)⟩⟩⟩
    · obtain ⟨_, _, _, _, rfl, _⟩ := hP
      exact upd_same
    · obtain ⟨y4, y5, y6, rfl, rfl, hall⟩ := hP
      obtain ⟨rfl, k, v, hkv, rfl⟩ := hY
      obtain ⟨p, c, lo, hi2, rfl, rfl, hp, hsp⟩ := fk.get hkv
      have hm : (c, lo, hi2) ∈ spanL es rc := List.mem_of_getElem? hsp
      obtain ⟨p2, hv2, hp2⟩ := fk.look (spanL_nd hok) hm
      have hcc : c ∈ cols := SpanOk hok _ hm
      obtain ⟨orest, hocc⟩ := ix_one hcc
      have npd : p2 ≠ d := fun z => by
        rw [z, hd] at hp2
        cases hp2
      have hat := row_at hrl hcc
      have hsi : i < (spanL es rc).length := (List.getElem?_eq_some_iff.mp hsp).1
      have esi : (spanL es rc)[i] = (c, lo, hi2) := (List.getElem?_eq_some_iff.mp hsp).2
      have tk : (spanL es rc).take (i + 1) = (spanL es rc).take i ++ [(c, lo, hi2)] := by
        rw [List.take_succ_eq_append_getElem hsi, esi]
      have bad : spanFit cols row (c, lo, hi2) = false → fitsM cols row es rc = false := fun z => by
        unfold fitsM
        rw [List.all_eq_false]
        exact ⟨_, hm, by rw [z]; decide⟩
      refine ⟨.ref d, rfl, sg c, rfl, d, .ref p2, rfl, .inl ⟨kvs, Sum.inr (sS c), .inr ⟨od, upd_same⟩, rfl, hv2.symm⟩, ?_⟩
      refine ⟨p2, [.int lo, .int hi2], rfl, .inl (.inl (keep_ne hp2 npd)), rfl, .int lo, [.int hi2], rfl, .int hi2, [], rfl, rfl, ?_⟩
      refine ⟨.int lo, rfl, .ref ra, rfl, tx cols, rfl, rfl, sg c, rfl, _, _, cols.idxOf c, orest, rfl, rfl, hocc, ra, _, _, _, rfl, rfl, .inl (.inl (keep_ne hra1 ndr)), atI_nat hat, lo, _, rfl, rfl, _, rfl, ite2 (fun e => ?_) (fun e => ?_)⟩
      · have e1 : lo ≤ rowAt cols row c := of_decide_eq_true e
        refine ⟨.int hi2, rfl, _, hi2, rfl, rfl, _, rfl, ?_⟩
        by_cases e2 : rowAt cols row c ≤ hi2
        · rw [decide_eq_true e2]
          refine ⟨_, _, _, rfl, rfl, ?_⟩
          rw [tk, List.all_append, hall]
          unfold List.all
          show (true && (spanFit cols row (c, lo, hi2) && true)) = true
          unfold spanFit
          rw [decide_eq_true e1, decide_eq_true e2]
          rfl
        · rw [decide_eq_false e2]
          refine ⟨upd_same, ?_⟩
          have := q _ (hback od)
          rw [bad (by unfold spanFit; rw [decide_eq_false e2, Bool.and_false])] at this
          exact this
      · have e1 : ¬ lo ≤ rowAt cols row c := fun z => e (decide_eq_true z)
        refine ⟨_, rfl, upd_same, ?_⟩
        have := q _ (hback od)
        rw [bad (by unfold spanFit; rw [decide_eq_false e1, Bool.false_and])] at this
        exact this
    · obtain ⟨y4, y5, y6, rfl, rfl, hall⟩ := hP
      refine ⟨upd_same, ?_⟩
      have := q _ (hback od)
      rw [fk.len, List.take_of_length_le (Nat.le_refl _)] at hall
      have e : fitsM cols row es rc = true := hall
      rw [e] at this
      exact this

/-! ### answer -/
def spAnswer (K : PySem.W.Frag) : Sp := fun vs H Q _ => ∃ (tv : V) (cols : List Nat) (rows : List (List Int)) (qv : V) (es : List (Nat × Int)) (rc : Option (Nat × Int × Int)), vs = [tv, qv] ∧ Fz H tv (tabD cols rows) ∧ RowsOk cols.length rows ∧ rows.length ≤ 1000 ∧ Fz H qv (qD es rc) ∧ QOk cols es rc ∧ es.length ≤ 1000 ∧
  ∀ (p : Addr) (H' : Hp), Same H H' → H p = none → H' p = some (.lst ((ansM cols rows es rc).map V.int)) → Q (.ref p) H'
theorem ok_answer (T : Tx K mg Z) : FnOk P w K mg base CX0 3 Z.f_answer Z.d_answer ["table", "question"] (spAnswer K) := by
  have G_fits : FnOk P w K mg base CX0 2 Z.f_fits Z.d_fits ["columns", "row", "question"] (spFits K) := ok_fits T
  refine T.F_answer.ok sc_answer (fun vs H Q E h => ?_) (fun cdv A outer s H vs Q E hr h => ?_)
  · obtain ⟨tv, cols, rows, qv, es, rc, rfl, _⟩ := h
    rfl
  · obtain ⟨tv, cols, rows, qv, es, rc, rfl, fT, hrs, hrn, fq, hok, hel, q⟩ := h
    obtain ⟨t, R, vs, rfl, ht, hRR, fvs⟩ := tab_open fT
    have hvl : vs.length = rows.length := by rw [fvs.len, List.length_map]
    refine ⟨_, (pss_cons (ps_asg (pv 0) (pgT K (n := 2) (pgs_cons (pg_name (i := 2) sc_answer.nd rfl (.inr rfl)) (pgs_cons (pg_name (i := 3) sc_answer.nd rfl (.inl rfl)) pgs_nil))))
      (pss_one (ps_ret (pe_lc (own := [("number", 4), ("row", 5)]) (tt := _) (by rfl) sc_answer.nd (enumTK K (by rfl) T.m_enumerate (pa_cons (pv 3) pa_nil)) (blkOk_by (own := [("number", 4), ("row", 5)]) (by kernel_rfl)) (fun _ _ _ _ _ => (pgT K (n := 2) (pgs_cons (pg_name (i := 4) sc_answer.nd rfl (.inl rfl)) (pgs_cons (pg_name (i := 5) sc_answer.nd rfl (.inl rfl)) pgs_nil)))) (fun _ _ _ _ _ => (pts_one (pt_val (pe_call G_fits (hr.mono (by omega)) (by rfl) T.g_fits T.F_fits.kp T.b_fits .nil pass0 (pa_cons (pv 2) (pa_cons (pv 5) (pa_cons (pv 1) pa_nil))))))) (fun _ _ _ _ _ => (pv 4)))))), ?_⟩
    refine ⟨.ref t, rfl, t, [tx cols, .ref R], rfl, .inl (.inl ht), rfl, tx cols, [.ref R], rfl, .ref R, [], rfl, rfl, ?_⟩
    refine ⟨.ref R, rfl, R, vs, rfl, .inl (.inl hRR), fun D nD => lc_it (walk_et (xs := vs)) (fun i H' => Same H H' ∧ H' D = some (.lst ((((List.range i).filter fun i => fitsM cols (rows.getD i []) es rc).map fun i : Nat => (i : Int)).map V.int)))
      ⟨Same.new (Same.refl H) nD, upd_same⟩ (fun i H' _ hP => ?_) (fun i x H3 H4 hi hP hY => ?_) (fun H3 hP => ?_)⟩
    · exact .inl (.inl (hP.1 _ _ hRR))
    · obtain ⟨sm3, hD3⟩ := hP
      obtain ⟨T0, x1, x2, rfl, nT, rfl, ex1, ex2⟩ := hY
      have e1 : x1 = .int (i : Nat) := (Option.some.inj ex1).symm
      subst e1
      obtain ⟨d, hd, fd⟩ := fvs.getV ex2
      rw [List.getElem?_map] at hd
      obtain ⟨row, hrow, rfl⟩ := Option.map_eq_some_iff.mp hd
      have hi2 : i < rows.length := (List.getElem?_eq_some_iff.mp hrow).1
      have erow : rows.getD i [] = row := by rw [List.getD_eq_getElem?_getD, hrow]; rfl
      have rok := hrs row (List.mem_of_getElem? hrow)
      have sm4 : Same H (upd H3 T0 (.tup [.int (i : Nat), x2])) := Same.new sm3 nT
      refine ⟨T0, [.int (i : Nat), x2], rfl, .inl (.inl upd_same), rfl, .int (i : Nat), [x2], rfl, x2, [], rfl, rfl, rfl, tx cols, rfl, x2, rfl, qv, rfl, cols, x2, row, qv, es, rc, rfl, fd.kt (Same.kt sm4), rok.1, fq.kt (Same.kt sm4), hok, hel, fun H5 sm5 => ⟨_, rfl, ite2 (fun e => ?_) (fun e => ?_)⟩⟩
      · have hD5 := sm5 _ _ (keep_new (o := .tup [.int (i : Nat), x2]) hD3 nT)
        refine ⟨.int (i : Nat), rfl, _, hD5, ?_, Same.mut (Same.trans sm4 sm5) nD, ?_⟩
        · rw [List.length_map, List.length_map]
          have := List.length_filter_le (fun i => fitsM cols (rows.getD i []) es rc) (List.range i)
          rw [List.length_range] at this
          exact small1000 (by omega)
        · rw [upd_same, List.range_succ, List.filter_append, List.filter_cons, erow, if_pos e, List.map_append, List.map_append]
          rfl
      · have hD5 := sm5 _ _ (keep_new (o := .tup [.int (i : Nat), x2]) hD3 nT)
        refine ⟨Same.trans sm4 sm5, ?_⟩
        rw [hD5, List.range_succ, List.filter_append, List.filter_cons, erow, if_neg e, List.filter_nil, List.append_nil]
    · obtain ⟨sm3, hD3⟩ := hP
      rw [hvl] at hD3
      exact q D H3 sm3 nD hD3

/-! ### the law -/
def spLaw (K : PySem.W.Frag) : Sp := fun vs H Q _ => ∃ (a : Addr) (ns : List Int), vs = [.ref a] ∧ SqL K H a (ns.map V.int) ∧ ns.length ≤ 63 ∧ ∀ H', Q (.bl true) H'
theorem ok_law (T : Tx K mg Z) : FnOk P w K mg base CX0 4 Z.f_law Z.d_law ["script"] (spLaw K) := by
  have G_l_reel : FnOk P w K mg base CX0 1 Z.f_l_reel Z.d_l_reel ["script", "k"] (spReel K) := ok_reel T
  have G_l_pick : FnOk P w K mg base CX0 1 Z.f_l_pick Z.d_l_pick ["reel", "many"] (spPick K) := ok_pick T
  have G_l_table : FnOk P w K mg base CX0 3 Z.f_l_table Z.d_l_table ["reel", "most", "rows"] (spTable K) := ok_table T
  have G_l_question : FnOk P w K mg base CX0 3 Z.f_l_question Z.d_l_question ["reel", "table"] (spQuestion K) := ok_question T
  have G_answer : FnOk P w K mg base CX0 3 Z.f_answer Z.d_answer ["table", "question"] (spAnswer K) := ok_answer T
  refine T.F_law.ok sc_law (fun vs H Q E h => ?_) (fun cdv A outer s H vs Q E hr h => ?_)
  · obtain ⟨a, ns, rfl, _⟩ := h
    rfl
  · obtain ⟨a, ns, rfl, hS, hlen, q⟩ := h
    refine ⟨_, (pss_cons (ps_for PassesOwn.never rfl (pi_range1 (by rfl) T.m_range (pa_cons (pe_callB (call_max2 rfl) (by rfl) T.m_max (by decide +kernel) (pa_cons pe_int (pa_cons (pe_callB (call_min2 rfl) (by rfl) T.m_min (by decide +kernel) (pa_cons pe_int (pa_cons (pe_callB (cLenSq K) (by rfl) T.m_len (by decide +kernel) (pa_cons (pv 0) pa_nil)) pa_nil))) pa_nil))) pa_nil)) (pg_name (i := 1) sc_law.nd rfl (.inl rfl)) (pss_cons (ps_set (i := 2) sc_law.nd rfl (.inl rfl) (pe_call G_l_reel (hr.mono (by omega)) (by rfl) T.g_l_reel T.F_l_reel.kp T.b_l_reel .nil pass0 (pa_cons (pv 0) (pa_cons (pv 1) pa_nil))))
      (pss_cons (ps_set (i := 3) sc_law.nd rfl (.inl rfl) (pe_call G_l_table (hr.mono (by omega)) (by rfl) T.g_l_table T.F_l_table.kp T.b_l_table .nil pass0 (pa_cons (pv 2) (pa_cons pe_int (pa_cons pe_int pa_nil)))))
      (pss_cons (ps_asg (pv 3) (pgT K (n := 2) (pgs_cons (pg_name (i := 4) sc_law.nd rfl (.inl rfl)) (pgs_cons (pg_name (i := 5) sc_law.nd rfl (.inr rfl)) pgs_nil))))
      (pss_cons (ps_if (pt_cmpR (neDK K hr.units) (pe_call G_answer (hr.mono (by omega)) (by rfl) T.g_answer T.F_answer.kp T.b_answer .nil pass0 (pa_cons (pv 3) (pa_cons (pe_tup (pa_cons (pe_tup pa_nil) (pa_cons pe_non pa_nil))) pa_nil))) (pe_listRg (by rfl) (by rfl) T.m_list (prg_1 (by rfl) T.m_range (pe_callB (cLenSq K) (by rfl) T.m_len (by decide +kernel) (pa_cons (pv 5) pa_nil)))) (nomark _)) (pss_one (ps_ret pe_bl)) pss_nil)
      (pss_one (ps_for PassesOwn.never rfl (pi_range1 (by rfl) T.m_range (pa_cons pe_int pa_nil)) (pg_name (i := 6) sc_law.nd rfl (.inl rfl)) (pss_cons (ps_asg (pe_call G_l_question (hr.mono (by omega)) (by rfl) T.g_l_question T.F_l_question.kp T.b_l_question .nil pass0 (pa_cons (pv 2) (pa_cons (pv 3) pa_nil))) (pgT K (n := 2) (pgs_cons (pg_name (i := 7) sc_law.nd rfl (.inl rfl)) (pgs_cons (pg_name (i := 8) sc_law.nd rfl (.inl rfl)) pgs_nil))))
      (pss_cons (ps_set (i := 9) sc_law.nd rfl (.inl rfl) (pe_call G_answer (hr.mono (by omega)) (by rfl) T.g_answer T.F_answer.kp T.b_answer .nil pass0 (pa_cons (pv 3) (pa_cons (pe_tup (pa_cons (pv 7) (pa_cons (pv 8) pa_nil))) pa_nil))))
      (pss_mid (ps_if (PW.pt (pw_and (pt_cmpR op_isN (pv 8) pe_non (nomark _)) (pw_and1 (pt_cmpR (neDK K hr.units) (pv 7) (pe_tup pa_nil) (nomark _))))) (pss_cons (ps_asg (pe_ix (ixT K) (pv 7) (pe_call G_l_pick (hr.mono (by omega)) (by rfl) T.g_l_pick T.F_l_pick.kp T.b_l_pick .nil pass0 (pa_cons (pv 2) (pa_cons (pe_callB (cLenSq K) (by rfl) T.m_len (by decide +kernel) (pa_cons (pv 7) pa_nil)) pa_nil))) (fun _ _ => rfl)) (pgT K (n := 2) (pgs_cons (pg_name (i := 10) sc_law.nd rfl (.inr rfl)) (pgs_cons (pg_name (i := 11) sc_law.nd rfl (.inr rfl)) pgs_nil))))
      (pss_cons (ps_set (i := 12) sc_law.nd rfl (.inl rfl) (pe_callTy (cTupSq K) (by rfl) T.m_tuple (by decide +kernel) (pa_cons (pe_lc (own := [("pair", 19)]) (tt := _) (by rfl) sc_law.nd (piT K (pv 7)) (blkOk_by (own := [("pair", 19)]) (by kernel_rfl)) (fun _ _ _ _ _ => (pg_name (i := 19) sc_law.nd rfl (.inl rfl))) (fun _ _ _ _ _ => (pts_one (pt_cmpR op_ne (pe_ix (ixT K) (pv 19) pe_int (fun _ _ => rfl)) (pv 10) (nomark _)))) (fun _ _ _ _ _ => (pv 19))) pa_nil)))
      (pss_cons (ps_if (pt_cmpR (neDK K hr.units) (pe_call G_answer (hr.mono (by omega)) (by rfl) T.g_answer T.F_answer.kp T.b_answer .nil pass0 (pa_cons (pv 3) (pa_cons (pe_tup (pa_cons (pv 12) (pa_cons (pe_tup (pa_cons (pv 10) (pa_cons (pv 11) (pa_cons (pv 11) pa_nil)))) pa_nil))) pa_nil))) (pv 9) (nomark _)) (pss_one (ps_ret pe_bl)) pss_nil)
      (pss_cons (ps_set (i := 13) sc_law.nd rfl (.inr rfl) (bmK K PySem.F.plainAttrs_str PySem.F.slot_str_index PySem.F.type_str_index mt_sindex (pv 4) (pa_cons (pv 10) pa_nil)))
      (pss_cons (ps_set (i := 14) sc_law.nd rfl (.inl rfl) (pe_call G_answer (hr.mono (by omega)) (by rfl) T.g_answer T.F_answer.kp T.b_answer .nil pass0 (pa_cons (pv 3) (pa_cons (pe_tup (pa_cons (pv 12) (pa_cons pe_non pa_nil))) pa_nil))))
      (pss_one (ps_if (pt_cmpR (neDK K hr.units) (pe_lc (own := [("here", 20)]) (tt := _) (by rfl) sc_law.nd (piL K (pv 14)) (blkOk_by (own := [("here", 20)]) (by kernel_rfl)) (fun _ _ _ _ _ => (pg_name (i := 20) sc_law.nd rfl (.inl rfl))) (fun _ _ _ _ _ => (pts_one (pt_cmpR op_eq (pe_ix (ixT K) (pe_ix (ixT K) (pv 5) (pv 20) (fun _ _ => rfl)) (pv 13) (fun _ _ => rfl)) (pv 11) (nomark _)))) (fun _ _ _ _ _ => (pv 20))) (pv 9) (nomark _)) (pss_one (ps_ret pe_bl)) pss_nil))))))) pss_nil)
      (pss_one (ps_if (PW.pt (pw_and (pt_cmpR op_notN (pv 8) pe_non (nomark _)) (pw_and1 (pt_cmpR op_lt (pe_ix (ixT K) (pv 8) pe_int (fun _ _ => rfl)) (pe_ix (ixT K) (pv 8) pe_int (fun _ _ => rfl)) (nomark _))))) (pss_cons (ps_asg (pv 8) (pgT K (n := 3) (pgs_cons (pg_name (i := 10) sc_law.nd rfl (.inr rfl)) (pgs_cons (pg_name (i := 15) sc_law.nd rfl (.inl rfl)) (pgs_cons (pg_name (i := 16) sc_law.nd rfl (.inl rfl)) pgs_nil)))))
      (pss_cons (ps_set (i := 17) sc_law.nd rfl (.inl rfl) (pe_op op_add (pv 15) (pe_call G_l_pick (hr.mono (by omega)) (by rfl) T.g_l_pick T.F_l_pick.kp T.b_l_pick .nil pass0 (pa_cons (pv 2) (pa_cons (pe_op op_sub (pv 16) (pv 15)) pa_nil)))))
      (pss_cons (ps_set (i := 18) sc_law.nd rfl (.inl rfl) (pe_call G_answer (hr.mono (by omega)) (by rfl) T.g_answer T.F_answer.kp T.b_answer .nil pass0 (pa_cons (pv 3) (pa_cons (pe_tup (pa_cons (pv 7) (pa_cons (pe_tup (pa_cons (pv 10) (pa_cons (pv 15) (pa_cons (pv 17) pa_nil)))) pa_nil))) pa_nil))))
      (pss_cons (ps_set (i := 18) sc_law.nd rfl (.inl rfl) (pe_op op_cat (pv 18) (pe_call G_answer (hr.mono (by omega)) (by rfl) T.g_answer T.F_answer.kp T.b_answer .nil pass0 (pa_cons (pv 3) (pa_cons (pe_tup (pa_cons (pv 7) (pa_cons (pe_tup (pa_cons (pv 10) (pa_cons (pe_op op_add (pv 17) pe_int) (pa_cons (pv 16) pa_nil)))) pa_nil))) pa_nil)))))
      (pss_one (ps_if (pt_cmpR (neDK K hr.units) (pe_callB cr_sortedI (by rfl) T.m_sorted (by decide +kernel) (pa_cons (pv 18) pa_nil)) (pv 9) (nomark _)) (pss_one (ps_ret pe_bl)) pss_nil)))))) pss_nil))))))))))))
      (pss_one (ps_ret pe_bl))), ?_⟩
    refine ⟨.ref a, rfl, a, _, rfl, .inl hS, 8, _, rfl, 2, _, rfl, _, rfl, ?_, ?_, ?_⟩
    · split <;> (try split) <;> omega
    · split <;> (try split) <;> omega
    generalize hN : (if (if ((ns.map V.int).length : Int) < 8 then ((ns.map V.int).length : Int) else 8) > 2 then (if ((ns.map V.int).length : Int) < 8 then ((ns.map V.int).length : Int) else 8) else 2).toNat = N
    have hN8 : N ≤ 8 := by
      rw [← hN]
      split <;> (try split) <;> omega
    refine for_range (fun i σ H' => ∃ y1 y2 y3 y4 y5 y6 y7 y8 y9 y10 y11 y12 y13 y14 y15 y16 y17 y18 y19 y20 : Option V, σ = [some (.ref a), y1, y2, y3, y4, y5, y6, y7, y8, y9, y10, y11, y12, y13, y14, y15, y16, y17, y18, y19, y20] ∧ SqL K H' a (ns.map V.int)) ⟨none, none, none, none, none, none, none, none, none, none, none, none, none, none, none, none, none, none, none, none, rfl, hS⟩ (fun i σ H0 hi hP => ?_) (fun σ H0 hP => q H0)
    obtain ⟨y1, y2, y3, y4, y5, y6, y7, y8, y9, y10, y11, y12, y13, y14, y15, y16, y17, y18, y19, y20, rfl, hS0⟩ := hP
    -- reel, table
    refine ⟨.ref a, rfl, _, rfl, a, ns, i, by rw [Int.zero_add]; rfl, hS0, by omega, fun n0 r nr => ?_⟩
    have sm1 : Same H0 (upd H0 r (.lst [.int n0])) := Same.new (Same.refl H0) nr
    have hR1 : (upd H0 r (.lst [.int n0])) r = some (.lst [.int n0]) := upd_same
    generalize upd H0 r (.lst [.int n0]) = H1 at sm1 hR1 ⊢
    refine ⟨.ref r, rfl, r, n0, 6, 20, rfl, hR1, by decide, by decide, by decide, fun cols rows tv n3 H3 kp3 hR3 fT hc hc1 hc2 hrs hrn => ?_⟩
    have sm3 : Same H0 H3 := Same.kpN sm1 nr kp3
    obtain ⟨t, R, vs, rfl, ht, hRR, fvs⟩ := tab_open fT
    have hvl : vs.length = rows.length := by rw [fvs.len, List.length_map]
    refine ⟨.ref t, rfl, t, [tx cols, .ref R], rfl, .inl (.inl ht), rfl, tx cols, [.ref R], rfl, .ref R, [], rfl, rfl, ?_⟩
    -- nothing asked
    refine ⟨.ref t, rfl, (by show 0 ≤ sizeLine; decide), fun p1 np1 => ⟨(by show 2 ≤ sizeLine; decide), fun p2 np2 => ?_⟩⟩
    have smA : Same H3 (upd (upd H3 p1 (.tup [])) p2 (.tup [.ref p1, .non])) := Same.new (Same.new (Same.refl H3) np1) np2
    have fA : Fz (upd (upd H3 p1 (.tup [])) p2 (.tup [.ref p1, .non])) (.ref p2) (qD [] none) := Fz.made np2 (.cons (Fz.made np1 .nil) (.cons .non .nil))
    generalize upd (upd H3 p1 (.tup [])) p2 (.tup [.ref p1, .non]) = HA at smA fA ⊢
    refine ⟨.ref t, cols, rows, .ref p2, [], none, rfl, fT.kt (Same.kt smA), hrs, by omega, fA, ⟨.nil, (fun _ h => nomatch h), Nat.zero_le _, fun _ _ _ z => nomatch z⟩, by decide, fun fo H4 sm4 nfo hfo => ?_⟩
    have hRR4 : H4 R = some (.tup vs) := sm4 _ _ (smA _ _ hRR)
    refine ⟨.ref R, rfl, R, vs, rfl, .inr (.inl (.inl hRR4)), _, rfl, ⟨by omega, by omega, by omega, by omega, by omega⟩, fun g ng => ?_⟩
    rw [hvl, rg_all, ← ans_all cols rows]
    refine ⟨_, _, .lst (.inl (.inl (keep_new hfo ng))) (dp_ints _), .lst (.inl (.inl upd_same)) (dp_ints _), shaped_ints _, shaped_ints _, _, rfl, ?_⟩
    rw [eqv_ints]
    have sm5 : Same H3 (upd H4 g (.lst ((ansM cols rows [] none).map V.int))) := Same.new (Same.trans smA sm4) ng
    generalize upd H4 g (.lst ((ansM cols rows [] none).map V.int)) = H5 at sm5 ⊢
    -- the turns
    refine ⟨3, rfl, by decide, by decide, for_range (fun j σ H' => ∃ (n4 : Int) (y6 y7 y8 y9 y10 y11 y12 y13 y14 y15 y16 y17 y18 y19 y20 : Option V), σ = [some (.ref a), some (.int (0 + (i : Nat))), some (.ref r), some (.ref t), some (tx cols), some (.ref R), y6, y7, y8, y9, y10, y11, y12, y13, y14, y15, y16, y17, y18, y19, y20] ∧ Same H0 H' ∧ H' r = some (.lst [.int n4]) ∧ Kt H3 H')
      ⟨n3, _, _, _, _, _, _, _, _, _, _, _, _, _, _, _, rfl, Same.trans sm3 sm5, sm5 _ _ hR3, Same.kt sm5⟩ (fun j σ H6 hj hP => ?_) (fun σ H6 hP => ?_)⟩
    · obtain ⟨n4, z6, z7, z8, z9, z10, z11, z12, z13, z14, z15, z16, z17, z18, z19, z20, rfl, sm6, hR6, kt6⟩ := hP
      refine ⟨.ref r, rfl, .ref t, rfl, r, n4, .ref t, cols, rows, rfl, hR6, fT.kt kt6, hc, hc1, by omega, hrs, by omega, fun es rc qv n5 H7 kp7 hR7 fq hqok => ?_⟩
      have sm7 : Same H0 H7 := Same.kpN sm6 nr kp7
      have kt7 : Kt H3 H7 := kt6.trans (kp7.kt hR6)
      have hesl : es.length ≤ 1000 := by
        have := hqok.len
        omega
      have hndE : (es.map (·.1)).Nodup := hqok.up.imp fun {a b} q => by
        have : a < b := q
        omega
      obtain ⟨qa, xs, rfl, hqa, fx0⟩ := fq.open
      obtain ⟨x, y, rfl, fx, fy⟩ := fx0.two
      clear fx0
      obtain ⟨ea, ps, rfl, hea, fps⟩ := fx.open
      have hpl : ps.length = es.length := by rw [fps.len, List.length_map]
      refine ⟨qa, [.ref ea, y], rfl, .inl (.inl hqa), rfl, .ref ea, [y], rfl, y, [], rfl, rfl, ?_⟩
      -- found
      refine ⟨.ref t, rfl, .ref ea, rfl, y, rfl, (by show 2 ≤ sizeLine; decide), fun p3 np3 => ?_⟩
      have sm8 : Same H7 (upd H7 p3 (.tup [.ref ea, y])) := Same.new (Same.refl H7) np3
      have fq8 : Fz (upd H7 p3 (.tup [.ref ea, y])) (.ref p3) (qD es rc) := Fz.made np3 (.cons fx (.cons fy .nil))
      generalize upd H7 p3 (.tup [.ref ea, y]) = H8 at sm8 fq8 ⊢
      refine ⟨.ref t, cols, rows, .ref p3, es, rc, rfl, (fT.kt kt7).kt (Same.kt sm8), hrs, by omega, fq8, hqok, hesl, fun f H9 sm9 nf hf9 => ?_⟩
      have sm79 : Same H7 H9 := Same.trans sm8 sm9
      have nf7 : H7 f = none := Same.free sm8 nf
      have nfr : f ≠ r := (ne_of_none hR7 nf7).symm
      have nf0 : H0 f = none := Same.free sm7 nf7
      -- what stands behind each way
      refine ⟨fun σ H' => ∃ (n6 : Int) (z10 z11 z12 z13 z14 z15 z16 z17 z18 z19 z20 : Option V), σ = [some (.ref a), some (.int (0 + (i : Nat))), some (.ref r), some (.ref t), some (tx cols), some (.ref R), some (.int (0 + (j : Nat))), some (.ref ea), some y, some (.ref f), z10, z11, z12, z13, z14, z15, z16, z17, z18, z19, z20] ∧ Kp r H9 H' ∧ H' r = some (.lst [.int n6]), ?_, ?_⟩
      · have hR9 : H9 r = some (.lst [.int n5]) := sm79 _ _ hR7
        refine ⟨y, rfl, rfl, _, rfl, ite2 (fun ey => ?_) (fun ey => ?_)⟩
        · have ey2 : y = .non := of_decide_eq_true ey
          subst ey2
          have erc : rc = none := by
            cases rc with
            | none => rfl
            | some t3 => exact (nomatch fy)
          subst erc
          refine ⟨.ref ea, rfl, (by show 0 ≤ sizeLine; decide), fun p4 np4 => ?_⟩
          have smB : Same H9 (upd H9 p4 (.tup [])) := Same.new (Same.refl H9) np4
          have fE : Fz (upd H9 p4 (.tup [])) (.ref ea) (eqsD es) := (fx.kt (Same.kt sm79)).kt (Same.kt smB)
          have fN : Fz (upd H9 p4 (.tup [])) (.ref p4) (.tuple []) := Fz.made np4 .nil
          generalize upd H9 p4 (.tup []) = HB at smB fE fN ⊢
          have hesb : ∀ p ∈ es, p.1 ≤ 122 := fun p hp => (hc.az _ (hqok.ok p hp).1).2
          refine ⟨_, _, fE.to, fN.to, shaped_eqs hesb, shaped_eqs (es := []) (fun _ h => nomatch h), _, rfl, ?_⟩
          rw [eqv_nil]
          refine ite2 (fun e => ?_) (fun e => ?_)
          · have hne : es ≠ [] := fun z => by
              rw [z] at e
              exact absurd e (by decide)
            have hpos : 0 < es.length := List.length_pos_iff.mpr hne
            have hRB : HB r = some (.lst [.int n5]) := smB _ _ hR9
            have heaB : HB ea = some (.tup ps) := smB _ _ (sm79 _ _ hea)
            refine ⟨.ref ea, rfl, .ref r, rfl, .ref ea, rfl, ea, ps, rfl, .inr (.inl (.inl heaB)), r, n5, _, rfl, hRB, by omega, by omega, fun d n6 d0 d1 => ?_⟩
            have kpC : Kp r H9 (upd HB r (.lst [.int n6])) := (Same.kp smB).own
            have hRC : (upd HB r (.lst [.int n6])) r = some (.lst [.int n6]) := upd_same
            have ktC : Kt H7 (upd HB r (.lst [.int n6])) := ((Same.kt sm79).trans (Same.kt smB)).trans (.lst hRB)
            have hfC : (upd HB r (.lst [.int n6])) f = some (.lst ((ansM cols rows es none).map V.int)) := keep_ne (smB _ _ hf9) nfr
            generalize upd HB r (.lst [.int n6]) = HC at kpC hRC ktC hfC ⊢
            have hd : d.toNat < es.length := by omega
            obtain ⟨pv, hpv, fpv⟩ := fps.get (i := d.toNat) (d := eqD es[d.toNat]) (by rw [List.getElem?_map, List.getElem?_eq_getElem hd]; rfl)
            have hcx : es[d.toNat] ∈ es := List.getElem_mem hd
            generalize es[d.toNat] = cx at hcx fpv
            obtain ⟨c, x⟩ := cx
            obtain ⟨pa, ys, rfl, hpa, fpp⟩ := (fpv.kt ktC).open
            obtain ⟨v1, v2, rfl, g1, g2⟩ := fpp.two
            rw [g1.isStr, g2.isInt] at hpa
            have heaC : HC ea = some (.tup ps) := ktC _ _ hea
            refine ⟨ea, ps, d, .ref pa, rfl, rfl, .inl (.inl heaC), L2.at_of (j := d.toNat) (by omega) hpv, pa, [sg c, .int x], rfl, .inl (.inl hpa), rfl, sg c, [.int x], rfl, .int x, [], rfl, rfl, ?_⟩
            have hcc : c ∈ cols := (hqok.ok _ hcx).1
            have hxb := (hqok.ok _ hcx).2
            -- fewer
            refine ⟨.ref ea, rfl, ea, rfl, ⟨_, .inl (.inl heaC)⟩, fun D nD => lc_it (walk_tup (xs := ps)) (fun m H' => ∃ vs', Same HC H' ∧ H' D = some (.lst vs') ∧ FzA H' vs' (((es.take m).filter fun p => !decide (p.1 = c)).map eqD))
              ⟨[], Same.new (Same.refl HC) nD, upd_same, .nil⟩ (fun m H' _ hP => ?_) (fun m z HD HE hm hP hY => ?_) (fun HD hP => ?_)⟩
            · obtain ⟨_, sm, _⟩ := hP
              exact .inl (.inl (sm _ _ heaC))
            · obtain ⟨vs', smD, hDD, fD⟩ := hP
              obtain ⟨rfl, hz⟩ := hY
              obtain ⟨dd, hdd, fd⟩ := fps.getV hz
              rw [List.getElem?_map] at hdd
              obtain ⟨pr, hpr, rfl⟩ := Option.map_eq_some_iff.mp hdd
              have hm2 : m < es.length := (List.getElem?_eq_some_iff.mp hpr).1
              have epr : es[m] = pr := (List.getElem?_eq_some_iff.mp hpr).2
              have fd2 := (fd.kt ktC).kt (Same.kt smD)
              obtain ⟨pb, ys2, rfl, hpb, fpb⟩ := fd2.open
              obtain ⟨w1, w2, rfl, k1, k2⟩ := fpb.two
              rw [k1.isStr, k2.isInt] at hpb
              have tk : es.take (m + 1) = es.take m ++ [pr] := by rw [List.take_succ_eq_append_getElem hm2, epr]
              have edec : decide (sg pr.1 = sg c) = decide (pr.1 = c) := by
                rw [Bool.eq_iff_iff, decide_eq_true_eq, decide_eq_true_eq]
                exact ⟨fun z => sS_inj (V.str.inj z), fun z => by rw [z]⟩
              refine ⟨rfl, .ref pb, rfl, pb, [sg pr.1, .int pr.2], 0, sg pr.1, rfl, rfl, .inl (.inl hpb), rfl, sg c, rfl, rfl, _, rfl, ?_⟩
              rw [edec]
              refine ite2 (fun e2 => ?_) (fun e2 => ?_)
              · refine ⟨.ref pb, rfl, vs', hDD, ?_, vs' ++ [.ref pb], Same.mut smD nD, upd_same, ?_⟩
                · rw [fD.len, List.length_map]
                  have := List.length_filter_le (fun p : Nat × Int => !decide (p.1 = c)) (es.take m)
                  rw [List.length_take] at this
                  exact small1000 (by omega)
                · rw [tk, List.filter_append, List.filter_cons, if_pos e2, List.map_append]
                  exact (fD.snoc fd2).kt (.lst hDD)
              · refine ⟨vs', smD, hDD, ?_⟩
                rw [tk, List.filter_append, List.filter_cons, if_neg e2, List.filter_nil, List.append_nil]
                exact fD
            · obtain ⟨vs', smD, hDD, fD⟩ := hP
              rw [hpl, List.take_of_length_le (Nat.le_refl _)] at fD
              generalize hes2 : (es.filter fun p => !decide (p.1 = c)) = es2 at fD
              have hsubl : es2.Sublist es := by
                rw [← hes2]
                exact List.filter_sublist
              have hcn : c ∉ es2.map (·.1) := fun hm => by
                obtain ⟨p, hp, hpc⟩ := List.mem_map.mp hm
                rw [← hes2] at hp
                have := (List.mem_filter.mp hp).2
                rw [decide_eq_true (show p.1 = c from hpc)] at this
                cases this
              have q2 : QOk cols es2 none := hqok.sub hsubl
              have l2 : es2.length ≤ 1000 := Nat.le_trans hsubl.length_le hesl
              have hff : ∀ row : List Int, (fitsM cols row es2 none && spanFit cols row (c, x, x)) = fitsM cols row es none := fun row => by
                rw [← hes2]
                exact fits_fewer hndE hcx
              refine ⟨D, vs', rfl, .inl ⟨.inl (.inl hDD), fun F nF => ?_⟩⟩
              have smF : Same HC (upd HD F (.tup vs')) := Same.new smD nF
              have fF : Fz (upd HD F (.tup vs')) (.ref F) (eqsD es2) := Fz.made nF fD
              generalize upd HD F (.tup vs') = HF at smF fF ⊢
              -- answer(table, (fewer, (letter, number, number)))
              refine ⟨.ref t, rfl, .ref F, rfl, sg c, rfl, .int x, rfl, .int x, rfl, (by show 3 ≤ sizeLine; decide), fun p5 np5 => ⟨(by show 2 ≤ sizeLine; decide), fun p6 np6 => ?_⟩⟩
              have smG : Same HF (upd (upd HF p5 (.tup [sg c, .int x, .int x])) p6 (.tup [.ref F, .ref p5])) := Same.new (Same.new (Same.refl HF) np5) np6
              have fG : Fz (upd (upd HF p5 (.tup [sg c, .int x, .int x])) p6 (.tup [.ref F, .ref p5])) (.ref p6) (qD es2 (some (c, x, x))) := Fz.made np6 (.cons (fF.kt (.new np5)) (.cons (Fz.made np5 (.cons (.str _) (.cons (.int _) (.cons (.int _) .nil)))) .nil))
              generalize upd (upd HF p5 (.tup [sg c, .int x, .int x])) p6 (.tup [.ref F, .ref p5]) = HG at smG fG ⊢
              have fTG : Fz HG (.ref t) (tabD cols rows) := (((fT.kt kt7).kt ktC).kt (Same.kt smF)).kt (Same.kt smG)
              refine ⟨.ref t, cols, rows, .ref p6, es2, some (c, x, x), rfl, fTG, hrs, by omega, fG, q2.reach hcc hcn hxb.1 (Int.le_refl _) hxb.2, l2, fun f2 HI smI nf2 hf2 => ?_⟩
              rw [ans_congr (es' := es) (rc' := none) (fun row => by rw [fits_reach]; exact hff row)] at hf2
              have hfI : HI f = some (.lst ((ansM cols rows es none).map V.int)) := smI _ _ (smG _ _ (smF _ _ hfC))
              refine ⟨.ref f, rfl, _, _, .lst (.inl (.inl hf2)) (dp_ints _), .lst (.inl (.inl hfI)) (dp_ints _), shaped_ints _, shaped_ints _, _, rfl, ?_⟩
              rw [eqv_ints]
              -- column
              obtain ⟨orest, hocc⟩ := ix_one hcc
              refine ⟨tx cols, rfl, rfl, sg c, rfl, _, _, cols.idxOf c, orest, rfl, rfl, hocc, ?_⟩
              -- some
              refine ⟨.ref t, rfl, .ref F, rfl, (by show 2 ≤ sizeLine; decide), fun p7 np7 => ?_⟩
              have smJ : Same HI (upd HI p7 (.tup [.ref F, .non])) := Same.new (Same.refl HI) np7
              have fJ : Fz (upd HI p7 (.tup [.ref F, .non])) (.ref p7) (qD es2 none) := Fz.made np7 (.cons ((fF.kt (Same.kt smG)).kt (Same.kt smI)) (.cons .non .nil))
              generalize upd HI p7 (.tup [.ref F, .non]) = HJ at smJ fJ ⊢
              have fTJ : Fz HJ (.ref t) (tabD cols rows) := (fTG.kt (Same.kt smI)).kt (Same.kt smJ)
              refine ⟨.ref t, cols, rows, .ref p7, es2, none, rfl, fTJ, hrs, by omega, fJ, q2, l2, fun so HK smK nso hso => ?_⟩
              have smCK : Same HC HK := Same.trans (Same.trans (Same.trans (Same.trans smF smG) smI) smJ) smK
              have hRRK : HK R = some (.tup vs) := smCK _ _ (ktC _ _ (kt7 _ _ hRR))
              have fvsK : FzA HK vs (rows.map rowD) := ((fvs.kt kt7).kt ktC).kt (Same.kt smCK)
              -- [here for here in some ..]
              refine ⟨.ref so, rfl, so, rfl, ⟨_, .inl (.inl hso)⟩, fun D2 nD2 => lc_list (xs := (ansM cols rows es2 none).map V.int) (fun m H' => Same HK H' ∧ H' D2 = some (.lst ((((ansM cols rows es2 none).take m).filter fun z => decide (rowAt cols (rows.getD z.toNat []) c = x)).map V.int)))
                ⟨Same.new (Same.refl HK) nD2, upd_same⟩ (fun m H' _ hP => .inl (.inl (hP.1 _ _ hso))) (fun m z HL hz hP => ?_) (fun HL hP => ?_)⟩
              · obtain ⟨smL, hDL⟩ := hP
                rw [List.getElem?_map] at hz
                obtain ⟨w, hw, rfl⟩ := Option.map_eq_some_iff.mp hz
                have hwm := ans_mem (List.mem_of_getElem? hw)
                have hwl : w.toNat < rows.length := by omega
                have hm2 : m < (ansM cols rows es2 none).length := (List.getElem?_eq_some_iff.mp hw).1
                have ew : (ansM cols rows es2 none)[m] = w := (List.getElem?_eq_some_iff.mp hw).2
                have tk : (ansM cols rows es2 none).take (m + 1) = (ansM cols rows es2 none).take m ++ [w] := by rw [List.take_succ_eq_append_getElem hm2, ew]
                obtain ⟨rvv, hrv, frv⟩ := fvsK.get (i := w.toNat) (d := rowD rows[w.toNat]) (by rw [List.getElem?_map, List.getElem?_eq_getElem hwl]; rfl)
                have rok := hrs rows[w.toNat] (List.getElem_mem hwl)
                have erow : rows.getD w.toNat [] = rows[w.toNat] := by rw [List.getD_eq_getElem?_getD, List.getElem?_eq_getElem hwl]; rfl
                obtain ⟨rb, rfl, hrb⟩ := row_open (frv.kt (Same.kt smL))
                refine ⟨rfl, .ref R, rfl, .int w, rfl, R, vs, w, .ref rb, rfl, rfl, .inl (.inl (smL _ _ hRRK)), L2.at_of (j := w.toNat) (by omega) hrv, _, rfl, rb, _, _, _, rfl, rfl, .inl (.inl hrb), atI_nat (row_at rok.1 hcc), .int x, rfl, rfl, _, rfl, ?_⟩
                have edec : decide (V.int (rowAt cols rows[w.toNat] c) = V.int x) = decide (rowAt cols (rows.getD w.toNat []) c = x) := by
                  rw [erow, Bool.eq_iff_iff, decide_eq_true_eq, decide_eq_true_eq]
                  exact ⟨fun z => V.int.inj z, fun z => by rw [z]⟩
                rw [edec]
                refine ite2 (fun e2 => ?_) (fun e2 => ?_)
                · refine ⟨.int w, rfl, _, hDL, ?_, Same.mut smL nD2, ?_⟩
                  · rw [List.length_map]
                    have h1 := List.length_filter_le (fun z : Int => decide (rowAt cols (rows.getD z.toNat []) c = x)) ((ansM cols rows es2 none).take m)
                    have h2 := ans_len cols rows es2 none
                    rw [List.length_take] at h1
                    exact small1000 (by omega)
                  · rw [upd_same, tk, List.filter_append, List.filter_cons, if_pos e2, List.map_append]
                    rfl
                · refine ⟨smL, ?_⟩
                  rw [hDL, tk, List.filter_append, List.filter_cons, if_neg e2, List.filter_nil, List.append_nil]
              · obtain ⟨smL, hDL⟩ := hP
                rw [List.length_map, List.take_of_length_le (Nat.le_refl _)] at hDL
                have efin : ((ansM cols rows es2 none).filter fun z => decide (rowAt cols (rows.getD z.toNat []) c = x)) = ansM cols rows es none := by
                  rw [← hes2]
                  exact some_fewer hndE hcx (fun row => by rw [hes2]; exact hff row) (fun row => fit_one cols row c x)
                rw [efin] at hDL
                have hfL : HL f = some (.lst ((ansM cols rows es none).map V.int)) := smL _ _ (smCK _ _ hfC)
                refine ⟨.ref f, rfl, _, _, .lst (.inl (.inl hDL)) (dp_ints _), .lst (.inl (.inl hfL)) (dp_ints _), shaped_ints _, shaped_ints _, _, rfl, ?_⟩
                rw [eqv_ints]
                exact ⟨n6, _, _, _, _, _, _, _, _, _, _, _, rfl, kpC.trans (Same.kp (Same.trans smCK smL)), smL _ _ (smCK _ _ hRC)⟩
          · exact ⟨n5, _, _, _, _, _, _, _, _, _, _, _, rfl, Same.kp smB, smB _ _ hR9⟩
        · exact ⟨n5, _, _, _, _, _, _, _, _, _, _, _, rfl, Kp.rfl', hR9⟩
      · intro σ1 HM hM
        obtain ⟨n6, w10, w11, w12, w13, w14, w15, w16, w17, w18, w19, w20, rfl, kpM, hRM⟩ := hM
        have hR9 : H9 r = some (.lst [.int n5]) := sm79 _ _ hR7
        have smM : Same H0 HM := Same.kpN (Same.trans sm7 sm79) nr kpM
        have ktM : Kt H7 HM := (Same.kt sm79).trans (kpM.kt hR9)
        have hfM : HM f = some (.lst ((ansM cols rows es rc).map V.int)) := kpM _ _ nfr hf9
        refine ⟨y, rfl, rfl, _, rfl, ite2 (fun ey => ?_) (fun ey => ?_)⟩
        · cases rc with
          | none =>
            obtain rfl : y = .non := fy.isNon
            exact absurd ey (by simp)
          | some t3 =>
            obtain ⟨c, lo, hi⟩ := t3
            obtain ⟨ra, zs, rfl, hra, fz⟩ := Fz.open (ds := [.str ⟨#[c]⟩, .int lo, .int hi]) (fy.kt ktM)
            obtain ⟨z1, z2, z3, rfl, g1, g2, g3⟩ := fz.three
            rw [g1.isStr, g2.isInt, g3.isInt] at hra
            have hcr := hqok.rc c lo hi rfl
            have qN : QOk cols es none := hqok.sub (List.Sublist.refl es)
            refine ⟨.ref ra, rfl, ra, _, 1, .int lo, rfl, rfl, .inl (.inl hra), rfl, .ref ra, rfl, ra, _, 2, .int hi, rfl, rfl, .inl (.inl hra), rfl, lo, hi, rfl, rfl, _, rfl, ite2 (fun e => ?_) (fun e => ?_)⟩
            · have elt : lo < hi := of_decide_eq_true e
              refine ⟨.ref ra, rfl, ra, [sg c, .int lo, .int hi], rfl, .inl (.inl hra), rfl, sg c, [.int lo, .int hi], rfl, .int lo, [.int hi], rfl, .int hi, [], rfl, rfl, ?_⟩
              refine ⟨.int lo, rfl, .ref r, rfl, .int hi, rfl, .int lo, rfl, hi, lo, rfl, rfl, r, n6, hi - lo, rfl, hRM, by omega, by omega, fun d n7 d0 d1 => ⟨lo, d, rfl, rfl, ?_⟩⟩
              have smN : Same H0 (upd HM r (.lst [.int n7])) := Same.kpN smM nr (Kp.own Kp.rfl')
              have hRN : (upd HM r (.lst [.int n7])) r = some (.lst [.int n7]) := upd_same
              have ktN : Kt H7 (upd HM r (.lst [.int n7])) := ktM.trans (.lst hRM)
              have hfN : (upd HM r (.lst [.int n7])) f = some (.lst ((ansM cols rows es (some (c, lo, hi))).map V.int)) := keep_ne hfM nfr
              generalize upd HM r (.lst [.int n7]) = HN at smN hRN ktN hfN ⊢
              have fEN : Fz HN (.ref ea) (eqsD es) := fx.kt ktN
              have fTN : Fz HN (.ref t) (tabD cols rows) := (fT.kt kt7).kt ktN
              -- the first part
              refine ⟨.ref t, rfl, .ref ea, rfl, sg c, rfl, .int lo, rfl, .int (lo + d), rfl, (by show 3 ≤ sizeLine; decide), fun p5 np5 => ⟨(by show 2 ≤ sizeLine; decide), fun p6 np6 => ?_⟩⟩
              have smO : Same HN (upd (upd HN p5 (.tup [sg c, .int lo, .int (lo + d)])) p6 (.tup [.ref ea, .ref p5])) := Same.new (Same.new (Same.refl HN) np5) np6
              have fO : Fz (upd (upd HN p5 (.tup [sg c, .int lo, .int (lo + d)])) p6 (.tup [.ref ea, .ref p5])) (.ref p6) (qD es (some (c, lo, lo + d))) := Fz.made np6 (.cons (fEN.kt (.new np5)) (.cons (Fz.made np5 (.cons (.str _) (.cons (.int _) (.cons (.int _) .nil)))) .nil))
              generalize upd (upd HN p5 (.tup [sg c, .int lo, .int (lo + d)])) p6 (.tup [.ref ea, .ref p5]) = HO1 at smO fO ⊢
              refine ⟨.ref t, cols, rows, .ref p6, es, some (c, lo, lo + d), rfl, fTN.kt (Same.kt smO), hrs, by omega, fO, qN.reach hcr.1 hcr.2.1 hcr.2.2.1 (by omega) (by omega), hesl, fun pA HQ smQ nA hA => ?_⟩
              have smNQ : Same HN HQ := Same.trans smO smQ
              -- the second part
              refine ⟨.ref pA, rfl, .ref t, rfl, .ref ea, rfl, sg c, rfl, .int (lo + d), rfl, lo + d, 1, rfl, rfl, .int hi, rfl, (by show 3 ≤ sizeLine; decide), fun p8 np8 => ⟨(by show 2 ≤ sizeLine; decide), fun p9 np9 => ?_⟩⟩
              have smR : Same HQ (upd (upd HQ p8 (.tup [sg c, .int (lo + d + 1), .int hi])) p9 (.tup [.ref ea, .ref p8])) := Same.new (Same.new (Same.refl HQ) np8) np9
              have fR : Fz (upd (upd HQ p8 (.tup [sg c, .int (lo + d + 1), .int hi])) p9 (.tup [.ref ea, .ref p8])) (.ref p9) (qD es (some (c, lo + d + 1, hi))) := Fz.made np9 (.cons ((fEN.kt (Same.kt smNQ)).kt (.new np8)) (.cons (Fz.made np8 (.cons (.str _) (.cons (.int _) (.cons (.int _) .nil)))) .nil))
              generalize upd (upd HQ p8 (.tup [sg c, .int (lo + d + 1), .int hi])) p9 (.tup [.ref ea, .ref p8]) = HR at smR fR ⊢
              have smNR : Same HN HR := Same.trans smNQ smR
              refine ⟨.ref t, cols, rows, .ref p9, es, some (c, lo + d + 1, hi), rfl, fTN.kt (Same.kt smNR), hrs, by omega, fR, qN.reach hcr.1 hcr.2.1 (by omega) (by omega) hcr.2.2.2.2, hesl, fun pB HS1 smS nB hB => ?_⟩
              have la := ans_len cols rows es (some (c, lo, lo + d))
              have lb := ans_len cols rows es (some (c, lo + d + 1, hi))
              refine ⟨pA, pB, _, _, rfl, rfl, smS _ _ (smR _ _ hA), hB, ?_, fun pc npc => ?_⟩
              · rw [List.length_map, List.length_map]
                exact Nat.le_of_lt (small1000 (by omega))
              · have smT : Same HN (upd HS1 pc (.lst ((ansM cols rows es (some (c, lo, lo + d))).map V.int ++ (ansM cols rows es (some (c, lo + d + 1, hi))).map V.int))) := Same.new (Same.trans smNR smS) npc
                refine ⟨.ref pc, rfl, pc, ansM cols rows es (some (c, lo, lo + d)) ++ ansM cols rows es (some (c, lo + d + 1, hi)), rfl, .inl (.inl (by rw [upd_same, List.map_append])), fun ns' pd hper hpw npd => ?_⟩
                have efin : ns' = ansM cols rows es (some (c, lo, hi)) := PySem.W.ksm_same (hper.trans (ans_parts cols rows es c (by omega) (by omega))) hpw (ans_up cols rows es (some (c, lo, hi)))
                subst efin
                have smU := Same.new (o := .lst ((ansM cols rows es (some (c, lo, hi))).map V.int)) smT npd
                refine ⟨.ref f, rfl, _, _, .lst (.inl (.inl upd_same)) (dp_ints _), .lst (.inl (.inl (smU _ _ hfN))) (dp_ints _), shaped_ints _, shaped_ints _, _, rfl, ?_⟩
                rw [eqv_ints]
                exact ⟨n7, _, _, _, _, _, _, _, _, _, _, _, _, _, _, _, rfl, Same.trans smN smU, smU _ _ hRN, (kt7.trans ktN).trans (Same.kt smU)⟩
            · exact ⟨n6, _, _, _, _, _, _, _, _, _, _, _, _, _, _, _, rfl, smM, hRM, kt7.trans ktM⟩
        · exact ⟨n6, _, _, _, _, _, _, _, _, _, _, _, _, _, _, _, rfl, smM, hRM, kt7.trans ktM⟩
    · obtain ⟨n4, z6, z7, z8, z9, z10, z11, z12, z13, z14, z15, z16, z17, z18, z19, z20, rfl, sm6, hR6, kt6⟩ := hP
      exact ⟨_, _, _, _, _, _, _, _, _, _, _, _, _, _, _, _, _, _, _, _, rfl, Same.seq sm6 hS0⟩

end
theorem all_mk {l : PySem.W.OpenLaw} {w : World} {K : PySem.W.Frag} {h : Heap} {mg : Str → Option Value} {fa : Addr} (X : K.In h) (G : h.Ns mainGlobals mg) (hfa : mg "law" = some (.ref fa))
    {oc0 kv0 dc0 pm0 cd0 ct0 : Value} {od0 an0 : Option Addr} {sl0 : Array (Option Value)} {f0 : Addr}
    {oc1 kv1 dc1 pm1 cd1 ct1 : Value} {od1 an1 : Option Addr} {sl1 : Array (Option Value)} {f1 : Addr}
    {oc2 kv2 dc2 pm2 cd2 ct2 : Value} {od2 an2 : Option Addr} {sl2 : Array (Option Value)} {f2 : Addr}
    {oc3 kv3 dc3 pm3 cd3 ct3 : Value} {od3 an3 : Option Addr} {sl3 : Array (Option Value)} {f3 : Addr}
    {oc4 kv4 dc4 pm4 cd4 ct4 : Value} {od4 an4 : Option Addr} {sl4 : Array (Option Value)} {f4 : Addr}
    {oc5 kv5 dc5 pm5 cd5 ct5 : Value} {od5 an5 : Option Addr} {sl5 : Array (Option Value)} {f5 : Addr}
    {oc6 kv6 dc6 pm6 cd6 ct6 : Value} {od6 an6 : Option Addr} {sl6 : Array (Option Value)} {f6 : Addr}
    {oc7 kv7 dc7 pm7 cd7 ct7 : Value} {od7 an7 : Option Addr} {sl7 : Array (Option Value)} {f7 : Addr}
    {oc8 kv8 dc8 pm8 cd8 ct8 : Value} {od8 an8 : Option Addr} {sl8 : Array (Option Value)} {f8 : Addr}
    {oc9 kv9 dc9 pm9 cd9 ct9 : Value} {od9 an9 : Option Addr} {sl9 : Array (Option Value)} {f9 : Addr}
    (a0 : PySem.W.nsIn K mainGlobals "spans" = some (some (.ref f0)))
    (l0 : K.lookup f0 = some ⟨oc0, od0, .func (PySem.W.fnOf "spans" "spans" (defArgs s_spans) (defBody s_spans) (defScope s_spans) .none kv0 dc0 pm0 an0 cd0 ct0), sl0⟩)
    (c0 : PySem.W.codeIn K cd0 "spans" = true) (k0 : PySem.W.keepIn K (.ref f0) = true)
    (a1 : PySem.W.nsIn K mainGlobals "fits" = some (some (.ref f1)))
    (l1 : K.lookup f1 = some ⟨oc1, od1, .func (PySem.W.fnOf "fits" "fits" (defArgs s_fits) (defBody s_fits) (defScope s_fits) .none kv1 dc1 pm1 an1 cd1 ct1), sl1⟩)
    (c1 : PySem.W.codeIn K cd1 "fits" = true) (k1 : PySem.W.keepIn K (.ref f1) = true)
    (a2 : PySem.W.nsIn K mainGlobals "answer" = some (some (.ref f2)))
    (l2 : K.lookup f2 = some ⟨oc2, od2, .func (PySem.W.fnOf "answer" "answer" (defArgs s_answer) (defBody s_answer) (defScope s_answer) .none kv2 dc2 pm2 an2 cd2 ct2), sl2⟩)
    (c2 : PySem.W.codeIn K cd2 "answer" = true) (k2 : PySem.W.keepIn K (.ref f2) = true)
    (a3 : PySem.W.nsIn K mainGlobals "_law_reel" = some (some (.ref f3)))
    (l3 : K.lookup f3 = some ⟨oc3, od3, .func (PySem.W.fnOf "_law_reel" "_law_reel" (defArgs s_l_reel) (defBody s_l_reel) (defScope s_l_reel) .none kv3 dc3 pm3 an3 cd3 ct3), sl3⟩)
    (c3 : PySem.W.codeIn K cd3 "_law_reel" = true) (k3 : PySem.W.keepIn K (.ref f3) = true)
    (a4 : PySem.W.nsIn K mainGlobals "_law_pick" = some (some (.ref f4)))
    (l4 : K.lookup f4 = some ⟨oc4, od4, .func (PySem.W.fnOf "_law_pick" "_law_pick" (defArgs s_l_pick) (defBody s_l_pick) (defScope s_l_pick) .none kv4 dc4 pm4 an4 cd4 ct4), sl4⟩)
    (c4 : PySem.W.codeIn K cd4 "_law_pick" = true) (k4 : PySem.W.keepIn K (.ref f4) = true)
    (a5 : PySem.W.nsIn K mainGlobals "_law_columns" = some (some (.ref f5)))
    (l5 : K.lookup f5 = some ⟨oc5, od5, .func (PySem.W.fnOf "_law_columns" "_law_columns" (defArgs s_l_columns) (defBody s_l_columns) (defScope s_l_columns) .none kv5 dc5 pm5 an5 cd5 ct5), sl5⟩)
    (c5 : PySem.W.codeIn K cd5 "_law_columns" = true) (k5 : PySem.W.keepIn K (.ref f5) = true)
    (a6 : PySem.W.nsIn K mainGlobals "_law_table" = some (some (.ref f6)))
    (l6 : K.lookup f6 = some ⟨oc6, od6, .func (PySem.W.fnOf "_law_table" "_law_table" (defArgs s_l_table) (defBody s_l_table) (defScope s_l_table) .none kv6 dc6 pm6 an6 cd6 ct6), sl6⟩)
    (c6 : PySem.W.codeIn K cd6 "_law_table" = true) (k6 : PySem.W.keepIn K (.ref f6) = true)
    (a7 : PySem.W.nsIn K mainGlobals "_law_near" = some (some (.ref f7)))
    (l7 : K.lookup f7 = some ⟨oc7, od7, .func (PySem.W.fnOf "_law_near" "_law_near" (defArgs s_l_near) (defBody s_l_near) (defScope s_l_near) .none kv7 dc7 pm7 an7 cd7 ct7), sl7⟩)
    (c7 : PySem.W.codeIn K cd7 "_law_near" = true) (k7 : PySem.W.keepIn K (.ref f7) = true)
    (a8 : PySem.W.nsIn K mainGlobals "_law_question" = some (some (.ref f8)))
    (l8 : K.lookup f8 = some ⟨oc8, od8, .func (PySem.W.fnOf "_law_question" "_law_question" (defArgs s_l_question) (defBody s_l_question) (defScope s_l_question) .none kv8 dc8 pm8 an8 cd8 ct8), sl8⟩)
    (c8 : PySem.W.codeIn K cd8 "_law_question" = true) (k8 : PySem.W.keepIn K (.ref f8) = true)
    (a9 : PySem.W.nsIn K mainGlobals "law" = some (some (.ref f9)))
    (l9 : K.lookup f9 = some ⟨oc9, od9, .func (PySem.W.fnOf "law" "law" (defArgs s_law) (defBody s_law) (defScope s_law) .none kv9 dc9 pm9 an9 cd9 ct9), sl9⟩)
    (c9 : PySem.W.codeIn K cd9 "law" = true) (k9 : PySem.W.keepIn K (.ref f9) = true)
    (z0 : PySem.W.nsIn K mainGlobals "len" = some none)
    (z1 : PySem.W.nsIn K mainGlobals "range" = some none)
    (z2 : PySem.W.nsIn K mainGlobals "list" = some none)
    (z3 : PySem.W.nsIn K mainGlobals "sorted" = some none)
    (z4 : PySem.W.nsIn K mainGlobals "tuple" = some none)
    (z5 : PySem.W.nsIn K mainGlobals "min" = some none)
    (z6 : PySem.W.nsIn K mainGlobals "max" = some none)
    (z7 : PySem.W.nsIn K mainGlobals "enumerate" = some none)
    (z8 : PySem.W.nsIn K mainGlobals "dict" = some none)
    : ∃ fd : FuncData, (∀ (s : Shared) (v : Value), BindsTo s fd ⟨[v], []⟩ [("script", v)]) ∧ ∀ base : Heap, K.In base → base.Ns mainGlobals mg → FnOk l.prog w K mg base CX0 4 fa fd ["script"] (spLaw K) := by
  have e := hfa.symm.trans (PySem.W.mg_of X G a9)
  cases e
  have F0 := fun_mk (st := s_spans) l0 c0 k0
  have b0 := F0.binds (ps := ["question"]) fun _ _ _ _ _ _ us hl => match us, hl with | [_], _ => rfl
  have F1 := fun_mk (st := s_fits) l1 c1 k1
  have b1 := F1.binds (ps := ["columns", "row", "question"]) fun _ _ _ _ _ _ us hl => match us, hl with | [_, _, _], _ => rfl
  have F2 := fun_mk (st := s_answer) l2 c2 k2
  have b2 := F2.binds (ps := ["table", "question"]) fun _ _ _ _ _ _ us hl => match us, hl with | [_, _], _ => rfl
  have F3 := fun_mk (st := s_l_reel) l3 c3 k3
  have b3 := F3.binds (ps := ["script", "k"]) fun _ _ _ _ _ _ us hl => match us, hl with | [_, _], _ => rfl
  have F4 := fun_mk (st := s_l_pick) l4 c4 k4
  have b4 := F4.binds (ps := ["reel", "many"]) fun _ _ _ _ _ _ us hl => match us, hl with | [_, _], _ => rfl
  have F5 := fun_mk (st := s_l_columns) l5 c5 k5
  have b5 := F5.binds (ps := ["reel", "many"]) fun _ _ _ _ _ _ us hl => match us, hl with | [_, _], _ => rfl
  have F6 := fun_mk (st := s_l_table) l6 c6 k6
  have b6 := F6.binds (ps := ["reel", "most", "rows"]) fun _ _ _ _ _ _ us hl => match us, hl with | [_, _, _], _ => rfl
  have F7 := fun_mk (st := s_l_near) l7 c7 k7
  have b7 := F7.binds (ps := ["reel", "rows", "at", "row"]) fun _ _ _ _ _ _ us hl => match us, hl with | [_, _, _, _], _ => rfl
  have F8 := fun_mk (st := s_l_question) l8 c8 k8
  have b8 := F8.binds (ps := ["reel", "table"]) fun _ _ _ _ _ _ us hl => match us, hl with | [_, _], _ => rfl
  have F9 := fun_mk (st := s_law) l9 c9 k9
  have b9 := F9.binds (ps := ["script"]) fun _ _ _ _ _ _ us hl => match us, hl with | [_], _ => rfl
  let Z : Ad := ⟨f0, PySem.W.fnOf "spans" "spans" (defArgs s_spans) (defBody s_spans) (defScope s_spans) .none kv0 dc0 pm0 an0 cd0 ct0, f1, PySem.W.fnOf "fits" "fits" (defArgs s_fits) (defBody s_fits) (defScope s_fits) .none kv1 dc1 pm1 an1 cd1 ct1, f2, PySem.W.fnOf "answer" "answer" (defArgs s_answer) (defBody s_answer) (defScope s_answer) .none kv2 dc2 pm2 an2 cd2 ct2, f3, PySem.W.fnOf "_law_reel" "_law_reel" (defArgs s_l_reel) (defBody s_l_reel) (defScope s_l_reel) .none kv3 dc3 pm3 an3 cd3 ct3, f4, PySem.W.fnOf "_law_pick" "_law_pick" (defArgs s_l_pick) (defBody s_l_pick) (defScope s_l_pick) .none kv4 dc4 pm4 an4 cd4 ct4, f5, PySem.W.fnOf "_law_columns" "_law_columns" (defArgs s_l_columns) (defBody s_l_columns) (defScope s_l_columns) .none kv5 dc5 pm5 an5 cd5 ct5, f6, PySem.W.fnOf "_law_table" "_law_table" (defArgs s_l_table) (defBody s_l_table) (defScope s_l_table) .none kv6 dc6 pm6 an6 cd6 ct6, f7, PySem.W.fnOf "_law_near" "_law_near" (defArgs s_l_near) (defBody s_l_near) (defScope s_l_near) .none kv7 dc7 pm7 an7 cd7 ct7, f8, PySem.W.fnOf "_law_question" "_law_question" (defArgs s_l_question) (defBody s_l_question) (defScope s_l_question) .none kv8 dc8 pm8 an8 cd8 ct8, fa, PySem.W.fnOf "law" "law" (defArgs s_law) (defBody s_law) (defScope s_law) .none kv9 dc9 pm9 an9 cd9 ct9⟩
  have T : Tx K mg Z := ⟨F0, b0, PySem.W.mg_of X G a0, F1, b1, PySem.W.mg_of X G a1, F2, b2, PySem.W.mg_of X G a2, F3, b3, PySem.W.mg_of X G a3, F4, b4, PySem.W.mg_of X G a4, F5, b5, PySem.W.mg_of X G a5, F6, b6, PySem.W.mg_of X G a6, F7, b7, PySem.W.mg_of X G a7, F8, b8, PySem.W.mg_of X G a8, F9, b9, PySem.W.mg_of X G a9, PySem.W.mg_none_of X G z0, PySem.W.mg_none_of X G z1, PySem.W.mg_none_of X G z2, PySem.W.mg_none_of X G z3, PySem.W.mg_none_of X G z4, PySem.W.mg_none_of X G z5, PySem.W.mg_none_of X G z6, PySem.W.mg_none_of X G z7, PySem.W.mg_none_of X G z8⟩
  exact ⟨_, fun s v => .of_eq rfl, fun base _ _ => ok_law T⟩
end My
open PySem PySem.W PyProof.Rows
set_option maxHeartbeats 0 in
theorem PySem.Challenge.cw_stretchkeep_k07_whole_answers_parted_holds : PySem.Challenge.rw_stretchkeep_k07_whole_answers_parted.Holds := by
  w_on; o_law; k_head; (case hw => w_witness2)
  k_fill
  refine L2.walk_of (l := PySem.Challenge.rw_stretchkeep_k07_whole_answers_parted) (n := 63) (k := 4) (x := "script") (CX := fun _ => L2.CX0) (sp := fun w => My.spLaw _) rfl (by decide) rfl ⟨rfl, by decide, by decide⟩ (fun w h Y => PySem.W.kIn_of Y) ?F (fun _ _ a ns hl _ hS => ⟨a, ns, rfl, hS, hl, fun _ => rfl⟩) (fun _ _ _ _ _ h => h)
  case F =>
    intro w mg fa h KX G hmg
    refine' My.all_mk KX G hmg ?a0 ?l0 ?c0 ?k0 ?a1 ?l1 ?c1 ?k1 ?a2 ?l2 ?c2 ?k2 ?a3 ?l3 ?c3 ?k3 ?a4 ?l4 ?c4 ?k4 ?a5 ?l5 ?c5 ?k5 ?a6 ?l6 ?c6 ?k6 ?a7 ?l7 ?c7 ?k7 ?a8 ?l8 ?c8 ?k8 ?a9 ?l9 ?c9 ?k9 ?z0 ?z1 ?z2 ?z3 ?z4 ?z5 ?z6 ?z7 ?z8
    (case a0 => k_is)
    (case l0 => k_is)
    (case c0 => k_is)
    (case k0 => k_is)
    (case a1 => k_is)
    (case l1 => k_is)
    (case c1 => k_is)
    (case k1 => k_is)
    (case a2 => k_is)
    (case l2 => k_is)
    (case c2 => k_is)
    (case k2 => k_is)
    (case a3 => k_is)
    (case l3 => k_is)
    (case c3 => k_is)
    (case k3 => k_is)
    (case a4 => k_is)
    (case l4 => k_is)
    (case c4 => k_is)
    (case k4 => k_is)
    (case a5 => k_is)
    (case l5 => k_is)
    (case c5 => k_is)
    (case k5 => k_is)
    (case a6 => k_is)
    (case l6 => k_is)
    (case c6 => k_is)
    (case k6 => k_is)
    (case a7 => k_is)
    (case l7 => k_is)
    (case c7 => k_is)
    (case k7 => k_is)
    (case a8 => k_is)
    (case l8 => k_is)
    (case c8 => k_is)
    (case k8 => k_is)
    (case a9 => k_is)
    (case l9 => k_is)
    (case c9 => k_is)
    (case k9 => k_is)
    (case z0 => k_is)
    (case z1 => k_is)
    (case z2 => k_is)
    (case z3 => k_is)
    (case z4 => k_is)
    (case z5 => k_is)
    (case z6 => k_is)
    (case z7 => k_is)
    (case z8 => k_is)

