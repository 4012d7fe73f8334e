import PyProof.Rows.All
import Wide.All
import OpenK.AllK
import Wide.FinOn
import HandS.ForMost
import HandS.Walk
import HandS.IsInst
import HandS.DictComp
import HandS.SortInts
import HandS.NoneIn
import HandS.Replace
import HandS.TupAny
import HandS.TupLe
import PyProof.ListStr
import PyProof.TupleOfStr
import KE.GoesNew
import HandS.Zip
import HandS.More
import PyProof.StrLawsFirst
import HandS.Conv
import KE.KSortedM
import HandS.AnyAll
import HandS.EndTab
import PyProof.TupleOfGen
import HandS.EndOwn
import KE.KDictPairs
import KE.SortData
import KE.DataCmp
import PyProof.DictWalks
import KE.KDictWalk
import HandS.Style
import PyProof.CollectStr
import PyProof.SliceStr2
import PyProof.TupleOfSeq
import HandS.Star
import HandS.Wide
import KE.DataMinMax
import HandS.GenOver
import HandS.GenList
import KE.DatumIndex
import PyProof.ConsumeWalk
import HandS.SetFor
import PyProof.StrWalks
import PyProof.SetRoads
import PyProof.Rows.StrCase
import HandS.TupMul
import PyProof.ListNew
import HandS.SetBool
import KE.DataMinKey
import HandS.SortKw
import HandS.Strs
import HandS.Deep
import HandS.ListItems
import KE.KDictZip
import KE.GoesMore
import KE.GoesEnum
import HandS.Nested
import KE.KMinKey
import KE.GoesZip
import HandS.DictSub
import HandS.Defaults
import HandS.Head0
import HandS.Head1
import HandS.Head2
import HandS.HeadHook1
import HandS.HeadHook2
import HandS.HeadHook3
import HandS.HeadHook4
import HandS.HeadWalk
import KE.SortKeyHeap
import HandS.Keys
import HandS.Text
import PyProof.P3In
import KE.KDictSum
import KE.KEqDict
import KE.KDictKeyed
import KE.KDictItemsList
import HandS.TupLen
import HandS.ExcIs
import HandS.ExcOwn
import HandS.Lambda
import HandS.WordsExc
import KE.KDictDisplayH
import PySem.Challenge.RW_stretchkeep_k41_kept_refused
set_option Elab.async false
set_option linter.all false
set_option maxRecDepth 100000
namespace My
open PySem PySem.Spec PyProof.Rows L2
/-! ### heaps -/
/-- all but r is as it was -/
def Kp (r : Addr) (H H' : Hp) : Prop := ∀ b o, b ≠ r → H b = some o → H' b = some o
theorem Kp.rfl' {r : Addr} {H : Hp} : Kp r H H := fun _ _ _ h => h
theorem Kp.trans {r : Addr} {H H1 H2 : Hp} (a : Kp r H H1) (b : Kp r H1 H2) : Kp r H H2 := fun c o n h => b c o n (a c o n h)
theorem Kp.new {r p : Addr} {H H1 : Hp} {o : HO} (a : Kp r H H1) (n : H1 p = none) : Kp r H (upd H1 p o) := fun b x nb h => by
  have h1 := a b x nb h
  rw [upd_ne (ne_of_none h1 n)]
  exact h1
theorem Kp.own {r : Addr} {H H1 : Hp} {o : HO} (a : Kp r H H1) : Kp r H (upd H1 r o) := fun b x nb h => by
  rw [upd_ne nb]
  exact a b x nb h
/-- an object that H does not know is written -/
theorem Kp.mut {r p : Addr} {H H1 : Hp} {o : HO} (a : Kp r H H1) (n : H p = none) : Kp r H (upd H1 p o) := fun b x nb h => by
  rw [upd_ne (ne_of_none h n)]
  exact a b x nb h
theorem Same.kp {r : Addr} {H H' : Hp} (s : Same H H') : Kp r H H' := fun b o _ h => s b o h
theorem Same.new {p : Addr} {H H1 : Hp} {o : HO} (a : Same H H1) (n : H1 p = none) : Same H (upd H1 p o) := fun b x h => by
  have h1 := a b x h
  rw [upd_ne (ne_of_none h1 n)]
  exact h1
theorem Same.mut {p : Addr} {H H1 : Hp} {o : HO} (a : Same H H1) (n : H p = none) : Same H (upd H1 p o) := fun b x h => by
  rw [upd_ne (ne_of_none h n)]
  exact a b x h
theorem Same.tup {K : PySem.W.Frag} {H H' : Hp} {a : Addr} {xs : List V} (e : Same H H') (h : SqT K H a xs) : SqT K H' a xs := by
  rcases h with (h | ⟨o, h⟩) | h
  · exact .inl (.inl (e _ _ h))
  · exact .inl (.inr ⟨o, e _ _ h⟩)
  · exact .inr h
/-- a list, a tuple that stands there stays, if it is not at r -/
theorem Kp.seqL {K : PySem.W.Frag} {r a : Addr} {H H' : Hp} {xs : List V} (e : Kp r H H') (n : a ≠ r) (h : SqL K H a xs) : SqL K H' a xs := by
  rcases h with (h | ⟨o, h⟩) | h
  · exact .inl (.inl (e _ _ n h))
  · exact .inl (.inr ⟨o, e _ _ n h⟩)
  · exact .inr h
theorem Kp.none {r p : Addr} {H H' : Hp} (e : Kp r H H') (n : p ≠ r) (h : H' p = Option.none) : H p = Option.none := by
  cases q : H p with
  | none => rfl
  | some o =>
    rw [e p o n q] at h
    cases h
theorem keep_new {H : Hp} {p b : Addr} {o x : HO} (h : H b = some x) (n : H p = Option.none) : (upd H p o) b = some x := by
  rw [upd_ne (ne_of_none h n)]
  exact h
theorem keep_ne {H : Hp} {p b : Addr} {o x : HO} (h : H b = some x) (n : b ≠ p) : (upd H p o) b = some x := by
  rw [upd_ne n]
  exact h
/-! ### a word between a statement and the rest -/
def tMid (t u : TS) : TS := fun D σ H => ∃ M : L2.St → Hp → Prop, t { D with nx := M } σ H ∧ ∀ σ1 H1, M σ1 H1 → u D σ1 H1
theorem pss_mid {X : Cx} {st : Stmt} {r : List Stmt} {t u : TS} (a : PS X st t) (b : PSs X r u) : PSs X (st :: r) (tMid t u) := ⟨fun pins s σ H D I h => by
  obtain ⟨M, hm, hu⟩ := h
  refine wpAny_execs_cons (thn (a.run pins s σ H { D with nx := M } I hm) fun f s1 q => ?_)
  cases f
  case next =>
    obtain ⟨σ1, H1, I1, q1⟩ := q
    exact b.run pins s1 σ1 H1 D I1 (hu σ1 H1 q1)
  all_goals exact q⟩
/-! ### texts -/
/-- a text of these codes; one sign -/
abbrev tx (l : List Nat) : V := .str ⟨l.toArray⟩
abbrev sg (c : Nat) : V := .str ⟨#[c]⟩
theorem signs_vals {x : Str} {acc : Array Value} (h : ItemsOf (SignAt x) acc x.cps.size) : Vals (x.cps.toList.map sg) acc.toList := by
  obtain ⟨hz, hi⟩ := h
  have key : ∀ (l : List Nat) (us : List Value), l.length = us.length → (∀ (j : Nat) (c : Nat) (v : Value), l[j]? = some c → us[j]? = some v → ∃ t, v = Value.str ⟨#[c]⟩ t) → Vals (l.map sg) us := by
    intro l
    induction l with
    | nil =>
      intro us hl _
      cases us with
      | nil => exact .nil
      | cons a b => cases hl
    | cons c l ih =>
      intro us hl hh
      cases us with
      | nil => cases hl
      | cons u us =>
        refine .cons ?_ (ih us (Nat.succ.inj hl) fun j c v h1 h2 => hh (j + 1) c v h1 h2)
        obtain ⟨t, e⟩ := hh 0 c u rfl rfl
        exact ⟨t, e⟩
  refine key _ _ (by rw [Array.length_toList, Array.length_toList, hz]) fun j c v h1 h2 => ?_
  obtain ⟨cc, t, e1, e2⟩ := hi j v (by rw [← Array.getElem?_toList]; exact h2)
  rw [Array.getElem?_toList] at h1
  rw [h1] at e1
  cases e1
  exact ⟨t, e2⟩
/-- the text of one sign -/
abbrev sS (c : Nat) : Str := ⟨#[c]⟩
theorem str_empty : (Str.ofString "").cps = #[] := by decide +kernel
theorem join_signs : ∀ l : List Nat, Txt.join (Str.ofString "") (l.map sS) = ⟨l.toArray⟩ := by
  intro l
  show PySem.Builtin.Str.glued (Str.ofString "") (l.map sS) = _
  rw [PySem.StrLaws.glued_eq_join]
  induction l with
  | nil => rfl
  | cons c l ih =>
    cases l with
    | nil => rfl
    | cons d l =>
      show sS c ++ Str.ofString "" ++ Str.join (Str.ofString "") ((d :: l).map sS) = _
      rw [ih]
      show (⟨(#[c] ++ (Str.ofString "").cps) ++ (d :: l).toArray⟩ : Str) = _
      rw [str_empty]
      simp
theorem ltCps_one {a b : Nat} (h : ltCps [a] [b] = false) : b ≤ a := by
  simp [ltCps] at h
  exact h
theorem rising_signs : ∀ (l : List Nat) (c : Nat), risingS (sS c) (l.map sS) = true → (c :: l).Pairwise (· ≤ ·)
  | [], c, _ => List.pairwise_singleton _ _
  | d :: l, c, h => by
    have h' : (!ltCps [d] [c] && risingS (sS d) (l.map sS)) = true := h
    rw [Bool.and_eq_true, Bool.not_eq_true'] at h'
    have hd := ltCps_one h'.1
    have ih := rising_signs l d h'.2
    refine List.Pairwise.cons (fun x hx => ?_) ih
    rcases List.mem_cons.mp hx with e | hx
    · rw [e]
      exact hd
    · exact Nat.le_trans hd ((List.pairwise_cons.mp ih).1 x hx)
theorem sorted_signs : ∀ (l : List Nat), sortedS (l.map sS) = true → l.Pairwise (· ≤ ·)
  | [], _ => List.Pairwise.nil
  | c :: l, h => rising_signs l c h
theorem perm_signs {ys : List Str} {l : List Nat} (h : ys.Perm (l.map sS)) : ∃ l' : List Nat, ys = l'.map sS ∧ l'.Perm l := by
  let hd : Str → Nat := fun z => z.cps.toList.headD 0
  refine ⟨ys.map hd, ?_, ?_⟩
  · rw [List.map_map]
    have e : ∀ y ∈ ys, (sS ∘ hd) y = y := fun y hy => by
      obtain ⟨c, _, rfl⟩ := List.mem_map.mp (h.mem_iff.mp hy)
      rfl
    conv => lhs; rw [← List.map_id ys]
    exact (List.map_congr_left e).symm
  · have e := h.map hd
    rw [List.map_map] at e
    have e2 : l.map (hd ∘ sS) = l := by
      conv => rhs; rw [← List.map_id l]
      exact List.map_congr_left fun c _ => rfl
    rw [e2] at e
    exact e
theorem strict_of {l : List Nat} (h : l.Pairwise (· ≤ ·)) (n : l.Nodup) : l.Pairwise (· < ·) := by
  refine (h.and n).imp fun {a b} q => ?_
  have h1 := q.1
  have h2 : a ≠ b := q.2
  omega
theorem map_sg (l : List Nat) : l.map sg = (l.map sS).map V.str := by
  rw [List.map_map]
  rfl
theorem erase_map {α β : Type} (f : α → β) : ∀ (l : List α) (k : Nat), (l.map f).eraseIdx k = (l.eraseIdx k).map f
  | [], _ => rfl
  | _ :: _, 0 => rfl
  | a :: l, k + 1 => by
    show f a :: (l.map f).eraseIdx k = f a :: (l.eraseIdx k).map f
    rw [erase_map f l k]
theorem pop_perm : ∀ {l : List Nat} {k : Nat} {y : Nat}, l[k]? = some y → (y :: l.eraseIdx k).Perm l
  | [], k, y, h => by simp at h
  | a :: l, 0, y, h => by
    have e : a = y := Option.some.inj h
    rw [e]
    exact List.Perm.refl _
  | a :: l, k + 1, y, h => by
    have ih := pop_perm (l := l) (k := k) (y := y) h
    exact (List.Perm.swap a y (l.eraseIdx k)).trans (ih.cons a)
theorem popped {l : List Nat} {k : Nat} {y : Nat} (h : l[k]? = some y) (f : List Nat) : (l.eraseIdx k ++ (f ++ [y])).Perm (l ++ f) := by
  have p := pop_perm h
  have p1 : (l.eraseIdx k ++ (f ++ [y])).Perm ([y] ++ (l.eraseIdx k ++ f)) := by
    rw [← List.append_assoc]
    exact List.perm_append_comm
  refine p1.trans ?_
  rw [← List.append_assoc]
  exact p.append_right f
section
variable {X : Cx}
theorem call_list_txt (hc : X.calm = true := by rfl) : CallR X (.type "list") (fun xs H Q => ∃ z : Str, xs = [.str z] ∧ z.length ≤ sizeLine ∧ ∀ l, H l = none → Q (.ref l) (upd H l (.lst (z.cps.toList.map sg)))) := by
  intro pins s σ H xs us Q I r h
  obtain ⟨z, rfl, hz, q⟩ := h
  obtain ⟨u, rfl, rx⟩ := vals1 r
  obtain ⟨t, rfl⟩ := rx
  refine PySem.call_list_str (I.ok.hd hc) z t (fun h' tk acc c kp e hi => ?_) hz
  have hv := signs_vals hi
  exact ⟨.ref s.heap.objs.size, _, I.laid (t' := tk) kp (Nat.le_refl _) (show ObjOk X.prog X.w _ h' _ (.lst (z.cps.toList.map sg)) from ⟨by rw [List.length_map, Array.length_toList]; exact hz, acc.toList, c, hv, by rw [Array.toArray_toList]; exact e⟩), rfl, q _ (I.hok.fresh (Nat.le_refl _))⟩
end
end My

set_option Elab.async false
set_option linter.all false
set_option maxRecDepth 100000
set_option maxHeartbeats 1000000
namespace My
open PySem PySem.Spec PyProof.Rows L2
/-! ### enumerate over a text, over a tuple -/
section
variable {X : Cx}
theorem meets_enumT (l : Addr) (items : Array Value) (n : Nat) (dct : Option Addr) (sl : Array (Option Value)) :
    Meets (Builtin.«enumerate.__new__» ⟨[.type "enumerate", .ref l], []⟩) (fun _ R s => s.heap.get? l = some ⟨.type "tuple", dct, .seq items n, sl⟩ ∧
      R (.ok (.ret (.ref (s.heap.push { cls := .type "tuple_iterator", data := .fields #[.ref l, .int 0 0] }).objs.size)))
        { s with heap := (s.heap.push { cls := .type "tuple_iterator", data := .fields #[.ref l, .int 0 0] }).push { cls := .type "enumerate", data := .fields #[.none, .bool false, .ref s.heap.objs.size, rawInt 0, .none, .none] } }) :=
  .of_wp fun prog w A R s h => by
    obtain ⟨hp, g, d, tk, os⟩ := s
    obtain ⟨hl, h⟩ := h
    have hsub := sub_enumerate
    have hT : Heap.IsTuple (Shared.heap ⟨hp, g, d, tk, os⟩) l items := ⟨_, hl, rfl, n, rfl⟩
    wp_walk using AutoSeq1.wpAny_loadPart' hl
    refine wpAny_stack_any fun st => wpAny_pure ?_
    split
    · rename_i c _ _ _ _ _
      cases (c == Value.type "enumerate") <;> (wp_walk using AutoSeq1.wpAny_loadPart' hl, wpAny_pyIter_tuple hT; exact ⟨_, rfl, h⟩)
    · wp_walk using AutoSeq1.wpAny_loadPart' hl, wpAny_pyIter_tuple hT
      exact ⟨_, rfl, h⟩
theorem call_enumT {prog : Program} {w : World} {A : Around} {E : Value → Shared → Prop} {s : Shared} {l : Addr} {items : Array Value} {Q : Value → Shared → Prop} (hL : s.heap.IsTuple l items)
    (h : ∀ h', IsEnum h' (s.heap.objs.size + 1) s.heap.objs.size 0 .none → h'.IsTupleIter s.heap.objs.size l 0 → (∀ b o, s.heap.get? b = some o → h'.get? b = some o) → Q (.ref (s.heap.objs.size + 1)) { s with heap := h' }) :
    wpAny (model prog w) A (call (.type "enumerate") [.ref l]) Q E s := by
  obtain ⟨⟨c, dct, dt, sl⟩, hl, hc, n, hd⟩ := hL
  have hc' : c = .type "tuple" := hc
  have hd' : dt = .seq items n := hd
  subst hc' hd'
  refine callType_new F.called_enumerate (by decide) (F.typeCall_enumerate_1 _) (F.newCall_enumerate_1 _) (fun obj => F.args_object_init_2 obj _) F.entry_enumerate_new (meets_enumT l items n dct sl) ⟨hl, ?_⟩
  have hz : (s.heap.push { cls := .type "tuple_iterator", data := .fields #[.ref l, .int 0 0] }).objs.size = s.heap.objs.size + 1 := Heap.size_push ..
  show _ ∧ _
  rw [hz]
  have he : IsEnum ((s.heap.push { cls := .type "tuple_iterator", data := .fields #[.ref l, .int 0 0] }).push { cls := .type "enumerate", data := .fields #[.none, .bool false, .ref s.heap.objs.size, rawInt 0, .none, .none] }) (s.heap.objs.size + 1) s.heap.objs.size 0 .none := by
    have := Heap.get?_push_size (s.heap.push { cls := .type "tuple_iterator", data := .fields #[.ref l, .int 0 0] }) (o := { cls := .type "enumerate", data := .fields #[.none, .bool false, .ref s.heap.objs.size, rawInt 0, .none, .none] }) rfl
    rw [hz] at this
    exact this
  exact ⟨⟨_, he, rfl⟩, h _ he ⟨_, Heap.get?_push_of_some _ (Heap.get?_push_size _ rfl), rfl, rfl⟩ fun b o x => Heap.get?_push_of_some _ (Heap.get?_push_of_some _ x)⟩
end
end My

set_option Elab.async false
set_option linter.all false
set_option maxRecDepth 100000
set_option maxHeartbeats 1000000
namespace My
open PySem PySem.Spec PyProof.Rows L2
/-! ### calls by named readings -/
def rLenSq (K : PySem.W.Frag) : List V → Hp → VK → Prop := fun xs H Q => ∃ p ys, xs = [.ref p] ∧ (SqL K H p ys ∨ SqT K H p ys) ∧ Q (.int (ys.length : Nat)) H
def rListSq (K : PySem.W.Frag) : List V → Hp → VK → Prop := fun xs H Q => ∃ p ys, xs = [.ref p] ∧ (SqL K H p ys ∨ SqT K H p ys) ∧ ∀ l, H l = none → Q (.ref l) (upd H l (.lst ys))
def rTupSq (K : PySem.W.Frag) : List V → Hp → VK → Prop := fun xs H Q => ∃ p ys, xs = [.ref p] ∧ ((SqL K H p ys ∧ ∀ l, H l = none → Q (.ref l) (upd H l (.tup ys))) ∨ (SqT K H p ys ∧ Q (.ref p) H))
def rDictSq (K : PySem.W.Frag) : List V → Hp → VK → Prop := fun xs H Q => ∃ (a : Addr) (ps : List Addr) (kvs : List (Key × V)), xs = [.ref a] ∧ SqL K H a (ps.map V.ref) ∧ Paired (fun p kv => SqT K H p [kV kv.1, kv.2]) ps kvs ∧ ∀ p, H p = none → Q (.ref p) (upd H p (.dK (mergeK [] kvs)))
section
variable (K : PySem.W.Frag) {X : Cx}
theorem cLenSq (hK : X.K = K := by rfl) : CallR X (.builtin "len") (rLenSq K) := by
  subst hK
  exact call_len_seq
theorem cListSq (hK : X.K = K := by rfl) : CallR X (.type "list") (rListSq K) := by
  subst hK
  exact call_list_of
theorem cTupSq (hK : X.K = K := by rfl) : CallR X (.type "tuple") (rTupSq K) := by
  subst hK
  exact call_tuple_of
theorem cDictSq (hK : X.K = K := by rfl) (hc : X.calm = true := by rfl) : CallR X (.type "dict") (rDictSq K) := by
  subst hK
  exact call_dictP hc
theorem ixL (hK : X.K = K := by rfl) : IxR X (rIxL K) := by
  subst hK
  exact ix_list
theorem ixT (hK : X.K = K := by rfl) : IxR X (rIxT K) := by
  subst hK
  exact ix_tup
theorem piL {tg l : Expr} {tl : TE} (hl : PE X l tl) (hK : X.K = K := by rfl) : PI X tg l (iList K tl) := by
  subst hK
  exact pi_list hl
theorem piT {tg l : Expr} {tl : TE} (hl : PE X l tl) (hK : X.K = K := by rfl) : PI X tg l (iTup K tl) := by
  subst hK
  exact pi_tup hl
theorem pgT {es : List Expr} {k : Nat} {t : TGs} {n : Nat} {pos : Pos} (h : PGs X es t) (hK : X.K = K := by rfl) (hc : X.calm = true := by rfl) (hn : (assignEach es X.env).length = n := by rfl) (hst : (assignEach es X.env).findIdx? (·.1) = none := by rfl) : PG X (.Tuple es k pos) (gTup K n t) := by
  subst hK
  exact pg_tup hc h hn hst
theorem inSq (hK : X.K = K := by rfl) : OpR X (compareOp .In) (rIn K false) := by
  subst hK
  exact op_in_seq
theorem notInSq (hK : X.K = K := by rfl) : OpR X (compareOp .NotIn) (rIn K true) := by
  subst hK
  exact op_notIn_seq
theorem eqDK (hu : X.A.units + 64 < cLine) (hK : X.K = K := by rfl) : OpR X (compareOp .Eq) (rEqD K) := by
  subst hK
  exact op_eqD hu
theorem neDK (hu : X.A.units + 64 < cLine) (hK : X.K = K := by rfl) : OpR X (compareOp .NotEq) (rNeD K) := by
  subst hK
  exact op_neD hu
theorem bmK {T id : String} {name : Str} {r : V → List V → Hp → VK → Prop} {o e : Expr} {es : List Expr} {to : TE} {t : TA} {apos cpos : Pos} (pa : PlainAttrs T) (slot : Slot T name id) (hty : typeOf (.builtin id) = pure (.type "method_descriptor")) (hm : MtR X id r) (ho : PE X o to) (ha : PA X (e :: es) t) (hK : X.K = K := by rfl)
    (hbase : attributeBase o name X.env (eval o X.env) = eval o X.env := by rfl)
    (hfew : ((backTo cpos (starEach (e :: es) X.env)).all (fun x => !x.1) && (backToKw cpos (keywordEach [] X.env)).all (fun x => x.1.isSome) && decide ((e :: es).length + ([] : List Keyword).length + (if ([] : List Keyword).isEmpty then 0 else 1) < 30)) = true := by rfl)
    (hline : (apos.endLine == cpos.line) = true := by rfl) (hs : starEach (e :: es) X.env = (false, eval e X.env) :: starEach es X.env := by rfl) (hplain : (backTo cpos (starEach es X.env)).any (·.1) = false := by rfl) :
    PE X (.Call (.Attribute o name apos) (e :: es) [] cpos) (tBM K T r to t) := by
  subst hK
  exact pe_bm pa slot hty hm ho ha hbase hfew hline hs hplain
theorem isiK (hK : X.K = K := by rfl) : CallR X (.builtin "isinstance") (rIsi K) := by
  subst hK
  exact call_isi
end
/-! ### frozen data: numbers, texts, None, truths, tuples of these -/
mutual
inductive Fz (H : Hp) : V → PyData → Prop
  | non : Fz H .non .none
  | bl (b : Bool) : Fz H (.bl b) (.bool b)
  | int (i : Int) : Fz H (.int i) (.int i)
  | str (x : Str) : Fz H (.str x) (.str x)
  | tup {a : Addr} {xs : List V} {ds : List PyData} : H a = some (.tup xs) → FzA H xs ds → Fz H (.ref a) (.tuple ds)
inductive FzA (H : Hp) : List V → List PyData → Prop
  | nil : FzA H [] []
  | cons {v : V} {vs : List V} {d : PyData} {ds : List PyData} : Fz H v d → FzA H vs ds → FzA H (v :: vs) (d :: ds)
end
/-- tuples stay -/
def Kt (H H' : Hp) : Prop := ∀ b xs, H b = some (.tup xs) → H' b = some (.tup xs)
theorem Kt.rfl' {H : Hp} : Kt H H := fun _ _ h => h
theorem Kt.trans {H H1 H2 : Hp} (a : Kt H H1) (b : Kt H1 H2) : Kt H H2 := fun c o h => b c o (a c o h)
theorem Kt.new {H : Hp} {p : Addr} {o : HO} (n : H p = none) : Kt H (upd H p o) := fun b xs h => by
  rw [upd_ne (ne_of_none h n)]
  exact h
theorem Kt.lst {H : Hp} {p : Addr} {xs : List V} {o : HO} (n : H p = some (.lst xs)) : Kt H (upd H p o) := fun b ys h => by
  have e : b ≠ p := fun z => by
    rw [z, n] at h
    cases h
  rw [upd_ne e]
  exact h
theorem Kt.dct {H : Hp} {p : Addr} {xs : List (Key × V)} {o : HO} (n : H p = some (.dK xs)) : Kt H (upd H p o) := fun b ys h => by
  have e : b ≠ p := fun z => by
    rw [z, n] at h
    cases h
  rw [upd_ne e]
  exact h
theorem Kp.kt {r : Addr} {H H' : Hp} {xs : List V} (k : Kp r H H') (h : H r = some (.lst xs)) : Kt H H' := fun b ys e => k b _ (fun z => by
  rw [z, h] at e
  cases e) e
theorem Same.kt {H H' : Hp} (k : Same H H') : Kt H H' := fun b ys e => k b _ e
mutual
theorem Fz.mono {H H' : Hp} (k : Kt H H') : ∀ (d : PyData) (v : V), Fz H v d → Fz H' v d
  | .none, _, .non => .non
  | .bool _, _, .bl b => .bl b
  | .int _, _, .int i => .int i
  | .str _, _, .str x => .str x
  | .tuple ds, _, .tup h a => .tup (k _ _ h) (FzA.mono k ds _ a)
theorem FzA.mono {H H' : Hp} (k : Kt H H') : ∀ (ds : List PyData) (vs : List V), FzA H vs ds → FzA H' vs ds
  | [], _, .nil => .nil
  | d :: ds, _, .cons h a => .cons (Fz.mono k d _ h) (FzA.mono k ds _ a)
end
theorem Fz.kt {H H' : Hp} {v : V} {d : PyData} (h : Fz H v d) (k : Kt H H') : Fz H' v d := Fz.mono k d v h
theorem FzA.kt {H H' : Hp} {vs : List V} {ds : List PyData} (h : FzA H vs ds) (k : Kt H H') : FzA H' vs ds := FzA.mono k ds vs h
mutual
theorem Fz.dp {K : PySem.W.Frag} {H : Hp} : ∀ (d : PyData) (v : V), Fz H v d → Dp K H v d
  | .none, _, .non => .non
  | .bool _, _, .bl b => .bl b
  | .int _, _, .int i => .int i
  | .str _, _, .str x => .str x
  | .tuple ds, _, .tup h a => .tup (.inl (.inl h)) (FzA.dp ds _ a)
theorem FzA.dp {K : PySem.W.Frag} {H : Hp} : ∀ (ds : List PyData) (vs : List V), FzA H vs ds → DpAll K H vs ds
  | [], _, .nil => .nil
  | d :: ds, _, .cons h a => .cons (Fz.dp d _ h) (FzA.dp ds _ a)
end
theorem Fz.to {K : PySem.W.Frag} {H : Hp} {v : V} {d : PyData} (h : Fz H v d) : Dp K H v d := Fz.dp d v h
theorem FzA.len : ∀ {H : Hp} {vs : List V} {ds : List PyData}, FzA H vs ds → vs.length = ds.length
  | _, _, _, .nil => rfl
  | _, _, _, .cons _ a => by
    rw [List.length_cons, List.length_cons, FzA.len a]
theorem FzA.get : ∀ {H : Hp} {vs : List V} {ds : List PyData} {i : Nat} {d : PyData}, FzA H vs ds → ds[i]? = some d → ∃ v, vs[i]? = some v ∧ Fz H v d
  | _, _, _, _, _, .nil, h => by simp at h
  | _, _, _, 0, _, .cons a _, h => ⟨_, rfl, Option.some.inj h ▸ a⟩
  | _, _, _, i + 1, _, .cons _ a, h => FzA.get (i := i) a h
theorem FzA.getV : ∀ {H : Hp} {vs : List V} {ds : List PyData} {i : Nat} {v : V}, FzA H vs ds → vs[i]? = some v → ∃ d, ds[i]? = some d ∧ Fz H v d
  | _, _, _, _, _, .nil, h => by simp at h
  | _, _, _, 0, _, .cons a _, h => ⟨_, rfl, Option.some.inj h ▸ a⟩
  | _, _, _, i + 1, _, .cons _ a, h => FzA.getV (i := i) a h
theorem FzA.app : ∀ {H : Hp} {vs ws : List V} {ds es : List PyData}, FzA H vs ds → FzA H ws es → FzA H (vs ++ ws) (ds ++ es)
  | _, _, _, _, _, .nil, b => b
  | _, _, _, _, _, .cons a r, b => .cons a (FzA.app r b)
theorem FzA.snoc {H : Hp} {vs : List V} {ds : List PyData} {v : V} {d : PyData} (a : FzA H vs ds) (b : Fz H v d) : FzA H (vs ++ [v]) (ds ++ [d]) := a.app (.cons b .nil)
theorem FzA.ints : ∀ {H : Hp} {ns : List Int} {vs : List V}, FzA H vs (ns.map PyData.int) → vs = ns.map V.int
  | _, [], _, .nil => rfl
  | _, n :: ns, _, .cons (.int _) a => by
    rw [FzA.ints (ns := ns) a]
    rfl
theorem FzA.ofInts : ∀ {H : Hp} {ns : List Int}, FzA H (ns.map V.int) (ns.map PyData.int)
  | _, [] => .nil
  | _, n :: ns => .cons (.int n) (FzA.ofInts (ns := ns))
/-- a tuple, opened -/
theorem Fz.open {H : Hp} {v : V} {ds : List PyData} (h : Fz H v (.tuple ds)) : ∃ (a : Addr) (xs : List V), v = .ref a ∧ H a = some (.tup xs) ∧ FzA H xs ds := by
  cases h with
  | tup h a => exact ⟨_, _, rfl, h, a⟩
theorem FzA.one {H : Hp} {vs : List V} {d : PyData} (h : FzA H vs [d]) : ∃ x, vs = [x] ∧ Fz H x d := by
  cases h with
  | cons a r =>
    cases r
    exact ⟨_, rfl, a⟩
theorem FzA.two {H : Hp} {vs : List V} {d e : PyData} (h : FzA H vs [d, e]) : ∃ x y, vs = [x, y] ∧ Fz H x d ∧ Fz H y e := by
  cases h with
  | cons a r =>
    obtain ⟨y, rfl, b⟩ := r.one
    exact ⟨_, y, rfl, a, b⟩
theorem FzA.three {H : Hp} {vs : List V} {d e f : PyData} (h : FzA H vs [d, e, f]) : ∃ x y z, vs = [x, y, z] ∧ Fz H x d ∧ Fz H y e ∧ Fz H z f := by
  cases h with
  | cons a r =>
    obtain ⟨y, z, rfl, b, c⟩ := r.two
    exact ⟨_, y, z, rfl, a, b, c⟩
theorem Fz.isStr {H : Hp} {v : V} {x : Str} (h : Fz H v (.str x)) : v = .str x := by
  cases h
  rfl
theorem Fz.isInt {H : Hp} {v : V} {i : Int} (h : Fz H v (.int i)) : v = .int i := by
  cases h
  rfl
theorem Fz.isNon {H : Hp} {v : V} (h : Fz H v .none) : v = .non := by
  cases h
  rfl
/-- a tuple just made -/
theorem Fz.made {H : Hp} {p : Addr} {xs : List V} {ds : List PyData} (n : H p = Option.none) (h : FzA H xs ds) : Fz (upd H p (.tup xs)) (.ref p) (.tuple ds) := .tup upd_same (h.kt (.new n))
/-! ### tables -/
abbrev rowD (row : List Int) : PyData := .tuple (row.map PyData.int)
abbrev rowsD (rows : List (List Int)) : PyData := .tuple (rows.map rowD)
abbrev tabD (cols : List Nat) (rows : List (List Int)) : PyData := .tuple [.str ⟨cols.toArray⟩, rowsD rows]
/-- rising unlike letters -/
structure Cols (l : List Nat) : Prop where
  up : l.Pairwise (· < ·)
  az : ∀ c ∈ l, 97 ≤ c ∧ c ≤ 122
theorem Cols.nd {l : List Nat} (c : Cols l) : l.Nodup := c.up.imp fun {a b} h => by
  have : a < b := h
  omega
def RowOk (n : Nat) (row : List Int) : Prop := row.length = n ∧ ∀ x ∈ row, 0 ≤ x ∧ x < 1000
def RowsOk (n : Nat) (rows : List (List Int)) : Prop := ∀ row ∈ rows, RowOk n row
theorem row_open {H : Hp} {v : V} {row : List Int} (h : Fz H v (rowD row)) : ∃ a, v = .ref a ∧ H a = some (.tup (row.map V.int)) := by
  obtain ⟨a, xs, rfl, ha, f⟩ := h.open
  rw [FzA.ints f] at ha
  exact ⟨a, rfl, ha⟩
theorem row_made {H : Hp} {p : Addr} {row : List Int} (n : H p = none) : Fz (upd H p (.tup (row.map V.int))) (.ref p) (rowD row) := Fz.made n FzA.ofInts
theorem tab_open {H : Hp} {v : V} {cols : List Nat} {rows : List (List Int)} (h : Fz H v (tabD cols rows)) : ∃ (t R : Addr) (vs : List V), v = .ref t ∧ H t = some (.tup [tx cols, .ref R]) ∧ H R = some (.tup vs) ∧ FzA H vs (rows.map rowD) := by
  obtain ⟨t, xs, rfl, ht, f⟩ := h.open
  obtain ⟨x, y, rfl, fx, fy⟩ := f.two
  obtain ⟨R, vs, rfl, hR, fv⟩ := fy.open
  rw [fx.isStr] at ht
  exact ⟨t, R, vs, rfl, ht, hR, fv⟩
/-! ### questions -/
abbrev eqD (p : Nat × Int) : PyData := .tuple [.str ⟨#[p.1]⟩, .int p.2]
abbrev eqsD (es : List (Nat × Int)) : PyData := .tuple (es.map eqD)
abbrev rchD : Option (Nat × Int × Int) → PyData
  | none => .none
  | some (c, lo, hi) => .tuple [.str ⟨#[c]⟩, .int lo, .int hi]
abbrev qD (es : List (Nat × Int)) (rc : Option (Nat × Int × Int)) : PyData := .tuple [eqsD es, rchD rc]
structure QOk (cols : List Nat) (es : List (Nat × Int)) (rc : Option (Nat × Int × Int)) : Prop where
  up : (es.map (·.1)).Pairwise (· < ·)
  ok : ∀ p ∈ es, p.1 ∈ cols ∧ 0 ≤ p.2 ∧ p.2 < 1000
  len : es.length ≤ cols.length
  rc : ∀ c lo hi, rc = some (c, lo, hi) → c ∈ cols ∧ c ∉ es.map (·.1) ∧ 0 ≤ lo ∧ lo ≤ hi ∧ hi < 1000
theorem idx_first : ∀ {l : List Nat} {c i : Nat}, l[i]? = some c → (∀ k, k < i → l[k]? ≠ some c) → l.idxOf c = i
  | [], c, i, h, _ => by simp at h
  | a :: l, c, 0, h, _ => by
    have e : a = c := Option.some.inj h
    rw [e]
    simp
  | a :: l, c, i + 1, h, hn => by
    have e : a ≠ c := fun z => hn 0 (Nat.succ_pos _) (by rw [z]; rfl)
    have ih := idx_first (l := l) (c := c) (i := i) h fun k hk => hn (k + 1) (Nat.succ_lt_succ hk)
    rw [List.idxOf_cons, ih]
    have eb : (a == c) = false := by simp [e]
    rw [eb]
    rfl
/-- pairs as a dict's entries -/
abbrev kvI (p : Nat × Int) : Key × V := (Sum.inr (sS p.1), .int p.2)
theorem pairs_of {K : PySem.W.Frag} {H : Hp} : ∀ {es : List (Nat × Int)} {vs : List V}, FzA H vs (es.map eqD) → ∃ ps : List Addr, vs = ps.map V.ref ∧ Paired (fun p kv => SqT K H p [kV kv.1, kv.2]) ps (es.map kvI)
  | [], _, .nil => ⟨[], rfl, .nil⟩
  | e :: es, _, .cons a r => by
    obtain ⟨p, xs, rfl, hp, f⟩ := a.open
    obtain ⟨x, y, rfl, fx, fy⟩ := f.two
    obtain ⟨ps, rfl, hps⟩ := pairs_of (K := K) (es := es) r
    rw [fx.isStr, fy.isInt] at hp
    exact ⟨p :: ps, rfl, .cons (.inl (.inl hp)) hps⟩
theorem merge_new : ∀ (more acc : List (Key × V)), ((acc ++ more).map (·.1)).Nodup → mergeK acc more = acc ++ more
  | [], acc, _ => by
    rw [List.append_nil]
    rfl
  | kv :: more, acc, h => by
    have h2 : ((acc ++ [kv]) ++ more).map (·.1) = (acc ++ kv :: more).map (·.1) := by
      rw [List.append_assoc]
      rfl
    have nk : valV acc kv.1 = none := by
      cases e : valV acc kv.1 with
      | none => rfl
      | some v =>
        exfalso
        have hm : kv.1 ∈ acc.map (·.1) := valV_in e
        rw [List.map_append] at h
        have := (List.nodup_append.mp h).2.2
        exact this _ hm _ (by simp) rfl
    show mergeK (putK acc kv.1 kv.2) more = _
    rw [putK_new kv.2 nk]
    have e := merge_new more (acc ++ [(kv.1, kv.2)]) (by
      show (((acc ++ [kv]) ++ more).map (·.1)).Nodup
      rw [h2]
      exact h)
    rw [e, List.append_assoc]
    rfl
theorem keys_nd {es : List (Nat × Int)} (h : (es.map (·.1)).Nodup) : ((es.map kvI).map (·.1)).Nodup := by
  rw [List.map_map]
  have e : es.map ((fun kv : Key × V => kv.1) ∘ kvI) = (es.map (·.1)).map fun c => (Sum.inr (sS c) : Key) := by
    rw [List.map_map]
    rfl
  rw [e]
  refine List.Pairwise.map _ (fun a b hab z => hab ?_) h
  have z2 : sS a = sS b := Sum.inr.inj z
  have z3 : (#[a] : Array Nat) = #[b] := congrArg Str.cps z2
  simpa using z3
theorem merge_es {es : List (Nat × Int)} (h : (es.map (·.1)).Nodup) : mergeK [] (es.map kvI) = es.map kvI := merge_new _ [] (keys_nd h)
theorem val_es (c : Nat) : ∀ es : List (Nat × Int), (valV (es.map kvI) (Sum.inr (sS c))).isSome = decide (c ∈ es.map (·.1))
  | [] => rfl
  | e :: es => by
    by_cases h : e.1 = c
    · rw [List.map_cons, valV_pos (by show Sum.inr (sS e.1) = Sum.inr (sS c); rw [h])]
      simp [h]
    · rw [List.map_cons, valV_neg (fun z => h ?_), val_es c es]
      · have h2 : ¬ c = e.1 := fun z => h z.symm
        simp [h2]
      · have z2 : sS e.1 = sS c := Sum.inr.inj z
        have z3 : (#[e.1] : Array Nat) = #[c] := congrArg Str.cps z2
        simpa using z3
/-- the place of a letter -/
theorem ix_one {l : List Nat} {c : Nat} (h : c ∈ l) : ∃ r, Builtin.Str.occurrences (⟨l.toArray⟩ : Str) ⟨#[c]⟩ 0 (⟨l.toArray⟩ : Str).length 1 = l.idxOf c :: r := by
  have hx : (⟨l.toArray⟩ : Str).cps.toList = l := by simp
  rcases PySem.StrLaws.occ_head (⟨l.toArray⟩ : Str) ⟨#[c]⟩ 1 (Nat.le_refl 1) with ⟨h0, hn⟩ | ⟨i, r, h0, ha, hn⟩
  · exfalso
    obtain ⟨i, hi⟩ := List.mem_iff_getElem?.mp h
    exact hn i ((PySem.StrLaws.subAt_one _ c i).mpr (by rw [hx]; exact hi))
  · refine ⟨r, ?_⟩
    rw [h0]
    have e1 : l[i]? = some c := by
      have := (PySem.StrLaws.subAt_one _ c i).mp ha
      rw [hx] at this
      exact this
    have e3 : l.idxOf c = i := idx_first e1 fun k hk z => hn k hk ((PySem.StrLaws.subAt_one _ c k).mpr (by rw [hx]; exact z))
    rw [e3]
end My

set_option Elab.async false
set_option linter.all false
set_option maxRecDepth 100000
set_option maxHeartbeats 1000000
namespace My
open PySem PySem.Spec PyProof.Rows L2
/-! ### name = {.. for ..} on one line -/
section
variable {X : Cx} {pins : List (Addr × Obj)} {σ : L2.St} {H : Hp} {s : Shared}
/-- an object of the frame's own at C may become anything: all that is known stays -/
theorem past {C : Addr} {h' : Heap} {t' : Nat} (I : Inv X pins σ H s) (f : FpOk X pins H C) (kp : ∀ b u, b ≠ C → s.heap.get? b = some u → h'.get? b = some u) : Inv X pins σ H { s with heap := h', toks := t' } :=
  I.turned kp f.1 f.2.1 f.2.2.2.1 f.2.2.2.2.1 f.2.2.2.2.2
/-- it is neither the frame's dict nor one of its cells -/
theorem apart_of {C a : Addr} {y : Str} (f : FpOk X pins H C) (ha : a = X.env.locals ∨ X.env.cells.lookup y = some a) : C ≠ a := fun z =>
  ha.elim (fun e => f.2.1 (z.trans e)) fun e => f.2.2.2.2.1 y a e z.symm
/-- the dict that was made goes to the name y while the comprehension's frame C is still there -/
theorem kept_at {C L : Addr} {m : Str → Option Value} {i : Nat} {y : Str} {py : Pos} {D : Ends} {E : Value → Shared → Prop} (I : Inv X pins σ H s) (f : FpOk X pins H C) (hn : s.heap.Ns C m) (hN : X.N.Nodup) (hy : X.N[i]? = some y) (hyl : X.env.scope.names.lookup y = some .local)
    (q : D.nx (σ.set i (some (.ref L))) H) : wpAny (model X.prog X.w) X.A (assign (.Name y py) X.env (.ref L)) (fun _ s' => ∃ m', s'.heap.Ns C m' ∧ ∀ h3, Heap.SameBut C s'.heap h3 → SP X pins D .next { s' with heap := h3 }) E s :=
  wpAny_assign_Name (store_ok2 (v := .ref L) I hN hy (.inl hyl) rfl (fun s2 J ⟨_, sb, ha⟩ => ⟨m, hn.sameBut sb (apart_of f ha), fun h3 sb3 => ⟨_, H, past (t' := s2.toks) J f fun b u ne e => (sb3.2 b ne).trans e, q⟩⟩) (.inr hyl))
theorem ps_setDc {i : Nat} {y : Str} {py : Pos} {kx vx tg iter : Expr} {ifs : List Expr} {scope : Scope} {own : List (Str × Nat)} {pos spos : Pos} {wi : TI} {g : TG} {tt : TT} {tk tv : TE} (hc : X.calm = true) (hN : X.N.Nodup) (hy : X.N[i]? = some y) (hyl : X.env.scope.names.lookup y = some .local)
    (hsw : swapsWith (.DictComp kx vx [⟨tg, iter, ifs, 0⟩] scope pos) (some (.Name y py)) spos.line X.env = pure true) (hi : PI X tg iter wi) (ok : BlkOk X.N X.env.scope scope own)
    (hg : ∀ (s : Shared) (H : Hp) (C : Addr) (cl : List (Str × Addr)) (fp : List Addr), PG (X.blk s H scope (compEnvC scope cl C X.env) fp) tg g)
    (ht : ∀ (s : Shared) (H : Hp) (C : Addr) (cl : List (Str × Addr)) (fp : List Addr), PTs (X.blk s H scope (compEnvC scope cl C X.env) fp) ifs tt)
    (kp : ∀ (s : Shared) (H : Hp) (C : Addr) (cl : List (Str × Addr)) (fp : List Addr), PE (X.blk s H scope (compEnvC scope cl C X.env) fp) kx tk)
    (vp : ∀ (s : Shared) (H : Hp) (C : Addr) (cl : List (Str × Addr)) (fp : List Addr), PE (X.blk s H scope (compEnvC scope cl C X.env) fp) vx tv) (hs : ∀ x, foldedSetIterable iter X.env x = pure x := by intro _; rfl) :
    PS X (.Assign [.Name y py] (.DictComp kx vx [⟨tg, iter, ifs, 0⟩] scope pos) spos) (tAsg (tDc wi g tt tk tv (own.map (·.2))) (gName i)) := by
  constructor
  intro pins s σ H D I h
  have made := dc_core (pos := pos) (pos' := firstIterPos [⟨tg, iter, ifs, 0⟩] pos) (use := some (assign (.Name y py) X.env)) (Qf := fun _ s' => SP X pins D .next s') (Q := fun x H1 => gName i x σ H1 D.nx) hc hN I hi ok hg ht kp vp hs h
    fun L C s' m H' I' q hn f => kept_at I' f hn hN hy hyl q
  rw [exec_Assign_Name_used _ _ _ _ hsw]
  exact wpAny_bind (wpAny_standAt (wpAny_bind (wpAny_bind (thn made fun _ _ z => wpAny_pure (wpAny_pure z)))))
end
theorem sw_dict {kx vx : Expr} {gs : List Comprehension} {scope : Scope} {pos py : Pos} {y : Str} {l : Nat} {env : Env} (hk : env.scope.kind = .function) (hy : env.scope.names.lookup y = some .local) (hl : (py.line == pos.line) = true)
    (ha : (scope.names.any fun (n, k) => n == y && (k == .local || k == .cell)) = false) : swapsWith (.DictComp kx vx gs scope pos) (some (.Name y py)) l env = pure true :=
  Eq.trans (b := swapsWith (.ListComp kx gs scope pos) (some (.Name y py)) l env) rfl (sw_true hk hy hl ha)
/-! ### spans: letters with their bounds -/
inductive SpA (H : Hp) : List (Key × V) → List (Nat × Int × Int) → Prop
  | nil : SpA H [] []
  | cons {p : Addr} {c : Nat} {lo hi : Int} {kvs : List (Key × V)} {l : List (Nat × Int × Int)} : H p = some (.tup [.int lo, .int hi]) → SpA H kvs l → SpA H ((Sum.inr (sS c), .ref p) :: kvs) ((c, lo, hi) :: l)
theorem SpA.kt {H H' : Hp} {kvs : List (Key × V)} {l : List (Nat × Int × Int)} (h : SpA H kvs l) (k : Kt H H') : SpA H' kvs l := by
  induction h with
  | nil => exact .nil
  | cons a _ ih => exact .cons (k _ _ a) ih
theorem SpA.snoc {H : Hp} {kvs : List (Key × V)} {l : List (Nat × Int × Int)} {p : Addr} {c : Nat} {lo hi : Int} (h : SpA H kvs l) (hp : H p = some (.tup [.int lo, .int hi])) : SpA H (kvs ++ [(Sum.inr (sS c), .ref p)]) (l ++ [(c, lo, hi)]) := by
  induction h with
  | nil => exact .cons hp .nil
  | cons a _ ih => exact .cons a ih
theorem SpA.len {H : Hp} {kvs : List (Key × V)} {l : List (Nat × Int × Int)} (h : SpA H kvs l) : kvs.length = l.length := by
  induction h with
  | nil => rfl
  | cons _ _ ih => rw [List.length_cons, List.length_cons, ih]
theorem sS_inj {a b : Nat} (h : sS a = sS b) : a = b := by
  have z3 : (#[a] : Array Nat) = #[b] := congrArg Str.cps h
  simpa using z3
theorem SpA.none {H : Hp} {kvs : List (Key × V)} {l : List (Nat × Int × Int)} {c : Nat} (h : SpA H kvs l) (n : c ∉ l.map (·.1)) : valV kvs (Sum.inr (sS c)) = Option.none := by
  induction h with
  | nil => rfl
  | @cons p d lo hi kvs l a r ih =>
    rw [valV_neg (fun z => n ?_)]
    · exact ih fun q => n (List.mem_cons_of_mem _ q)
    · have : d = c := sS_inj (Sum.inr.inj z)
      rw [← this]
      exact List.mem_cons_self ..
/-- at its place: the letter's entry -/
theorem SpA.get {H : Hp} {kvs : List (Key × V)} {l : List (Nat × Int × Int)} (h : SpA H kvs l) {i : Nat} {k : Key} {v : V} (e : kvs[i]? = some (k, v)) : ∃ (p : Addr) (c : Nat) (lo hi : Int), k = Sum.inr (sS c) ∧ v = .ref p ∧ H p = some (.tup [.int lo, .int hi]) ∧ l[i]? = some (c, lo, hi) := by
  induction h generalizing i with
  | nil => simp at e
  | @cons p c lo hi kvs l a r ih =>
    cases i with
    | zero =>
      have z := Option.some.inj e
      cases z
      exact ⟨p, c, lo, hi, rfl, rfl, a, rfl⟩
    | succ i => exact ih (i := i) e
theorem SpA.look {H : Hp} {kvs : List (Key × V)} {l : List (Nat × Int × Int)} (h : SpA H kvs l) (nd : (l.map (·.1)).Nodup) {c : Nat} {lo hi : Int} (m : (c, lo, hi) ∈ l) : ∃ p, valV kvs (Sum.inr (sS c)) = some (.ref p) ∧ H p = some (.tup [.int lo, .int hi]) := by
  induction h with
  | nil => cases m
  | @cons p d lo' hi' kvs l a r ih =>
    rcases List.mem_cons.mp m with z | z
    · cases z
      exact ⟨p, valV_pos rfl, a⟩
    · have nd2 := List.nodup_cons.mp nd
      have hdc : d ≠ c := fun q => nd2.1 (by
        have := List.mem_map_of_mem (f := fun x : Nat × Int × Int => x.1) z
        rw [q]
        exact this)
      obtain ⟨p', h1, h2⟩ := ih nd2.2 z
      refine ⟨p', ?_, h2⟩
      rw [valV_neg (fun q => hdc (sS_inj (Sum.inr.inj q)))]
      exact h1
def spanL (es : List (Nat × Int)) (rc : Option (Nat × Int × Int)) : List (Nat × Int × Int) := es.map (fun p => (p.1, p.2, p.2)) ++ rc.toList
theorem spanL_keys (es : List (Nat × Int)) : (es.map (fun p => (p.1, p.2, p.2))).map (·.1) = es.map (·.1) := by
  rw [List.map_map]
  rfl
theorem spanL_nd {cols : List Nat} {es : List (Nat × Int)} {rc : Option (Nat × Int × Int)} (h : QOk cols es rc) : ((spanL es rc).map (·.1)).Nodup := by
  have h1 : (es.map (·.1)).Nodup := h.up.imp fun {a b} q => by
    have : a < b := q
    omega
  unfold spanL
  rw [List.map_append, spanL_keys]
  cases rc with
  | none => simpa using h1
  | some t =>
    obtain ⟨c, lo, hi⟩ := t
    have := (h.rc c lo hi rfl).2.1
    show (es.map (·.1) ++ [c]).Nodup
    refine List.nodup_append.mpr ⟨h1, by simp, fun a ha b hb z => ?_⟩
    rw [List.mem_singleton.mp hb] at z
    rw [z] at ha
    exact this ha
/-! ### what fits -/
def rowAt (cols : List Nat) (row : List Int) (c : Nat) : Int := row.getD (cols.idxOf c) 0
def spanFit (cols : List Nat) (row : List Int) (p : Nat × Int × Int) : Bool := decide (p.2.1 ≤ rowAt cols row p.1) && decide (rowAt cols row p.1 ≤ p.2.2)
def fitsM (cols : List Nat) (row : List Int) (es : List (Nat × Int)) (rc : Option (Nat × Int × Int)) : Bool := (spanL es rc).all (spanFit cols row)
theorem row_at {cols : List Nat} {row : List Int} {c : Nat} (hl : row.length = cols.length) (h : c ∈ cols) : (row.map V.int)[cols.idxOf c]? = some (.int (rowAt cols row c)) := by
  have hi : cols.idxOf c < row.length := by
    rw [hl]
    exact List.idxOf_lt_length_of_mem h
  unfold rowAt
  rw [List.getElem?_map, List.getElem?_eq_getElem hi, List.getD_eq_getElem?_getD, List.getElem?_eq_getElem hi]
  rfl
theorem SpanOk {cols : List Nat} {es : List (Nat × Int)} {rc : Option (Nat × Int × Int)} (h : QOk cols es rc) : ∀ p ∈ spanL es rc, p.1 ∈ cols := fun p hp => by
  unfold spanL at hp
  rcases List.mem_append.mp hp with hp | hp
  · obtain ⟨q, hq, rfl⟩ := List.mem_map.mp hp
    exact (h.ok q hq).1
  · cases rc with
    | none => cases hp
    | some t =>
      have : p = t := by simpa using hp
      obtain ⟨c, lo, hi⟩ := t
      rw [this]
      exact (h.rc c lo hi rfl).1
/-! ### data with lists -/
mutual
inductive Ft (H : Hp) : V → PyData → Prop
  | non : Ft H .non .none
  | bl (b : Bool) : Ft H (.bl b) (.bool b)
  | int (i : Int) : Ft H (.int i) (.int i)
  | str (x : Str) : Ft H (.str x) (.str x)
  | lst {a : Addr} {xs : List V} {ds : List PyData} : H a = some (.lst xs) → FtA H xs ds → Ft H (.ref a) (.list ds)
  | tup {a : Addr} {xs : List V} {ds : List PyData} : H a = some (.tup xs) → FtA H xs ds → Ft H (.ref a) (.tuple ds)
inductive FtA (H : Hp) : List V → List PyData → Prop
  | nil : FtA H [] []
  | cons {v : V} {vs : List V} {d : PyData} {ds : List PyData} : Ft H v d → FtA H vs ds → FtA H (v :: vs) (d :: ds)
end
mutual
theorem Ft.mono {H H' : Hp} (k : Same H H') : ∀ (d : PyData) (v : V), Ft H v d → Ft H' v d
  | .none, _, .non => .non
  | .bool _, _, .bl b => .bl b
  | .int _, _, .int i => .int i
  | .str _, _, .str x => .str x
  | .list ds, _, .lst h a => .lst (k _ _ h) (FtA.mono k ds _ a)
  | .tuple ds, _, .tup h a => .tup (k _ _ h) (FtA.mono k ds _ a)
theorem FtA.mono {H H' : Hp} (k : Same H H') : ∀ (ds : List PyData) (vs : List V), FtA H vs ds → FtA H' vs ds
  | [], _, .nil => .nil
  | d :: ds, _, .cons h a => .cons (Ft.mono k d _ h) (FtA.mono k ds _ a)
end
mutual
theorem Fz.ft {H : Hp} : ∀ (d : PyData) (v : V), Fz H v d → Ft H v d
  | .none, _, .non => .non
  | .bool _, _, .bl b => .bl b
  | .int _, _, .int i => .int i
  | .str _, _, .str x => .str x
  | .tuple ds, _, .tup h a => .tup h (FzA.ft ds _ a)
theorem FzA.ft {H : Hp} : ∀ (ds : List PyData) (vs : List V), FzA H vs ds → FtA H vs ds
  | [], _, .nil => .nil
  | d :: ds, _, .cons h a => .cons (Fz.ft d _ h) (FzA.ft ds _ a)
end
theorem FtA.len : ∀ {H : Hp} {vs : List V} {ds : List PyData}, FtA H vs ds → vs.length = ds.length
  | _, _, _, .nil => rfl
  | _, _, _, .cons _ a => by
    rw [List.length_cons, List.length_cons, FtA.len a]
theorem FtA.getV : ∀ {H : Hp} {vs : List V} {ds : List PyData} {i : Nat} {v : V}, FtA H vs ds → vs[i]? = some v → ∃ d, ds[i]? = some d ∧ Ft H v d
  | _, _, _, _, _, .nil, h => by simp at h
  | _, _, _, 0, _, .cons a _, h => ⟨_, rfl, Option.some.inj h ▸ a⟩
  | _, _, _, i + 1, _, .cons _ a, h => FtA.getV (i := i) a h
theorem FtA.ofInts : ∀ {H : Hp} (ns : List Int), FtA H (ns.map V.int) (ns.map PyData.int)
  | _, [] => .nil
  | _, n :: ns => .cons (.int n) (FtA.ofInts ns)
/-! ### what isinstance tells of data -/
def tyN : PyData → String
  | .none => "NoneType"
  | .bool _ => "bool"
  | .int _ => "int"
  | .str _ => "str"
  | .list _ => "list"
  | .tuple _ => "tuple"
  | .dict _ => "dict"
def isTp : PyData → Bool
  | .tuple _ => true
  | _ => false
def isLs : PyData → Bool
  | .list _ => true
  | _ => false
def isBl : PyData → Bool
  | .bool _ => true
  | _ => false
def isSt : PyData → Bool
  | .str _ => true
  | _ => false
theorem kit_tp {K : PySem.W.Frag} (d : PyData) : PySem.W.kitOne K (.type (tyN d)) (.type "tuple") = some (isTp d) := by
  cases d <;> exact kit_ty (by kernel_rfl)
theorem kit_ls {K : PySem.W.Frag} (d : PyData) : PySem.W.kitOne K (.type (tyN d)) (.type "list") = some (isLs d) := by
  cases d <;> exact kit_ty (by kernel_rfl)
theorem kit_bl {K : PySem.W.Frag} (d : PyData) : PySem.W.kitOne K (.type (tyN d)) (.type "bool") = some (isBl d) := by
  cases d <;> exact kit_ty (by kernel_rfl)
theorem kit_st {K : PySem.W.Frag} (d : PyData) : PySem.W.kitOne K (.type (tyN d)) (.type "str") = some (isSt d) := by
  cases d <;> exact kit_ty (by kernel_rfl)
theorem depA_ints : ∀ ns : List Int, PyData.depthAll (ns.map PyData.int) = 0
  | [] => rfl
  | n :: ns => by
    show max (PyData.depth (.int n)) (PyData.depthAll (ns.map PyData.int)) = 0
    rw [depA_ints ns]
    rfl
theorem dep_ints (ns : List Int) : PyData.depth (.list (ns.map PyData.int)) = 1 := by
  show PyData.depthAll (ns.map PyData.int) + 1 = 1
  rw [depA_ints]
end My

set_option Elab.async false
set_option linter.all false
set_option maxRecDepth 100000
set_option maxHeartbeats 1000000
namespace My
open PySem PySem.Spec PyProof.Rows L2
/-! ### lists of numbers compared -/
theorem can_ints : ∀ ns : List Int, PyData.canLayAll0 (ns.map PyData.int) = true
  | [] => rfl
  | n :: ns => by
    show (PyData.canLay0 (.int n) && PyData.canLayAll0 (ns.map PyData.int)) = true
    rw [can_ints ns]
    rfl
theorem shaped_ints (ns : List Int) : SeqAt.shaped (.list (ns.map PyData.int)) = true := by
  unfold SeqAt.shaped
  show (PyData.canLayAll0 (ns.map PyData.int) && decide (PyData.depth (.list (ns.map PyData.int)) ≤ 64)) = true
  rw [can_ints, dep_ints]
  rfl
/-! ### questions and what fits -/
theorem QOk.sub {cols : List Nat} {es es' : List (Nat × Int)} {rc : Option (Nat × Int × Int)} (h : QOk cols es rc) (s : es'.Sublist es) : QOk cols es' none :=
  ⟨h.up.sublist (s.map _), fun p hp => h.ok p (s.subset hp), Nat.le_trans s.length_le h.len, fun _ _ _ z => nomatch z⟩
theorem QOk.reach {cols : List Nat} {es : List (Nat × Int)} {rc : Option (Nat × Int × Int)} (h : QOk cols es rc) {c : Nat} {lo hi : Int} (h1 : c ∈ cols) (h2 : c ∉ es.map (·.1)) (h3 : 0 ≤ lo) (h4 : lo ≤ hi) (h5 : hi < 1000) : QOk cols es (some (c, lo, hi)) :=
  ⟨h.up, h.ok, h.len, fun c' lo' hi' z => by
    have z2 := Option.some.inj z
    have e1 : c = c' := congrArg (·.1) z2
    have e2 : lo = lo' := congrArg (·.2.1) z2
    have e3 : hi = hi' := congrArg (·.2.2) z2
    rw [← e1, ← e2, ← e3]
    exact ⟨h1, h2, h3, h4, h5⟩⟩
end My

set_option Elab.async false
set_option linter.all false
set_option maxRecDepth 100000
set_option maxHeartbeats 2000000
namespace My
open PySem PySem.Spec PyProof.Rows L2
/-! ### generator expressions whose element changes nothing -/
/-- the element at a place of the walked thing: what it gives, from any state in which what stood still stands -/
def EltQ (X : Cx) (σ : L2.St) (G : Hp) (P : Addr) (scope : Scope) (x : Str) (elt : Expr) (Pf F : Nat → Value → Prop) : Prop :=
  ∀ (pins : List (Addr × Obj)) (u1 : Shared), Inv X pins σ G u1 → ∀ (ce : Env) (B : Around) (E' : Value → Shared → Prop) (i : Nat) (v : Value) (u2 : Shared) (m2 : Str → Option Value), B.handled = none → ce.scope = scope → ce.cells = cloFrom X.env.cells scope.names [] →
    Pf i v → u2.heap.Ns ce.locals m2 → m2 x = some v → (∀ b o, b ≠ P → u1.heap.get? b = some o → u2.heap.get? b = some o) → wpAny (model X.prog X.w) B (eval elt ce) (fun y u3 => F i y ∧ Keeps u2 u3) E' u2
/-- the generator stands, ready to be walked n times -/
def ReadyQ (X : Cx) (pins : List (Addr × Obj)) (σ : L2.St) (G : Hp) (P : Addr) (n : Nat) (F : Nat → Value → Prop) (g : Addr) (u5 : Shared) : Prop :=
  ∃ (fp wr : List Addr) (Gn : Array GenState → Array GenState → Prop) (St : Nat → Shared → Prop),
    WalksS X.prog X.w X.A.in4 g fp wr Gn n F St ∧ St 0 u5 ∧ (∀ i s, St i s → s.TypeIs (.ref g) "generator") ∧ (∀ b ∈ fp, b < u5.heap.objs.size) ∧ g ∈ fp ∧
    ∀ u', Moved wr Gn u5 u' → ∃ G2, GxR.Tabbed P G G2 ∧ Inv X pins σ G2 u'
/-- what a walk over the value v begins with -/
def Src (X : Cx) (pins : List (Addr × Obj)) (σ : L2.St) (G : Hp) (P : Addr) (v : Value) (n : Nat) (Pf : Nat → Value → Prop) : Prop :=
  ∀ (u1 : Shared), Inv X pins σ G u1 → ∀ (Q : Value → Shared → Prop) (E : Value → Shared → Prop), (∀ (o : Obj) (St : Nat → Heap → Prop) (fps : List Addr),
    (∀ A' : Around, A'.handled = none → Walks X.prog X.w A' u1.heap.objs.size (u1.heap.objs.size :: fps) [u1.heap.objs.size] n Pf St) → St 0 (u1.heap.push o) → (∀ b ∈ fps, b < u1.heap.objs.size ∧ b ≠ P) →
    Q (.ref u1.heap.objs.size) { u1 with heap := u1.heap.push o }) → wpAny (model X.prog X.w) X.A (pyIter v) Q E u1
section
variable {X : Cx} {pins : List (Addr × Obj)} {σ : L2.St} {H : Hp} {s : Shared}
theorem src_str {G : Hp} {P : Addr} (a : Str) (t : Tok) : Src X pins σ G P (.str a t) a.cps.size (SignAt a) := by
  intro u1 I Q E h
  refine wpAny_pyIter_str fun o St W hst => ?_
  exact h o St [] W hst (fun b hb => nomatch hb)
/-- what stood stands: a frame knows what it knew -/
theorem grew {s' : Shared} (I : Inv X pins σ H s) (os : s'.os = s.os) (bare : AllBare s'.gens) (kp : ∀ b u, s.heap.get? b = some u → s'.heap.get? b = some u) : Inv X pins σ H s' :=
  I.call' (ch := []) os (Un.kept kp) (I.hok.kept kp) bare fun _ hb => nomatch hb
/-- the code object of a generator expression comes out of its maker's table, or is made and written into it; then the built-ins are looked up -/
theorem gen_code {c P : Addr} {gpos : Pos} {qn : Str} {scope : Scope} {R : Value → Addr → Shared → Prop} (I : Inv X pins σ H s) (TB : LamX.TabB X.base X.mg c P) (hcode : X.env.code = .ref c) (hT : GxR.TabG H P)
    (h : ∀ (code : Value) (H2 : Hp) (s2 : Shared), GxR.Tabbed P H H2 → Inv X pins σ H2 s2 → (∀ b u, b ≠ P → s.heap.get? b = some u → s2.heap.get? b = some u) → s.heap.objs.size ≤ s2.heap.objs.size → R code builtinsNs s2) :
    wpAny (model X.prog X.w) X.A (genexprCode X.env gpos qn scope) (fun code s3 => wpAny (model X.prog X.w) X.A (builtinsFor X.env.globals X.env.builtins) (R code) X.xe s3) X.xe s := by
  obtain ⟨ps, hP, tri⟩ := hT
  have rawP := I.hok P _ hP
  have hd : PySem.W.CodeHd s.heap c P := TB.code.keeps I.bk
  have go : ∀ (code : Value) (g : Heap) (tk : Nat) (more : Array Value), Heap.ExtBut P s.heap g → s.heap.objs.size ≤ g.objs.size → g.get? P = some { cls := .none, data := .fields (ps ++ more) } → TriplesOk (ps ++ more).toList →
      wpAny (model X.prog X.w) X.A (builtinsFor X.env.globals X.env.builtins) (R code) X.xe { s with heap := g, toks := tk } := fun code g tk more ext le tab tri' => by
    have J : Inv X pins σ (upd H P (.tbl (ps ++ more))) { s with heap := g, toks := tk } := GxR.inv_tab (g' := s.gens) (d' := s.drawn) I hP ext tab I.bare
    obtain ⟨bm, ob, b1, b2, _, _, b5, b6, b7, b8⟩ := TB.bm
    refine wpAny_builtinsFor (m := X.mg) ?_ b1 b2 (J.bk _ _ b5) b6 b7 b8 (h code _ _ ⟨⟨_, upd_same, tri'⟩, fun b ne => upd_ne ne⟩ J ext le)
    rw [J.ok.glob]
    exact J.mod.glob.keeps J.bk
  match hf : codeAmong gpos ps.toList with
  | some cv => exact wpAny_genexprCode_hit hcode (hd.code rawP tri) hf (go cv s.heap s.toks #[] (Heap.ExtBut.refl _ _) (Nat.le_refl _) (by rw [Array.append_empty]; exact rawP) (by rw [Array.append_empty]; exact tri))
  | none =>
    refine wpAny_genexprCodeX hcode (hd.code rawP tri) (hd.tab rawP) hf fun c' g tk ext ge lt isC _ isT _ => go _ g tk _ ext (Nat.le_trans ge (Nat.le_of_lt lt)) isT.2 ?_
    obtain ⟨_, _, _, _, _, _, _, _, _, _, _, _, _, _, _, _, _, _, _, z, _⟩ := isC
    exact z
/-- the generator (elt for x in iter), its element changing nothing -/
theorem gen_q {c P : Addr} {elt iter : Expr} {x : Str} {px gpos : Pos} {scope : Scope} {te : TE} {k : Nat} {Q' : Value → Shared → Prop} {R : V → Hp → Nat → (Nat → Value → Prop) → Prop} {R0 : V → Hp → Prop}
    (hr : Room k X.A) (TB : LamX.TabB X.base X.mg c P) (hcode : X.env.code = .ref c) (S : GxR.GenS X.env scope x) (hi : PE X iter te)
    (hs : ∀ v, genFold iter X.env v = pure v) (I : Inv X pins σ H s)
    (h : te σ H R0) (hc : ∀ v G, R0 v G → ∃ (n : Nat) (Pf F : Nat → Value → Prop), (∀ u, RelV v u → Src X pins σ G P u n Pf) ∧ GxR.TabG G P ∧ EltQ X σ G P scope x elt Pf F ∧ R v G n F)
    (hQ : ∀ v G n F g u5, R v G n F → ReadyQ X pins σ G P n F g u5 → Q' (.ref g) u5) :
    wpAny (model X.prog X.w) X.A (eval (.GeneratorExp elt [⟨.Name x px, iter, [], 0⟩] scope gpos) X.env) Q' X.xe s := by
  have deep : X.A.depth < recursionLimit := by
    have := hr.dp
    omega
  refine wpAny_GeneratorExp_walksQ hr.hd S.co (closure_ok S.free) S.cell S.dot S.loc S.kind deep (thn (hi.run pins s σ H _ I h) fun xv u1 ⟨v, G, I1, rv, h0⟩ => ?_) hs
  obtain ⟨n, Pf, F, src, hT, elq, hR⟩ := hc v G h0
  refine src xv rv u1 I1 _ _ fun o St fps W st0 below => ?_
  -- the walked thing's iterator o at i0; the table at P is older
  generalize hi0 : u1.heap.objs.size = i0 at W below ⊢
  have older : P ≠ i0 := fun z => by
    obtain ⟨ps, e, _⟩ := hT
    rw [I1.hok.fresh (Nat.le_of_eq (hi0.trans z.symm))] at e
    cases e
  have Io : Inv X pins σ G { u1 with heap := u1.heap.push o } := grew I1 rfl I1.bare fun b u e => Heap.get?_push_of_some _ e
  refine ⟨Io.nolimit, gen_code Io TB hcode hT fun code G2 s4 tab I4 kp le => ?_⟩
  have lt4 : i0 < s4.heap.objs.size := Nat.lt_of_lt_of_le (by rw [← hi0, Heap.size_push]; exact Nat.lt_succ_self _) le
  have kp1 : ∀ b u, b ≠ P → u1.heap.get? b = some u → s4.heap.get? b = some u := fun b u ne e => kp b u ne (Heap.get?_push_of_some _ e)
  have fo : FpOk X pins G2 i0 := I1.fpOk (Nat.le_of_eq hi0) ((tab.2 i0 older.symm).trans (I1.hok.fresh (Nat.le_of_eq hi0)))
  refine ⟨i0, i0 :: fps, [i0], n, Pf, St, fun _ => true, F, rfl, W, (W X.A hr.hd).frame _ _ _ st0 fun b hb u e => kp b u ?_ e, fun b hb => ?_, I4.nolimit, fun z => ?_, fun g keep => ⟨?_, fun A' E' i v s₂ m₂ hA hv _ hn hm stay => ?_⟩, fun g h5 tk5 gs bare above size5 stay W5 at5 => ?_⟩
  · exact (List.mem_cons.mp hb).elim (fun z q => older (q.symm.trans z)) fun z => (below b z).2
  · exact (List.mem_cons.mp hb).elim (fun z => z ▸ lt4) fun z => Nat.lt_trans (below b z).1 lt4
  · obtain ⟨_, ns, _⟩ := I1.nolimit
    exact Nat.ne_of_lt (hi0 ▸ ns.lt) (List.mem_singleton.mp z)
  · intro A' E' i v s₂ m₂ _ _ _ _ _
    rw [List.forIn_nil]
    exact wpAny_pure ⟨rfl, GxR.keeps_refl _⟩
  · refine elq pins u1 I1 _ A' E' i v s₂ m₂ hA rfl rfl hv hn hm fun b u ne e => ?_
    have here := kp1 b u ne e
    exact stay b (List.mem_range.mpr (Heap.lt_size here)) (fun z => Nat.ne_of_lt (hi0 ▸ Heap.lt_size e) (List.mem_singleton.mp z)) u (keep b u here)
  · rw [show passing (fun _ => true) n 0 = List.range n from GxR.passing_true n] at W5
    rw [List.length_range] at W5
    have place : ∀ {i : Nat} {y : Value}, (∃ j, (List.range n)[i]? = some j ∧ F j y) → F i y := fun ⟨j, e, fj⟩ => by
      obtain ⟨_, q⟩ := List.getElem?_eq_some_iff.mp e
      rw [List.getElem_range] at q
      rw [q]
      exact fj
    have W6 : WalksS X.prog X.w X.A.in4 g (g :: s4.heap.objs.size :: List.range s4.heap.objs.size) [s4.heap.objs.size, i0] (GenOnlyQ s4.gens.size) n F _ := { W5 with item := fun i s Q E lt st k => W5.item i s Q E lt st fun y s' z => k y s' (place z) }
    refine hQ v G n F g _ hR ⟨_, _, _, _, W6, at5, fun i s st => Heap.IsGen.typeIs st.1, fun b hb => ?_, List.mem_cons_self, fun u' mv => ⟨G2, tab, ?_⟩⟩
    · show b < h5.objs.size
      rw [show h5.objs.size = g + 1 from size5]
      rcases List.mem_cons.mp hb with z | z
      · exact z ▸ Nat.lt_succ_self g
      · refine Nat.lt_succ_of_lt ((List.mem_cons.mp z).elim (fun e => e ▸ above) fun e => Nat.lt_trans (List.mem_range.mp e) above)
    · have J := past (t' := s4.toks) (h' := u'.heap) I4 fo fun b u ne e => mv.heap b u (fun z => (List.mem_cons.mp z).elim (fun q => Nat.ne_of_lt (Heap.lt_size e) q) fun q => ne (List.mem_singleton.mp q)) (stay b u e)
      exact grew J mv.os (AllBare.movedS (I4.bare.push bare) mv) fun _ _ e => e
/-! tuple(elt for x in text): numbers -/
def tTupG (P : Addr) (te : TE) (D : V → L2.St → Hp → List V → Prop) : TE := fun σ H Q => te σ H fun v G => ∃ xs : List V, D v σ G xs ∧ GxR.TabG G P ∧ ∀ G2, GxR.Tabbed P G G2 → ∀ p, G2 p = none → Q (.ref p) (upd G2 p (.tup xs))
theorem vals_of_items : ∀ (xs : List V) (us : List Value), xs.length = us.length → (∀ (j : Nat) (x : V) (u : Value), xs[j]? = some x → us[j]? = some u → RelV x u) → Vals xs us
  | [], [], _, _ => .nil
  | x :: xs, u :: us, hl, hh => .cons (hh 0 x u rfl rfl) (vals_of_items xs us (Nat.succ.inj hl) fun j y w h1 h2 => hh (j + 1) y w h1 h2)
theorem pe_tupG {c P : Addr} {elt iter : Expr} {x : Str} {px p pos gpos : Pos} {scope : Scope} {te : TE} {k : Nat} {D : V → L2.St → Hp → List V → Prop}
    (hr : Room k X.A) (hg : Gl X "tuple") (hm : X.mg "tuple" = none) (TB : LamX.TabB X.base X.mg c P) (hcode : X.env.code = .ref c) (S : GxR.GenS X.env scope x) (hi : PE X iter te)
    (hD : ∀ (pins : List (Addr × Obj)) (σ : L2.St) (G : Hp) (v : V) (xs : List V), D v σ G xs → xs.length ≤ sizeLine ∧ ∃ (Pf F : Nat → Value → Prop), (∀ u, RelV v u → Src X pins σ G P u xs.length Pf) ∧ EltQ X σ G P scope x elt Pf F ∧ ∀ (i : Nat) (y : Value) (z : V), xs[i]? = some z → F i y → RelV z y)
    (hs : ∀ v, genFold iter X.env v = pure v := by intro _; rfl)
    (he : starEach [.GeneratorExp elt [⟨.Name x px, iter, [], 0⟩] scope gpos] X.env = (false, eval (.GeneratorExp elt [⟨.Name x px, iter, [], 0⟩] scope gpos) X.env) :: starEach [] X.env := by rfl) :
    PE X (.Call (.Name "tuple" p) [.GeneratorExp elt [⟨.Name x px, iter, [], 0⟩] scope gpos] [] pos) (tTupG P te D) := by
  refine ⟨fun pins s σ H Q I h => ?_⟩
  refine Call_ (ld_blt I hg hm boot_tuple (PyProof.Rows.callWith_type1 ?_ he))
  rw [he]
  refine Calls.spliced_cons (gen_q (R := fun v G n F => ∃ xs : List V, D v σ G xs ∧ xs.length = n ∧ xs.length ≤ sizeLine ∧ (∀ (i : Nat) (y : Value) (z : V), xs[i]? = some z → F i y → RelV z y) ∧ ∀ G2, GxR.Tabbed P G G2 → ∀ p, G2 p = none → Q (.ref p) (upd G2 p (.tup xs))) hr TB hcode S hi hs I h (fun v G h0 => ?_) fun v G n F g u5 hR hG => ?_)
  · obtain ⟨xs, hd, hT, q⟩ := h0
    obtain ⟨hz, Pf, F, hsrc, hel, hF⟩ := hD pins σ G v xs hd
    exact ⟨xs.length, Pf, F, hsrc, hT, hel, xs, hd, rfl, hz, hF, q⟩
  · obtain ⟨xs, hd, hn, hz, hF, q⟩ := hR
    obtain ⟨fp, wr, Gn, St, W, hst, hty, hfp, hgf, hI⟩ := hG
    refine Calls.spliced_nil ?_
    refine call_tuple_gen W.in4_3 hty hst hfp hgf (fun u' acc mv hit => ?_) (by rw [← hn]; exact hz)
    obtain ⟨G2, hTb, J⟩ := hI u' mv
    have hv : Vals xs acc.toList := vals_of_items _ _ (by rw [show acc.toList.length = acc.size from Array.length_toList, hit.1, hn]) fun j z y h1 h2 => hF j y z h1 (hit.2 j y (by rw [← Array.getElem?_toList]; exact h2))
    have J2 : Inv X pins σ (upd G2 u'.heap.objs.size (.tup xs)) { u' with heap := u'.heap.push { cls := .type "tuple", data := .seq acc } } :=
      J.laid (t' := u'.toks) (fun b o e => Heap.get?_push_of_some _ e) (Nat.le_refl _) (show ObjOk X.prog X.w _ _ _ (.tup xs) from ⟨hz, acc.toList, hv, by rw [Array.toArray_toList]; exact IsTup.new _ _⟩)
    exact ⟨.ref u'.heap.objs.size, _, J2, rfl, q G2 hTb _ (J.hok.fresh (Nat.le_refl _))⟩
/-! all(elt for x in ..) -/
/-! ### what a captured name holds -/
theorem clo_look {cells : List (Str × Addr)} {names : List (Str × NameKind)} {y : Str} {c : Addr} (hy : (y, NameKind.free) ∈ names) (hc : cells.lookup y = some c) : (cloFrom cells names []).lookup y = some c := by
  obtain ⟨c', e⟩ := mem_lookup (cloFrom_has (acc := []) (cells := cells) hy)
  have hm : (y, c') ∈ cloFrom cells names [] := by
    have : ∀ {l : List (Str × Addr)} {n : Str} {d : Addr}, l.lookup n = some d → (n, d) ∈ l := by
      intro l
      induction l with
      | nil =>
        intro n d h
        cases h
      | cons p l ih =>
        intro n d h
        rw [List.lookup_cons] at h
        cases hb : n == p.1 with
        | true =>
          rw [hb] at h
          have e1 : n = p.1 := by simpa using hb
          have e2 : p.2 = d := Option.some.inj h
          rw [e1, ← e2]
          exact List.mem_cons_self ..
        | false =>
          rw [hb] at h
          exact List.mem_cons_of_mem _ (ih h)
    exact this e
  rcases cloFrom_mem hm with z | ⟨_, z⟩
  · cases z
  · rw [e, z, hc]
    rfl
theorem capt {G : Hp} {u1 : Shared} {i : Nat} {y : Str} {v : V} {scope : Scope} (I : Inv X pins σ G u1) (hN : X.N[i]? = some y) (hv : σ[i]? = some (some v)) (hk : X.env.scope.names.lookup y = some .cell) (hy : (y, NameKind.free) ∈ scope.names) :
    ∃ u c, RelV v u ∧ (cloFrom X.env.cells scope.names []).lookup y = some c ∧ u1.heap.IsCell c (some u) := by
  obtain ⟨m, hm, hl⟩ := I.loc
  obtain ⟨u, ru, lk⟩ := hl i y v hN hv (.inr (.inl hk))
  rcases lk with ⟨k1, _⟩ | ⟨_, c, hc, hcell⟩
  · have : X.env.kindOf y = some .cell := hk
    rw [this] at k1
    cases k1
  · exact ⟨u, c, ru, clo_look hy hc, hcell⟩
theorem cell_kept {G : Hp} {P c : Addr} {u1 u2 : Shared} {u : Value} (I : Inv X pins σ G u1) (hT : GxR.TabG G P) (hc : u1.heap.IsCell c (some u)) (hk : ∀ b o, b ≠ P → u1.heap.get? b = some o → u2.heap.get? b = some o) : u2.heap.IsCell c (some u) := by
  obtain ⟨o, ho, hd⟩ := hc
  refine ⟨o, hk c o (fun z => ?_) ho, hd⟩
  obtain ⟨ps, hP, _⟩ := hT
  have h1 : u1.heap.get? P = some { cls := .none, data := .fields ps } := I.hok P _ hP
  rw [z, h1] at ho
  cases ho
  cases hd
/-! x in y, y a captured text -/
/-! r[y.index(x)], r a captured tuple of numbers, y a captured text -/
theorem elt_row {G : Hp} {P ra : Addr} {scope : Scope} {x y rn : Str} {p1 p2 p3 p4 p5 p6 : Pos} {i j : Nat} {a : Str} {cols : List Nat} {row : List Int} (hT : GxR.TabG G P) (hN : X.N[i]? = some y) (hv : σ[i]? = some (some (tx cols))) (hk : X.env.scope.names.lookup y = some .cell)
    (hN2 : X.N[j]? = some rn) (hv2 : σ[j]? = some (some (.ref ra))) (hk2 : X.env.scope.names.lookup rn = some .cell) (hra : G ra = some (.tup (row.map V.int))) (hrl : row.length = cols.length) (hac : ∀ c ∈ a.cps.toList, c ∈ cols)
    (hf : scope.kind = .function) (hx : scope.names.lookup x = some .local) (hy : (y, NameKind.free) ∈ scope.names) (hyl : scope.names.lookup y = some .free) (hr : (rn, NameKind.free) ∈ scope.names) (hrf : scope.names.lookup rn = some .free)
    (hline : (p3.endLine == p5.line) = true) (hd1 : (x == ("__debug__" : Str)) = false := by decide) (hd2 : (y == ("__debug__" : Str)) = false := by decide) (hd3 : (y == ("__classdict__" : Str)) = false := by decide) (hd4 : (rn == ("__debug__" : Str)) = false := by decide) (hd5 : (rn == ("__classdict__" : Str)) = false := by decide) :
    EltQ X σ G P scope x (.Subscript (.Name rn p1) (.Call (.Attribute (.Name y p2) "index" p3) [.Name x p4] [] p5) p6) (SignAt a) (fun l w => ∃ c t, a.cps[l]? = some c ∧ w = .int (rowAt cols row c) t) := by
  intro pins u1 I ce B E' l v u2 m2 hB hs hcl hP hn hm hk3
  obtain ⟨c, t, hc, rfl⟩ := hP
  obtain ⟨uy, cl, ru, hl, hcell⟩ := capt I hN hv hk hy
  obtain ⟨t2, rfl⟩ := ru
  obtain ⟨ur, cl2, ru2, hl2, hcell2⟩ := capt I hN2 hv2 hk2 hr
  cases ru2
  have hcc : c ∈ cols := hac c (by
    have : a.cps.toList[l]? = some c := by rw [Array.getElem?_toList]; exact hc
    exact List.mem_of_getElem? this)
  obtain ⟨orest, hocc⟩ := ix_one hcc
  have hat := row_at hrl hcc
  obtain ⟨its, rv, pl, hz⟩ := I.tuple (show SqT X.K G ra (row.map V.int) from .inl (.inl hra))
  obtain ⟨w, hw, rw'⟩ := rv.get hat
  obtain ⟨tw, rfl⟩ := rw'
  have pl2 : u2.heap.IsTuple ra its.toArray := by
    obtain ⟨o, ho, r1, r2⟩ := pl
    refine ⟨o, hk3 ra o (fun z => ?_) ho, r1, r2⟩
    obtain ⟨ps, hPp, _⟩ := hT
    rw [z, hPp] at hra
    cases hra
  have hidx : cols.idxOf c < its.length := (List.getElem?_eq_some_iff.mp hw).1
  have kf : ce.scope.kind = .function := by rw [hs]; exact hf
  refine PyProof.Rows.Subscript_ ?_
  refine wpAny_Name (wpAny_loadName_free kf (show ce.scope.names.lookup rn = some .free by rw [hs]; exact hrf) (by rw [hcl]; exact hl2) (cell_kept I hT hcell2 hk3) ?_ hd5) hd4
  refine wpAny_Call_method_late (by rfl) (by rfl) hline rfl ?_
  refine wpAny_Name (wpAny_loadName_free kf (show ce.scope.names.lookup y = some .free by rw [hs]; exact hyl) (by rw [hcl]; exact hl) (cell_kept I hT hcell hk3) ?_ hd3) hd2
  refine ⟨"str", "str.index", PySem.F.plainAttrs_str, PySem.F.slot_str_index, PySem.F.type_str_index, typeIs_str _ _ _, (fun _ z => nomatch z), ?_⟩
  refine Calls.callWith_builtin (by rfl) (Calls.evalArgs_plain ?_)
  refine Calls.spliced_cons (wpAny_Name (wpAny_loadName_local kf (show ce.scope.names.lookup x = some .local by rw [hs]; exact hx) hn hm ?_) hd1)
  refine Calls.spliced_nil ?_
  refine PySem.SC.index hocc ?_
  have hsz : its.length ≤ sizeLine := by
    have := rv.length
    rw [← this]
    exact hz
  have h63 := line63
  refine subscriptTail_builtinR (x := .int (rowAt cols row c) tw) (s := { u2 with toks := u2.toks + 1 }) pl2.typeIs slot_tuple_getitem.lookup ?_ (by rfl)
  refine getItem_tuple (j := cols.idxOf c) (s := { u2 with toks := u2.toks + 1 }) pl2 (by omega) (by omega) ?_ (by simpa using hw) ⟨rfl, ⟨c, tw, hc, rfl⟩, GxR.keeps_tok _ _⟩
  rw [List.size_toArray]
  exact PySem.seqIndex_of (by omega) (by omega)
end
end My

set_option Elab.async false
set_option linter.all false
set_option maxRecDepth 100000
set_option maxHeartbeats 2000000
namespace My
open PySem PySem.Spec PyProof.Rows L2
section
variable {X : Cx} {pins : List (Addr × Obj)} {σ : L2.St} {H : Hp} {s : Shared}
/-! d[x][n], d a captured dict of pairs of numbers -/
theorem elt_want {G : Hp} {P d : Addr} {scope : Scope} {x dn : Str} {p1 p2 p3 p4 p5 : Pos} {i kd : Nat} {n : Int} {a : Str} {kvs : List (Key × V)} {f : Nat → Int} (hT : GxR.TabG G P) (hN : X.N[i]? = some dn) (hv : σ[i]? = some (some (.ref d))) (hk : X.env.scope.names.lookup dn = some .cell)
    (hd : G d = some (.dK kvs)) (hn01 : n = 0 ∨ n = 1) (hac : ∀ c ∈ a.cps.toList, ∃ (p : Addr) (lo hi : Int), valV kvs (Sum.inr (sS c)) = some (.ref p) ∧ G p = some (.tup [.int lo, .int hi]) ∧ f c = (if n = 0 then lo else hi))
    (hf : scope.kind = .function) (hx : scope.names.lookup x = some .local) (hy : (dn, NameKind.free) ∈ scope.names) (hyl : scope.names.lookup dn = some .free)
    (hd1 : (x == ("__debug__" : Str)) = false := by decide) (hd2 : (dn == ("__debug__" : Str)) = false := by decide) (hd3 : (dn == ("__classdict__" : Str)) = false := by decide) :
    EltQ X σ G P scope x (.Subscript (.Subscript (.Name dn p1) (.Name x p2) p3) (.Constant (.int n) kd p4) p5) (SignAt a) (fun l w => ∃ c t, a.cps[l]? = some c ∧ w = .int (f c) t) := by
  intro pins u1 I ce B E' l v u2 m2 hB hs hcl hP hn hm hk3
  obtain ⟨c, t, hc, rfl⟩ := hP
  obtain ⟨ud, cl, ru, hl, hcell⟩ := capt I hN hv hk hy
  cases ru
  obtain ⟨p, lo, hi, hval, hp, hfc⟩ := hac c (by
    have : a.cps.toList[l]? = some c := by rw [Array.getElem?_toList]; exact hc
    exact List.mem_of_getElem? this)
  have neP : ∀ {b : Addr} {o : HO}, G b = some o → (∀ q, o ≠ .tbl q) → b ≠ P := fun {b o} hb ho z => by
    obtain ⟨ps, hPp, _⟩ := hT
    rw [z, hPp] at hb
    exact ho ps (Option.some.inj hb).symm
  obtain ⟨hz, hds, vs, rel, dd⟩ := dk_of I.hok hd
  have hndP : d ≠ P := neP hd (fun q z => nomatch z)
  have dd2 : u2.heap.DictOf (mixKind X.prog X.w) d vs := by
    exact dd.at fun o ho => hk3 d o hndP ho
  obtain ⟨wv, hw, rwv⟩ := RelO.some_of (v := .ref p) (o := valueAt vs (Sum.inr (sS c))) (by rw [← hval]; exact rel.val _)
  cases rwv
  obtain ⟨its, rv, pl, hz2⟩ := I.tuple (show SqT X.K G p [.int lo, .int hi] from .inl (.inl hp))
  have hnpP : p ≠ P := neP hp (fun q z => nomatch z)
  have pl2 : u2.heap.IsTuple p its.toArray := by
    obtain ⟨o, ho, r⟩ := pl
    exact ⟨o, hk3 p o hnpP ho, r⟩
  have kf : ce.scope.kind = .function := by rw [hs]; exact hf
  refine PyProof.Rows.Subscript_ ?_
  refine subD_of PySem.F.slot_dict_getitem.lookup (fun _ _ => rfl) ?_
  refine wpAny_Name (wpAny_loadName_free kf (show ce.scope.names.lookup dn = some .free by rw [hs]; exact hyl) (by rw [hcl]; exact hl) (cell_kept I hT hcell hk3) ?_ hd3) hd2
  refine wpAny_Name (wpAny_loadName_local kf (show ce.scope.names.lookup x = some .local by rw [hs]; exact hx) hn hm ?_) hd1
  refine ⟨dd2.typeIs, wpAny_getItem_of (k := Sum.inr (sS c)) (kV_is (k := Sum.inr (sS c)) ⟨t, rfl⟩) dd2.mapOf hw ?_⟩
  refine wpAny_Constant_int ?_
  have hl2 : its.length = 2 := rv.length.symm
  have two : ∃ (j : Nat) (tw : Tok), j < 2 ∧ n = (j : Int) ∧ its[j]? = some (.int (f c) tw) := by
    rcases hn01 with z | z
    · obtain ⟨w, hw0, rw0⟩ := rv.get (i := 0) rfl
      obtain ⟨tw, rfl⟩ := rw0
      exact ⟨0, tw, by decide, z, by rw [hw0, hfc, if_pos z]⟩
    · obtain ⟨w, hw0, rw0⟩ := rv.get (i := 1) rfl
      obtain ⟨tw, rfl⟩ := rw0
      exact ⟨1, tw, by decide, z, by rw [hw0, hfc, if_neg (by rw [z]; decide)]⟩
  obtain ⟨j, tw, hj2, hnj, hitj⟩ := two
  refine subscriptTail_builtinR (x := .int (f c) tw) pl2.typeIs slot_tuple_getitem.lookup ?_ (by rfl)
  refine getItem_tuple (j := j) pl2 (by omega) (by omega) ?_ (by simpa using hitj) ⟨rfl, ⟨c, tw, hc, rfl⟩, GxR.keeps_tok _ _⟩
  rw [List.size_toArray, hl2, hnj]
  exact PySem.seqIndex_of (by omega) (by omega)
end
end My

set_option Elab.async false
set_option linter.all false
set_option maxRecDepth 100000
set_option maxHeartbeats 2000000
namespace My
open PySem PySem.Spec PyProof.Rows L2
/-! ### tables of code objects: they may grow, all else stays -/
def TG (Ps : List Addr) (H : Hp) : Prop := ∀ P ∈ Ps, GxR.TabG H P
def Sx (Ps : List Addr) (H H' : Hp) : Prop := ∀ b o, b ∉ Ps → H b = some o → H' b = some o
theorem Sx.rfl' {Ps : List Addr} {H : Hp} : Sx Ps H H := fun _ _ _ h => h
theorem Sx.trans {Ps : List Addr} {H H1 H2 : Hp} (a : Sx Ps H H1) (b : Sx Ps H1 H2) : Sx Ps H H2 := fun c o n h => b c o n (a c o n h)
theorem Same.sx {Ps : List Addr} {H H' : Hp} (s : Same H H') : Sx Ps H H' := fun b o _ h => s b o h
theorem TG.same {Ps : List Addr} {H H' : Hp} (t : TG Ps H) (s : Same H H') : TG Ps H' := fun P hP => by
  obtain ⟨ps, h, r⟩ := t P hP
  exact ⟨ps, s _ _ h, r⟩
theorem TG.not {Ps : List Addr} {H : Hp} {b : Addr} {o : HO} (t : TG Ps H) (h : H b = some o) (ho : ∀ q, o ≠ .tbl q) : b ∉ Ps := fun hb => by
  obtain ⟨ps, h2, _⟩ := t b hb
  rw [h2] at h
  exact ho ps (Option.some.inj h).symm
theorem TG.kp {Ps : List Addr} {H H' : Hp} {r : Addr} {xs : List V} (t : TG Ps H) (hr : H r = some (.lst xs)) (k : Kp r H H') : TG Ps H' := fun P hP => by
  obtain ⟨ps, h, q⟩ := t P hP
  refine ⟨ps, k _ _ (fun z => ?_) h, q⟩
  rw [z, hr] at h
  cases h
theorem TG.new {Ps : List Addr} {H : Hp} {p : Addr} {o : HO} (t : TG Ps H) (n : H p = none) : TG Ps (upd H p o) := t.same (Same.new (Same.refl H) n)
theorem Sx.kt {Ps : List Addr} {H H' : Hp} (t : TG Ps H) (s : Sx Ps H H') : Kt H H' := fun b xs h => s b _ (t.not h fun q z => nomatch z) h
theorem Sx.lst {Ps : List Addr} {H H' : Hp} {b : Addr} {xs : List V} (t : TG Ps H) (s : Sx Ps H H') (h : H b = some (.lst xs)) : H' b = some (.lst xs) := s b _ (t.not h fun q z => nomatch z) h
theorem Sx.dct {Ps : List Addr} {H H' : Hp} {b : Addr} {xs : List (Key × V)} (t : TG Ps H) (s : Sx Ps H H') (h : H b = some (.dK xs)) : H' b = some (.dK xs) := s b _ (t.not h fun q z => nomatch z) h
theorem Sx.new {Ps : List Addr} {H H1 : Hp} {p : Addr} {o : HO} (s : Sx Ps H H1) (n : H1 p = none) : Sx Ps H (upd H1 p o) := fun b x nb h => keep_new (s b x nb h) n
theorem Sx.mut {Ps : List Addr} {H H1 : Hp} {p : Addr} {o : HO} (s : Sx Ps H H1) (n : H p = none) : Sx Ps H (upd H1 p o) := fun b x nb h => keep_ne (s b x nb h) (ne_of_none h n)
theorem Sx.free {Ps : List Addr} {H H' : Hp} {p : Addr} (t : TG Ps H') (s : Sx Ps H H') (h : H' p = none) : H p = none := by
  cases q : H p with
  | none => rfl
  | some o =>
    by_cases hp : p ∈ Ps
    · obtain ⟨ps, h2, _⟩ := t p hp
      rw [h] at h2
      cases h2
    · rw [s p o hp q] at h
      cases h
theorem Sx.seqL {K : PySem.W.Frag} {Ps : List Addr} {H H' : Hp} {a : Addr} {xs : List V} (t : TG Ps H) (s : Sx Ps H H') (h : SqL K H a xs) : SqL K H' a xs := by
  rcases h with (h | ⟨o, h⟩) | h
  · exact .inl (.inl (s.lst t h))
  · exact .inl (.inr ⟨o, s _ _ (t.not h fun q z => nomatch z) h⟩)
  · exact .inr h
/-- one table of them has grown -/
theorem Tabbed.sx {Ps : List Addr} {P : Addr} {H H' : Hp} (hP : P ∈ Ps) (t : GxR.Tabbed P H H') : Sx Ps H H' := fun b o nb h => by
  rw [t.2 b fun z => nb (z ▸ hP)]
  exact h
theorem Tabbed.tg {Ps : List Addr} {P : Addr} {H H' : Hp} (g : TG Ps H) (t : GxR.Tabbed P H H') : TG Ps H' := fun P' hP' => by
  by_cases e : P' = P
  · rw [e]
    exact t.1
  · obtain ⟨ps, h, q⟩ := g P' hP'
    exact ⟨ps, (t.2 P' e).trans h, q⟩
/-! ### a def whose code object is told -/
def FunC (K : PySem.W.Frag) (x qual : Str) (st : Stmt) (f : Addr) (fd : FuncData) (c : Addr) : Prop :=
  ∃ (oc : Value) (od : Option Addr) (kV doc pm : Value) (an : Option Addr) (ct : Value) (osl : Array (Option Value)), fd = PySem.W.fnOf x qual (defArgs st) (defBody st) (defScope st) .none kV doc pm an (.ref c) ct ∧ K.lookup f = some ⟨oc, od, .func fd, osl⟩ ∧ PySem.W.codeIn K (.ref c) qual = true
theorem FunC.ok {P : Program} {w : World} {K : PySem.W.Frag} {mg : Str → Option Value} {base : Heap} {x qual : Str} {st : Stmt} {f c : Addr} {fd : FuncData} {N ps : List Str} {k : Nat} {sp : Sp} (F : FunC K x qual st f fd c) (S : FnScope N ps (defScope st)) (len : ∀ vs H Q E, sp vs H Q E → vs.length = ps.length)
    (hbody : ∀ (A : Around) (outer : List Env) (s : Shared) (H : Hp) (vs : List V) (Q : VK) (E : XK), Room k (A.deeper (envOfC qual (defScope st) s.heap.objs.size f (.ref c))) → sp vs H Q E →
      ∃ t, PSs (cxOf CX0 P w K mg base N qual (defScope st) f (.ref c) A outer s H E).nox (defBody st) t ∧ t { nx := fun _ H' => Q .non H', rt := Q } (start N vs) H) : FnOk P w K mg base CX0 (k + 1) f fd ps sp := by
  obtain ⟨oc, od, kV, doc, pm, an, ct, osl, rfl, lk, hcd⟩ := F
  refine fn_of lk hcd S len fun A outer s H vs Q E hr hsp => ?_
  obtain ⟨t, h, q⟩ := hbody A outer s H vs Q E hr hsp
  exact ⟨t, h.nox, q⟩
theorem FunC.fn {K : PySem.W.Frag} {x qual : Str} {st : Stmt} {f c : Addr} {fd : FuncData} (F : FunC K x qual st f fd c) (k : PySem.W.keepIn K (.ref f) = true) : Fun K x qual st f fd := by
  obtain ⟨oc, od, kV, doc, pm, an, ct, osl, e, lk, hcd⟩ := F
  exact ⟨⟨oc, od, kV, doc, pm, an, .ref c, ct, osl, e, lk, hcd⟩, k⟩
/-- the generator expression's scope within a def's -/
def genC (sc scope : Scope) (x : Str) : Bool :=
  (match scope.kind with | .function => true | _ => false) && !scope.isCoroutine && (scope.names.all fun y => match y.2 with | .cell => false | .free => (match sc.names.lookup y.1 with | some .cell => true | _ => false) | _ => true) &&
    (match scope.names.lookup (".0" : Str) with | some .local => true | _ => false) && (match scope.names.lookup x with | some .local => true | _ => false)
theorem genS_by {sc scope : Scope} {x : Str} {env : Env} {n : Nat} (h : genC sc scope x = true) (hc : env.cells = cellsFrom n sc.names []) : GxR.GenS env scope x := by
  unfold genC at h
  simp only [Bool.and_eq_true] at h
  obtain ⟨⟨⟨⟨h1, h2⟩, h3⟩, h4⟩, h5⟩ := h
  rw [List.all_eq_true] at h3
  refine ⟨?_, ?_, fun y hy z => ?_, ?_, ?_, fun y hy z => ?_⟩
  · revert h1
    cases scope.kind <;> simp
  · simpa using h2
  · have := h3 y hy
    rw [z] at this
    cases this
  · revert h4
    cases scope.names.lookup (".0" : Str) with
    | none => simp
    | some k => cases k <;> simp
  · revert h5
    cases scope.names.lookup x with
    | none => simp
    | some k => cases k <;> simp
  · have q := h3 y hy
    rw [z] at q
    have q2 : sc.names.lookup y.1 = some .cell := by
      revert q
      cases sc.names.lookup y.1 with
      | none => simp
      | some k => cases k <;> simp
    have := PySem.W.cellsFrom_some sc.names n [] (.inl q2)
    rw [hc]
    exact Option.isSome_iff_exists.mp this
/-! ### the generator expressions that we met -/
def DRow (P : Addr) (i j : Nat) : V → L2.St → Hp → List V → Prop := fun v σ G xs => GxR.TabG G P ∧ ∃ (a : Str) (cols : List Nat) (ra : Addr) (row : List Int), v = .str a ∧ a.length ≤ sizeLine ∧ σ[i]? = some (some (tx cols)) ∧ σ[j]? = some (some (.ref ra)) ∧ G ra = some (.tup (row.map V.int)) ∧ row.length = cols.length ∧ (∀ c ∈ a.cps.toList, c ∈ cols) ∧ xs = a.cps.toList.map fun c => V.int (rowAt cols row c)
theorem hd_row {X : Cx} {P : Addr} {scope : Scope} {x y rn : Str} {p1 p2 p3 p4 p5 p6 : Pos} {i j : Nat} (hN : X.N[i]? = some y) (hk : X.env.scope.names.lookup y = some .cell) (hN2 : X.N[j]? = some rn) (hk2 : X.env.scope.names.lookup rn = some .cell)
    (hf : scope.kind = .function) (hx : scope.names.lookup x = some .local) (hyl : scope.names.lookup y = some .free) (hrf : scope.names.lookup rn = some .free) (hy : (y, NameKind.free) ∈ scope.names) (hr : (rn, NameKind.free) ∈ scope.names) (hline : (p3.endLine == p5.line) = true)
    (hd1 : (x == ("__debug__" : Str)) = false := by decide) (hd2 : (y == ("__debug__" : Str)) = false := by decide) (hd3 : (y == ("__classdict__" : Str)) = false := by decide) (hd4 : (rn == ("__debug__" : Str)) = false := by decide) (hd5 : (rn == ("__classdict__" : Str)) = false := by decide) :
    ∀ (pins : List (Addr × Obj)) (σ : L2.St) (G : Hp) (v : V) (xs : List V), DRow P i j v σ G xs → xs.length ≤ sizeLine ∧ ∃ (Pf F : Nat → Value → Prop), (∀ u, RelV v u → Src X pins σ G P u xs.length Pf) ∧
      EltQ X σ G P scope x (.Subscript (.Name rn p1) (.Call (.Attribute (.Name y p2) "index" p3) [.Name x p4] [] p5) p6) Pf F ∧ ∀ (l : Nat) (y : Value) (z : V), xs[l]? = some z → F l y → RelV z y := by
  intro pins σ G v xs h
  obtain ⟨hT, a, cols, ra, row, rfl, hz, hv, hv2, hra, hrl, hac, rfl⟩ := h
  have hl : (a.cps.toList.map fun c => V.int (rowAt cols row c)).length = a.cps.size := by rw [List.length_map]; exact Array.length_toList
  refine ⟨by rw [hl]; exact hz, _, _, fun u ru => ?_, elt_row hT hN hv hk hN2 hv2 hk2 hra hrl hac hf hx hy hyl hr hrf hline hd1 hd2 hd3 hd4 hd5, fun l y z h1 h2 => ?_⟩
  · obtain ⟨t, rfl⟩ := ru
    rw [hl]
    exact src_str a t
  · obtain ⟨c, t, hc, rfl⟩ := h2
    rw [List.getElem?_map, Array.getElem?_toList, hc] at h1
    cases h1
    exact ⟨t, rfl⟩
def DWant (P : Addr) (i : Nat) (n : Int) : V → L2.St → Hp → List V → Prop := fun v σ G xs => GxR.TabG G P ∧ ∃ (a : Str) (d : Addr) (kvs : List (Key × V)) (f : Nat → Int), v = .str a ∧ a.length ≤ sizeLine ∧ σ[i]? = some (some (.ref d)) ∧ G d = some (.dK kvs) ∧
  (∀ c ∈ a.cps.toList, ∃ (p : Addr) (lo hi : Int), valV kvs (Sum.inr (sS c)) = some (.ref p) ∧ G p = some (.tup [.int lo, .int hi]) ∧ f c = (if n = 0 then lo else hi)) ∧ xs = a.cps.toList.map fun c => V.int (f c)
theorem hd_want {X : Cx} {P : Addr} {scope : Scope} {x dn : Str} {p1 p2 p3 p4 p5 : Pos} {i kd : Nat} {n : Int} (hn01 : n = 0 ∨ n = 1) (hN : X.N[i]? = some dn) (hk : X.env.scope.names.lookup dn = some .cell)
    (hf : scope.kind = .function) (hx : scope.names.lookup x = some .local) (hyl : scope.names.lookup dn = some .free) (hy : (dn, NameKind.free) ∈ scope.names)
    (hd1 : (x == ("__debug__" : Str)) = false := by decide) (hd2 : (dn == ("__debug__" : Str)) = false := by decide) (hd3 : (dn == ("__classdict__" : Str)) = false := by decide) :
    ∀ (pins : List (Addr × Obj)) (σ : L2.St) (G : Hp) (v : V) (xs : List V), DWant P i n v σ G xs → xs.length ≤ sizeLine ∧ ∃ (Pf F : Nat → Value → Prop), (∀ u, RelV v u → Src X pins σ G P u xs.length Pf) ∧
      EltQ X σ G P scope x (.Subscript (.Subscript (.Name dn p1) (.Name x p2) p3) (.Constant (.int n) kd p4) p5) Pf F ∧ ∀ (l : Nat) (y : Value) (z : V), xs[l]? = some z → F l y → RelV z y := by
  intro pins σ G v xs h
  obtain ⟨hT, a, d, kvs, f, rfl, hz, hv, hd, hac, rfl⟩ := h
  have hl : (a.cps.toList.map fun c => V.int (f c)).length = a.cps.size := by rw [List.length_map]; exact Array.length_toList
  refine ⟨by rw [hl]; exact hz, _, _, fun u ru => ?_, elt_want hT hN hv hk hd hn01 hac hf hx hy hyl hd1 hd2 hd3, fun l y z h1 h2 => ?_⟩
  · obtain ⟨t, rfl⟩ := ru
    rw [hl]
    exact src_str a t
  · obtain ⟨c, t, hc, rfl⟩ := h2
    rw [List.getElem?_map, Array.getElem?_toList, hc] at h1
    cases h1
    exact ⟨t, rfl⟩
/-! ### the end: the tables of all defs are empty -/
end My

set_option Elab.async false
set_option linter.all false
set_option maxRecDepth 100000
set_option maxHeartbeats 2000000
namespace My
open PySem PySem.Spec PyProof.Rows L2
/-! ### texts by their codes -/
theorem inV_signs (c : Nat) : ∀ l : List Nat, inV (sg c) (l.map sg) = decide (c ∈ l)
  | [] => rfl
  | d :: l => by
    have ih := inV_signs c l
    show (((sS d) == (sS c)) || inV (sg c) (l.map sg)) = decide (c ∈ d :: l)
    rw [ih]
    by_cases e : d = c
    · rw [e]
      simp
    · have e2 : ((sS d) == (sS c)) = false := by
        rw [Bool.eq_false_iff]
        intro z
        exact e (sS_inj (by simpa using z))
      have e3 : ¬ c = d := fun z => e z.symm
      rw [e2]
      simp [e3]
theorem flat_signs (l : List Nat) : (l.map sg).all flatV = true := by
  rw [List.all_map, List.all_eq_true]
  intro c _
  rfl
theorem cut_take (l : List Nat) (k : Nat) : cutS ⟨l.toArray⟩ none (some (k : Int)) = ⟨(l.take k).toArray⟩ := by
  unfold cutS
  rw [HT.sIx_none, HT.sIx_nat]
  show (⟨((l.toArray.toList.drop 0).take (min k l.toArray.size - 0)).toArray⟩ : Str) = _
  have e1 : l.toArray.toList = l := by simp
  have e2 : l.toArray.size = l.length := by simp
  rw [e1, e2, List.drop_zero, Nat.sub_zero]
  congr 2
  rw [List.take_eq_take_iff]
  omega
theorem cut_one (l : List Nat) (k : Nat) (hk : k ≤ l.length) : cutS ⟨l.toArray⟩ (some (k : Int)) (some ((k : Int) + 1)) = ⟨((l.drop k).take 1).toArray⟩ := by
  unfold cutS
  have e0 : ((k : Int) + 1) = ((k + 1 : Nat) : Int) := by omega
  rw [e0, HT.sIx_nat, HT.sIx_nat]
  show (⟨((l.toArray.toList.drop (min k l.toArray.size)).take (min (k + 1) l.toArray.size - min k l.toArray.size)).toArray⟩ : Str) = _
  have e1 : l.toArray.toList = l := by simp
  have e2 : l.toArray.size = l.length := by simp
  rw [e1, e2, Nat.min_eq_left hk]
  congr 2
  rw [List.take_eq_take_iff, List.length_drop]
  omega
theorem tx_inj {a b : List Nat} (h : tx a = tx b) : a = b := by
  have h2 : (⟨a.toArray⟩ : Str) = ⟨b.toArray⟩ := V.str.inj h
  have h3 : a.toArray = b.toArray := congrArg Str.cps h2
  simpa using h3
/-! ### the letters that a question uses -/
def eqPart (one : List Nat) (es : List (Nat × Int)) : List Nat := one.takeWhile fun c => decide (c ∈ es.map (·.1))
def usedM (one : List Nat) (es : List (Nat × Int)) (rc : Option (Nat × Int × Int)) : List Nat :=
  match rc with
  | none => eqPart one es
  | some (c, _, _) => if (one.drop (eqPart one es).length).take 1 = [c] then one.take ((eqPart one es).length + 1) else eqPart one es
theorem eqPart_take (one : List Nat) (es : List (Nat × Int)) : eqPart one es = one.take (eqPart one es).length := by
  unfold eqPart
  exact List.prefix_iff_eq_take.mp (List.takeWhile_prefix _)
theorem eqPart_le (one : List Nat) (es : List (Nat × Int)) : (eqPart one es).length ≤ one.length := (List.takeWhile_prefix _).length_le
theorem take_while_at {α : Type} (p : α → Bool) : ∀ (l : List α) (k : Nat), k ≤ l.length → (∀ i (h : i < l.length), i < k → p l[i] = true) → (∀ (h : k < l.length), p l[k] = false) → (l.takeWhile p).length = k
  | [], k, hk, _, _ => by
    have : k = 0 := by
      have : k ≤ 0 := hk
      omega
    rw [this]
    rfl
  | a :: l, 0, _, _, h => by
    have := h (by simp)
    rw [List.takeWhile_cons, show p a = false from this]
    rfl
  | a :: l, k + 1, hk, h1, h2 => by
    have e := h1 0 (by simp) (by omega)
    rw [List.takeWhile_cons, show p a = true from e]
    have ih := take_while_at p l k (by have : k + 1 ≤ l.length + 1 := hk; omega) (fun i hi hik => h1 (i + 1) (by simpa using hi) (by omega)) (fun h => h2 (by simpa using h))
    show (a :: l.takeWhile p).length = k + 1
    rw [List.length_cons, ih]
section
variable (K : PySem.W.Frag) {X : Cx}
theorem ltTK (hu : X.A.units < cLine) (hK : X.K = K := by rfl) : OpR X (compareOp .Lt) (rLtT K) := by
  subst hK
  exact op_ltT hu
theorem leTK (hu : X.A.units < cLine) (hK : X.K = K := by rfl) : OpR X (compareOp .LtE) (rLeT K) := by
  subst hK
  exact op_leT hu
end
/-! ### the bounds that a question asks of a letter -/
def spanOf (es : List (Nat × Int)) (rc : Option (Nat × Int × Int)) (c : Nat) : Int × Int := match (spanL es rc).find? (fun t => decide (t.1 = c)) with
  | some t => t.2
  | none => (0, 0)
theorem spanOf_mem {es : List (Nat × Int)} {rc : Option (Nat × Int × Int)} {c : Nat} {lo hi : Int} (nd : ((spanL es rc).map (·.1)).Nodup) (h : (c, lo, hi) ∈ spanL es rc) : spanOf es rc c = (lo, hi) := by
  unfold spanOf
  generalize spanL es rc = l at nd h
  induction l with
  | nil => cases h
  | cons t l ih =>
    rw [List.find?_cons]
    by_cases e : t.1 = c
    · rw [decide_eq_true e]
      rcases List.mem_cons.mp h with z | z
      · rw [← z]
      · have := (List.nodup_cons.mp nd).1
        exfalso
        apply this
        show t.1 ∈ _
        rw [e]
        exact List.mem_map_of_mem (f := fun t : Nat × Int × Int => t.1) z
    · rw [decide_eq_false e]
      rcases List.mem_cons.mp h with z | z
      · exfalso
        apply e
        rw [← z]
      · exact ih (List.nodup_cons.mp nd).2 z
theorem mem_tw {α : Type} (p : α → Bool) : ∀ (l : List α) (a : α), a ∈ l.takeWhile p → p a = true
  | [], _, h => by cases h
  | b :: l, a, h => by
    rw [List.takeWhile_cons] at h
    by_cases e : p b = true
    · rw [if_pos e] at h
      rcases List.mem_cons.mp h with z | z
      · rw [z]
        exact e
      · exact mem_tw p l a z
    · rw [if_neg e] at h
      cases h
theorem used_span {one : List Nat} {es : List (Nat × Int)} {rc : Option (Nat × Int × Int)} {c : Nat} (h : c ∈ usedM one es rc) : ∃ lo hi, (c, lo, hi) ∈ spanL es rc := by
  have eqp : ∀ c ∈ eqPart one es, ∃ lo hi, (c, lo, hi) ∈ spanL es rc := fun c hc => by
    have hm : c ∈ es.map (·.1) := by
      unfold eqPart at hc
      have := mem_tw _ _ _ hc
      exact of_decide_eq_true this
    obtain ⟨p, hp, rfl⟩ := List.mem_map.mp hm
    exact ⟨p.2, p.2, List.mem_append_left _ (List.mem_map_of_mem (f := fun p : Nat × Int => (p.1, p.2, p.2)) hp)⟩
  cases rc with
  | none => exact eqp c h
  | some t =>
    obtain ⟨d, lo, hi⟩ := t
    have h2 : c ∈ (if (one.drop (eqPart one es).length).take 1 = [d] then one.take ((eqPart one es).length + 1) else eqPart one es) := h
    by_cases e : (one.drop (eqPart one es).length).take 1 = [d]
    · rw [if_pos e, List.take_add, ← eqPart_take, e] at h2
      rcases List.mem_append.mp h2 with z | z
      · exact eqp c z
      · rw [List.mem_singleton.mp z]
        exact ⟨lo, hi, List.mem_append_right _ (by simp)⟩
    · rw [if_neg e] at h2
      exact eqp c h2
theorem used_sub {one : List Nat} {es : List (Nat × Int)} {rc : Option (Nat × Int × Int)} : ∃ k, usedM one es rc = one.take k ∧ k ≤ one.length + 1 := by
  have hl := eqPart_le one es
  cases rc with
  | none => exact ⟨_, eqPart_take one es, by omega⟩
  | some t =>
    obtain ⟨d, lo, hi⟩ := t
    show ∃ k, (if (one.drop (eqPart one es).length).take 1 = [d] then one.take ((eqPart one es).length + 1) else eqPart one es) = one.take k ∧ _
    by_cases e : (one.drop (eqPart one es).length).take 1 = [d]
    · rw [if_pos e]
      exact ⟨_, rfl, by omega⟩
    · rw [if_neg e]
      exact ⟨_, eqPart_take one es, by omega⟩
theorem used_in {one : List Nat} {es : List (Nat × Int)} {rc : Option (Nat × Int × Int)} {c : Nat} (h : c ∈ usedM one es rc) : c ∈ one := by
  obtain ⟨k, e, _⟩ := used_sub (one := one) (es := es) (rc := rc)
  rw [e] at h
  exact List.mem_of_mem_take h
theorem used_len (one : List Nat) (es : List (Nat × Int)) (rc : Option (Nat × Int × Int)) : (usedM one es rc).length ≤ one.length := by
  obtain ⟨k, e, _⟩ := used_sub (one := one) (es := es) (rc := rc)
  rw [e, List.length_take]
  exact Nat.min_le_right _ _
theorem TG.mut {Ps : List Addr} {H : Hp} {p : Addr} {xs : List V} {o : HO} (t : TG Ps H) (h : H p = some (.lst xs)) : TG Ps (upd H p o) := fun P hP => by
  obtain ⟨ps, h2, q⟩ := t P hP
  refine ⟨ps, ?_, q⟩
  rw [upd_ne (fun z => ?_)]
  · exact h2
  · rw [z, h] at h2
    cases h2
theorem row_at_fz {H : Hp} {p : Addr} {row : List Int} (h : H p = some (.tup (row.map V.int))) : Fz H (.ref p) (rowD row) := .tup h FzA.ofInts
/-! ### stretches -/
def keyM (cols : List Nat) (row : List Int) (ls : List Nat) : List Int := ls.map (rowAt cols row)
def leK (ns ms : List Int) : Bool := Ob.lexAt (fun j => decide (ns.getD j 0 = ms.getD j 0)) (fun j => decide (ns.getD j 0 ≤ ms.getD j 0)) (decide (ns.length ≤ ms.length)) 0 (min ns.length ms.length)
def loM (es : List (Nat × Int)) (rc : Option (Nat × Int × Int)) (u : List Nat) : List Int := u.map fun c => (spanOf es rc c).1
def hiM (es : List (Nat × Int)) (rc : Option (Nat × Int × Int)) (u : List Nat) : List Int := u.map fun c => (spanOf es rc c).2
def aheadM (cols : List Nat) (rows : List (List Int)) (one : List Nat) (es : List (Nat × Int)) (rc : Option (Nat × Int × Int)) : Nat := (rows.filter fun row => HT.lexLt (keyM cols row (usedM one es rc)) (loM es rc (usedM one es rc))).length
def behindM (cols : List Nat) (rows : List (List Int)) (one : List Nat) (es : List (Nat × Int)) (rc : Option (Nat × Int × Int)) : Nat := (rows.filter fun row => leK (keyM cols row (usedM one es rc)) (hiM es rc (usedM one es rc))).length
end My

set_option Elab.async false
set_option linter.all false
set_option maxRecDepth 100000
set_option maxHeartbeats 2000000
namespace My
open PySem PySem.Spec PyProof.Rows L2
/-! ### tuples whose own object is told: without a dict of its own -/
def rDictF (K : PySem.W.Frag) : List V → Hp → VK → Prop := fun xs H Q => ∃ (a : Addr) (o : Obj) (ps : List Addr) (kvs : List (Key × V)), xs = [.ref a] ∧ o.dict = none ∧ H a = some (.frz o (.tup (ps.map V.ref))) ∧ Paired (fun p kv => SqT K H p [kV kv.1, kv.2]) ps kvs ∧ ∀ p, H p = none → Q (.ref p) (upd H p (.dK (mergeK [] kvs)))
section
variable (K : PySem.W.Frag) {X : Cx}
theorem cDictF (hK : X.K = K := by rfl) (hcalm : X.calm = true := by rfl) : CallR X (.type "dict") (rDictF K) := by
  subst hK
  intro pins s σ H xs us Q I r h
  obtain ⟨a, o, ps, kvs, rfl, hod, ha, hp, q⟩ := h
  obtain ⟨u, rfl, rx⟩ := vals1 r
  cases rx
  obtain ⟨ho, hz, its, rv, oc, hoc, hcl, n, hdat⟩ := I.hok a _ ha
  rw [ho] at hoc
  cases hoc
  have ei := refs_at rv
  subst ei
  rw [List.length_map] at hz
  obtain ⟨prs, rel, hl, hpr⟩ := L2.pairs_of I hp
  have hlt : ∀ j, j < prs.length → j < ps.length := fun j hj => by omega
  -- the keys as they lie there
  have hall : ∀ j (hj : j < prs.length), ∃ (u : Value), IsTup s.heap (ps.getD j 0) #[u, prs[j].2] ∧ keyIs prs[j].1 u = true := fun j hj => by
    obtain ⟨b, u, e1, e2, e3⟩ := hpr j prs[j] (List.getElem?_eq_getElem hj)
    refine ⟨u, ?_, e3⟩
    rw [List.getD_eq_getElem?_getD, e1]
    exact e2
  let us : List Value := (List.range prs.length).map fun j => if hj : j < prs.length then (hall j hj).choose else .none
  have hus : us.length = prs.length := by simp [us]
  have huj : ∀ j (hj : j < prs.length), us[j]? = some (hall j hj).choose := fun j hj => by
    simp only [us, List.getElem?_map, List.getElem?_range hj, Option.map_some, dif_pos hj]
  let zs : List (Value × Value) := (List.range prs.length).map fun j => (us.getD j .none, (prs.map (·.2)).getD j .none)
  have hzl : zs.length = prs.length := by simp [zs]
  have hzj : ∀ j (hj : j < prs.length), zs[j]? = some ((hall j hj).choose, prs[j].2) := fun j hj => by
    simp only [zs, List.getElem?_map, List.getElem?_range hj, Option.map_some, List.getD_eq_getElem?_getD, huj j hj, List.getElem?_eq_getElem hj, Option.getD_some]
  refine PySem.call_dict_pairs (knd := mixKind X.prog X.w) (kvs := prs) (PairArg.tuple a (ps.map Value.ref).toArray (fun j => ps.getD j 0) zs) (I.ok.hd hcalm) ⟨⟨o, n, ho, hcl, hod, hdat⟩, ?_, fun j k v e => ?_⟩ ⟨hzl.symm, fun j k v e => ?_⟩ (by rw [hzl, hl]; exact hz) fun h2 tk hd2 kp => ?_
  · simp [hzl, hl]
  · have hj : j < prs.length := by
      have := (List.getElem?_eq_some_iff.mp e).1
      omega
    rw [hzj j hj] at e
    cases e
    refine ⟨?_, .inl (hall j hj).choose_spec.1⟩
    have hj2 := hlt j hj
    simp [hj2]
  · have e0 : zs[j]? = some (k, v) := e
    have hj : j < prs.length := by
      have := (List.getElem?_eq_some_iff.mp e0).1
      omega
    rw [hzj j hj] at e0
    cases e0
    exact ⟨prs[j].1, List.getElem?_eq_getElem hj, (hall j hj).choose_spec.2⟩
  · have hm : (s.heap.objs.size == sysModules) = false := beq_eq_false_iff_ne.mpr (Nat.ne_of_gt I.big)
    have hlen : (mergeK [] kvs).length ≤ sizeLine := by
      have z := length_mergeK kvs []
      rw [List.length_nil, Nat.zero_add, rel.length, hl] at z
      omega
    have new : ObjOk X.prog X.w (upd H s.heap.objs.size (.dK (mergeK [] kvs))) h2 s.heap.objs.size (.dK (mergeK [] kvs)) := ⟨hlen, hm, merged [] prs, KV.merge rel .nil, hd2⟩
    have I2 := I.laid (t' := tk) (fun b u e => kp b u (fun z => nomatch z) e) (Nat.le_refl _) new
    exact ⟨.ref s.heap.objs.size, _, I2, rfl, q _ (I.hok.fresh (Nat.le_refl _))⟩
end
theorem app_txt (a b : List Nat) : ((⟨a.toArray⟩ : Str) ++ (⟨b.toArray⟩ : Str)) = ⟨(a ++ b).toArray⟩ := by
  show (⟨a.toArray ++ b.toArray⟩ : Str) = _
  rw [List.append_toArray]
/-! ### questions: their equals are such a tuple -/
def KT (H H' : Hp) : Prop := Kt H H' ∧ ∀ b o xs, H b = some (.frz o (.tup xs)) → H' b = some (.frz o (.tup xs))
theorem KT.rfl' {H : Hp} : KT H H := ⟨Kt.rfl', fun _ _ _ h => h⟩
theorem KT.trans {H H1 H2 : Hp} (a : KT H H1) (b : KT H1 H2) : KT H H2 := ⟨a.1.trans b.1, fun c o xs h => b.2 c o xs (a.2 c o xs h)⟩
theorem Same.kT {H H' : Hp} (s : Same H H') : KT H H' := ⟨Same.kt s, fun b o xs h => s b _ h⟩
theorem Kp.kT {r : Addr} {H H' : Hp} {xs : List V} (k : Kp r H H') (hr : H r = some (.lst xs)) : KT H H' := ⟨k.kt hr, fun b o ys h => k b _ (fun z => by
  rw [z, hr] at h
  cases h) h⟩
theorem Sx.kT {Ps : List Addr} {H H' : Hp} (t : TG Ps H) (s : Sx Ps H H') : KT H H' := ⟨s.kt t, fun b o xs h => s b _ (t.not h fun q z => nomatch z) h⟩
theorem KT.new {H : Hp} {p : Addr} {o : HO} (n : H p = none) : KT H (upd H p o) := ⟨Kt.new n, fun b u xs h => keep_new h n⟩
theorem KT.lst {H : Hp} {p : Addr} {xs : List V} {o : HO} (n : H p = some (.lst xs)) : KT H (upd H p o) := ⟨Kt.lst n, fun b u ys h => keep_ne h fun z => by
  rw [z, n] at h
  cases h⟩
def EZ (H : Hp) (ev : V) (es : List (Nat × Int)) : Prop := ∃ (ea : Addr) (o : Obj) (ps : List V), ev = .ref ea ∧ o.dict = none ∧ H ea = some (.frz o (.tup ps)) ∧ FzA H ps (es.map eqD)
def QZ (H : Hp) (qv : V) (es : List (Nat × Int)) (rc : Option (Nat × Int × Int)) : Prop := ∃ (qa : Addr) (ev y : V), qv = .ref qa ∧ H qa = some (.tup [ev, y]) ∧ EZ H ev es ∧ Fz H y (rchD rc)
theorem EZ.kT {H H' : Hp} {ev : V} {es : List (Nat × Int)} (h : EZ H ev es) (k : KT H H') : EZ H' ev es := by
  obtain ⟨ea, o, ps, rfl, h1, h2, h3⟩ := h
  exact ⟨ea, o, ps, rfl, h1, k.2 _ _ _ h2, h3.kt k.1⟩
theorem QZ.kT {H H' : Hp} {qv : V} {es : List (Nat × Int)} {rc : Option (Nat × Int × Int)} (h : QZ H qv es rc) (k : KT H H') : QZ H' qv es rc := by
  obtain ⟨qa, ev, y, rfl, h1, h2, h3⟩ := h
  exact ⟨qa, ev, y, rfl, k.1 _ _ h1, h2.kT k, h3.kt k.1⟩
theorem EZ.made {H : Hp} {te : Addr} {o : Obj} {ps : List V} {es : List (Nat × Int)} (n : H te = none) (ho : o.dict = none) (f : FzA H ps (es.map eqD)) : EZ (upd H te (.frz o (.tup ps))) (.ref te) es := ⟨te, o, ps, rfl, ho, upd_same, f.kt (.new n)⟩
theorem QZ.made {H : Hp} {v : Addr} {ev y : V} {es : List (Nat × Int)} {rc : Option (Nat × Int × Int)} (n : H v = none) (e : EZ H ev es) (f : Fz H y (rchD rc)) : QZ (upd H v (.tup [ev, y])) (.ref v) es rc := ⟨v, ev, y, rfl, upd_same, e.kT (.new n), f.kt (.new n)⟩
end My

set_option Elab.async false
set_option linter.all false
set_option maxRecDepth 100000
set_option maxHeartbeats 2000000
namespace My
open PySem PySem.Spec PyProof.Rows L2
section
variable (K : PySem.W.Frag) {X : Cx}
theorem slTK (hK : X.K = K := by rfl) : SlR X (rSlT K) := by
  subst hK
  exact sl_tup
end
/-! ### the order of keys, by a sign -/
theorem lexAt_shift {e r : Nat → Bool} {z : Bool} : ∀ (k i : Nat), Ob.lexAt e r z (i + 1) k = Ob.lexAt (fun j => e (j + 1)) (fun j => r (j + 1)) z i k
  | 0, i => rfl
  | k + 1, i => by
    show (if e (i + 1) = true then Ob.lexAt e r z (i + 1 + 1) k else r (i + 1)) = (if e (i + 1) = true then Ob.lexAt (fun j => e (j + 1)) (fun j => r (j + 1)) z (i + 1) k else r (i + 1))
    rw [lexAt_shift k (i + 1)]
theorem leK_cons (a b : Int) (as bs : List Int) : leK (a :: as) (b :: bs) = if a = b then leK as bs else decide (a ≤ b) := by
  unfold leK
  have e : min (a :: as).length (b :: bs).length = min as.length bs.length + 1 := by
    rw [List.length_cons, List.length_cons]
    omega
  rw [e, Ob.lexAt_succ, lexAt_shift]
  simp only [List.getD_cons_zero, List.getD_cons_succ, List.length_cons, Nat.add_le_add_iff_right, decide_eq_true_eq]
def sgn (k lo hi : Int) : Int := (if decide (hi < k) = true then 1 else 0) - (if decide (k < lo) = true then 1 else 0)
def signF (k lo hi : Nat → Int) (u : List Nat) (s : Int) : Int := u.foldl (fun s c => if s = 0 then sgn (k c) (lo c) (hi c) else s) s
theorem signF_stay (k lo hi : Nat → Int) : ∀ (u : List Nat) (s : Int), s ≠ 0 → signF k lo hi u s = s
  | [], s, _ => rfl
  | c :: u, s, h => by
    show signF k lo hi u (if s = 0 then sgn (k c) (lo c) (hi c) else s) = s
    rw [if_neg h]
    exact signF_stay k lo hi u s h
def Thin (lo hi : Nat → Int) : List Nat → Prop
  | [] => True
  | c :: r => lo c ≤ hi c ∧ (r ≠ [] → lo c = hi c) ∧ Thin lo hi r
theorem Thin.all {lo hi : Nat → Int} : ∀ {l : List Nat}, (∀ c ∈ l, lo c = hi c) → Thin lo hi l
  | [], _ => trivial
  | c :: l, h => ⟨by rw [h c (by simp)]; exact Int.le_refl _, fun _ => h c (by simp), Thin.all fun d hd => h d (by simp [hd])⟩
theorem Thin.app {lo hi : Nat → Int} {d : Nat} (hd : lo d ≤ hi d) : ∀ {l : List Nat}, (∀ c ∈ l, lo c = hi c) → Thin lo hi (l ++ [d])
  | [], _ => ⟨hd, fun z => absurd rfl z, trivial⟩
  | c :: l, h => ⟨by rw [h c (by simp)]; exact Int.le_refl _, fun _ => h c (by simp), Thin.app hd fun e he => h e (by simp [he])⟩
theorem sign_lex (k lo hi : Nat → Int) : ∀ (u : List Nat), Thin lo hi u → HT.lexLt (u.map k) (u.map lo) = decide (signF k lo hi u 0 < 0) ∧ leK (u.map k) (u.map hi) = decide (signF k lo hi u 0 < 1)
  | [], _ => ⟨rfl, rfl⟩
  | c :: u, h => by
    obtain ⟨h1, h2, h3⟩ := h
    have ih := sign_lex k lo hi u h3
    rw [List.map_cons, List.map_cons, List.map_cons, HT.lexLt_cons, leK_cons]
    show _ = decide (signF k lo hi u (if (0 : Int) = 0 then sgn (k c) (lo c) (hi c) else 0) < 0) ∧ _ = decide (signF k lo hi u (if (0 : Int) = 0 then sgn (k c) (lo c) (hi c) else 0) < 1)
    rw [if_pos rfl]
    rcases Int.lt_or_le (k c) (lo c) with e | e
    · have es : sgn (k c) (lo c) (hi c) = -1 := by
        unfold sgn
        rw [decide_eq_false (show ¬ hi c < k c by omega), decide_eq_true e]
        rfl
      rw [es, signF_stay _ _ _ _ _ (by decide), if_neg (show ¬ k c = lo c by omega), if_neg (show ¬ k c = hi c by omega), decide_eq_true e, decide_eq_true (show k c ≤ hi c by omega)]
      exact ⟨rfl, rfl⟩
    · rcases Int.lt_or_le (hi c) (k c) with f | f
      · have es : sgn (k c) (lo c) (hi c) = 1 := by
          unfold sgn
          rw [decide_eq_false (show ¬ k c < lo c by omega), decide_eq_true f]
          rfl
        rw [es, signF_stay _ _ _ _ _ (by decide), if_neg (show ¬ k c = lo c by omega), if_neg (show ¬ k c = hi c by omega), decide_eq_false (show ¬ k c < lo c by omega), decide_eq_false (show ¬ k c ≤ hi c by omega)]
        exact ⟨rfl, rfl⟩
      · have es : sgn (k c) (lo c) (hi c) = 0 := by
          unfold sgn
          rw [decide_eq_false (show ¬ k c < lo c by omega), decide_eq_false (show ¬ hi c < k c by omega)]
          rfl
        rw [es]
        by_cases hu : u = []
        · subst hu
          show (if k c = lo c then false else decide (k c < lo c)) = false ∧ (if k c = hi c then true else decide (k c ≤ hi c)) = true
          rw [decide_eq_false (show ¬ k c < lo c by omega), decide_eq_true f]
          exact ⟨by split <;> rfl, by split <;> rfl⟩
        · have e2 := h2 hu
          rw [if_pos (show k c = lo c by omega), if_pos (show k c = hi c by omega)]
          exact ih
def signM (cols : List Nat) (row : List Int) (es : List (Nat × Int)) (rc : Option (Nat × Int × Int)) (u : List Nat) : Int := signF (rowAt cols row) (fun c => (spanOf es rc c).1) (fun c => (spanOf es rc c).2) u 0
theorem span_eq {cols : List Nat} {es : List (Nat × Int)} {rc : Option (Nat × Int × Int)} (hok : QOk cols es rc) {c : Nat} {v : Int} (h : (c, v) ∈ es) : spanOf es rc c = (v, v) := spanOf_mem (spanL_nd hok) (List.mem_append_left _ (List.mem_map_of_mem (f := fun p : Nat × Int => (p.1, p.2, p.2)) h))
theorem span_rc {cols : List Nat} {es : List (Nat × Int)} {c : Nat} {lo hi : Int} (hok : QOk cols es (some (c, lo, hi))) : spanOf es (some (c, lo, hi)) c = (lo, hi) := spanOf_mem (spanL_nd hok) (List.mem_append_right _ (by simp))
theorem used_thin {cols one : List Nat} {es : List (Nat × Int)} {rc : Option (Nat × Int × Int)} (hok : QOk cols es rc) : Thin (fun c => (spanOf es rc c).1) (fun c => (spanOf es rc c).2) (usedM one es rc) := by
  have eqp : ∀ c ∈ eqPart one es, (spanOf es rc c).1 = (spanOf es rc c).2 := fun c hc => by
    have hm0 := mem_tw (fun c => decide (c ∈ es.map fun p : Nat × Int => p.1)) one c hc
    have hm : c ∈ es.map (·.1) := of_decide_eq_true hm0
    obtain ⟨p, hp, rfl⟩ := List.mem_map.mp hm
    rw [span_eq hok (c := p.1) (v := p.2) hp]
  cases rc with
  | none => exact Thin.all eqp
  | some t =>
    obtain ⟨d, lo, hi⟩ := t
    show Thin _ _ (if (one.drop (eqPart one es).length).take 1 = [d] then one.take ((eqPart one es).length + 1) else eqPart one es)
    by_cases e : (one.drop (eqPart one es).length).take 1 = [d]
    · rw [if_pos e, List.take_add, ← eqPart_take, e]
      refine Thin.app ?_ eqp
      show (spanOf es (some (d, lo, hi)) d).1 ≤ (spanOf es (some (d, lo, hi)) d).2
      rw [span_rc hok]
      exact (hok.rc d lo hi rfl).2.2.2.1
    · rw [if_neg e]
      exact Thin.all eqp
theorem val_at (c : Nat) : ∀ es : List (Nat × Int), c ∈ es.map (·.1) → ∃ v, (c, v) ∈ es ∧ valV (es.map kvI) (Sum.inr (sS c)) = some (.int v)
  | [], h => by cases h
  | e :: es, h => by
    by_cases z : e.1 = c
    · refine ⟨e.2, by rw [← z]; simp, ?_⟩
      rw [List.map_cons, valV_pos (by show Sum.inr (sS e.1) = Sum.inr (sS c); rw [z])]
    · have h2 : c ∈ es.map (·.1) := by
        rcases List.mem_cons.mp h with y | y
        · exact absurd y.symm z
        · exact y
      obtain ⟨v, h3, h4⟩ := val_at c es h2
      refine ⟨v, List.mem_cons_of_mem _ h3, ?_⟩
      rw [List.map_cons, valV_neg (fun y => z ?_)]
      · exact h4
      · exact sS_inj (Sum.inr.inj y)
theorem used_rc {one : List Nat} {es : List (Nat × Int)} {rc : Option (Nat × Int × Int)} {c : Nat} (h : c ∈ usedM one es rc) (n : c ∉ es.map (·.1)) : ∃ lo hi, rc = some (c, lo, hi) := by
  obtain ⟨lo, hi, hm⟩ := used_span h
  rcases List.mem_append.mp hm with z | z
  · obtain ⟨p, hp, e⟩ := List.mem_map.mp z
    have e1 : p.1 = c := congrArg (·.1) e
    exact absurd (e1 ▸ List.mem_map_of_mem (f := fun p : Nat × Int => p.1) hp) n
  · exact ⟨lo, hi, by simpa using z⟩
theorem ahead_sign {cols : List Nat} {rows : List (List Int)} {one : List Nat} {es : List (Nat × Int)} {rc : Option (Nat × Int × Int)} (hok : QOk cols es rc) : aheadM cols rows one es rc = (rows.filter fun row => decide (signM cols row es rc (usedM one es rc) < 0)).length := by
  unfold aheadM
  congr 2
  funext row
  exact (sign_lex (rowAt cols row) (fun c => (spanOf es rc c).1) (fun c => (spanOf es rc c).2) _ (used_thin hok)).1
theorem behind_sign {cols : List Nat} {rows : List (List Int)} {one : List Nat} {es : List (Nat × Int)} {rc : Option (Nat × Int × Int)} (hok : QOk cols es rc) : behindM cols rows one es rc = (rows.filter fun row => decide (signM cols row es rc (usedM one es rc) < 1)).length := by
  unfold behindM
  congr 2
  funext row
  exact (sign_lex (rowAt cols row) (fun c => (spanOf es rc c).1) (fun c => (spanOf es rc c).2) _ (used_thin hok)).2
end My

set_option Elab.async false
set_option linter.all false
set_option maxRecDepth 100000
set_option maxHeartbeats 2000000
namespace My
open PySem PySem.Spec PyProof.Rows L2
/-! ### entries: a key of numbers, and a number; sorted -/
abbrev Ent := List Int × Int
def entLt (b c : Ent) : Bool := if b.1 = c.1 then decide (b.2 < c.2) else decide (b.1 < c.1)
def entLe (b c : Ent) : Bool := !entLt c b
theorem eqvA_int : ∀ ns ms : List Int, PyData.eqvAll (ns.map PyData.int) (ms.map PyData.int) = decide (ns = ms)
  | [], [] => rfl
  | [], m :: ms => by
    show false = _
    simp
  | n :: ns, [] => by
    show false = _
    simp
  | n :: ns, m :: ms => by
    show (PyData.eqv (.int n) (.int m) && PyData.eqvAll (ns.map PyData.int) (ms.map PyData.int)) = _
    rw [eqvA_int ns ms]
    show ((n == m) && _) = _
    by_cases e : n = m
    · subst e
      simp
    · have e2 : (n == m) = false := by simp [e]
      rw [e2]
      simp [e]
section
variable (K : PySem.W.Frag) {X : Cx}
end
end My

set_option Elab.async false
set_option linter.all false
set_option maxRecDepth 100000
set_option maxHeartbeats 2000000
namespace My
open PySem PySem.Spec PyProof.Rows L2
/-! ### rows sorted by a list -/
def entAt (cols : List Nat) (rows : List (List Int)) (one : List Nat) (i : Nat) : Ent := (keyM cols (rows.getD i []) one, (i : Int))
theorem entLt_irrefl (a : Ent) : entLt a a = false := by
  unfold entLt
  rw [if_pos rfl]
  simp
theorem entLt_trans {a b c : Ent} (h1 : entLt a b = true) (h2 : entLt b c = true) : entLt a c = true := by
  unfold entLt at *
  by_cases e1 : a.1 = b.1
  · rw [if_pos e1] at h1
    by_cases e2 : b.1 = c.1
    · rw [if_pos e2] at h2
      rw [if_pos (e1.trans e2)]
      simp at *
      omega
    · rw [if_neg e2] at h2
      rw [if_neg (by rw [e1]; exact e2), e1]
      exact h2
  · rw [if_neg e1] at h1
    by_cases e2 : b.1 = c.1
    · rw [if_neg (by rw [← e2]; exact e1), ← e2]
      exact h1
    · rw [if_neg e2] at h2
      have t : a.1 < c.1 := List.lt_trans (of_decide_eq_true h1) (of_decide_eq_true h2)
      have ne : a.1 ≠ c.1 := fun z => List.lt_irrefl _ (z ▸ t)
      rw [if_neg ne]
      exact decide_eq_true t
theorem entLt_tri (a b : Ent) : entLt a b = true ∨ a = b ∨ entLt b a = true := by
  unfold entLt
  by_cases e : a.1 = b.1
  · rw [if_pos e, if_pos e.symm]
    rcases Int.lt_trichotomy a.2 b.2 with z | z | z
    · exact .inl (decide_eq_true z)
    · exact .inr (.inl (Prod.ext e z))
    · exact .inr (.inr (decide_eq_true z))
  · rw [if_neg e, if_neg (fun z => e z.symm)]
    by_cases l : a.1 < b.1
    · exact .inl (decide_eq_true l)
    · have l2 : b.1 ≤ a.1 := List.not_lt.mp l
      rcases List.le_iff_lt_or_eq.mp l2 with z | z
      · exact .inr (.inr (decide_eq_true z))
      · exact absurd z.symm e
theorem entLt_asym {a b : Ent} (h : entLt a b = true) : entLt b a = false := by
  cases e : entLt b a with
  | false => rfl
  | true =>
    have := entLt_trans h e
    rw [entLt_irrefl] at this
    cases this
theorem entLe_trans (a b c : Ent) (h1 : entLe a b = true) (h2 : entLe b c = true) : entLe a c = true := by
  unfold entLe at *
  simp only [Bool.not_eq_true'] at *
  rcases entLt_tri c a with z | z | z
  · rcases entLt_tri a b with y | y | y
    · rw [entLt_trans z y] at h2
      cases h2
    · rw [← y] at h2
      rw [h2] at z
      cases z
    · rw [h1] at y
      cases y
  · rw [z]
    exact entLt_irrefl _
  · exact entLt_asym z
theorem entLe_total (a b : Ent) : (entLe a b || entLe b a) = true := by
  unfold entLe
  rcases entLt_tri a b with z | z | z
  · rw [entLt_asym z]
    rfl
  · rw [z, entLt_irrefl]
    rfl
  · rw [entLt_asym z]
    simp
/-! ### a number put in behind all that are not greater -/
theorem leK_le : ∀ (a b : List Int), leK a b = !decide (b < a)
  | [], b => by
    have e1 : leK [] b = true := by
      unfold leK
      simp [Ob.lexAt_zero]
    rw [e1]
    simp
  | a :: as, [] => by
    have e1 : leK (a :: as) [] = false := by
      unfold leK
      simp [Ob.lexAt_zero]
    rw [e1]
    simp
  | a :: as, b :: bs => by
    rw [leK_cons, leK_le as bs]
    by_cases e : a = b
    · subst e
      simp [List.cons_lt_cons_iff]
    · have e2 : ¬ b = a := fun z => e z.symm
      rw [if_neg e]
      by_cases l : a ≤ b
      · have : ¬ b < a := by omega
        simp [List.cons_lt_cons_iff, this, e2, l]
      · have : b < a := by omega
        simp [List.cons_lt_cons_iff, this, l]
end My

set_option Elab.async false
set_option linter.all false
set_option maxRecDepth 100000
set_option maxHeartbeats 2000000
namespace My
open PySem PySem.Spec PyProof.Rows L2
section
variable (K : PySem.W.Frag) {X : Cx}
end
/-! ### put in -/
theorem split_mono {α : Type} (p : α → Bool) : ∀ {l : List α}, l.Pairwise (fun a b => p b = true → p a = true) → (∀ x ∈ l.take (l.filter p).length, p x = true) ∧ ∀ x ∈ l.drop (l.filter p).length, p x = false
  | [], _ => ⟨fun x h => by simp at h, fun x h => by simp at h⟩
  | a :: l, h => by
    obtain ⟨h1, h2⟩ := List.pairwise_cons.mp h
    obtain ⟨i1, i2⟩ := split_mono p h2
    by_cases e : p a = true
    · rw [List.filter_cons, if_pos e, List.length_cons, List.take_succ_cons, List.drop_succ_cons]
      refine ⟨fun x hx => ?_, i2⟩
      rcases List.mem_cons.mp hx with z | z
      · rw [z]
        exact e
      · exact i1 x z
    · have e2 : p a = false := by simpa using e
      have none : l.filter p = [] := by
        rw [List.filter_eq_nil_iff]
        intro b hb z
        exact e (h1 b hb z)
      rw [List.filter_cons, if_neg e, none]
      refine ⟨fun x hx => by simp at hx, fun x hx => ?_⟩
      rcases List.mem_cons.mp (show x ∈ a :: l from hx) with z | z
      · rw [z]
        exact e2
      · cases y : p x with
        | false => rfl
        | true => exact absurd (h1 x z y) e
theorem lt_le {a b : List Int} (h : ¬ b < a) : a < b ∨ a = b := List.le_iff_lt_or_eq.mp (List.not_lt.mp h)
end My

set_option Elab.async false
set_option linter.all false
set_option maxRecDepth 100000
set_option maxHeartbeats 2000000
namespace My
open PySem PySem.Spec PyProof.Rows L2
section
variable (K : PySem.W.Frag) {X : Cx}
theorem slLK (hK : X.K = K := by rfl) : SlR X (rSlL K) := by
  subst hK
  exact sl_list
end
theorem cutV_nat (xs : List V) (a b : Nat) (hab : a ≤ b) (hb : b ≤ xs.length) : cutV xs (some (a : Int)) (some (b : Int)) = (xs.drop a).take (b - a) := by
  unfold cutV
  rw [HT.sIx_nat, HT.sIx_nat, Nat.min_eq_left hb, Nat.min_eq_left (Nat.le_trans hab hb)]
/-! ### what a stretch of the sorted rows holds -/
theorem lexLt_lt : ∀ a b : List Int, HT.lexLt a b = decide (a < b)
  | [], [] => by
    rw [HT.lexLt_nil_nil]
    simp
  | [], b :: bs => by
    rw [HT.lexLt_nil_cons]
    simp
  | a :: as, [] => by
    rw [HT.lexLt_cons_nil]
    simp
  | a :: as, b :: bs => by
    rw [HT.lexLt_cons, lexLt_lt as bs]
    by_cases e : a = b
    · subst e
      simp [List.cons_lt_cons_iff]
    · rw [if_neg e]
      simp [List.cons_lt_cons_iff, e]
theorem take_lt : ∀ (k : Nat) (xs ys : List Int), xs.take k < ys.take k → xs < ys
  | 0, xs, ys, h => by
    simp at h
  | k + 1, [], [], h => by
    simp at h
  | k + 1, [], y :: ys, _ => by simp
  | k + 1, x :: xs, [], h => by
    simp at h
  | k + 1, x :: xs, y :: ys, h => by
    rw [List.take_succ_cons, List.take_succ_cons, List.cons_lt_cons_iff] at h
    rw [List.cons_lt_cons_iff]
    rcases h with z | ⟨z, y2⟩
    · exact .inl z
    · exact .inr ⟨z, take_lt k xs ys y2⟩
theorem signF_zero (k lo hi : Nat → Int) : ∀ u : List Nat, (∀ c ∈ u, lo c ≤ k c ∧ k c ≤ hi c) → signF k lo hi u 0 = 0
  | [], _ => rfl
  | c :: u, h => by
    show signF k lo hi u (if (0 : Int) = 0 then sgn (k c) (lo c) (hi c) else 0) = 0
    have h1 := h c (by simp)
    have e : sgn (k c) (lo c) (hi c) = 0 := by
      unfold sgn
      rw [decide_eq_false (show ¬ hi c < k c by omega), decide_eq_false (show ¬ k c < lo c by omega)]
      rfl
    rw [if_pos rfl, e]
    exact signF_zero k lo hi u fun d hd => h d (by simp [hd])
theorem fits_sign {cols : List Nat} {row : List Int} {one : List Nat} {es : List (Nat × Int)} {rc : Option (Nat × Int × Int)} (hok : QOk cols es rc) (h : fitsM cols row es rc = true) : signM cols row es rc (usedM one es rc) = 0 := by
  refine signF_zero _ _ _ _ fun c hc => ?_
  obtain ⟨lo, hi, hm⟩ := used_span hc
  have e := spanOf_mem (spanL_nd hok) hm
  have f := List.all_eq_true.mp h _ hm
  unfold spanFit at f
  simp only [Bool.and_eq_true, decide_eq_true_eq] at f
  show (spanOf es rc c).1 ≤ rowAt cols row c ∧ rowAt cols row c ≤ (spanOf es rc c).2
  rw [e]
  exact f
def idxM (cols : List Nat) (rows : List (List Int)) (one : List Nat) : List Nat := (List.range rows.length).mergeSort fun i j => entLe (entAt cols rows one i) (entAt cols rows one j)
theorem idx_perm (cols : List Nat) (rows : List (List Int)) (one : List Nat) : (idxM cols rows one).Perm (List.range rows.length) := List.mergeSort_perm _ _
theorem idx_pw (cols : List Nat) (rows : List (List Int)) (one : List Nat) : (idxM cols rows one).Pairwise fun i j => entLe (entAt cols rows one i) (entAt cols rows one j) = true := List.pairwise_mergeSort (le := fun i j : Nat => entLe (entAt cols rows one i) (entAt cols rows one j)) (fun a b c => entLe_trans (entAt cols rows one a) (entAt cols rows one b) (entAt cols rows one c)) (fun a b => entLe_total (entAt cols rows one a) (entAt cols rows one b)) _
theorem key_take {cols : List Nat} {rows : List (List Int)} {one : List Nat} {k a b : Nat} (h : entLe (entAt cols rows one a) (entAt cols rows one b) = true) : ¬ keyM cols (rows.getD b []) (one.take k) < keyM cols (rows.getD a []) (one.take k) := fun z => by
  unfold keyM at z
  rw [List.map_take, List.map_take] at z
  have z2 := take_lt k _ _ z
  unfold entLe entLt at h
  have h2 : (if (entAt cols rows one b).1 = (entAt cols rows one a).1 then decide ((entAt cols rows one b).2 < (entAt cols rows one a).2) else decide ((entAt cols rows one b).1 < (entAt cols rows one a).1)) = false := by simpa using h
  by_cases e : (entAt cols rows one b).1 = (entAt cols rows one a).1
  · have z3 : (entAt cols rows one b).1 < (entAt cols rows one a).1 := z2
    rw [e] at z3
    exact List.lt_irrefl _ z3
  · rw [if_neg e] at h2
    exact of_decide_eq_false h2 z2
def below (cols : List Nat) (rows : List (List Int)) (es : List (Nat × Int)) (rc : Option (Nat × Int × Int)) (u : List Nat) (n : Int) (o : Nat) : Bool := decide (signM cols (rows.getD o []) es rc u < n)
theorem below_mono {cols : List Nat} {rows : List (List Int)} {one : List Nat} {es : List (Nat × Int)} {rc : Option (Nat × Int × Int)} (hok : QOk cols es rc) {n : Int} (hn : n = 0 ∨ n = 1) :
    (idxM cols rows one).Pairwise fun a b => below cols rows es rc (usedM one es rc) n b = true → below cols rows es rc (usedM one es rc) n a = true := by
  refine (idx_pw cols rows one).imp fun {a b} h => ?_
  obtain ⟨k, ek, _⟩ := used_sub (one := one) (es := es) (rc := rc)
  have hk := key_take (k := k) h
  rw [← ek] at hk
  have sa := sign_lex (rowAt cols (rows.getD a [])) (fun c => (spanOf es rc c).1) (fun c => (spanOf es rc c).2) _ (used_thin (one := one) hok)
  have sb := sign_lex (rowAt cols (rows.getD b [])) (fun c => (spanOf es rc c).1) (fun c => (spanOf es rc c).2) _ (used_thin (one := one) hok)
  rcases hn with z | z
  · subst z
    unfold below signM
    rw [← sa.1, ← sb.1, lexLt_lt, lexLt_lt]
    intro y
    refine decide_eq_true ?_
    have y2 := of_decide_eq_true y
    rcases lt_le hk with l | l
    · exact List.lt_trans l y2
    · have l2 : List.map (rowAt cols (rows.getD a [])) (usedM one es rc) = List.map (rowAt cols (rows.getD b [])) (usedM one es rc) := l
      rw [l2]
      exact y2
  · subst z
    unfold below signM
    rw [← sa.2, ← sb.2, leK_le, leK_le]
    intro y
    have y2 : ¬ (usedM one es rc).map (fun c => (spanOf es rc c).2) < (usedM one es rc).map (rowAt cols (rows.getD b [])) := by simpa using y
    have y3 : ¬ (usedM one es rc).map (fun c => (spanOf es rc c).2) < (usedM one es rc).map (rowAt cols (rows.getD a [])) := fun x => by
      rcases lt_le hk with l | l
      · exact y2 (List.lt_trans x l)
      · have l2 : List.map (rowAt cols (rows.getD a [])) (usedM one es rc) = List.map (rowAt cols (rows.getD b [])) (usedM one es rc) := l
        rw [l2] at x
        exact y2 x
    rw [decide_eq_false y3]
    rfl
theorem rows_range (rows : List (List Int)) : (List.range rows.length).map (fun i => rows.getD i []) = rows := by
  apply List.ext_getElem
  · simp
  · intro i h1 h2
    simp [List.getD_eq_getElem?_getD, List.getElem?_eq_getElem h2]
theorem count_idx (cols : List Nat) (rows : List (List Int)) (one : List Nat) (q : List Int → Bool) : ((idxM cols rows one).filter fun o => q (rows.getD o [])).length = (rows.filter q).length := by
  rw [((idx_perm cols rows one).filter _).length_eq]
  conv => rhs; rw [← rows_range rows, List.filter_map, List.length_map]
  rfl
theorem cut_filter {α : Type} (l : List α) (f p q : α → Bool) (a b : Nat) (hab : a ≤ b) (h1 : ∀ x ∈ l.take a, p x = true) (h2 : ∀ x ∈ l.drop b, q x = false) (hf : ∀ x, f x = true → p x = false ∧ q x = true) : ((l.drop a).take (b - a)).filter f = l.filter f := by
  have e1 : (l.take a).filter f = [] := by
    rw [List.filter_eq_nil_iff]
    intro x hx z
    have := (hf x z).1
    rw [h1 x hx] at this
    cases this
  have e2 : (l.drop b).filter f = [] := by
    rw [List.filter_eq_nil_iff]
    intro x hx z
    have := (hf x z).2
    rw [h2 x hx] at this
    cases this
  have e3 : l = l.take a ++ ((l.drop a).take (b - a) ++ l.drop b) := by
    have : l.drop b = (l.drop a).drop (b - a) := by
      rw [List.drop_drop]
      congr 1
      omega
    rw [this, List.take_append_drop, List.take_append_drop]
  conv => rhs; rw [e3, List.filter_append, List.filter_append, e1, e2, List.nil_append, List.append_nil]
theorem ahead_le {cols : List Nat} {rows : List (List Int)} {one : List Nat} {es : List (Nat × Int)} {rc : Option (Nat × Int × Int)} (hok : QOk cols es rc) : aheadM cols rows one es rc ≤ behindM cols rows one es rc := by
  rw [ahead_sign hok, behind_sign hok]
  induction rows with
  | nil => exact Nat.le_refl _
  | cons r rows ih =>
    rw [List.filter_cons, List.filter_cons]
    by_cases e : signM cols r es rc (usedM one es rc) < 0
    · rw [decide_eq_true e, decide_eq_true (show signM cols r es rc (usedM one es rc) < 1 by omega), if_pos rfl, if_pos rfl, List.length_cons, List.length_cons]
      omega
    · rw [decide_eq_false e, if_neg (by decide)]
      split
      · rw [List.length_cons]
        omega
      · exact ih
theorem behind_le (cols : List Nat) (rows : List (List Int)) (one : List Nat) (es : List (Nat × Int)) (rc : Option (Nat × Int × Int)) : behindM cols rows one es rc ≤ rows.length := List.length_filter_le _ _
/-- the rows of the stretch that fit are all that fit -/
theorem read_fits {cols : List Nat} {rows : List (List Int)} {one : List Nat} {es : List (Nat × Int)} {rc : Option (Nat × Int × Int)} (hok : QOk cols es rc) :
    (((idxM cols rows one).drop (aheadM cols rows one es rc)).take (behindM cols rows one es rc - aheadM cols rows one es rc)).filter (fun o => fitsM cols (rows.getD o []) es rc) = (idxM cols rows one).filter fun o => fitsM cols (rows.getD o []) es rc := by
  have m1 := split_mono _ (below_mono (rows := rows) (one := one) hok (.inl rfl))
  have m2 := split_mono _ (below_mono (rows := rows) (one := one) hok (.inr rfl))
  have c1 : ((idxM cols rows one).filter (below cols rows es rc (usedM one es rc) 0)).length = aheadM cols rows one es rc := by
    rw [ahead_sign hok]
    exact count_idx cols rows one fun row => decide (signM cols row es rc (usedM one es rc) < 0)
  have c2 : ((idxM cols rows one).filter (below cols rows es rc (usedM one es rc) 1)).length = behindM cols rows one es rc := by
    rw [behind_sign hok]
    exact count_idx cols rows one fun row => decide (signM cols row es rc (usedM one es rc) < 1)
  rw [c1] at m1
  rw [c2] at m2
  refine cut_filter _ _ (below cols rows es rc (usedM one es rc) 0) (below cols rows es rc (usedM one es rc) 1) _ _ (ahead_le hok) m1.1 m2.2 fun x hx => ?_
  have := fits_sign (one := one) hok hx
  unfold below
  rw [this]
  exact ⟨rfl, rfl⟩
theorem ints_one : ∀ {l k : List Int}, l.Pairwise (· ≤ ·) → k.Pairwise (· ≤ ·) → l.Perm k → l = k
  | [], k, _, _, p => (List.nil_perm.mp p).symm
  | a :: l, [], _, _, p => absurd p.length_eq (by simp)
  | a :: l, b :: k, hl, hk, p => by
    have e : a = b := by
      have ha : a ∈ b :: k := p.mem_iff.mp (by simp)
      have hb : b ∈ a :: l := p.mem_iff.mpr (by simp)
      rcases List.mem_cons.mp ha with z | z
      · exact z
      · rcases List.mem_cons.mp hb with y | y
        · exact y.symm
        · exact Int.le_antisymm ((List.pairwise_cons.mp hl).1 b y) ((List.pairwise_cons.mp hk).1 a z)
    subst e
    rw [ints_one (List.pairwise_cons.mp hl).2 (List.pairwise_cons.mp hk).2 (List.perm_cons a |>.mp p)]
end My

set_option Elab.async false
set_option linter.all false
set_option maxRecDepth 100000
set_option maxHeartbeats 2000000
namespace My
open PySem PySem.Spec PyProof.Rows L2
/-! ### a walk over a dict's keys, texts of one sign -/
section
variable {X : Cx} {pins : List (Addr × Obj)} {σ : L2.St}
end
theorem SpA.keys {H : Hp} {kvs : List (Key × V)} {l : List (Nat × Int × Int)} (h : SpA H kvs l) : kvs.map (·.1) = (l.map (·.1)).map fun c => (Sum.inr (sS c) : Key) := by
  induction h with
  | nil => rfl
  | cons _ _ ih =>
    rw [List.map_cons, List.map_cons, List.map_cons, ih]
end My

set_option Elab.async false
set_option linter.all false
set_option maxRecDepth 100000
set_option maxHeartbeats 2000000
namespace My
open PySem PySem.Spec PyProof.Rows L2
/-! ### one stretch -/
/-! the used beginning -/
theorem ahead_none {cols : List Nat} {rows : List (List Int)} {one : List Nat} {es : List (Nat × Int)} {rc : Option (Nat × Int × Int)} (hok : QOk cols es rc) (h : usedM one es rc = []) : aheadM cols rows one es rc = 0 ∧ behindM cols rows one es rc = rows.length := by
  rw [ahead_sign hok, behind_sign hok, h]
  constructor
  · have e : (rows.filter fun row => decide (signM cols row es rc [] < 0)) = [] := List.filter_eq_nil_iff.mpr fun r _ z => by
      have z2 : decide ((0 : Int) < 0) = true := z
      exact absurd z2 (by decide)
    rw [e]
    rfl
  · have e : (rows.filter fun row => decide (signM cols row es rc [] < 1)) = rows := List.filter_eq_self.mpr fun r _ => rfl
    rw [e]
/-! the letters of the question, the reach's behind, serve it -/
end My

set_option Elab.async false
set_option linter.all false
set_option maxRecDepth 100000
set_option maxHeartbeats 2000000
namespace My
open PySem PySem.Spec PyProof.Rows L2
theorem nodup_sub_len : ∀ {l m : List Nat}, l.Nodup → (∀ c ∈ l, c ∈ m) → l.length ≤ m.length
  | [], _, _, _ => Nat.zero_le _
  | a :: l, m, h, hs => by
    have h2 := List.nodup_cons.mp h
    have ha := hs a (by simp)
    have ih := nodup_sub_len (m := m.erase a) h2.2 (fun c hc => (List.mem_erase_of_ne (fun e => h2.1 (by rw [← e]; exact hc))).mpr (hs c (by simp [hc])))
    rw [List.length_erase_of_mem ha] at ih
    have hp : 0 < m.length := List.length_pos_of_mem ha
    rw [List.length_cons]
    omega
end My

set_option Elab.async false
set_option linter.all false
set_option maxRecDepth 100000
set_option maxHeartbeats 2000000
namespace My
open PySem PySem.Spec PyProof.Rows L2
/-! ### sorted of a tuple of data -/
theorem each_ofB {β : Type} {R : Value → V × β → Prop} : ∀ {bs : List (V × β)} {its : List Value}, Vals (bs.map (·.1)) its → (∀ b ∈ bs, ∀ v, RelV b.1 v → R v b) → W.EachIs R its bs
  | [], _, r, _ => by
    cases r
    exact .nil
  | b :: bs, _, r, h => by
    rw [List.map_cons] at r
    cases r with
    | cons h1 h2 => exact .cons (h b (by simp) _ h1) (each_ofB h2 fun c hc => h c (by simp [hc]))
theorem vals_eachB {β : Type} : ∀ {bs : List (V × β)} {its : List Value}, W.EachIs (fun v b => RelV b.1 v) its bs → Vals (bs.map (·.1)) its
  | _, _, .nil => .nil
  | _, _, .cons h t => .cons h (vals_eachB t)
section
variable (K : PySem.W.Frag) {X : Cx}
end
/-! pairs of a letter and a number -/
end My

set_option Elab.async false
set_option linter.all false
set_option maxRecDepth 100000
set_option maxHeartbeats 2000000
namespace My
open PySem PySem.Spec PyProof.Rows L2
section
variable (K : PySem.W.Frag) {X : Cx}
/-! ### the least of a list -/
end
/-! ### keys of a merged dict -/
theorem put_keys (acc : List (Key × V)) (k : Key) (v : V) : (k ∈ acc.map (·.1) ∧ (putK acc k v).map (·.1) = acc.map (·.1)) ∨ (k ∉ acc.map (·.1) ∧ (putK acc k v).map (·.1) = acc.map (·.1) ++ [k]) := by
  unfold putK
  by_cases h : (acc.any fun kv => decide (kv.1 = k)) = true
  · rw [if_pos h]
    refine .inl ⟨?_, ?_⟩
    · obtain ⟨kv, h1, h2⟩ := List.any_eq_true.mp h
      rw [← of_decide_eq_true h2]
      exact List.mem_map_of_mem h1
    · rw [List.map_map]
      refine List.map_congr_left fun kv _ => ?_
      show (if kv.1 = k then (kv.1, v) else kv).1 = kv.1
      split <;> rfl
  · rw [if_neg h]
    refine .inr ⟨fun z => h ?_, ?_⟩
    · obtain ⟨kv, h1, h2⟩ := List.mem_map.mp z
      exact List.any_eq_true.mpr ⟨kv, h1, decide_eq_true h2⟩
    · rw [List.map_append]
      rfl
theorem merge_keys : ∀ (more acc : List (Key × V)), (acc.map (·.1)).Nodup → ((mergeK acc more).map (·.1)).Nodup ∧ (∀ k, k ∈ (mergeK acc more).map (·.1) ↔ (k ∈ acc.map (·.1) ∨ k ∈ more.map (·.1))) ∧ (mergeK acc more).length ≤ acc.length + more.length
  | [], acc, h => ⟨h, fun k => by simp [mergeK], Nat.le_refl _⟩
  | kv :: more, acc, h => by
    have e : mergeK acc (kv :: more) = mergeK (putK acc kv.1 kv.2) more := rfl
    rcases put_keys acc kv.1 kv.2 with ⟨hin, hk⟩ | ⟨hnot, hk⟩
    · obtain ⟨h1, h2, h3⟩ := merge_keys more (putK acc kv.1 kv.2) (by rw [hk]; exact h)
      rw [e]
      refine ⟨h1, fun k => ?_, ?_⟩
      · rw [h2, hk, List.map_cons, List.mem_cons]
        constructor
        · rintro (z | z)
          · exact .inl z
          · exact .inr (.inr z)
        · rintro (z | z | z)
          · exact .inl z
          · exact .inl (by rw [z]; exact hin)
          · exact .inr z
      · have := congrArg List.length hk
        rw [List.length_map, List.length_map] at this
        rw [List.length_cons]
        omega
    · obtain ⟨h1, h2, h3⟩ := merge_keys more (putK acc kv.1 kv.2) (by
        rw [hk]
        exact List.nodup_append.mpr ⟨h, by simp, fun a ha b hb z => hnot (by rw [← List.mem_singleton.mp hb, ← z]; exact ha)⟩)
      rw [e]
      refine ⟨h1, fun k => ?_, ?_⟩
      · rw [h2, hk, List.map_cons, List.mem_cons, List.mem_append, List.mem_singleton]
        constructor
        · rintro ((z | z) | z)
          · exact .inl z
          · exact .inr (.inl z)
          · exact .inr (.inr z)
        · rintro (z | z | z)
          · exact .inl (.inl z)
          · exact .inl (.inr z)
          · exact .inr z
      · have := congrArg List.length hk
        rw [List.length_map, List.length_append, List.length_map] at this
        have h4 : [kv.1].length = 1 := rfl
        rw [List.length_cons]
        omega
/-! ### choices: texts in a row -/
abbrev txS (l : List Nat) : Str := ⟨l.toArray⟩
theorem txS_inj {a b : List Nat} (h : txS a = txS b) : a = b := tx_inj (congrArg V.str h)
theorem txS_of (z : Str) : txS z.cps.toList = z := by
  cases z
  simp
structure OneOk (cols o : List Nat) : Prop where
  ne : o ≠ []
  sub : ∀ c ∈ o, c ∈ cols
  nd : o.Nodup
theorem OneOk.len {cols o : List Nat} (h : OneOk cols o) : o.length ≤ cols.length := nodup_sub_len h.nd h.sub
/-- what dict(..) and sorted(..) make of lists that were drawn -/
structure ChOk (cols : List Nat) (ch : List (List Nat)) : Prop where
  ok : ∀ o ∈ ch, OneOk cols o
  nd : ch.Nodup
  up : sortedS (ch.map txS) = true
theorem merge_choice {cols : List Nat} {os : List (List Nat)} (hos : ∀ o ∈ os, OneOk cols o) : ∃ ks : List Str, (mergeK [] (os.map fun o => ((Sum.inr (txS o) : Key), V.bl true))).map (·.1) = ks.map Sum.inr ∧ ks.length ≤ os.length ∧ ∀ ys : List Str, ys.Perm ks → sortedS ys = true → ∃ ch, ys = ch.map txS ∧ ChOk cols ch ∧ ch.length ≤ os.length := by
  obtain ⟨h1, h2, h3⟩ := merge_keys (os.map fun o => ((Sum.inr (txS o) : Key), V.bl true)) [] List.nodup_nil
  generalize mergeK [] (os.map fun o => ((Sum.inr (txS o) : Key), V.bl true)) = m at h1 h2 h3
  have hk : ∀ k ∈ m.map (·.1), ∃ o ∈ os, k = Sum.inr (txS o) := fun k h => by
    rcases (h2 k).mp h with z | z
    · cases z
    · rw [List.map_map] at z
      obtain ⟨o, ho, e⟩ := List.mem_map.mp z
      exact ⟨o, ho, e.symm⟩
  let f : Key → Str := fun k => match k with
    | Sum.inr z => z
    | Sum.inl _ => txS []
  have e1 : m.map (·.1) = ((m.map (·.1)).map f).map Sum.inr := by
    rw [List.map_map]
    conv => lhs; rw [← List.map_id (m.map (·.1))]
    refine List.map_congr_left fun k h => ?_
    obtain ⟨o, _, rfl⟩ := hk k h
    rfl
  have hl : ((m.map (·.1)).map f).length ≤ os.length := by
    rw [List.length_map, List.length_map]
    rw [List.length_map, List.length_nil, Nat.zero_add] at h3
    exact h3
  refine ⟨(m.map (·.1)).map f, e1, hl, fun ys hp hs => ⟨ys.map fun z => z.cps.toList, ?_, ⟨fun o ho => ?_, ?_, ?_⟩, ?_⟩⟩
  · rw [List.map_map]
    conv => lhs; rw [← List.map_id ys]
    exact List.map_congr_left fun z _ => (txS_of z).symm
  · obtain ⟨z, hz, rfl⟩ := List.mem_map.mp ho
    obtain ⟨k, hk2, e⟩ := List.mem_map.mp (hp.mem_iff.mp hz)
    obtain ⟨o, ho2, rfl⟩ := hk k hk2
    have e3 : z = txS o := e.symm
    rw [e3]
    show OneOk cols o.toArray.toList
    rw [show o.toArray.toList = o by simp]
    exact hos o ho2
  · have n1 : ys.Nodup := by
      refine hp.nodup_iff.mpr ?_
      rw [e1] at h1
      exact (List.pairwise_map.mp h1).imp fun h z => h (congrArg Sum.inr z)
    refine List.pairwise_map.mpr (n1.imp fun {a b} h z => h ?_)
    rw [← txS_of a, ← txS_of b, z]
  · rw [List.map_map]
    have : ys.map (txS ∘ fun z => z.cps.toList) = ys := by
      conv => rhs; rw [← List.map_id ys]
      exact List.map_congr_left fun z _ => txS_of z
    rw [this]
    exact hs
  · rw [List.length_map, hp.length_eq]
    exact hl
/-! ### prices -/
def priceM (cols : List Nat) (rows : List (List Int)) (o : List Nat) (es : List (Nat × Int)) (rc : Option (Nat × Int × Int)) : Int := (behindM cols rows o es rc : Int) - (aheadM cols rows o es rc : Int) + 1
def priceByM (cols : List Nat) (rows : List (List Int)) (ov : Option (List Nat)) (es : List (Nat × Int)) (rc : Option (Nat × Int × Int)) : Int := match ov with
  | none => (rows.length : Int)
  | some o => priceM cols rows o es rc
def oV : Option (List Nat) → V
  | none => .non
  | some o => tx o
end My

set_option Elab.async false
set_option linter.all false
set_option maxRecDepth 100000
set_option maxHeartbeats 2000000
namespace My
open PySem PySem.Spec PyProof.Rows L2
/-! ### drawn lists, each with True -/
def chD (o : List Nat) : PyData := .tuple [.str (txS o), .bool true]
theorem ch_pairs {K : PySem.W.Frag} {H : Hp} : ∀ {os : List (List Nat)} {vs : List V}, FzA H vs (os.map chD) → ∃ ps : List Addr, vs = ps.map V.ref ∧ Paired (fun p kv => SqT K H p [kV kv.1, kv.2]) ps (os.map fun o => ((Sum.inr (txS o) : Key), V.bl true))
  | [], _, .nil => ⟨[], rfl, .nil⟩
  | o :: os, _, .cons a r => by
    obtain ⟨p, xs, rfl, hp, f⟩ := Fz.open (ds := [.str (txS o), .bool true]) a
    obtain ⟨x, y, rfl, fx, fy⟩ := f.two
    obtain ⟨ps, rfl, hps⟩ := ch_pairs (K := K) (os := os) r
    have ey : y = .bl true := by
      cases fy
      rfl
    rw [fx.isStr, ey] at hp
    exact ⟨p :: ps, rfl, .cons (.inl (.inl hp)) hps⟩
theorem ch_tx (ch : List (List Nat)) : (ch.map txS).map V.str = ch.map tx := by
  rw [List.map_map]
  rfl
theorem one_ok {cols one rest : List Nat} (hc : cols.Nodup) (hp : (rest ++ one).Perm cols) (h0 : 0 < one.length) : OneOk cols one :=
  ⟨fun e => by rw [e] at h0; exact Nat.lt_irrefl _ h0, fun c h => hp.mem_iff.mp (List.mem_append_right _ h), (List.nodup_append.mp (hp.nodup_iff.mpr hc)).2.1⟩
end My

set_option Elab.async false
set_option linter.all false
set_option maxRecDepth 100000
set_option maxHeartbeats 2000000
namespace My
open PySem PySem.Spec PyProof.Rows L2
/-! ### sorted again -/
/-! ### rows of lists of numbers -/
def lsD (ns : List Int) : PyData := .list (ns.map PyData.int)
mutual
theorem Ft.dp {K : PySem.W.Frag} {H : Hp} : ∀ (d : PyData) (v : V), Ft H v d → Dp K H v d
  | .none, _, .non => .non
  | .bool _, _, .bl b => .bl b
  | .int _, _, .int i => .int i
  | .str _, _, .str z => .str z
  | .list ds, _, .lst h a => .lst (.inl (.inl h)) (FtA.dp ds _ a)
  | .tuple ds, _, .tup h a => .tup (.inl (.inl h)) (FtA.dp ds _ a)
theorem FtA.dp {K : PySem.W.Frag} {H : Hp} : ∀ (ds : List PyData) (vs : List V), FtA H vs ds → DpAll K H vs ds
  | [], _, .nil => .nil
  | d :: ds, _, .cons h a => .cons (Ft.dp d _ h) (FtA.dp ds _ a)
end
theorem FtA.snoc {H : Hp} : ∀ {vs : List V} {ds : List PyData} {v : V} {d : PyData}, FtA H vs ds → Ft H v d → FtA H (vs ++ [v]) (ds ++ [d])
  | _, _, _, _, .nil, h => .cons h .nil
  | _, _, _, _, .cons a r, h => .cons a (r.snoc h)
end My
namespace My
open PySem PySem.Spec PyProof.Rows L2
end My

set_option Elab.async false
set_option linter.all false
set_option maxRecDepth 100000
set_option maxHeartbeats 2000000
namespace My
open PySem PySem.Spec PyProof.Rows L2
/-! ### generator expressions whose element calls defs -/
section
variable {X : Cx} {pins : List (Addr × Obj)} {σ : L2.St} {H : Hp} {s : Shared}
/-- what its consumer wrote at S while it slept -/
theorem woke {S : Addr} {o o' : Obj} {pins0 : List (Addr × Obj)} {s' : Shared} (I : Inv X ((S, o) :: pins0) σ H s) (h0 : X.s_0.heap.objs.size ≤ S) (hc : ∀ x c, X.env.cells.lookup x = some c → c ≠ S) (hpn : ∀ p ∈ X.pn ++ pins0, p.1 ≠ S)
    (os : s'.os = s.os) (bare : AllBare s'.gens) (keep : ∀ b u, b ≠ S → s.heap.get? b = some u → s'.heap.get? b = some u) (own : s'.heap.get? S = some o') (hd : ∀ v, o'.data ≠ .cell v) : Inv X ((S, o') :: pins0) σ H s' := by
  obtain ⟨p1, p2, p3, p4, p5⟩ := I.pin (S, o) (List.mem_append_right _ List.mem_cons_self)
  have I0 : Inv X pins0 σ H s := I.pins_of fun p hp => I.pin p (List.mem_append_right _ (List.mem_cons_of_mem _ hp))
  have J : Inv X pins0 σ H { s with heap := s'.heap, toks := s.toks } := I0.turned (t' := s.toks) keep p2 p3 (.inr h0) hc hpn
  have J2 : Inv X pins0 σ H s' := J.call' (ch := []) os (Un.kept fun b o e => e) J.hok bare (fun b hb => absurd hb (by simp))
  refine J2.pins_of fun p hp => ?_
  rcases List.mem_cons.mp hp with z | z
  · rw [z]
    exact ⟨own, p2, p3, p4, hd⟩
  · exact J2.pin p (List.mem_append_right _ z)
end
end My

set_option Elab.async false
set_option linter.all false
set_option maxRecDepth 100000
set_option maxHeartbeats 2000000
namespace My
open PySem PySem.Spec PyProof.Rows L2
/-! ### a promise where no repr is under way -/
/-! ### repr of data -/
/-! ### the law's own call -/
section
variable {P : Program} {w : World} {K : PySem.W.Frag} {mg mb : Str → Option Value} {cs : List (Addr × Addr)} {a : Addr} {vs : List Value} {ns : List Int} {s : Shared} {H : Hp}
/-- told of at the beginning: the script, where it is no part of what is written, and the tables of code -/
structure Begun (P : Program) (w : World) (K : PySem.W.Frag) (cs : List (Addr × Addr)) (a : Addr) (vs : List Value) (ns : List Int) (s : Shared) (H : Hp) : Prop where
  tb : ∀ p ∈ cs, H p.2 = some (.tbl #[])
  only : ∀ b u, H b = some u → (b ∈ cs.map (·.2) ∧ u = .tbl #[]) ∨ (b = a ∧ K.lookup a = Option.none ∧ u = .frz { cls := .type "list", data := .seq vs.toArray } (.lst (ns.map V.int)))
  sc : SqL K H a (ns.map V.int)
  hok : HOk P w H s.heap
open Classical in
theorem begun (inK : K.In s.heap) (hT : ∀ p ∈ cs, s.heap.get? p.2 = some { cls := .none, data := .fields #[] }) (ha : s.heap.get? a = some { cls := .type "list", data := .seq vs.toArray }) (hi : IntsAre vs ns) (hl : ns.length ≤ sizeLine) : ∃ H, Begun P w K cs a vs ns s H := by
  have tabs : ∀ b, b ∈ cs.map (·.2) → s.heap.get? b = some { cls := .none, data := .fields #[] } := fun b z => by
    obtain ⟨p, hp, rfl⟩ := List.mem_map.mp z
    exact hT p hp
  have far : a ∉ cs.map (·.2) := fun z => by
    have z1 := (tabs a z).symm.trans ha
    cases congrArg Obj.data (Option.some.inj z1)
  refine ⟨fun b => if b ∈ cs.map (·.2) then some (.tbl #[]) else if b = a ∧ K.lookup a = Option.none then some (.frz { cls := .type "list", data := .seq vs.toArray } (.lst (ns.map V.int))) else Option.none, fun p hp => if_pos (List.mem_map.mpr ⟨p, hp, rfl⟩), fun b u hu => ?_, ?_, fun b u hu => ?_⟩
  · split at hu
    · rename_i z
      exact .inl ⟨z, (Option.some.inj hu).symm⟩
    · split at hu
      · rename_i z
        exact .inr ⟨z.1, z.2, (Option.some.inj hu).symm⟩
      · cases hu
  · cases hk : K.lookup a with
    | some o =>
      have z := (inK a o hk).symm.trans ha
      cases z
      exact .inr ⟨_, vs.toArray, _, hk, rfl, rfl, rfl, by rw [List.size_toArray, hi.length]; exact hl, by simpa using vals_ints hi⟩
    | none => exact .inl (.inr ⟨{ cls := .type "list", data := .seq vs.toArray }, (if_neg far).trans (if_pos ⟨rfl, rfl⟩)⟩)
  · split at hu
    · rename_i z
      cases hu
      exact tabs b z
    · split at hu
      · rename_i z
        cases hu
        rw [z.1]
        exact ⟨ha, by rw [List.length_map]; exact hl, vs, _, vals_ints hi, ha⟩
      · cases hu
/-- what is no list and no empty table is not told of -/
theorem Begun.bare (B : Begun P w K cs a vs ns s H) {b : Addr} {o : Obj} (hT : ∀ p ∈ cs, s.heap.get? p.2 = some { cls := .none, data := .fields #[] }) (ha : s.heap.get? a = some { cls := .type "list", data := .seq vs.toArray }) (e : s.heap.get? b = some o) (h1 : ∀ us n, o.data ≠ .seq us n) (h2 : o.data ≠ .fields #[]) : (hidT s.heap H).get? b = some o := by
  refine hidT_get e ?_
  cases hb : H b with
  | none => rfl
  | some u =>
    rcases B.only b u hb with ⟨z, _⟩ | ⟨z, _⟩
    · obtain ⟨p, hp, rfl⟩ := List.mem_map.mp z
      have z1 := Option.some.inj ((hT p hp).symm.trans e)
      exact absurd (congrArg Obj.data z1).symm h2
    · subst z
      have z1 := Option.some.inj (ha.symm.trans e)
      exact absurd (congrArg Obj.data z1).symm (h1 _ _)
end
end My

set_option Elab.async false
set_option linter.all false
set_option maxRecDepth 100000
set_option maxHeartbeats 2000000
namespace My
open PySem PySem.Spec PyProof.Rows L2
/-! ### data that lies away from some places -/
def hidS (L : List Addr) (H : Hp) : Hp := fun b => if b ∈ L then none else H b
theorem hid_some {L : List Addr} {H : Hp} {b : Addr} {o : HO} : hidS L H b = some o ↔ b ∉ L ∧ H b = some o := by
  unfold hidS
  split
  · rename_i h
    exact ⟨(fun z => nomatch z), (fun z => absurd h z.1)⟩
  · rename_i h
    exact ⟨fun z => ⟨h, z⟩, fun z => z.2⟩
abbrev Fl (L : List Addr) (H : Hp) (v : V) (d : PyData) : Prop := Ft (hidS L H) v d
abbrev FlA (L : List Addr) (H : Hp) (vs : List V) (ds : List PyData) : Prop := FtA (hidS L H) vs ds
theorem hid_same {L : List Addr} {H : Hp} : Same (hidS L H) H := fun _ _ e => (hid_some.mp e).2
theorem hid_keep {L : List Addr} {H H' : Hp} (k : ∀ b o, b ∉ L → H b = some o → H' b = some o) : Same (hidS L H) (hidS L H') := fun b o e => hid_some.mpr ⟨(hid_some.mp e).1, k b o (hid_some.mp e).1 (hid_some.mp e).2⟩
theorem hid_sub {L L' : List Addr} {H : Hp} (h : ∀ b ∈ L', b ∈ L) : Same (hidS L H) (hidS L' H) := fun b o e => hid_some.mpr ⟨fun z => (hid_some.mp e).1 (h b z), (hid_some.mp e).2⟩
theorem Fl.to {L : List Addr} {H : Hp} {v : V} {d : PyData} (h : Fl L H v d) : Ft H v d := Ft.mono hid_same _ _ h
theorem FlA.to {L : List Addr} {H : Hp} {vs : List V} {ds : List PyData} (h : FlA L H vs ds) : FtA H vs ds := FtA.mono hid_same _ _ h
theorem Fl.keep {L : List Addr} {H H' : Hp} {v : V} {d : PyData} (h : Fl L H v d) (k : ∀ b o, b ∉ L → H b = some o → H' b = some o) : Fl L H' v d := Ft.mono (hid_keep k) _ _ h
theorem FlA.keep {L : List Addr} {H H' : Hp} {vs : List V} {ds : List PyData} (h : FlA L H vs ds) (k : ∀ b o, b ∉ L → H b = some o → H' b = some o) : FlA L H' vs ds := FtA.mono (hid_keep k) _ _ h
theorem Fl.sub {L L' : List Addr} {H : Hp} {v : V} {d : PyData} (h : Fl L H v d) (hs : ∀ b ∈ L', b ∈ L) : Fl L' H v d := Ft.mono (hid_sub hs) _ _ h
theorem FlA.sub {L L' : List Addr} {H : Hp} {vs : List V} {ds : List PyData} (h : FlA L H vs ds) (hs : ∀ b ∈ L', b ∈ L) : FlA L' H vs ds := FtA.mono (hid_sub hs) _ _ h
theorem Fl.same {L : List Addr} {H H' : Hp} {v : V} {d : PyData} (h : Fl L H v d) (k : Same H H') : Fl L H' v d := h.keep fun b o _ e => k b o e
theorem FlA.same {L : List Addr} {H H' : Hp} {vs : List V} {ds : List PyData} (h : FlA L H vs ds) (k : Same H H') : FlA L H' vs ds := h.keep fun b o _ e => k b o e
theorem Fl.sx {Ps L : List Addr} {H H' : Hp} {v : V} {d : PyData} (h : Fl L H v d) (k : Sx Ps H H') (hs : ∀ b ∈ Ps, b ∈ L) : Fl L H' v d := h.keep fun b o nb e => k b o (fun z => nb (hs b z)) e
theorem FlA.sx {Ps L : List Addr} {H H' : Hp} {vs : List V} {ds : List PyData} (h : FlA L H vs ds) (k : Sx Ps H H') (hs : ∀ b ∈ Ps, b ∈ L) : FlA L H' vs ds := h.keep fun b o nb e => k b o (fun z => nb (hs b z)) e
theorem Fl.kp {r : Addr} {L : List Addr} {H H' : Hp} {v : V} {d : PyData} (h : Fl L H v d) (k : Kp r H H') (hs : r ∈ L) : Fl L H' v d := h.keep fun b o nb e => k b o (fun z => nb (z ▸ hs)) e
theorem FlA.kp {r : Addr} {L : List Addr} {H H' : Hp} {vs : List V} {ds : List PyData} (h : FlA L H vs ds) (k : Kp r H H') (hs : r ∈ L) : FlA L H' vs ds := h.keep fun b o nb e => k b o (fun z => nb (z ▸ hs)) e
theorem Fl.tup {L : List Addr} {H : Hp} {p : Addr} {xs : List V} {ds : List PyData} (n : p ∉ L) (h : H p = some (.tup xs)) (a : FlA L H xs ds) : Fl L H (.ref p) (.tuple ds) := Ft.tup (hid_some.mpr ⟨n, h⟩) a
theorem Fl.lst {L : List Addr} {H : Hp} {p : Addr} {xs : List V} {ds : List PyData} (n : p ∉ L) (h : H p = some (.lst xs)) (a : FlA L H xs ds) : Fl L H (.ref p) (.list ds) := Ft.lst (hid_some.mpr ⟨n, h⟩) a
theorem Fl.newT {L : List Addr} {H : Hp} {p : Addr} {xs : List V} {ds : List PyData} (n : p ∉ L) (np : H p = none) (a : FlA L H xs ds) : Fl L (upd H p (.tup xs)) (.ref p) (.tuple ds) := Fl.tup n upd_same (a.same (Same.new (Same.refl H) np))
theorem Fl.newL {L : List Addr} {H : Hp} {p : Addr} {xs : List V} {ds : List PyData} (n : p ∉ L) (np : H p = none) (a : FlA L H xs ds) : Fl L (upd H p (.lst xs)) (.ref p) (.list ds) := Fl.lst n upd_same (a.same (Same.new (Same.refl H) np))
theorem Fl.openT {L : List Addr} {H : Hp} {v : V} {ds : List PyData} (h : Fl L H v (.tuple ds)) : ∃ (a : Addr) (xs : List V), v = .ref a ∧ a ∉ L ∧ H a = some (.tup xs) ∧ FlA L H xs ds := by
  cases h with
  | tup e a => exact ⟨_, _, rfl, (hid_some.mp e).1, (hid_some.mp e).2, a⟩
theorem Fl.isStr {L : List Addr} {H : Hp} {v : V} {z : Str} (h : Fl L H v (.str z)) : v = .str z := by
  cases h
  rfl
theorem Fl.isInt {L : List Addr} {H : Hp} {v : V} {i : Int} (h : Fl L H v (.int i)) : v = .int i := by
  cases h
  rfl
theorem FlA.one {L : List Addr} {H : Hp} {vs : List V} {a : PyData} (h : FlA L H vs [a]) : ∃ x, vs = [x] ∧ Fl L H x a := by
  cases h with
  | cons f g =>
    cases g
    exact ⟨_, rfl, f⟩
theorem FlA.two {L : List Addr} {H : Hp} {vs : List V} {a b : PyData} (h : FlA L H vs [a, b]) : ∃ x y, vs = [x, y] ∧ Fl L H x a ∧ Fl L H y b := by
  cases h with
  | cons f g =>
    obtain ⟨y, rfl, fy⟩ := FlA.one g
    exact ⟨_, y, rfl, f, fy⟩
theorem FlA.three {L : List Addr} {H : Hp} {vs : List V} {a b c : PyData} (h : FlA L H vs [a, b, c]) : ∃ x y z, vs = [x, y, z] ∧ Fl L H x a ∧ Fl L H y b ∧ Fl L H z c := by
  cases h with
  | cons f g =>
    obtain ⟨y, z, rfl, fy, fz⟩ := FlA.two g
    exact ⟨_, y, z, rfl, f, fy, fz⟩
theorem FlA.at {L : List Addr} {H : Hp} {vs : List V} {ds : List PyData} (h : FlA L H vs ds) {i : Int} (h0 : 0 ≤ i) (h1 : i < ds.length) : ∃ v d, atI vs i = some v ∧ ds[i.toNat]? = some d ∧ Fl L H v d := by
  have hl := FtA.len h
  have hi : i.toNat < vs.length := by omega
  obtain ⟨d, e, f⟩ := FtA.getV h (List.getElem?_eq_getElem hi)
  refine ⟨_, d, ?_, e, f⟩
  have e2 := atI_nat (List.getElem?_eq_getElem hi)
  rw [show ((i.toNat : Nat) : Int) = i by omega] at e2
  exact e2
theorem FlA.app {L : List Addr} {H : Hp} : ∀ {vs us : List V} {ds es : List PyData}, FlA L H vs ds → FlA L H us es → FlA L H (vs ++ us) (ds ++ es)
  | _, _, _, _, .nil, h => h
  | _, _, _, _, .cons a r, h => .cons a (FlA.app r h)
theorem FlA.take {L : List Addr} {H : Hp} : ∀ (n : Nat) {vs : List V} {ds : List PyData}, FlA L H vs ds → FlA L H (vs.take n) (ds.take n)
  | 0, _, _, _ => .nil
  | _ + 1, _, _, .nil => .nil
  | n + 1, _, _, .cons a r => .cons a (FlA.take n r)
theorem FlA.drop {L : List Addr} {H : Hp} : ∀ (n : Nat) {vs : List V} {ds : List PyData}, FlA L H vs ds → FlA L H (vs.drop n) (ds.drop n)
  | 0, _, _, h => h
  | _ + 1, _, _, .nil => .nil
  | n + 1, _, _, .cons _ r => FlA.drop n r
/-! ### what isinstance tells of data, more -/
/-! ### questions, of any data -/
end My
namespace My
open PySem PySem.Spec PyProof.Rows L2
/-- a frozen thing among data away from places that hold no tuple -/
theorem Fz.fl {L : List Addr} {H : Hp} (hL : ∀ b ∈ L, ∀ xs, H b ≠ some (.tup xs)) : ∀ {d : PyData} {v : V}, Fz H v d → Fl L H v d := by
  have key : ∀ n, ∀ (d : PyData) (v : V), d.depth < n → Fz H v d → Fl L H v d := by
    intro n
    induction n with
    | zero => exact fun d v h => absurd h (Nat.not_lt_zero _)
    | succ n ih =>
      intro d v hd f
      have all : ∀ (ds : List PyData) (vs : List V), PyData.depthAll ds < n → FzA H vs ds → FlA L H vs ds := by
        intro ds
        induction ds with
        | nil =>
          intro vs _ g
          cases g
          exact .nil
        | cons d ds ih2 =>
          intro vs hn g
          simp only [PyData.depthAll] at hn
          cases g with
          | cons a r => exact .cons (ih d _ (by omega) a) (ih2 _ (by omega) r)
      cases f with
      | non => exact .non
      | bl b => exact .bl b
      | int i => exact .int i
      | str x => exact .str x
      | tup h a =>
        have h4 : PyData.depthAll _ + 1 < n + 1 := hd
        exact Fl.tup (fun z => hL _ z _ h) h (all _ _ (by omega) a)
  exact fun {d v} f => key (d.depth + 1) d v (Nat.lt_succ_self _) f
end My

set_option Elab.async false
set_option linter.all false
set_option maxRecDepth 100000
set_option maxHeartbeats 2000000
namespace My
open PySem PySem.Spec PyProof.Rows L2
/-! ### sorted texts -/
/-! ### used beginnings -/
theorem price_nil {cols : List Nat} {rows : List (List Int)} {o : List Nat} {es : List (Nat × Int)} {rc : Option (Nat × Int × Int)} (h : QOk cols es rc) (hk : usedM o es rc = []) : priceM cols rows o es rc = (rows.length : Int) + 1 := by
  obtain ⟨h1, h2⟩ := ahead_none (rows := rows) h hk
  unfold priceM
  rw [h1, h2]
  omega
/-! ### lists cut -/
/-! ### texts in lists -/
end My

set_option Elab.async false
set_option linter.all false
set_option maxRecDepth 100000
set_option maxHeartbeats 2000000
namespace My
open PySem PySem.Spec PyProof.Rows L2
/-! ### needs, one ahead of the other -/
abbrev Nd2 := List Nat × List Nat
/-! whether one list may serve both -/
/-! ### pairs, one right ahead of the other -/
end My

set_option Elab.async false
set_option linter.all false
set_option maxRecDepth 100000
set_option maxHeartbeats 2000000
namespace My
open PySem PySem.Spec PyProof.Rows L2
section
variable {X : Cx}
theorem vals_at : ∀ {kvs : List (Key × V)} {vs : List (Key × Value)} {us : List Value}, KV kvs vs → us = vs.map (·.2) → Vals (kvs.map (·.2)) us
  | _, _, _, .nil, e => by
    subst e
    exact .nil
  | _, _, _, .cons h t, e => by
    subst e
    exact .cons h.2 (vals_at t rfl)
end
/-! ### tuple(ys[x] for x in list of places) -/
section
variable {X : Cx} {pins : List (Addr × Obj)} {σ : L2.St}
end
end My

set_option Elab.async false
set_option linter.all false
set_option maxRecDepth 100000
set_option maxHeartbeats 2000000
namespace My
open PySem PySem.Spec PyProof.Rows L2
/-! ### needs in a list; what stays -/
def Off (L : List Addr) (H : Hp) : Prop := ∀ b xs, (H b = some (.tup xs) ∨ H b = some (.lst xs)) → b ∉ L
theorem Off.nil {H : Hp} : Off [] H := fun b xs _ h => nomatch h
theorem Off.cons {L : List Addr} {H : Hp} {a : Addr} {kvs : List (Key × V)} (o : Off L H) (h : H a = some (.dK kvs)) : Off (a :: L) H := fun b xs hb hm => by
  rcases List.mem_cons.mp hm with e | e
  · rw [e, h] at hb
    rcases hb with z | z <;> cases z
  · exact o b xs hb e
theorem TG.off {Ps : List Addr} {H : Hp} (t : TG Ps H) : Off Ps H := fun b xs h => by
  rcases h with h | h
  · exact t.not h fun q z => nomatch z
  · exact t.not h fun q z => nomatch z
theorem Sx.more {L L' : List Addr} {H H' : Hp} (s : Sx L H H') (h : ∀ b ∈ L, b ∈ L') : Sx L' H H' := fun b o nb e => s b o (fun z => nb (h b z)) e
theorem Sx.cons {L : List Addr} {H H' : Hp} (s : Sx L H H') (a : Addr) : Sx (a :: L) H H' := s.more fun b h => List.mem_cons_of_mem _ h
theorem Sx.updL {L : List Addr} {H H1 : Hp} {a : Addr} {o : HO} (s : Sx (a :: L) H H1) : Sx (a :: L) H (upd H1 a o) := fun b x nb e => keep_ne (s b x nb e) fun z => nb (by rw [z]; exact List.mem_cons_self)
theorem Sx.updM {L : List Addr} {H H1 : Hp} {a : Addr} {o : HO} (s : Sx L H H1) (h : a ∈ L) : Sx L H (upd H1 a o) := fun b x nb e => keep_ne (s b x nb e) fun z => nb (by rw [z]; exact h)
theorem TG.upd {Ps : List Addr} {H : Hp} {a : Addr} {o : HO} (t : TG Ps H) (h : a ∉ Ps) : TG Ps (L2.upd H a o) := fun P hP => by
  obtain ⟨ps, h1, r⟩ := t P hP
  exact ⟨ps, keep_ne h1 fun z => h (z ▸ hP), r⟩
end My

set_option Elab.async false
set_option linter.all false
set_option maxRecDepth 100000
set_option maxHeartbeats 2000000
namespace My
open PySem PySem.Spec PyProof.Rows L2
/-! ### chains -/
/-! ### the first of like ones -/
def ixN (p : Nd2) : List Nd2 → Nat
  | [] => 0
  | q :: l => if q = p then 0 else ixN p l + 1
/-! ### the fewest lists -/
/-! ### the list for a chain, bounds -/
end My

set_option Elab.async false
set_option linter.all false
set_option maxRecDepth 100000
set_option maxHeartbeats 2000000
namespace My
open PySem PySem.Spec PyProof.Rows L2
abbrev nV (a : Nat) : V := .int (a : Int)
end My

set_option Elab.async false
set_option linter.all false
set_option maxRecDepth 100000
set_option maxHeartbeats 2000000
namespace My
open PySem PySem.Spec PyProof.Rows L2
/-! ### a turn of zip while its last tuple is still out -/
/-- all but these stay -/
def But (L : List Addr) (g h : Heap) : Prop := ∀ c o, c ∉ L → g.get? c = some o → h.get? c = some o
theorem But.then {L : List Addr} {g h k : Heap} (a : But L g h) (b : But L h k) : But L g k := fun c o n e => b c o n (a c o n e)
theorem But.one {L : List Addr} {g h : Heap} {x : Addr} (hx : x ∈ L) (e : Heap.ExtBut x g h) : But L g h := fun c o n q => e c o (fun z => n (z ▸ hx)) q
theorem But.push {L : List Addr} {g h : Heap} {ob : Obj} (a : But L g h) : But L g (h.push ob) := fun c o n q => Heap.get?_push_of_some _ (a c o n q)
section
variable {prog : Program} {w : World} {A : Around} {E : Value → Shared → Prop} {s : Shared} {z TI TO T i1 i2 : Addr} {fp1 fp2 : List Addr} {n1 n2 i : Nat} {P1 P2 : Nat → Value → Prop} {St1 St2 : Nat → Heap → Prop} {f : Bool} {oT : Obj}
end
/-! ### zip of two texts, walked while a dict is filled -/
/-- the five cells of zip(x, y) -/
structure ZC where
  z : Addr
  TI : Addr
  TO : Addr
  a : Addr
  b : Addr
section
variable {prog : Program} {w : World} {Z : ZC} {d : Addr} {x y : Str} {t u : Tok} {i : Nat}
end
end My

set_option Elab.async false
set_option linter.all false
set_option maxRecDepth 100000
set_option maxHeartbeats 2000000
namespace My
open PySem PySem.Spec PyProof.Rows L2
/-! ### dict(zip(text, text)) -/
section
variable {X : Cx} {prog : Program} {w : World}
/-- dict(pairs) where the values are told but for their marks -/
theorem call_dict_loose {A : Around} {E : Value → Shared → Prop} {s : Shared} {T : String} {a : Addr} {fp wr : List Addr} {n : Nat} {Rel : Nat → Value → Value → Prop} {OK : Heap → Prop} {kvs : List (Key × V)} {Q : Value → Shared → Prop} (P : PairArg prog w T a fp wr n Rel OK) (hh : A.handled = none) (ok : OK s.heap)
    (hn : kvs.length = n) (hc : ∀ i key v, Rel i key v → ∃ k x, kvs[i]? = some (k, x) ∧ keyIs k key = true ∧ RelV x v) (hsz : n ≤ sizeLine)
    (h : ∀ h' tk vs, KV kvs vs → h'.DictOf (mixKind prog w) s.heap.objs.size (merged [] vs) → But wr s.heap h' → Q (.ref s.heap.objs.size) { s with heap := h', toks := tk }) :
    wpAny (model prog w) A (call (.type "dict") [.ref a]) Q E s := by
  -- behind i pairs: a dict of pairs that go with the first i of kvs
  let Tab : Nat → Heap → Prop := fun i g => ∃ vs, KV (kvs.take i) vs ∧ g.DictOf (mixKind prog w) s.heap.objs.size (merged [] vs)
  refine call_dict_arg P ok fun s1 e1 away ok1 => ?_
  cases e1
  have tab0 : Tab 0 (s.heap.push { cls := .type "dict", data := .dict #[] }) := ⟨[], by rw [List.take_zero]; exact .nil, Heap.DictOf.new s.heap⟩
  refine updateFrom_arg (A := A.in1) (Tab := Tab) P .none hh ok1 away tab0 (fun _ _ z => z.elim fun _ q => q.2.lt_size) (fun i g g' wr' off _ z k => ?_) (fun i key v s2 Q2 E2 hi hrel z _ q2 => ?_) (fun g tk z k => ?_)
  · obtain ⟨vs, kv, dd⟩ := z
    exact ⟨vs, kv, dd.at' fun o e => k _ o off e⟩
  · obtain ⟨vs, kv, dd⟩ := z
    obtain ⟨k, x, hk, his, hr⟩ := hc i key v hrel
    have e1 := Paired.length kv
    have e2 := merged_length [] vs
    rw [List.length_take] at e1
    rw [List.length_nil] at e2
    have more : merged [] (vs ++ [(k, v)]) = stored (merged [] vs) k v := by simp only [merged, List.foldl_append, List.foldl_cons, List.foldl_nil]
    refine wpAny_dictSet_pairs (hsz := by omega) his dd fun g' dd' same => q2 g' _ ⟨vs ++ [(k, v)], ?_, by rw [more]; exact dd'⟩ same
    rw [List.take_add_one, hk]
    exact Paired.snoc kv ⟨rfl, hr⟩
  · obtain ⟨vs, kv, dd⟩ := z
    rw [List.take_of_length_le (Nat.le_of_eq hn)] at kv
    exact ⟨rfl, h g tk vs kv dd fun c o hw e => k c o (Nat.ne_of_lt (Heap.lt_size e)) hw (Heap.get?_push_of_some _ e)⟩
end
end My

set_option Elab.async false
set_option linter.all false
set_option maxRecDepth 100000
set_option maxHeartbeats 2000000
namespace My
open PySem PySem.Spec PyProof.Rows L2
/-! ### questions and their needs -/
abbrev Qn := List (Nat × Int) × Option (Nat × Int × Int)
/-! ### lists of questions -/
inductive QA (H : Hp) : List V → List Qn → Prop
  | nil : QA H [] []
  | cons {v : V} {q : Qn} {vs : List V} {qs : List Qn} : QZ H v q.1 q.2 → QA H vs qs → QA H (v :: vs) (q :: qs)
theorem QA.kT {H H' : Hp} {vs : List V} {qs : List Qn} (h : QA H vs qs) (k : KT H H') : QA H' vs qs := by
  induction h with
  | nil => exact .nil
  | cons h1 _ ih => exact .cons (h1.kT k) ih
theorem QA.snoc {H : Hp} {vs : List V} {qs : List Qn} {v : V} {q : Qn} (h : QA H vs qs) (hq : QZ H v q.1 q.2) : QA H (vs ++ [v]) (qs ++ [q]) := by
  induction h with
  | nil => exact .cons hq .nil
  | cons h1 _ ih => exact .cons h1 ih
theorem QA.len {H : Hp} {vs : List V} {qs : List Qn} (h : QA H vs qs) : vs.length = qs.length := by
  induction h with
  | nil => rfl
  | cons _ _ ih => rw [List.length_cons, List.length_cons, ih]
theorem QA.at {H : Hp} {vs : List V} {qs : List Qn} (h : QA H vs qs) : ∀ {i : Nat} {q : Qn}, qs[i]? = some q → ∃ v, vs[i]? = some v ∧ QZ H v q.1 q.2 := by
  induction h with
  | nil => intro i q e; cases e
  | cons h1 _ ih =>
    intro i q e
    cases i with
    | zero =>
      cases e
      exact ⟨_, rfl, h1⟩
    | succ i => exact ih (i := i) (q := q) e
/-! ### truths as data -/
end My

set_option Elab.async false
set_option linter.all false
set_option maxRecDepth 100000
set_option maxHeartbeats 2000000
namespace My
open PySem PySem.Spec PyProof.Rows L2
open NdefX (NF NScope Caps ncx startF slotAt cells_of inv_startN)
/-! ### a lambda of one parameter, called by a built-in that the frame X called -/
section
variable {X : Cx} {pins : List (Addr × Obj)} {σ : L2.St} {H : Hp} {s : Shared}
/-- the lambda as a made function: its frame is that of a nested def without statements -/
abbrev lamF (X : Cx) (params : Arguments) (scope : Scope) (c' : Addr) : NF := ⟨"<lambda>", X.env.qual ++ "<lambda>", params, [], scope, cloFrom X.env.cells scope.names [], c'⟩
abbrev lamX (X : Cx) (N : List Str) (params : Arguments) (scope : Scope) (f c' : Addr) (A : Around) (s : Shared) (H : Hp) : Cx := ncx CX0 X.prog X.w X.K X.mg X.base N (lamF X params scope c') f A X.stack s H E0
/-- what is told of a lambda's text: N its names (its parameter x, then the captured ones, then others), js where the frame X has the captured ones -/
structure LamT (X : Cx) (N : List Str) (x : Str) (fr : List Str) (js : List Nat) (params : Arguments) (scope : Scope) (body : Expr) : Prop where
  names : NScope N [x] fr scope
  free : ∀ y ∈ scope.names, y.2 = .free → X.env.scope.names.lookup y.1 = some .cell ∨ X.env.scope.names.lookup y.1 = some .free
  caps : ∀ y ∈ fr, (y, NameKind.free) ∈ scope.names
  slots : js.map (fun j => X.N[j]?) = fr.map some
  bind : ∀ (pm ctv u : Value) (c' : Addr), bindArgs (PySem.W.kla_fn "<lambda>" (X.env.qual ++ "<lambda>") params body scope (cloFrom X.env.cells scope.names []) pm (.ref c') ctv) ⟨[u], []⟩ = pure [(x, u)]
theorem lam_call1 {A : Around} {N fr : List Str} {js : List Nat} {params : Arguments} {body : Expr} {scope : Scope} {x : Str} {f c' : Addr} {pm ctv u : Value} {vx : V} {k : Nat} {tb : TE} {Q : VK} {E : Value → Shared → Prop} (I : Inv X pins σ H s) (L : LamT X N x fr js params scope body) (hA : A.frames = some X.stack) (hr : Room (k + 1) A)
    (hf : s.heap.get? f = some (PySem.W.kla_obj "<lambda>" (X.env.qual ++ "<lambda>") params body scope (cloFrom X.env.cells scope.names []) pm c' ctv)) (hc : H c' = some (LamX.CodeO c' (X.env.qual ++ "<lambda>"))) (ru : RelV vx u)
    (hbody : Room k (lamX X N params scope f c' A s H).A → PE (lamX X N params scope f c' A s H) body tb) (ht : tb (startF N [vx] (js.map (slotAt σ))) H Q) :
    wpAny (model X.prog X.w) A (call (.ref f) [u]) (fun r s' => EP X pins σ Q r s') E s := by
  have at0 : Env0 X.prog X.w X.K X.mg X.base A X.stack s H := { I.env0 with frames := hA }
  have caps := cells_of I (Caps.made I.ok L.free L.caps L.slots)
  have ran : codeAny (model X.prog X.w) A (.call (.ref f) ⟨[u], []⟩) (CR CX0 X.stack X.prog X.w H s Q E0) s := by
    refine PySem.W.kla_callFunE hr.depth hf rfl L.names.co L.names.gen rfl (NdefX.codeO_at I.hok hc) ?_
    rw [L.bind]
    refine wpAny_pure (wpAny_newFunctionEnv L.names.nocell (fun y hy => L.names.par y.1 ?_) (fun g ns same => ⟨I.nolimit.fresh _ same, ?_⟩) L.names.kind)
    · rw [List.mem_singleton.mp hy]
      exact List.mem_cons_self
    · have start := inv_startN (CX := CX0) (F := lamF X params scope c') (f := f) (E := E0) (h₁ := g) (tk := s.toks + 1) (us := [u]) L.names hr.hd at0 rfl (.cons ru .nil) caps ns fun b o e => same.extBut b o (Nat.ne_of_lt (Heap.lt_size e)) (Heap.get?_push_of_some _ e)
      refine PySem.W.kla_codeExpr (wpAny_mono ((hbody (hr.deeper _)).run [] _ _ H Q start ht) (fun v s' z => ?_) fun e s' z => z)
      obtain ⟨y, H', J, ry, q⟩ := z
      exact ⟨y, H', J.os, J.bare, J.base, J.hok, ry, q⟩
  refine wpAny_call (codeAny_mono ran fun r s' z => ?_)
  match r, z with
  | .ok (.ret v), z => exact I.after z
end
end My

set_option Elab.async false
set_option linter.all false
set_option maxRecDepth 100000
set_option maxHeartbeats 2000000
namespace My
open PySem PySem.Spec PyProof.Rows L2
/-! ### min(list, key=function): the first item whose key is least -/
/-- the frame X while a built-in that it called runs; nothing is let out -/
abbrev inB (X : Cx) : Cx := { X with A := X.A.in1, xe := fun _ _ => False }
section
variable {X : Cx} {pins : List (Addr × Obj)} {σ : L2.St} {H : Hp} {s : Shared}
theorem toB (I : Inv X pins σ H s) : Inv (inB X) pins σ H s :=
  { I with ok := { I.ok with hd := fun h => I.ok.hd h, frames := I.ok.frames } }
theorem ofB (k : X.Ok) (I : Inv (inB X) pins σ H s) : Inv X pins σ H s := { I with ok := k }
end
/-- calls of the value fv with one argument, made by a built-in -/
def KeyR (Y : Cx) (pn : List (Addr × Obj)) (σ : L2.St) (fv : Value) (kr : V → Hp → VK → Prop) : Prop :=
  ∀ (s : Shared) (H : Hp) (x : V) (u : Value) (Q : VK) (E : Value → Shared → Prop), Inv Y pn σ H s → RelV x u → kr x H Q → wpAny (model Y.prog Y.w) Y.A (call fv [u]) (EP Y pn σ Q) E s
/-- the list that min keeps: the best item and its key -/
abbrev bestO (items : Array Value) (c : Nat) : Obj := { cls := .type "list", dict := none, data := .seq items c, slots := #[] }
/-- an address of min's own -/
structure Mine (Y : Cx) (pn : List (Addr × Obj)) (S : Addr) : Prop where
  late : Y.s_0.heap.objs.size ≤ S
  cell : ∀ x c, Y.env.cells.lookup x = some c → c ≠ S
  pins : ∀ p ∈ Y.pn ++ pn, p.1 ≠ S
/-- between two turns: i items of the list at a are out of the iterator it -/
structure Best (Y : Cx) (pn : List (Addr × Obj)) (σ : L2.St) (a it S : Addr) (items : Array Value) (c i : Nat) (H : Hp) (s : Shared) : Prop where
  inv : Inv Y ((S, bestO items c) :: pn) σ H s
  iter : s.heap.IsListIter it a i
  out : FpOk Y ((S, bestO items c) :: pn) H it
section
variable {Y : Cx} {pn : List (Addr × Obj)} {σ : L2.St} {a it S : Addr} {items : Array Value} {c i : Nat} {H : Hp} {s : Shared}
theorem Best.own (B : Best Y pn σ a it S items c i H s) : s.heap.get? S = some (bestO items c) := (B.inv.pin _ (List.mem_append_right _ List.mem_cons_self)).1
/-- the iterator gives the next item: it is pinned from now on -/
theorem Best.next {xs : List V} {x : V} {Q : Option Value → Shared → Prop} {E : Value → Shared → Prop} (B : Best Y pn σ a it S items c i H s) (hq : SqL Y.K H a xs) (hx : xs[i]? = some x)
    (k : ∀ (u : Value) (o : Obj) (s' : Shared), RelV x u → (∀ h : Heap, h.get? it = some o → h.IsListIter it a (i + 1)) → Inv Y ((it, o) :: (S, bestO items c) :: pn) σ H s' → Q (some u) s') : wpAny (model Y.prog Y.w) Y.A (pyNext (.ref it)) Q E s := by
  obtain ⟨its, vals, l, _⟩ := B.inv.list hq
  obtain ⟨u, hu, ru⟩ := vals.get hx
  refine wpAny_pyNext_list_item B.iter l.isList (x := u) (by simpa using hu) fun h' it' sb => ?_
  have J := past (t' := s.toks) B.inv B.out fun b u ne e => (sb.2 b ne).trans e
  obtain ⟨o, e, cls, d⟩ := id it'
  refine k u o _ ru (fun h e' => it'.at fun o2 e2 => ?_) (J.pins_of fun p hp => ?_)
  · rw [e] at e2
    exact e'.trans e2
  · rcases List.mem_cons.mp hp with z | z
    · rw [z]
      exact ⟨e, B.out.1, B.out.2.1, B.out.2.2.1, fun v q => by rw [d] at q; cases q⟩
    · exact J.pin p (List.mem_append_right _ z)
/-- a turn is over -/
theorem Best.turned {o : Obj} {items' : Array Value} {c' : Nat} {H' : Hp} {s' s'' : Shared} (m : Mine Y pn S) (ne : S ≠ it) (B : Best Y pn σ a it S items c i H s) (ito : ∀ h : Heap, h.get? it = some o → h.IsListIter it a (i + 1)) (I : Inv Y ((it, o) :: (S, bestO items c) :: pn) σ H' s')
    (os : s''.os = s'.os) (bare : AllBare s''.gens) (kp : ∀ b u, b ≠ S → s'.heap.get? b = some u → s''.heap.get? b = some u) (own : s''.heap.get? S = some (bestO items' c')) : Best Y pn σ a it S items' c' (i + 1) H' s'' := by
  obtain ⟨e, n, _⟩ := I.pin (it, o) (List.mem_append_right _ List.mem_cons_self)
  have I1 : Inv Y ((S, bestO items c) :: pn) σ H' s' := I.pins_of fun p hp => I.pin p (List.mem_append_right _ (List.mem_cons_of_mem _ hp))
  refine ⟨woke I1 m.late m.cell m.pins os bare kp own (fun v z => nomatch z), ito _ (kp it o ne.symm e), n, B.out.2.1, B.out.2.2.1, B.out.2.2.2.1, B.out.2.2.2.2.1, fun p hp => ?_⟩
  rcases List.mem_append.mp hp with z | z
  · exact B.out.2.2.2.2.2 p (List.mem_append_left _ z)
  · rcases List.mem_cons.mp z with q | q
    · rw [q]
      exact ne
    · exact B.out.2.2.2.2.2 p (List.mem_append_right _ (List.mem_cons_of_mem _ q))
end
section
variable {Y : Cx} {A : Around} {pn : List (Addr × Obj)} {σ : L2.St} {a it S f : Addr} {xs : List V} {kr : V → Hp → VK → Prop} {r : R2} {W : Nat → V → V → Hp → Prop}
theorem min_turns (hA : A.in1 = Y.A) (hc : Y.calm = true) (hxe : ∀ e s, Y.xe e s → False) (m : Mine Y pn S) (ne : S ≠ it) (key : ∀ o o', KeyR Y ((it, o) :: (S, o') :: pn) σ (.ref f) kr) (ord : OpR Y (compareOp .Lt) r)
    (hl : ∀ i b k H, W i b k H → SqL Y.K H a xs)
    (step : ∀ i x b k H, xs[i]? = some x → W i b k H → kr x H fun kx H1 => r kx k H1 fun y H2 => ∃ t : Bool, y = .bl t ∧ W (i + 1) (if t = true then x else b) (if t = true then kx else k) H2) :
    ∀ (n i : Nat) (s : Shared) (b k : V) (bv kv : Value) (H : Hp) (c : Nat), i + n = xs.length → Best Y pn σ a it S #[bv, kv] c i H s → RelV b bv → RelV k kv → W i b k H →
      codeAny (model Y.prog Y.w) A (.builtin "min.loop" ⟨[.ref it, .ref f, .ref S], []⟩) (fun r s' => ∃ v, r = .ok (.ret v) ∧ EP Y pn σ (fun y H' => ∃ k', W xs.length y k' H') v s') s := by
  intro n
  induction n with
  | zero =>
    intro i s b k bv kv H c e B rb rk w
    obtain rfl : i = xs.length := e
    obtain ⟨its, vals, l, _⟩ := B.inv.list (hl _ _ _ _ w)
    have len := vals.length
    refine codeAny_builtin F.entry_min_loop ?_
    rw [Around.under_plainId F.plain_min_loop _, hA]
    refine wpAny_bind (m := seqItems? (.ref S)) (wpAny_seqItems B.own rfl ?_)
    refine wpAny_bind (wpAny_tryCatch (m := pyNext (.ref it)) (wpAny_pyNext_list_end (B.inv.ok.hd hc) B.iter l.isList (by simp; omega) fun h' keep => ?_))
    have J := past (t' := s.toks) B.inv B.out keep
    have own : h'.get? S = some (bestO #[bv, kv] c) := (J.pin (S, bestO #[bv, kv] c) (List.mem_append_right _ List.mem_cons_self)).1
    refine wpAny_bind (m := updateSeq S fun _ => #[]) (wpAny_updateSeq own rfl (wpAny_bind (wpAny_letGo (wpAny_pure ?_))))
    refine ⟨bv, rfl, b, H, ?_, rb, k, w⟩
    have J2 := woke (o' := bestO #[] (c + 1)) (s' := { s with heap := h'.update S (Obj.mapSeq fun _ => #[]) }) J m.late m.cell m.pins rfl J.bare (fun b u ne e => (Heap.get?_update_other _ _ (Ne.symm ne)).trans e) (show (h'.update S (Obj.mapSeq fun _ => #[])).get? S = some (bestO #[] (c + 1)) from Heap.get?_update_self _ own rfl) fun v z => nomatch z
    exact J2.pins_of fun p hp => J2.pin p (List.mem_append_right _ (List.mem_cons_of_mem _ hp))
  | succ n ih =>
    intro i s b k bv kv H c e B rb rk w
    obtain ⟨x, hx⟩ : ∃ x, xs[i]? = some x := ⟨_, List.getElem?_eq_getElem (by omega)⟩
    refine codeAny_builtin F.entry_min_loop ?_
    rw [Around.under_plainId F.plain_min_loop _, hA]
    refine wpAny_bind (m := seqItems? (.ref S)) (wpAny_seqItems B.own rfl ?_)
    refine wpAny_bind (wpAny_tryCatch (m := pyNext (.ref it)) (B.next (hl _ _ _ _ w) hx fun u o s1 ru ito I1 => ?_))
    refine wpAny_bind (wpAny_tryCatch (m := holding [u] (call (.ref f) [u])) (wpAny_holding (thn (key o _ s1 H x u _ _ I1 ru (step i x b k H hx w)) fun kx s2 h2 => ?_)))
    obtain ⟨kw, H2, I2, rkx, q2⟩ := h2
    refine wpAny_bind (wpAny_tryCatch (wpAny_holding (wpAny_bind (m := richCompare .Lt kx kv) (wpAny_mono (ord _ s2 σ H2 kw k kx kv _ I2 rkx rk q2) (fun ans s3 h3 => ?_) fun e s' z => (hxe e s' z).elim))))
    obtain ⟨y, H3, I3, ry, t, ey, w3⟩ := h3
    subst ey
    obtain rfl : ans = .bool t := ry
    refine wpAny_bind (wpAny_holding (wpAny_truthy_bool (wpAny_bind (wpAny_letGo (wpAny_pure ?_)))))
    have own3 : s3.heap.get? S = some (bestO #[bv, kv] c) := (I3.pin (S, _) (List.mem_append_right _ (List.mem_cons_of_mem _ List.mem_cons_self))).1
    cases t with
    | true =>
      rw [if_pos rfl] at w3
      rw [if_pos rfl] at w3
      simp only [if_true]
      refine wpAny_bind (m := updateSeq S fun _ => #[u, kx]) (wpAny_updateSeq own3 rfl (wpAny_bind (wpAny_letGo (wpAny_pure ⟨plainId_quiet F.plain_min_loop _, ?_⟩))))
      exact ih (i + 1) _ x kw u kx H3 c (by omega) (B.turned m ne ito I3 rfl I3.bare (fun b u ne e => (Heap.get?_update_other _ _ (Ne.symm ne)).trans e) (Heap.get?_update_self _ own3 rfl)) ru rkx w3
    | false =>
      rw [if_neg (by decide), if_neg (by decide)] at w3
      simp only [Bool.false_eq_true, if_false]
      refine wpAny_bind (wpAny_letGo (wpAny_pure ⟨plainId_quiet F.plain_min_loop _, ?_⟩))
      exact ih (i + 1) _ b k bv kv H3 c (by omega) (B.turned m ne ito I3 rfl I3.bare (fun b u ne e => e) own3) rb rk w3
/-- the first turn: whatever comes is the best -/
theorem min_first {x0 : V} {H : Hp} {s : Shared} (hA : A.in1 = Y.A) (hc : Y.calm = true) (hxe : ∀ e s, Y.xe e s → False) (m : Mine Y pn S) (ne : S ≠ it) (key : ∀ o o', KeyR Y ((it, o) :: (S, o') :: pn) σ (.ref f) kr) (ord : OpR Y (compareOp .Lt) r)
    (hs : SqL Y.K H a xs) (hl : ∀ i b k H, W i b k H → SqL Y.K H a xs) (h0 : xs[0]? = some x0) (first : kr x0 H fun k H1 => W 1 x0 k H1)
    (step : ∀ i x b k H, xs[i]? = some x → W i b k H → kr x H fun kx H1 => r kx k H1 fun y H2 => ∃ t : Bool, y = .bl t ∧ W (i + 1) (if t = true then x else b) (if t = true then kx else k) H2) (B : Best Y pn σ a it S #[] 0 0 H s) :
    codeAny (model Y.prog Y.w) A (.builtin "min.loop" ⟨[.ref it, .ref f, .ref S], []⟩) (fun r s' => ∃ v, r = .ok (.ret v) ∧ EP Y pn σ (fun y H' => ∃ k', W xs.length y k' H') v s') s := by
  have pos : 0 < xs.length := (List.getElem?_eq_some_iff.mp h0).1
  refine codeAny_builtin F.entry_min_loop ?_
  rw [Around.under_plainId F.plain_min_loop _, hA]
  refine wpAny_bind (m := seqItems? (.ref S)) (wpAny_seqItems B.own rfl ?_)
  refine wpAny_bind (wpAny_tryCatch (m := pyNext (.ref it)) (B.next hs h0 fun u o s1 ru ito I1 => ?_))
  refine wpAny_bind (wpAny_tryCatch (m := holding [u] (call (.ref f) [u])) (wpAny_holding (thn (key o _ s1 H x0 u _ _ I1 ru first) fun kx s2 h2 => ?_)))
  obtain ⟨kw, H2, I2, rkx, w2⟩ := h2
  have own2 : s2.heap.get? S = some (bestO #[] 0) := (I2.pin (S, _) (List.mem_append_right _ (List.mem_cons_of_mem _ List.mem_cons_self))).1
  refine wpAny_bind (m := updateSeq S fun _ => #[u, kx]) (wpAny_updateSeq own2 rfl (wpAny_pure ⟨plainId_quiet F.plain_min_loop _, ?_⟩))
  exact min_turns hA hc hxe m ne key ord hl step (xs.length - 1) 1 _ x0 kw u kx H2 (0 + 1) (by omega) (B.turned m ne ito I2 rfl I2.bare (fun b u ne e => (Heap.get?_update_other _ _ (Ne.symm ne)).trans e) (Heap.get?_update_self _ own2 rfl)) ru rkx w2
end
section
variable {X : Cx} {pn : List (Addr × Obj)} {σ : L2.St} {a f : Addr} {xs : List V} {kr : V → Hp → VK → Prop} {r : R2} {W : Nat → V → V → Hp → Prop}
theorem call_minK {x0 : V} {H : Hp} {s : Shared} {Q : VK} {E : Value → Shared → Prop} (I : Inv X pn σ H s) (hc : X.calm = true) (key : ∀ p q, KeyR (inB X) (p :: q :: pn) σ (.ref f) kr) (ord : OpR (inB X) (compareOp .Lt) r)
    (hs : SqL X.K H a xs) (hl : ∀ i b k H, W i b k H → SqL X.K H a xs) (h0 : xs[0]? = some x0) (first : kr x0 H fun k H1 => W 1 x0 k H1)
    (step : ∀ i x b k H, xs[i]? = some x → W i b k H → kr x H fun kx H1 => r kx k H1 fun y H2 => ∃ t : Bool, y = .bl t ∧ W (i + 1) (if t = true then x else b) (if t = true then kx else k) H2) (fin : ∀ b k H, W xs.length b k H → Q b H) :
    wpAny (model X.prog X.w) X.A (call (.builtin "min") [.ref a] [(Str.ofString "key", .ref f)]) (EP X pn σ Q) E s := by
  obtain ⟨its, vals, l, _⟩ := I.list hs
  refine PyProof.Rows.kmk_tree F.kind_min F.plain_min F.entry_min (PyProof.Rows.kmk_min_key _ _) ?_
  refine wpAny_bind (m := Builtin.Builtins.bindParams "min" ["key", "default"] 0 ⟨[], [(Str.ofString "key", .ref f)]⟩) (wpAny_of_eq rfl (wpAny_bind (wpAny_pure ?_)))
  refine wpAny_bind (wpAny_pyIter_list l.isList (wpAny_bind (wpAny_newObj_type ?_)))
  generalize hit : s.heap.objs.size = it
  generalize hi1 : s.heap.push _ = h1
  have at1 : h1.objs.size = it + 1 := by rw [← hi1, Heap.size_push, hit]
  have I1 : Inv (inB X) pn σ H { s with heap := h1 } := toB (grew I rfl I.bare fun b u e => by rw [← hi1]; exact Heap.get?_push_of_some _ e)
  have fresh : H it = none := I.hok.fresh (Nat.le_of_eq hit)
  have freeS : H (it + 1) = none := I1.hok.fresh (Nat.le_of_eq at1)
  have FS : FpOk (inB X) pn H (it + 1) := I1.fpOk (Nat.le_of_eq at1) freeS
  have FI : FpOk (inB X) pn H it := (toB I).fpOk (Nat.le_of_eq hit) fresh
  have own : (h1.push (bestO #[] 0)).get? (it + 1) = some (bestO #[] 0) := by
    rw [← at1]
    exact Heap.get?_push_size _ rfl
  have I2 : Inv (inB X) ((it + 1, bestO #[] 0) :: pn) σ H { s with heap := h1.push (bestO #[] 0) } := by
    have J := grew I1 (s' := { s with heap := h1.push (bestO #[] 0) }) rfl I1.bare fun b u e => Heap.get?_push_of_some _ e
    refine J.pins_of fun p hp => ?_
    rcases List.mem_cons.mp hp with z | z
    · rw [z]
      exact ⟨own, FS.1, FS.2.1, FS.2.2.1, fun v z => nomatch z⟩
    · exact J.pin p (List.mem_append_right _ z)
  have iter1 : h1.IsListIter it a 0 := by
    rw [← hi1, ← hit]
    exact ⟨_, Heap.get?_push_size _ rfl, rfl, rfl⟩
  have iter : (h1.push (bestO #[] 0)).IsListIter it a 0 := iter1.at fun o e => Heap.get?_push_of_some _ e
  have B : Best (inB X) pn σ a it (it + 1) #[] 0 0 H { s with heap := h1.push (bestO #[] 0) } := ⟨I2, iter, FI.1, FI.2.1, FI.2.2.1, FI.2.2.2.1, FI.2.2.2.2.1, fun p hp => by
    rcases List.mem_append.mp hp with z | z
    · exact FI.2.2.2.2.2 p (List.mem_append_left _ z)
    · rcases List.mem_cons.mp z with q | q
      · rw [q]
        exact Nat.succ_ne_self it
      · exact FI.2.2.2.2.2 p (List.mem_append_right _ q)⟩
  have M : Mine (inB X) pn (it + 1) := ⟨Nat.le_trans I.sz (by rw [hit]; exact Nat.le_succ it), FS.2.2.2.2.1, FS.2.2.2.2.2⟩
  rw [at1]
  refine wpAny_pure ⟨plainId_quiet F.plain_min_loop _, codeAny_mono (min_first (Y := inB X) (A := X.A) rfl hc (fun _ _ z => z) M (Nat.succ_ne_self it) (fun o o' => key _ _) ord hs hl h0 first step B) fun r s' h => ?_⟩
  obtain ⟨v, rfl, y, H', J, ry, k', w⟩ := h
  exact ⟨y, H', ofB I.ok J, ry, fin _ _ _ w⟩
end
end My

set_option Elab.async false
set_option linter.all false
set_option maxRecDepth 100000
set_option maxHeartbeats 2000000
namespace My
open PySem PySem.Spec PyProof.Rows L2
open NdefX (startF slotAt)
/-! ### min(list, key=lambda x: body) -/
/-- its reading: the list, then for the made lambda (its code object at c') an invariant W over (turns, best item, its key, heap) -/
def tMinLam (K : PySem.W.Frag) (P : Addr) (q : Str) (r : R2) (N : List Str) (js : List Nat) (tb te : TE) : TE := fun σ H Q => te σ H fun v H1 => LamX.TabS H1 P q ∧ ∃ (a : Addr) (xs : List V) (x0 : V), v = .ref a ∧ SqL K H1 a xs ∧ xs[0]? = some x0 ∧
  ∀ (c' : Addr) (H2 : Hp), (∀ b o, b ≠ P → H1 b = some o → H2 b = some o) → LamX.TabS H2 P q → H2 c' = some (LamX.CodeO c' q) → ∃ W : Nat → V → V → Hp → Prop, (∀ i b k H3, W i b k H3 → SqL K H3 a xs ∧ H3 c' = some (LamX.CodeO c' q)) ∧ SqL K H2 a xs ∧
    tb (startF N [x0] (js.map (slotAt σ))) H2 (fun k H3 => W 1 x0 k H3) ∧
    (∀ i x b k H3, xs[i]? = some x → W i b k H3 → tb (startF N [x] (js.map (slotAt σ))) H3 fun kx H4 => r kx k H4 fun y H5 => ∃ t : Bool, y = .bl t ∧ W (i + 1) (if t = true then x else b) (if t = true then kx else k) H5) ∧
    ∀ b k H3, W xs.length b k H3 → Q b H3
/-- what follows the list in the reading, for an argument list of one -/
def onOne (R : V → Hp → Prop) : List V → Hp → Prop
  | [v], H => R v H
  | _, _ => False
theorem onOne_of {R : V → Hp → Prop} {vs : List V} {H : Hp} (h : onOne R vs H) : ∃ v, vs = [v] ∧ R v H :=
  match vs, h with
  | [v], h => ⟨v, rfl, h⟩
section
variable {X : Cx}
/-- a made function is none of the frames -/
theorem lam_pin {pins : List (Addr × Obj)} {σ : L2.St} {H : Hp} {s : Shared} {f : Addr} {o : Obj} {fd : FuncData} (I : Inv X pins σ H s) (hf : s.heap.get? f = some o) (hd : o.data = .func fd) (hn : H f = none) (hs : f ∉ frs X.stack) : Inv X ((f, o) :: pins) σ H s := by
  refine I.pins_of fun p hp => ?_
  rcases List.mem_cons.mp hp with z | z
  · rw [z]
    refine ⟨hf, hn, fun e => ?_, fun hb => hs ?_, fun v q => ?_⟩
    · obtain ⟨m, ⟨o', es, ep, h1, h2, _⟩, _⟩ := I.loc
      have e' : f = X.env.locals := e
      rw [← e', hf] at h1
      obtain rfl := Option.some.inj h1
      rw [hd] at h2
      cases h2
    · rcases I.ok.stk with e | ⟨e, ef⟩
      · rw [e]
        exact hb
      · rw [e]
        unfold frs
        rw [List.filterMap_cons, ef]
        exact List.mem_cons_of_mem _ hb
    · have q' : o.data = .cell v := q
      rw [hd] at q'
      cases q'
  · exact I.pin p (List.mem_append_right _ z)
/-- a lambda is made: its code object comes out of the maker's table at P, or is new and goes into it; all else stays -/
theorem lam_new {pins : List (Addr × Obj)} {σ : L2.St} {H : Hp} {s : Shared} {c P : Addr} {params : Arguments} {body : Expr} {scope : Scope} {pos : Pos} {E : Value → Shared → Prop} {Q : Value → Shared → Prop} (I : Inv X pins σ H s) (TB : LamX.TabB X.base X.mg c P) (hcode : X.env.code = .ref c)
    (hT : LamX.TabS H P (X.env.qual ++ "<lambda>")) (hdef : defaultsOf params X.env = ([], [])) (caught : ∀ y ∈ scope.names, y.2 = .free → ∃ c, X.env.cells.lookup y.1 = some c)
    (h : ∀ (f c' : Addr) (pm ctv : Value) (H1 : Hp) (s' : Shared), Inv X pins σ H1 s' → (∀ b o, b ≠ P → H b = some o → H1 b = some o) → LamX.TabS H1 P (X.env.qual ++ "<lambda>") →
      s'.heap.get? f = some (PySem.W.kla_obj "<lambda>" (X.env.qual ++ "<lambda>") params body scope (cloFrom X.env.cells scope.names []) pm c' ctv) → H1 f = none → f ∉ frs X.stack → H1 c' = some (LamX.CodeO c' (X.env.qual ++ "<lambda>")) → Q (.ref f) s') :
    wpAny (model X.prog X.w) X.A (eval (.Lambda params body scope pos) X.env) Q E s := by
  obtain ⟨ps, hP, tri, names⟩ := hT
  have raw := I.hok P _ hP
  have late : ∀ f, s.heap.objs.size ≤ f → f ∉ frs X.stack := fun f le z => by
    rcases List.mem_cons.mp (I.stkSub _ z) with e | e
    · exact Nat.lt_irrefl _ (Nat.lt_of_lt_of_le (e ▸ I.lt) le)
    · exact I.nofs le e
  refine PySem.W.kla_eval hdef ?_
  match hf : codeAmong pos ps.toList with
  | some cv =>
    obtain ⟨c', rfl, at'⟩ := names pos cv hf
    exact PySem.W.kla_makeFunctionHit (mg := X.mg) (c := c) (P := P) (ps := ps) (closure_ok caught) I.ok.glob (I.mod.glob.keeps I.bk) hcode (TB.code.keeps I.bk) raw tri hf (TB.bm.keeps I.bk) fun ctv g tk kp le =>
      h _ c' _ ctv H _ (I.kept (t' := tk) fun b o e => Heap.get?_push_of_some _ (kp b o e)) (fun _ _ _ e => e) ⟨ps, hP, tri, names⟩ (Heap.get?_push_size _ rfl) (I.hok.fresh le) (late _ le) at'
  | none =>
    refine PySem.W.kla_makeFunction (mg := X.mg) (c := c) (P := P) (ps := ps) (closure_ok caught) I.ok.glob (I.mod.glob.keeps I.bk) hcode (TB.code.keeps I.bk) raw tri hf TB.gP (TB.bm.keeps I.bk) fun c' ctv g tk ext ge lt isC tab => ?_
    obtain ⟨_, oc, vs, t, ec, hoc, hd, hv⟩ := isC
    cases ec
    have fresh : H c' = none := I.hok.fresh ge
    have apart : P ≠ c' := ne_of_none hP fresh
    have sz : s.heap.objs.size ≤ g.objs.size := Nat.le_trans ge (Nat.le_of_lt lt)
    have J := LamX.inv_table (t' := tk) (more := #[rawInt pos.line, rawInt pos.col, .ref c']) (h' := g.push (PySem.W.kla_obj "<lambda>" (X.env.qual ++ "<lambda>") params body scope (cloFrom X.env.cells scope.names []) ((X.mg "__name__").getD .none) c' ctv)) I hP
      (fun b o ne e => Heap.get?_push_of_some _ (ext b o ne e)) (Heap.get?_push_of_some _ tab) ge ⟨oc, vs, t, Heap.get?_push_of_some _ hoc, hd, hv⟩
    have stays : ∀ b o, b ≠ P → H b = some o → (upd (upd H P (.tbl (ps ++ #[rawInt pos.line, rawInt pos.col, .ref c']))) c' (LamX.CodeO c' (X.env.qual ++ "<lambda>"))) b = some o := fun b o ne e => by
      rw [upd_ne (ne_of_none e fresh), upd_ne ne]
      exact e
    refine h g.objs.size c' _ ctv _ _ J stays ⟨_, (upd_ne apart).trans upd_same, ?_, fun p cv hc => ?_⟩ (Heap.get?_push_size _ rfl) ?_ (late _ sz) upd_same
    · rw [Array.toList_append]
      exact PySem.TriplesOk_snoc _ _ _ _ tri
    · rw [Array.toList_append] at hc
      rcases LamX.among_app _ tri hc with z | z
      · obtain ⟨c0, e1, e2⟩ := names p cv z
        exact ⟨c0, e1, stays _ _ (fun q => by rw [q, hP] at e2; exact LamX.codeO_ne _ (Option.some.inj e2).symm) e2⟩
      · exact ⟨c', z, upd_same⟩
    · have older : P < g.objs.size := Nat.lt_of_lt_of_le (Heap.lt_size raw) sz
      rw [upd_ne (Nat.ne_of_gt lt), upd_ne (Nat.ne_of_gt older)]
      exact I.hok.fresh sz
theorem pe_minLam {e body : Expr} {te tb : TE} {p1 p2 q1 lpos : Pos} {n1 : Option Str} {params : Arguments} {scope : Scope} {x : Str} {N fr : List Str} {js : List Nat} {k : Nat} {c P : Addr} {r : R2} (K : PySem.W.Frag) (hc : X.calm = true) (hr : Room (k + 2) X.A)
    (hg : Gl X "min") (hm : X.mg "min" = none) (TB : LamX.TabB X.base X.mg c P) (hcode : X.env.code = .ref c) (L : LamT X N x fr js params scope body) (hdef : defaultsOf params X.env = ([], []))
    (ord : OpR (inB X) (compareOp .Lt) r) (hA : PA X [e] (tCons te tNil)) (hbody : ∀ (A : Around) (s : Shared) (H : Hp) (f c' : Addr), Room k (lamX X N params scope f c' A s H).A → PE (lamX X N params scope f c' A s H) body tb) (hK : X.K = K := by rfl)
    (hb : bootBuiltins "min" = some (.builtin "min") := by decide +kernel)
    (hse : backTo p2 (starEach [e] X.env) = (false, eval e X.env) :: backTo p2 (starEach [] X.env) := by rfl) (hpl : (backTo p2 (starEach [e] X.env)).any (·.1) = false := by rfl)
    (hall : (backToKw p2 (keywordEach [⟨n1, .Lambda params body scope lpos, q1⟩] X.env)).all (·.1.isSome) = true := by rfl)
    (hnone : (backToKw p2 (keywordEach [⟨n1, .Lambda params body scope lpos, q1⟩] X.env)).any (·.1.isNone) = false := by rfl)
    (hks : (backToKw p2 (keywordEach [⟨n1, .Lambda params body scope lpos, q1⟩] X.env)).filterMap (·.1) = [Str.ofString "key"] := by rfl) :
    PE X (.Call (.Name "min" p1) [e] [⟨n1, .Lambda params body scope lpos, q1⟩] p2) (tMinLam K P (X.env.qual ++ "<lambda>") r N js tb te) := by
  subst hK
  constructor
  intro pins s σ H Q I h
  refine wpAny_Call_Name_kw (ld_blt I hg hm hb ?_)
  refine PyProof.Rows.callWith_kw (thn (hA.run p2 pins s σ H (onOne fun v H1 => LamX.TabS H1 P _ ∧ _) I h) fun us s1 h1 => ?_) hse hpl hall hnone
  obtain ⟨vs, H1, I1, r1, q1'⟩ := h1
  obtain ⟨v, rfl, tab1, a, xs, x0, rfl, hs, h0, q⟩ := onOne_of q1'
  obtain ⟨u, rfl, ru⟩ := vals1 r1
  cases ru
  rw [hks]
  show wpAny _ _ (evalAll [(do let v ← eval (.Lambda params body scope lpos) X.env; standAt p2; pure v)]) _ _ s1
  have hfree : ∀ y ∈ scope.names, y.2 = .free → ∃ c, X.env.cells.lookup y.1 = some c := fun y hy z => I.ok.has _ (L.free y hy z)
  refine wpAny_evalAll_cons (wpAny_bind (lam_new I1 TB hcode tab1 hdef hfree fun f c' pm ctv H2 s2 I2 ext tab2 hf hn hst hco => wpAny_bind (wpAny_standAt (wpAny_pure (wpAny_evalAll_nil ?_)))))
  have I3 := lam_pin I2 hf rfl hn hst
  obtain ⟨W, hW, hs2, first, step, fin⟩ := q c' H2 ext tab2 hco
  have key : ∀ p q, KeyR (inB X) (p :: q :: (f, _) :: pins) σ (.ref f) (fun x H Q => H c' = some (LamX.CodeO c' (X.env.qual ++ "<lambda>")) ∧ tb (startF N [x] (js.map (slotAt σ))) H Q) := fun p q s H x u Q E J ru z =>
    lam_call1 (X := inB X) (N := N) (js := js) (fr := fr) (k := k) (f := f) (c' := c') (pm := pm) (ctv := ctv) J ⟨L.names, L.free, L.caps, L.slots, L.bind⟩ J.ok.frames (hr.in1.mono (by omega)) ((J.pin (f, _) (List.mem_append_right _ (List.mem_cons_of_mem _ (List.mem_cons_of_mem _ List.mem_cons_self)))).1) z.1 ru
      (hbody X.A.in1 s H f c') z.2
  refine thn (call_minK (X := X) (pn := (f, _) :: pins) (W := W) I3 hc key ord hs2 (fun i b k H z => (hW i b k H z).1) h0 ⟨hco, first⟩ (fun i x b k H hx w => ⟨(hW i b k H w).2, step i x b k H hx w⟩) fin) fun v s' z => ?_
  obtain ⟨y, H', J, ry, qy⟩ := z
  exact ⟨y, H', J.pins_of fun p hp => J.pin p (List.mem_append_right _ (List.mem_cons_of_mem _ hp)), ry, qy⟩
end
end My

set_option Elab.async false
set_option linter.all false
set_option maxRecDepth 100000
set_option maxHeartbeats 2000000
namespace My
open PySem PySem.Spec PyProof.Rows L2
theorem IsListIter.ob {h : Heap} {i l : Addr} {n : Nat} (s : h.IsListIter i l n) : ∃ o, h.get? i = some o ∧ ∀ v, o.data ≠ .cell v := by
  obtain ⟨o, e, _, d⟩ := s
  exact ⟨o, e, fun v z => by rw [d] at z; cases z⟩
end My

set_option Elab.async false
set_option linter.all false
set_option maxRecDepth 100000
set_option maxHeartbeats 2000000
namespace My
open PySem PySem.Spec PyProof.Rows L2
open NdefX (NScope nscB nscope_by)
/-! ### what is told of a lambda's text -/
/-- the name of a def's lambda -/
abbrev lamQ (q : Str) : Str := q ++ ".<locals>." ++ "<lambda>"
def caughtB (sc scope : Scope) : Bool := scope.names.all fun y => match y.2 with
  | .free => (match sc.names.lookup y.1 with | some .cell => true | some .free => true | _ => false)
  | _ => true
def takenB (fr : List Str) (scope : Scope) : Bool := fr.all fun y => scope.names.any fun p => decide (p.1 = y) && (match p.2 with | .free => true | _ => false)
theorem lamT_by {X : Cx} {N fr : List Str} {js : List Nat} {params : Arguments} {body : Expr} {scope : Scope} {x : Str} (names : nscB N [x] fr scope = true) (caught : caughtB X.env.scope scope = true) (taken : takenB fr scope = true) (slots : js.map (fun j => X.N[j]?) = fr.map some)
    (bind : ∀ (pm ctv u : Value) (c' : Addr), bindArgs (PySem.W.kla_fn "<lambda>" (X.env.qual ++ "<lambda>") params body scope (cloFrom X.env.cells scope.names []) pm (.ref c') ctv) ⟨[u], []⟩ = pure [(x, u)]) : LamT X N x fr js params scope body := by
  refine ⟨nscope_by names, fun y hy e => ?_, fun y hy => ?_, slots, bind⟩
  · have q := List.all_eq_true.mp caught y hy
    rw [e] at q
    revert q
    cases X.env.scope.names.lookup y.1 with
    | none => exact fun q => nomatch q
    | some k => cases k <;> simp
  · obtain ⟨p, hp, q⟩ := List.any_eq_true.mp (List.all_eq_true.mp taken y hy)
    obtain ⟨n, k⟩ := p
    rw [Bool.and_eq_true] at q
    obtain ⟨q1, q2⟩ := q
    obtain rfl : n = y := of_decide_eq_true q1
    cases k with
    | free => exact hp
    | _ => cases q2
/-- the turns of a walk, whatever one turn asks -/
theorem turns {J : It} {n : Nat} {G : Hp → Prop} {Y : Nat → Hp → V → Hp → Prop} (w : Walk J n G Y) {Qd : Hp → Prop} {B : (Hp → Prop) → V → Hp → Prop} {H1 : Hp} (Pv : Nat → Hp → Prop) (h0 : Pv 0 H1) (hG : ∀ i H, i ≤ n → Pv i H → G H)
    (hs : ∀ i x H H', i < n → Pv i H → Y i H x H' → B (Pv (i + 1)) x H') (hd : ∀ H, Pv n H → Qd H) :
    ∃ W : Nat → Nat → Hp → Prop, (∃ m, W 0 m H1) ∧ ∀ i m H, W i m H → (J.stop i H ∧ Qd H) ∨ (J.go i H ∧ ∃ Nx : Hp → Prop, (∀ H', Nx H' → ∃ m', m' < m ∧ W (i + 1) m' H') ∧ ∀ x H', J.yld i H x H' → B Nx x H') := by
  refine ⟨fun i m H => i + m = n ∧ Pv i H, ⟨n, Nat.zero_add n, h0⟩, fun i m H ⟨e, p⟩ => ?_⟩
  have le : i ≤ n := by omega
  cases m with
  | zero =>
    obtain rfl : i = n := e
    exact .inl ⟨w.stops H (hG _ H le p), hd H p⟩
  | succ m => exact .inr ⟨w.goes i H (by omega) (hG _ H le p), Pv (i + 1), fun H' q => ⟨m, Nat.lt_succ_self m, by omega, q⟩, fun x H' y => hs i x H H' (by omega) p (w.yields i H x H' (by omega) (hG _ H le p) y)⟩
/-! ### how many lists there are -/
end My

set_option Elab.async false
set_option linter.all false
set_option maxRecDepth 100000
set_option maxHeartbeats 2000000
namespace My
open PySem PySem.Spec PyProof.Rows L2
/-! ### walks over what is a list or a tuple; the turns of a zip of three -/
section
variable {X : Cx}
end
theorem fldK {X : Cx} {e : Expr} {f : Str} {pos : Pos} {ta : TE} (K : PySem.W.Frag) (he : PE X e ta) (hb : attributeBase e f X.env (eval e X.env) = eval e X.env) (hK : X.K = K := by rfl) : PE X (.Attribute e f pos) (tFld K ta f) := hK ▸ pe_fld he hb
/-- all but tables stays -/
theorem Sx.ext {Ps : List Addr} {H H' : Hp} (t : TG Ps H) (s : Sx Ps H H') : LamX.ExtN H H' := fun b o h n => s b o (t.not h n) h
theorem TG.free {Ps : List Addr} {H : Hp} {p : Addr} (t : TG Ps H) (h : H p = none) : p ∉ Ps := fun hp => by
  obtain ⟨ps, h2, _⟩ := t p hp
  rw [h] at h2
  cases h2
theorem TG.put {Ps : List Addr} {H : Hp} {p : Addr} {o : HO} (t : TG Ps H) (h : p ∉ Ps) : TG Ps (L2.upd H p o) := fun q hq => by
  obtain ⟨ps, a, b⟩ := t q hq
  exact ⟨ps, keep_ne a (fun z : q = p => h (by rw [← z]; exact hq)), b⟩
end My

set_option Elab.async false
set_option linter.all false
set_option maxRecDepth 100000
set_option maxHeartbeats 2000000
namespace My
open PySem PySem.Spec PyProof.Rows L2
/-! ### sorted(tuple of texts), in full -/
/-! ### a lambda's table beside those of generator expressions -/
theorem tab_sx {Ps : List Addr} {P : Addr} {q : Str} {H H' : Hp} (t : LamX.TabS H P q) (tg : TG Ps H) (s : Sx Ps H H') (n : P ∉ Ps) : LamX.TabS H' P q := by
  obtain ⟨ps, h1, h2, h3⟩ := t
  exact ⟨ps, s _ _ n h1, h2, fun pos cv e => let ⟨c, e1, e2⟩ := h3 pos cv e; ⟨c, e1, s _ _ (tg.not e2 fun ps z => LamX.codeO_ne ps z) e2⟩⟩
theorem tab_same {P : Addr} {q : Str} {H H' : Hp} (t : LamX.TabS H P q) (s : Same H H') : LamX.TabS H' P q := t.ext fun b o e => s b o e
theorem tab_tg {Ps : List Addr} {P : Addr} {q : Str} {H : Hp} (t : LamX.TabS H P q) (tg : TG Ps H) : TG (P :: Ps) H := fun b hb => by
  rcases List.mem_cons.mp hb with z | z
  · obtain ⟨ps, h1, h2, _⟩ := t
    rw [z]
    exact ⟨ps, h1, h2⟩
  · exact tg b z
end My

set_option Elab.async false
set_option linter.all false
set_option maxRecDepth 100000
set_option maxHeartbeats 2000000
namespace My
open PySem PySem.Spec PyProof.Rows L2
/-! ### what a choice saves; the most that one more list saves -/
theorem Rd.same {H H' : Hp} {a : Addr} {u : HO} (h : Rd H a u) (s : Same H H') : Rd H' a u := h.imp (fun e => s _ _ e) fun ⟨o, e⟩ => ⟨o, s _ _ e⟩
/-! ### the search for an order, one step -/
section
variable {sv most : List (List Nat) → Int} {ch : List (List Nat)} {many d : Nat} {ahead : List (List Nat)}
end
end My

set_option Elab.async false
set_option linter.all false
set_option maxRecDepth 100000
set_option maxHeartbeats 2000000
namespace My
open PySem PySem.Spec PyProof.Rows L2
/-! ### no list twice; dict(..) and sorted(..) of a choice; the dict of prices as it is filled -/
theorem valV_none {kvs : List (Key × V)} {k : Key} (h : k ∉ kvs.map (·.1)) : valV kvs k = none := by
  unfold valV
  rw [List.find?_eq_none.mpr fun kv hkv e => h (List.mem_map.mpr ⟨kv, hkv, of_decide_eq_true e⟩)]
  rfl
end My

set_option Elab.async false
set_option linter.all false
set_option maxRecDepth 100000
set_option maxHeartbeats 2000000
namespace My
open PySem PySem.Spec PyProof.Rows L2
/-! ### defs whose facts are told by names -/
abbrev DefAt (K : PySem.W.Frag) (p : He.Defn) (x qual : Str) (st : Stmt) (fd : FuncData) : Prop := FunD K x qual (defArgs st) (defBody st) (defScope st) [] [] (He.fAd K p) fd
theorem DefAt.fn {K : PySem.W.Frag} {p : He.Defn} {x qual : Str} {st : Stmt} {fd : FuncData} (D : DefAt K p x qual st fd) : Fun K x qual st (He.fAd K p) fd := by
  obtain ⟨⟨oc, od, dV, kV, doc, pm, an, cd, ct, sl, e, l, c, dfl, _⟩, kp⟩ := D
  rcases dfl with ⟨_, rfl⟩ | ⟨ne, _⟩
  · exact ⟨⟨oc, od, kV, doc, pm, an, cd, ct, sl, e, l, c⟩, kp⟩
  · exact absurd rfl ne
theorem DefAt.fc {K : PySem.W.Frag} {p : He.Defn} {x qual : Str} {st : Stmt} {fd : FuncData} (D : DefAt K p x qual st fd) : FunC K x qual st (He.fAd K p) fd (He.codeOf K p) := by
  obtain ⟨⟨oc, od, dV, kV, doc, pm, an, cd, ct, sl, e, l, c, dfl, _⟩, kp⟩ := D
  obtain ⟨c', rfl⟩ := He.codeIn_ref c
  rcases dfl with ⟨_, rfl⟩ | ⟨ne, _⟩
  · have ec : He.codeOf K p = c' := He.codeOf_eq l (by rw [e])
    rw [ec]
    exact ⟨oc, od, kV, doc, pm, an, ct, sl, e, l, c⟩
  · exact absurd rfl ne
end My

set_option Elab.async false
set_option linter.all false
set_option maxRecDepth 100000
set_option maxHeartbeats 2000000
namespace My
open PySem PySem.Spec PyProof.Rows L2
/-! ### "".join of texts in a comprehension; choices as tuples -/
theorem paired_snocP {α β : Type} {F : α → β → Prop} {a : α} {b : β} (e : F a b) : ∀ {us : List α} {ps : List β}, Paired F us ps → Paired F (us ++ [a]) (ps ++ [b])
  | _, _, .nil => .cons e .nil
  | _, _, .cons f r => .cons f (paired_snocP e r)
end My

set_option Elab.async false
set_option linter.all false
set_option maxRecDepth 100000
set_option maxHeartbeats 2000000
namespace My
open PySem PySem.Spec PyProof.Rows L2
/-! ### things looked at: == of data of any depth with shallow data; any thing in a list of texts -/
/-! ### data under tables that change -/
mutual
theorem Ft.keepG {H H' : Hp} (k1 : ∀ b xs, H b = some (.tup xs) → H' b = some (.tup xs)) (k2 : ∀ b xs, H b = some (.lst xs) → H' b = some (.lst xs)) : ∀ (d : PyData) (v : V), Ft H v d → Ft H' v d
  | .none, _, .non => .non
  | .bool _, _, .bl b => .bl b
  | .int _, _, .int i => .int i
  | .str _, _, .str x => .str x
  | .list ds, _, .lst h a => .lst (k2 _ _ h) (FtA.keepG k1 k2 ds _ a)
  | .tuple ds, _, .tup h a => .tup (k1 _ _ h) (FtA.keepG k1 k2 ds _ a)
theorem FtA.keepG {H H' : Hp} (k1 : ∀ b xs, H b = some (.tup xs) → H' b = some (.tup xs)) (k2 : ∀ b xs, H b = some (.lst xs) → H' b = some (.lst xs)) : ∀ (ds : List PyData) (vs : List V), FtA H vs ds → FtA H' vs ds
  | [], _, .nil => .nil
  | d :: ds, _, .cons h a => .cons (Ft.keepG k1 k2 d _ h) (FtA.keepG k1 k2 ds _ a)
end
theorem Ft.sx {Ps : List Addr} {H H' : Hp} {d : PyData} {v : V} (h : Ft H v d) (t : TG Ps H) (s : Sx Ps H H') : Ft H' v d := Ft.keepG (s.kt t) (fun _ _ e => s.lst t e) d v h
theorem Ft.same {H H' : Hp} {d : PyData} {v : V} (h : Ft H v d) (s : Same H H') : Ft H' v d := Ft.mono s d v h
theorem Ft.to {K : PySem.W.Frag} {H : Hp} {v : V} {d : PyData} (h : Ft H v d) : Dp K H v d := Ft.dp d v h
theorem Ft.open {H : Hp} {v : V} {ds : List PyData} (h : Ft H v (.tuple ds)) : ∃ (a : Addr) (xs : List V), v = .ref a ∧ H a = some (.tup xs) ∧ FtA H xs ds := by
  cases h with
  | tup h a => exact ⟨_, _, rfl, h, a⟩
end My

set_option Elab.async false
set_option linter.all false
set_option maxRecDepth 100000
set_option maxHeartbeats 2000000
namespace My
open PySem PySem.Spec PyProof.Rows L2
/-! ### a dict that is locked while it is walked; free lists as the law's own search has them -/
structure Lock (H HL : Hp) (ba : Addr) (od : Obj) (kvs : List (Key × V)) : Prop where
  here : H ba = some (.dK kvs)
  at' : HL ba = some (.frz od (.dK kvs))
  keep : ∀ b o, b ≠ ba → H b = some o → HL b = some o
theorem Lock.mk' {H : Hp} {ba : Addr} {od : Obj} {kvs : List (Key × V)} (h : H ba = some (.dK kvs)) : Lock H (upd H ba (.frz od (.dK kvs))) ba od kvs := ⟨h, upd_same, fun b o n e => keep_ne e n⟩
section
variable {H HL H' : Hp} {ba : Addr} {od : Obj} {kvs : List (Key × V)}
theorem Lock.neL (l : Lock H HL ba od kvs) {b : Addr} {xs : List V} (h : H b = some (.lst xs)) : b ≠ ba := fun z => by
  rw [z, l.here] at h
  cases h
theorem Lock.neT (l : Lock H HL ba od kvs) {b : Addr} {xs : List V} (h : H b = some (.tup xs)) : b ≠ ba := fun z => by
  rw [z, l.here] at h
  cases h
theorem Lock.kt (l : Lock H HL ba od kvs) : KT H HL := ⟨fun b xs e => l.keep _ _ (l.neT e) e, fun b o xs e => l.keep _ _ (fun z => by rw [z, l.here] at e; cases e) e⟩
theorem Lock.lst (l : Lock H HL ba od kvs) {b : Addr} {xs : List V} (h : H b = some (.lst xs)) : HL b = some (.lst xs) := l.keep _ _ (l.neL h) h
theorem Lock.back (l : Lock H HL ba od kvs) (s : Same HL H') : Same H (upd H' ba (.dK kvs)) := fun b o e => by
  by_cases z : b = ba
  · rw [z, l.here] at e
    rw [z, upd_same]
    exact e
  · rw [upd_ne z]
    exact s _ _ (l.keep _ _ z e)
end
end My

set_option Elab.async false
set_option linter.all false
set_option maxRecDepth 100000
set_option maxHeartbeats 2000000
namespace My
open PySem PySem.Spec PyProof.Rows L2
/-! ### displays and slices whose own object is told; sorted(list of data) -/
def tTupF (t : TA) : TE := fun σ H Q => t σ H fun ys H1 => ys.length ≤ sizeLine ∧ ∀ (l : Addr) (o : Obj), H1 l = none → o.dict = none → Q (.ref l) (upd H1 l (.frz o (.tup ys)))
theorem pe_tupF {X : Cx} {es : List Expr} {t : TA} {n : Nat} {pos : Pos} (h : PA X es t) : PE X (.Tuple es n pos) (tTupF t) := by
  constructor
  intro pins s σ H Q I hq
  have run := h.run pos pins s σ H _ I hq
  refine wpAny_Tuple_spliced (thn run fun us s1 he => ?_)
  obtain ⟨ys, H1, I1, rv, hz, q⟩ := he
  have hu : us.length ≤ sizeLine := by
    have := rv.length
    omega
  refine ⟨hu, ?_⟩
  have new : ObjOk X.prog X.w (upd H1 s1.heap.objs.size (.frz { cls := .type "tuple", data := .seq us.toArray } (.tup ys))) (s1.heap.push { cls := .type "tuple", data := .seq us.toArray }) s1.heap.objs.size (.frz { cls := .type "tuple", data := .seq us.toArray } (.tup ys)) := ⟨Heap.get?_push_size _ rfl, hz, us, rv, IsTup.new _ _⟩
  have I2 := I1.laid (t' := s1.toks) (fun b o e => Heap.get?_push_of_some _ e) (Nat.le_refl _) new
  exact ⟨.ref s1.heap.objs.size, _, I2, rfl, q _ _ (I1.hok.fresh (Nat.le_refl _)) rfl⟩
def rSortDL (K : PySem.W.Frag) {β : Type} (enc : β → PyData) : List V → Hp → VK → Prop := fun xs H Q => ∃ (p : Addr) (bs : List (V × β)), xs = [.ref p] ∧ SqL K H p (bs.map (·.1)) ∧ (∀ b ∈ bs, Dp K H b.1 (enc b.2)) ∧ W.AllAlike (bs.map fun b => enc b.2) ∧ W.Sortable (bs.map fun b => enc b.2) ∧ (∀ b ∈ bs, (enc b.2).depth ≤ 20) ∧
  ∀ l, H l = none → Q (.ref l) (upd H l (.lst ((bs.mergeSort (W.dataLe false fun b => enc b.2)).map (·.1))))
theorem cSortDL (K : PySem.W.Frag) {X : Cx} {β : Type} {enc : β → PyData} {k : Nat} (hr : Room k X.A) (hK : X.K = K := by rfl) : CallR X (.builtin "sorted") (rSortDL K enc) := by
  subst hK
  intro pins s σ H xs us Q I r h
  obtain ⟨p, bs, rfl, hq, hf, hal, hso, hdp, q⟩ := h
  obtain ⟨u, rfl, rx⟩ := vals1 r
  cases rx
  obtain ⟨its, rv, pl, hz⟩ := I.list hq
  have hun := hr.un
  have e : W.EachIs (fun v (b : V × β) => RelV b.1 v) its bs := each_ofB rv fun b _ v h => h
  have er : W.EachIs (fun v (b : V × β) => ∃ as, Reads s.heap v (enc b.2) as) its bs := each_ofB rv fun b hb v h => Dp.reads I _ _ _ (hf b hb) h
  rw [List.length_map] at hz
  refine W.sorted_data (enc := fun b : V × β => enc b.2) pl.isList e er hal hso hz (fun b hb => ?_) fun out ho eo => ?_
  · have := hdp b hb
    show X.A.units + 2 + (enc b.2).depth < cLine
    omega
  · obtain ⟨ep, he⟩ := PyProof.Rows.sortedAll_at s.heap its out.toArray
    have fit : ((bs.mergeSort (W.dataLe false fun b => enc b.2)).map (·.1)).length ≤ sizeLine := by
      rw [List.length_map, List.length_mergeSort]
      exact hz
    have new : ObjOk X.prog X.w (upd H (s.heap.objs.size + 1) (.lst ((bs.mergeSort (W.dataLe false fun b => enc b.2)).map (·.1)))) (sortedAll s.heap its out.toArray) (s.heap.objs.size + 1) (.lst ((bs.mergeSort (W.dataLe false fun b => enc b.2)).map (·.1))) := ⟨fit, out, ep, vals_eachB eo, he⟩
    exact ⟨.ref _, _, I.laid (t' := s.toks) (fun _ _ => PyProof.Rows.sortedAll_old) (Nat.le_succ _) new, rfl, q _ (I.hok.fresh (Nat.le_succ _))⟩
end My

set_option Elab.async false
set_option linter.all false
set_option maxRecDepth 100000
set_option maxHeartbeats 2000000
namespace My
open PySem PySem.Spec PyProof.Rows L2
/-! ### data in a list of data -/
/-! ### questions as data -/
theorem QZ.dp {K : PySem.W.Frag} {H : Hp} {v : V} {es : List (Nat × Int)} {rc : Option (Nat × Int × Int)} (h : QZ H v es rc) : Dp K H v (qD es rc) := by
  obtain ⟨qa, ev, y, rfl, h1, ⟨ea, o, ps, rfl, ho, hea, fps⟩, fy⟩ := h
  exact .tup (.inl (.inl h1)) (.cons (.tup (.inl (.inr ⟨_, hea⟩)) (FzA.dp _ _ fps)) (.cons fy.to .nil))
theorem QA.dp {K : PySem.W.Frag} {H : Hp} {vs : List V} {qs : List Qn} (h : QA H vs qs) : DpAll K H vs (qs.map fun q => qD q.1 q.2) := by
  induction h with
  | nil => exact .nil
  | cons h1 _ ih => exact .cons h1.dp ih
/-! ### how many rows fit; the lists of a choice -/
end My

set_option Elab.async false
set_option linter.all false
set_option maxRecDepth 100000
set_option maxHeartbeats 2000000
namespace My
open PySem PySem.Spec PyProof.Rows L2
/-! ### dict(enumerate(tuple)): a turn of enumerate while its last pair T is still out -/
section
variable {prog : Program} {w : World} {A : Around} {E : Value → Shared → Prop} {s : Shared} {e it T : Addr} {fp : List Addr} {n i : Nat} {c : Int} {P : Nat → Value → Prop} {St : Nat → Heap → Prop} {old : Value} {f : Bool} {oT : Obj}
theorem enum_turn {Q : Value → Shared → Prop} (D : Draws prog w A it fp n P St) (he : IsEnumHeld s.heap e it c old T f) (hT : s.heap.get? T = some oT) (nT : T ∉ [e, it]) (st : St i s.heap) (lt : i < n) (hei : e ≠ it) (hef : e ∉ fp)
    (go : ∀ x h' tk t, P i x → IsEnumHeld h' e it (c + 1) old T true → St (i + 1) h' → IsTupOf2 h' s.heap.objs.size (.int c t) x → But [e, it] s.heap h' → Q (.ref s.heap.objs.size) { s with heap := h', toks := tk }) :
    wpAny (model prog w) A (Builtin.«enumerate.__next__» ⟨[.ref e], []⟩) (fun fin s' => ∃ v, fin = .done (.ret v) ∧ Q v s') E s := by
  have me : e ∈ [e, it] := by simp
  have mi : it ∈ [e, it] := by simp
  refine wpAny_bind (m := field (.ref e) 2) (wpAny_field he rfl (x := .ref it) rfl (wpAny_bind (m := Builtin.SmallTypes.nextOf (.ref it)) (D.item i s _ _ lt st fun x h1 t1 px s1 k1 => ?_)))
  have e1 : IsEnumHeld h1 e it c old T f := k1.extBut _ _ hei he
  have b1 : But [e, it] s.heap h1 := But.one mi k1.extBut
  refine wpAny_bind (m := field (.ref e) 3) (wpAny_field (s := { s with heap := h1, toks := t1 }) e1 rfl (x := rawInt c) rfl (wpAny_bind (m := field (.ref e) 4) (wpAny_field (s := { s with heap := h1, toks := t1 }) e1 rfl (x := .none) rfl (wpAny_bind (m := mkInt c) (wpAny_mkInt ?_)))))
  refine wpAny_bind (m := setField (.ref e) 3 (rawInt (c + 1))) (wpAny_setField_rec (s := { s with heap := h1, toks := t1 + 1 }) e1 (by simp) fun h2 e2 k2 => ?_)
  have e2' : IsEnumHeld h2 e it (c + 1) old T f := e2
  refine wpAny_bind (m := setField (.ref e) 4 .none) (wpAny_setField_rec (s := { s with heap := h2, toks := t1 + 1 }) e2' (by simp) fun h3 e3 k3 => ?_)
  have e3' : IsEnumHeld h3 e it (c + 1) old T f := e3
  have b3 : But [e, it] s.heap h3 := (b1.then (But.one me k2.extBut)).then (But.one me k3.extBut)
  have z3 : h3.objs.size = s.heap.objs.size := k3.1.trans (k2.1.trans k1.1)
  refine wpAny_bind (m := newTuple [.int c t1, x]) (wpAny_newTuple (wpAny_bind (m := Builtin.SmallTypes.ownedTupleIsFree (.ref e)) ?_))
  have tup : IsTupOf2 (h3.push { cls := .type "tuple", data := .seq #[.int c t1, x] }) h3.objs.size (.int c t1) x := Heap.get?_push_size _ rfl
  refine wpAny_tupleHeld_enum (s := { s with heap := h3.push { cls := .type "tuple", data := .seq #[.int c t1, x] }, toks := t1 + 1 }) (Heap.get?_push_of_some _ e3') (Heap.get?_push_of_some _ (b3 _ _ nT hT)) fun h4 e4 k4 => ?_
  refine (if_neg Bool.false_ne_true).symm ▸ wpAny_pure ⟨_, rfl, ?_⟩
  rw [z3] at tup ⊢
  have ne : s.heap.objs.size ≠ e := Nat.ne_of_gt (Heap.lt_size he)
  have st3 : St (i + 1) h4 := D.frame _ _ _ s1 fun b hb o q => by
    have be : b ≠ e := fun z => hef (z ▸ hb)
    exact k4.extBut _ _ be (Heap.get?_push_of_some _ (k3.extBut _ _ be (k2.extBut _ _ be q)))
  exact go x h4 (t1 + 1) t1 px e4 st3 (k4.extBut _ _ ne tup) (b3.push.then (But.one me k4.extBut))
end
section
variable {prog : Program} {w : World} {e it t d : Addr} {items : Array Value} {i : Nat}
/-- i pairs of enumerate over the tuple t were drawn; d: the dict that takes them -/
structure ET (e it t d : Addr) (items : Array Value) (i : Nat) (h : Heap) : Prop where
  pos : h.IsTupleIter it t i
  src : h.IsTuple t items
  own : (∃ old, IsEnum h e it i old) ∨ ∃ old T f oT, IsEnumHeld h e it i old T f ∧ h.get? T = some oT ∧ T ∉ [d, e, it]
theorem tupIter_kept {h h' : Heap} {a t : Addr} {i : Nat} (x : h.IsTupleIter a t i) (k : ∀ o, h.get? a = some o → h'.get? a = some o) : h'.IsTupleIter a t i := by
  obtain ⟨o, ho, r⟩ := x
  exact ⟨o, k o ho, r⟩
theorem tup_kept {h h' : Heap} {t : Addr} {items : Array Value} (x : h.IsTuple t items) (k : ∀ o, h.get? t = some o → h'.get? t = some o) : h'.IsTuple t items := by
  obtain ⟨o, ho, r⟩ := x
  exact ⟨o, k o ho, r⟩
theorem ET.kept {h h' : Heap} (x : ET e it t d items i h) (hd : d ∉ [e, it, t]) (k : ∀ b o, b ≠ d → h.get? b = some o → h'.get? b = some o) : ET e it t d items i h' := by
  have ne : ∀ b, b ∈ [e, it, t] → b ≠ d := fun b hb z => hd (z ▸ hb)
  refine ⟨tupIter_kept x.pos fun o => k _ o (ne _ (by simp)), tup_kept x.src fun o => k _ o (ne _ (by simp)), ?_⟩
  rcases x.own with ⟨old, q⟩ | ⟨old, T, f, oT, q, p, n⟩
  · exact .inl ⟨old, k _ _ (ne _ (by simp)) q⟩
  · exact .inr ⟨old, T, f, oT, k _ _ (ne _ (by simp)) q, k _ _ (fun z => n (by simp [z])) p, n⟩
theorem ET.next {A : Around} {s : Shared} {Q : Option Value → Shared → Prop} {E : Value → Shared → Prop} (hA : A.handled = none) (hei : e ≠ it) (hte : t ≠ e) (hti : t ≠ it) (hd : i < items.size → d ≠ s.heap.objs.size) (x : ET e it t d items i s.heap) (hx : i ≤ items.size)
    (go : i < items.size → ∀ k v h' tk, (∃ u, k = .int i u) → items[i]? = some v → IsTupOf2 h' s.heap.objs.size k v → ET e it t d items (i + 1) h' → But [e, it] s.heap h' → Q (some (.ref s.heap.objs.size)) { s with heap := h', toks := tk })
    (stop : i = items.size → ∀ h' tk, But [e, it] s.heap h' → Q none { s with heap := h', toks := tk }) : wpAny (model prog w) A (pyNext (.ref e)) Q E s := by
  have D : Draws prog w A.in1 it [it, t] items.size (fun i v => items[i]? = some v) (fun i h => h.IsTupleIter it t i ∧ h.IsTuple t items) := Draws.tuple (A := A.in1) (show A.in1.handled = none from hA) it t hti items
  have hef : e ∉ [it, t] := by
    simp only [List.mem_cons, List.not_mem_nil, or_false, not_or]
    exact ⟨hei, fun z => hte z.symm⟩
  have there : ∀ {b : Addr} {o : Obj}, s.heap.get? b = some o → s.heap.objs.size ≠ b := fun q => Nat.ne_of_gt (Heap.lt_size q)
  have hit : ∃ o, s.heap.get? it = some o := let ⟨o, ho, _⟩ := x.pos; ⟨o, ho⟩
  obtain ⟨oi, hoi⟩ := hit
  have cast : ((i + 1 : Nat) : Int) = (i : Int) + 1 := by omega
  by_cases g : i < items.size
  · rcases x.own with ⟨old, q⟩ | ⟨old, T, f, oT, q, p, n⟩
    · refine wpAny_pyNext_enum_itemD D q ⟨x.pos, x.src⟩ g hei hef fun v h' tk px ho st hT hsz hk => ?_
      refine go g (.int i tk) v h' (tk + 1) ⟨tk, rfl⟩ px hT ⟨st.1, st.2, .inr ⟨v, s.heap.objs.size, false, _, by rw [cast]; exact ho, hT, ?_⟩⟩ fun b o hb q => ?_
      · simp only [List.mem_cons, List.not_mem_nil, or_false, not_or]
        exact ⟨fun z => hd g z.symm, there q, there hoi⟩
      · simp only [List.mem_cons, List.not_mem_nil, or_false, not_or] at hb
        exact hk b o hb.1 hb.2 q
    · have ty : s.TypeIs (.ref e) "enumerate" := ⟨_, q, rfl⟩
      unfold pyNext
      refine wpAny_bind (wpAny_attempt (wpAny_callSpecial?_slot (name := Str.ofString "__next__") ty F.slot_enumerate_next (wpAny_call_entry F.slot_enumerate_next ty F.entry_enumerate_next (enum_turn D q p (fun z => n (List.mem_cons_of_mem _ z)) ⟨x.pos, x.src⟩ g hei hef fun v h' tk u px ho st tup k => wpAny_pure ?_) (F.args_enumerate_next_1 _))))
      have nT : T ∉ [e, it] := fun z => n (List.mem_cons_of_mem _ z)
      exact go g (.int i u) v h' tk ⟨u, rfl⟩ px tup ⟨st.1, st.2, .inr ⟨old, T, true, oT, by rw [cast]; exact ho, k _ _ nT p, n⟩⟩ k
  · have ei : i = items.size := by omega
    subst ei
    rcases x.own with ⟨old, q⟩ | ⟨old, T, f, oT, q, p, n⟩
    · exact wpAny_pyNext_enum_endD D q ⟨x.pos, x.src⟩ fun h' k => stop rfl h' s.toks (But.one (by simp) k)
    · have ty : s.TypeIs (.ref e) "enumerate" := ⟨_, q, rfl⟩
      unfold pyNext
      refine wpAny_bind (wpAny_attempt (wpAny_callSpecial?_slot (name := Str.ofString "__next__") ty F.slot_enumerate_next (wpAny_call_entry F.slot_enumerate_next ty F.entry_enumerate_next ?_ (F.args_enumerate_next_1 _))))
      refine wpAny_bind (m := field (.ref e) 2) (wpAny_field q rfl (x := .ref it) rfl (wpAny_bind (m := Builtin.SmallTypes.nextOf (.ref it)) (D.done _ _ _ ⟨x.pos, x.src⟩ fun h' z k hz => ?_)))
      obtain ⟨oz, hoz, hc⟩ := hz
      exact wpAny_bind (wpAny_isInstance (T := "StopIteration") (b := true) ⟨oz, hoz, hc⟩ isSubtype_stop (wpAny_pure (stop rfl h' s.toks (But.one (by simp) k))))
theorem pair_enumT (hei : e ≠ it) (hte : t ≠ e) (hti : t ≠ it) :
    PairArg prog w "enumerate" e [e, it, t] [e, it] items.size (fun i k v => (∃ u, k = .int i u) ∧ items[i]? = some v) (fun h => (∃ old, IsEnum h e it 0 old) ∧ h.IsTupleIter it t 0 ∧ h.IsTuple t items) := by
  refine ⟨fun s ok => let ⟨⟨_, q⟩, _⟩ := ok; ⟨_, q, rfl⟩, by decide, fun h h' ok k => ?_, fun h ok b hb => ?_, fun b hb => ?_, fun A s Q E hA ok q => let ⟨⟨_, z⟩, _⟩ := ok; getAttrOr_miss_enumerate z rfl rfl rfl enumerate_no_keys (by decide +kernel) hA q, fun A s d Q E hA ok hd hn q => ?_⟩
  · obtain ⟨⟨old, a⟩, b, c⟩ := ok
    exact ⟨⟨old, k _ _ a⟩, tupIter_kept b fun o => k _ o, tup_kept c fun o => k _ o⟩
  · obtain ⟨⟨old, a⟩, ⟨o1, b1, _⟩, ⟨o2, c1, _⟩⟩ := ok
    simp only [List.mem_cons, List.not_mem_nil, or_false] at hb
    rcases hb with z | z | z <;> rw [z]
    · exact ⟨_, a⟩
    · exact ⟨_, b1⟩
    · exact ⟨_, c1⟩
  · simp only [List.mem_cons, List.not_mem_nil, or_false] at hb ⊢
    rcases hb with z | z <;> simp [z]
  · obtain ⟨⟨old, a⟩, b, c⟩ := ok
    refine wpAny_pyIter_enum a (q e [e, it] (ET e it t d items) s.heap s.toks ⟨fun hm => hn ?_, fun i h h' st k => st.kept hn k, fun i s1 Q1 E1 hi st hds q1 => ?_, fun s1 Q1 E1 st q1 => ?_⟩ ⟨b, c, .inl ⟨old, a⟩⟩ (fun _ _ z => z) fun c hc => .inl hc)
    · simp only [List.mem_cons, List.not_mem_nil, or_false] at hm ⊢
      rcases hm with z | z <;> simp [z]
    · refine st.next hA hei hte hti (fun _ => Nat.ne_of_lt hds) (by omega) (fun _ k v h' tk hk hv tup st' kk => ?_) fun g => absurd g (by omega)
      exact q1 _ _ _ h' tk ⟨hk, hv⟩ (.inl ⟨_, tup, rfl, _, rfl⟩) st' kk
    · exact ET.next (d := d) hA hei hte hti (fun g => absurd g (by omega)) st (Nat.le_refl _) (fun g => absurd g (by omega)) fun _ h' tk k => q1 h' tk k
end
section
variable {X : Cx}
/-- the entries place: item -/
def enK : Nat → List V → List (Key × V)
  | _, [] => []
  | n, x :: xs => (Sum.inl (n : Int), x) :: enK (n + 1) xs
theorem enK_len : ∀ (xs : List V) (n : Nat), (enK n xs).length = xs.length
  | [], _ => rfl
  | x :: xs, n => congrArg (· + 1) (enK_len xs (n + 1))
theorem enK_at : ∀ (xs : List V) (n i : Nat) (x : V), xs[i]? = some x → (enK n xs)[i]? = some (Sum.inl ((n + i : Nat) : Int), x)
  | [], _, _, _, h => nomatch h
  | y :: xs, n, 0, x, h => by
    cases h
    rfl
  | y :: xs, n, i + 1, x, h => by
    have := enK_at xs (n + 1) i x h
    rw [show n + 1 + i = n + (i + 1) by omega] at this
    exact this
theorem enK_keys : ∀ (xs : List V) (n : Nat), (enK n xs).map (·.1) = (List.range' n xs.length).map fun i : Nat => (Sum.inl (i : Int) : Key)
  | [], _ => rfl
  | x :: xs, n => by
    have := enK_keys xs (n + 1)
    show (Sum.inl (n : Int) : Key) :: (enK (n + 1) xs).map (·.1) = _
    rw [this]
    rfl
theorem enK_nodup (xs : List V) (n : Nat) : ((enK n xs).map (·.1)).Nodup := by
  rw [enK_keys]
  refine List.pairwise_map.mpr ((List.nodup_range' (s := n) (n := xs.length) (step := 1)).imp fun {a b} h z => h ?_)
  have : (a : Int) = (b : Int) := Sum.inl.inj z
  omega
/-- dict(enumerate(t)), t a tuple -/
def tDictEnum (K : PySem.W.Frag) (t : TA) : TE := fun σ H Q => t σ H fun vs H1 => ∃ (a : Addr) (xs : List V), vs = [.ref a] ∧ SqT K H1 a xs ∧ xs.length ≤ 1000 ∧ ∀ p, H1 p = none → Q (.ref p) (upd H1 p (.dK (enK 0 xs)))
theorem pe_dictEnum {e : Expr} {t : TA} {p p2 pos2 pos : Pos} (K : PySem.W.Frag) (hc : X.calm = true) (ha : PA X [e] t) (hgd : Gl X "dict") (hmd : X.mg "dict" = none) (hg : Gl X "enumerate") (hm : X.mg "enumerate" = none) (hK : X.K = K := by rfl)
    (hs : starEach [e] X.env = [(false, eval e X.env)] := by rfl)
    (hs1 : starEach [.Call (.Name "enumerate" p2) [e] [] pos2] X.env = (false, eval (.Call (.Name "enumerate" p2) [e] [] pos2) X.env) :: starEach [] X.env := by rfl) :
    PE X (.Call (.Name "dict" p) [.Call (.Name "enumerate" p2) [e] [] pos2] [] pos) (tDictEnum K t) := by
  subst hK
  refine ⟨fun pins s σ H Q I h => ?_⟩
  refine wpAny_Call_Name_kw (ld_blt I hgd hmd (show bootBuiltins "dict" = some (.type "dict") by decide +kernel) ?_)
  refine PyProof.Rows.callWith_type1 ?_ hs1 rfl
  rw [hs1]
  show wpAny _ _ (spliced ((false, eval (.Call (.Name "enumerate" p2) [e] [] pos2) X.env) :: backTo pos (starEach [] X.env))) _ _ s
  refine Calls.spliced_cons ?_
  refine Call_ (ld_blt I hg hm boot_enumerate (PyProof.Rows.callWith_type1 (thn (ha.run pos2 pins s σ H _ I h) fun us s1 ⟨vs, H1, I1, r1, q1⟩ => ?_) hs rfl))
  obtain ⟨a, xs, rfl, hq, hxl, q⟩ := q1
  obtain ⟨u, rfl, ru⟩ := vals1 r1
  cases ru
  obtain ⟨its, rv, pl, hz⟩ := I1.tuple hq
  obtain ⟨oa, hoa, _⟩ := id pl
  have hal : (a : Nat) < s1.heap.objs.size := Heap.lt_size hoa
  refine call_enumT pl fun h' he hit hk => ?_
  have I2 : Inv X pins σ H1 { s1 with heap := h' } := I1.kept (t' := s1.toks) hk
  refine Calls.spliced_nil ?_
  have il : its.toArray.size = xs.length := by
    rw [List.size_toArray, ← rv.length]
  refine call_dict_loose (kvs := enK 0 xs) (pair_enumT (t := a) (items := its.toArray) (Nat.succ_ne_self s1.heap.objs.size) (fun z => absurd hal (by rw [z]; exact Nat.not_lt.mpr (Nat.le_succ _))) fun z => absurd hal (by rw [z]; exact Nat.lt_irrefl _)) (I2.ok.hd hc) ⟨⟨_, he⟩, hit, tup_kept pl fun o => hk _ o⟩ (by rw [enK_len, il]) (fun i key v hr => ?_) (by rw [il]; have := small1000 hxl; omega) fun h2' tk vs kv hd hk2 => ?_
  · obtain ⟨⟨u, rfl⟩, hv⟩ := hr
    have hv2 : its[i]? = some v := by simpa using hv
    have hi : i < xs.length := by
      rw [rv.length]
      exact (List.getElem?_eq_some_iff.mp hv2).1
    obtain ⟨v', hv', rr⟩ := rv.get (List.getElem?_eq_getElem hi)
    rw [hv2] at hv'
    cases hv'
    refine ⟨_, _, enK_at xs 0 i _ (List.getElem?_eq_getElem hi), ?_, rr⟩
    simp [keyIs, Value.isInt]
  · have hlen : (mergeK [] (enK 0 xs)).length ≤ sizeLine := by
      have z := length_mergeK (enK 0 xs) []
      rw [List.length_nil, Nat.zero_add, enK_len] at z
      have := small1000 hxl
      omega
    have hm2 : (h'.objs.size == sysModules) = false := beq_eq_false_iff_ne.mpr (Nat.ne_of_gt I2.big)
    have keep : ∀ c o, s1.heap.get? c = some o → h2'.get? c = some o := fun c o e => by
      have hlt : (c : Nat) < s1.heap.objs.size := Heap.lt_size e
      refine hk2 c o (fun hm => ?_) (hk c o e)
      simp only [List.mem_cons, List.not_mem_nil, or_false] at hm
      rcases hm with z | z
      · exact absurd hlt (by rw [z]; exact Nat.not_lt.mpr (Nat.le_succ _))
      · exact absurd hlt (by rw [z]; exact Nat.lt_irrefl _)
    have hle : s1.heap.objs.size ≤ h'.objs.size := Nat.le_of_lt (Nat.lt_of_succ_lt (Heap.lt_size he))
    have new : ObjOk X.prog X.w (upd H1 h'.objs.size (.dK (mergeK [] (enK 0 xs)))) h2' h'.objs.size (.dK (mergeK [] (enK 0 xs))) := ⟨hlen, hm2, merged [] vs, KV.merge kv .nil, hd⟩
    have I3 := I1.laid (t' := tk) keep hle new
    refine ⟨.ref h'.objs.size, _, I3, rfl, ?_⟩
    rw [merge_new _ [] (by rw [List.nil_append]; exact enK_nodup xs 0), List.nil_append]
    exact q _ (I1.hok.fresh hle)
end
end My

set_option Elab.async false
set_option linter.all false
set_option maxRecDepth 100000
set_option maxHeartbeats 2000000
namespace My
open PySem PySem.Spec PyProof.Rows L2
section
variable {X : Cx}
/-- a tracked dict as it lies in memory -/
structure DkAt (X : Cx) (h : Heap) (d : Addr) (kvs : List (Key × V)) (vs : List (Key × Value)) (ep : Nat) : Prop where
  rel : KV kvs vs
  len : vs.length = kvs.length
  fit : vs.length ≤ sizeLine
  own : (d == sysModules) = false
  lies : h.DictAt (mixKind X.prog X.w) d vs ep
theorem dk_at {pins : List (Addr × Obj)} {σ : L2.St} {H : Hp} {s : Shared} (I : Inv X pins σ H s) {d : Addr} {kvs : List (Key × V)} (h : H d = some (.dK kvs)) : ∃ vs ep, DkAt X s.heap d kvs vs ep := by
  have ⟨z, m, vs, r, o⟩ := I.hok d _ h
  have ⟨ep, lies⟩ := o.dictAt
  have l : vs.length = kvs.length := (Paired.length r).symm
  exact ⟨vs, ep, r, l, l ▸ z, m, lies⟩
/-! ### d != {} -/
def rNeD0 : R2 := fun x y H Q => ∃ (d e : Addr) (kvs : List (Key × V)), x = .ref d ∧ y = .ref e ∧ H d = some (.dK kvs) ∧ H e = some (.dK []) ∧ Q (.bl (!kvs.isEmpty)) H
theorem neD0 (hu : X.A.units + 64 < cLine) : OpR X (compareOp .NotEq) rNeD0 := by
  intro pins s σ H x y v u Q I rx ry h
  obtain ⟨d, e, kvs, rfl, rfl, hd, he, q⟩ := h
  obtain rfl : v = Value.ref d := rx
  obtain rfl : u = Value.ref e := ry
  have ⟨vs, _, D⟩ := dk_at I hd
  have ⟨us, _, G⟩ := dk_at I he
  have us0 : us = [] := List.length_eq_zero_iff.mp G.len
  have same : (vs.length == us.length && true) = kvs.isEmpty := by
    rw [Bool.and_true, D.len, G.len]
    cases kvs <;> rfl
  refine PySem.W.keq_ne (r := true) D.own G.own D.lies.dictOf G.lies.dictOf (by omega) (fun hl => ?_) ⟨.bl _, H, I, rfl, ?_⟩
  · rw [us0] at hl
    rw [List.length_eq_zero_iff.mp hl]
    exact .nil
  · rw [same]
    exact q
/-! ### [*d, ..] -/
theorem keys_rel {kvs : List (Key × V)} {vs : List (Key × Value)} (kv : KV kvs vs) : ∀ {us : List Value}, us.length = kvs.length → (∀ (i : Nat) (v : Value), us[i]? = some v → ∃ k x, vs[i]? = some (k, x) ∧ keyIs k v = true) → Vals (kvs.map fun p => kV p.1) us := by
  induction kv with
  | nil =>
    intro us hl g
    cases us with
    | nil => exact .nil
    | cons _ _ => cases hl
  | @cons p r _ _ e t ih =>
    intro us hl g
    cases us with
    | nil => cases hl
    | cons u us =>
      obtain ⟨k, x, e1, e2⟩ := g 0 u rfl
      have e3 : r = (k, x) := Option.some.inj e1
      have e4 : p.1 = k := by rw [e.1, e3]
      have hd : RelV (kV p.1) u := by
        rcases keyIs_shape e2 with ⟨i, t, e5, e6⟩ | ⟨z, t, e5, e6⟩
        · rw [e4, e5, e6]
          exact ⟨t, rfl⟩
        · rw [e4, e5, e6]
          exact ⟨t, rfl⟩
      exact .cons hd (ih (by simpa using hl) fun i v hv => g (i + 1) v hv)
def tStarD (te : TE) (t : TA) : TA := fun σ H Q => te σ H fun x H1 => ∃ (d : Addr) (kvs : List (Key × V)), x = .ref d ∧ H1 d = some (.dK kvs) ∧ t σ H1 fun ys H2 => Q (kvs.map (fun p => kV p.1) ++ ys) H2
theorem paStarD {e : Expr} {te : TE} {es : List Expr} {t : TA} {p : Pos} (hc : X.calm = true) (he : PE X e te) (hr : PA X es t) (hs : starEach (.Starred e p :: es) X.env = (true, eval e X.env) :: starEach es X.env := by rfl) : PA X (.Starred e p :: es) (tStarD te t) := by
  refine ⟨fun pos pins s σ H Q I h => ?_⟩
  refine PySem.W.items_star (thn (he.run pins s σ H _ I h) fun v s1 ⟨x, H1, I1, rx, d, kvs, ex, hd, q⟩ => ?_) hs
  subst ex
  obtain rfl : v = Value.ref d := rx
  have ⟨vs, ep, D⟩ := dk_at I1 hd
  unfold PySem.W.StarOf
  rw [notIterableAtAll]
  refine wpAny_bind (wpAny_specialOf D.lies.dictOf.typeIs PySem.F.slot_dict_iter.lookup (wpAny_pure ⟨rfl, ?_⟩))
  refine PySem.W.kdu_collect (PySem.W.kdl_dict D.own) (I1.ok.hd hc) D.lies D.fit fun h' tk acc hk hacc => ?_
  have I2 : Inv X pins σ H1 { s1 with heap := h', toks := tk } := I1.kept (t' := tk) hk
  have rv : Vals (kvs.map fun p => kV p.1) acc.toList := keys_rel D.rel (by rw [Array.length_toList, hacc.1, D.len]) fun i v hv => hacc.2 i v (by rw [← Array.getElem?_toList]; exact hv)
  exact thn (hr.run pos pins _ σ H1 _ I2 q) fun ws s3 ⟨ys, H3, I3, r3, q3⟩ => ⟨_, H3, I3, rv.append r3, q3⟩
/-! ### tuple(d.values()) -/
section
variable {prog : Program} {w : World} {A : Around} {E : Value → Shared → Prop} {s : Shared} {T : String} {r d : Addr} {n : Nat} {P : Nat → Value → Prop} {OK : Heap → Prop}
theorem meets_tuple_src (K : PySem.W.KdlSrc prog w T r d n P OK) (hn : n ≤ sizeLine) :
    MeetsIn prog w (Builtin.«tuple.__new__» ⟨[.type "tuple", .ref r], []⟩) (fun A R s => A.handled = none ∧ OK s.heap ∧ ∀ (h' : Heap) (tk : Nat) (acc : Array Value), (∀ b o, s.heap.get? b = some o → h'.get? b = some o) → ItemsOf P acc n → R (.ok (.ret (.ref h'.objs.size))) { s with heap := h'.push { cls := .type "tuple", data := .seq acc }, toks := tk }) :=
  .of_wp fun A R s ⟨hh, ok, h⟩ => by
    have hsub := sub_tuple_self
    have hinit := init_tuple_lookup
    have hmh := madeHere_tuple
    have hT := K.type s ok
    wp_walk using wpAny_typeOf hT
    rw [K.notTuple, if_neg Bool.false_ne_true]
    refine wpAny_bind (PySem.W.kdu_collect K hh ok hn fun h' tk acc hk hacc => ?_)
    show wpAny _ _ (Builtin.Tuple.tupleExact acc.toList.toArray >>= fun v => ret v) _ _ _
    unfold Builtin.Tuple.tupleExact
    refine wpAny_bind (wpAny_newObj_type ?_ (by show acc.toList.toArray.size ≤ sizeLine; rw [Array.toArray_toList, hacc.1]; exact hn))
    refine wpAny_pure ⟨_, rfl, ?_⟩
    rw [Array.toArray_toList]
    exact h h' tk acc hk hacc
theorem call_tuple_src {Q : Value → Shared → Prop} (K : PySem.W.KdlSrc prog w T r d n P OK) (hn : n ≤ sizeLine) (hh : A.handled = none) (ok : OK s.heap)
    (h : ∀ (h' : Heap) (tk : Nat) (acc : Array Value), (∀ b o, s.heap.get? b = some o → h'.get? b = some o) → ItemsOf P acc n → Q (.ref h'.objs.size) { s with heap := h'.push { cls := .type "tuple", data := .seq acc }, toks := tk }) :
    wpAny (model prog w) A (call (.type "tuple") [.ref r]) Q E s :=
  callType_newIn F.called_tuple (by decide) (F.typeCall_tuple_1 _) (F.newCall_tuple_1 _) (fun obj => F.args_object_init_2 obj _) F.entry_tuple_new (meets_tuple_src K hn) ⟨hh, ok, fun h' tk acc hk hacc => ⟨⟨_, Heap.get?_push_size _ rfl, rfl⟩, h h' tk acc hk hacc⟩⟩
end
def tTupVals (te : TE) : TE := fun σ H Q => te σ H fun x H1 => ∃ (d : Addr) (kvs : List (Key × V)), x = .ref d ∧ H1 d = some (.dK kvs) ∧ ∀ p, H1 p = none → Q (.ref p) (upd H1 p (.tup (kvs.map (·.2))))
theorem pe_tupVals {e : Expr} {te : TE} {p apos cpos pos : Pos} (hc : X.calm = true) (he : PE X e te) (hg : Gl X "tuple") (hm : X.mg "tuple" = none) (hv : bootBuiltins "tuple" = some (.type "tuple") := by decide +kernel) (hbase : attributeBase e "values" X.env (eval e X.env) = eval e X.env := by rfl) (hline : (apos.endLine == cpos.line) = true := by rfl)
    (hs : starEach [.Call (.Attribute e "values" apos) [] [] cpos] X.env = (false, eval (.Call (.Attribute e "values" apos) [] [] cpos) X.env) :: starEach [] X.env := by rfl) :
    PE X (.Call (.Name "tuple" p) [.Call (.Attribute e "values" apos) [] [] cpos] [] pos) (tTupVals te) := by
  constructor
  intro pins s σ H Q I hq
  refine wpAny_Call_Name_kw (ld_blt I hg hm hv (PyProof.Rows.callWith_type1 ?_ hs rfl))
  rw [hs]
  refine Calls.spliced_cons (rest := backTo pos (starEach [] X.env)) ?_
  refine wpAny_Call_method (T := "dict") (id := "dict.values") hbase rfl hline F.plainAttrs_dict F.slot_dict_values F.type_dict_values (thn (he.run pins s σ H _ I hq) fun u s1 hh => ?_)
  obtain ⟨x, H1, I1, rx, d, kvs, rfl, hd, q⟩ := hh
  cases rx
  have ⟨vs, ep, D⟩ := dk_at I1 hd
  have dof := D.lies.dictOf
  refine ⟨dof.typeIs, dof.mapOf.noDict, method_meetsIn F.slot_dict_values F.entry_dict_values rfl (PySem.evalArgs_none ⟨rfl, dof.typeIs, F.args_dict_values_1 _, _, meets_dict_values (mixKind X.prog X.w) d D.own, ⟨vs, dof⟩, Calls.spliced_nil ?_⟩)⟩
  -- the view, then the tuple of what it gives
  have I2 : Inv X pins σ H1 { s1 with heap := s1.heap.push { cls := .type "dict_values", data := .fields #[.ref d] } } := I1.kept (t' := s1.toks) fun _ _ => Heap.get?_push_of_some _
  refine call_tuple_src (PySem.W.kdl_values (kvs := vs) (ep := ep)) D.fit (I1.ok.hd hc) ⟨⟨_, Heap.get?_push_size _ rfl, rfl, rfl⟩, D.lies.push _⟩ fun h' tk acc hk hacc => ?_
  have ev : acc.toList = vs.map (·.2) := PySem.W.kdl_vals_eq _ (Array.length_toList.trans hacc.1) fun j v e => hacc.2 j v (Array.getElem?_toList.symm.trans e)
  have I3 : Inv X pins σ H1 { s1 with heap := h', toks := tk } := I2.kept (t' := tk) hk
  have fit : (kvs.map (·.2)).length ≤ sizeLine := by
    rw [List.length_map, ← D.len]
    exact D.fit
  have lies : IsTup (h'.push { cls := .type "tuple", data := .seq acc }) h'.objs.size acc.toList.toArray := by
    rw [Array.toArray_toList]
    exact IsTup.new h' acc
  have I4 := I3.laid (t' := tk) (o := .tup (kvs.map (·.2))) (fun b o e => Heap.get?_push_of_some _ e) (Nat.le_refl _) ⟨fit, acc.toList, vals_at D.rel ev, lies⟩
  exact ⟨.ref h'.objs.size, _, I4, rfl, q _ (I3.hok.fresh (Nat.le_refl _))⟩
end
end My

set_option Elab.async false
set_option linter.all false
set_option maxRecDepth 100000
set_option maxHeartbeats 2000000
namespace My
open PySem PySem.Spec PyProof.Rows L2
/-! ### rows by their numbers, as a dict holds them -/
abbrev Nmd := List (Nat × List Int)
abbrev nKy (n : Nat) : Key := Sum.inl (n : Int)
theorem nKy_inj {a b : Nat} (h : nKy a = nKy b) : a = b := by
  have : (a : Int) = (b : Int) := Sum.inl.inj h
  omega
inductive NmK (H : Hp) : List (Key × V) → Nmd → Prop
  | nil : NmK H [] []
  | cons {n : Nat} {r : List Int} {v : V} {kvs : List (Key × V)} {th : Nmd} : Fz H v (rowD r) → NmK H kvs th → NmK H ((nKy n, v) :: kvs) ((n, r) :: th)
section
variable {H H' : Hp} {kvs : List (Key × V)} {th : Nmd}
theorem NmK.kt (h : NmK H kvs th) (k : Kt H H') : NmK H' kvs th := by
  induction h with
  | nil => exact .nil
  | cons f _ ih => exact .cons (f.kt k) ih
theorem NmK.len (h : NmK H kvs th) : kvs.length = th.length := by
  induction h with
  | nil => rfl
  | cons _ _ ih => rw [List.length_cons, List.length_cons, ih]
theorem NmK.keys (h : NmK H kvs th) : kvs.map (·.1) = th.map fun x => nKy x.1 := by
  induction h with
  | nil => rfl
  | cons _ _ ih => rw [List.map_cons, List.map_cons, ih]
theorem NmK.vals (h : NmK H kvs th) : FzA H (kvs.map (·.2)) ((th.map (·.2)).map rowD) := by
  induction h with
  | nil => exact .nil
  | cons f _ ih => exact .cons f ih
theorem NmK.none (h : NmK H kvs th) {n : Nat} (hn : n ∉ th.map (·.1)) : valV kvs (nKy n) = Option.none := by
  refine valV_none ?_
  rw [h.keys]
  intro z
  obtain ⟨x, hx, e⟩ := List.mem_map.mp z
  exact hn (nKy_inj e ▸ List.mem_map.mpr ⟨x, hx, rfl⟩)
theorem NmK.at' (h : NmK H kvs th) : ∀ {n : Nat} {r : List Int}, (th.map (·.1)).Nodup → (n, r) ∈ th → ∃ v, valV kvs (nKy n) = some v ∧ Fz H v (rowD r) := by
  induction h with
  | nil => intro n r _ hm; cases hm
  | @cons n' r' v kvs' th' f _ ih =>
    intro n r nd hm
    rw [List.map_cons, List.nodup_cons] at nd
    rcases List.mem_cons.mp hm with z | z
    · cases z
      exact ⟨v, valV_pos rfl, f⟩
    · have ne : n' ≠ n := fun e => nd.1 (e ▸ List.mem_map.mpr ⟨(n, r), z, rfl⟩)
      obtain ⟨u, hu, fu⟩ := ih nd.2 z
      exact ⟨u, by rw [valV_neg (fun e => ne (nKy_inj e))]; exact hu, fu⟩
theorem NmK.snoc (h : NmK H kvs th) {n : Nat} {r : List Int} {v : V} (f : Fz H v (rowD r)) : NmK H (kvs ++ [(nKy n, v)]) (th ++ [(n, r)]) := by
  induction h with
  | nil => exact .cons f .nil
  | cons g _ ih => exact .cons g ih
theorem NmK.put (h : NmK H kvs th) {n : Nat} {r : List Int} {v : V} (f : Fz H v (rowD r)) (hn : n ∉ th.map (·.1)) : NmK H (putK kvs (nKy n) v) (th ++ [(n, r)]) := by
  rw [putK_new v (h.none hn)]
  exact h.snoc f
/-- without the row of the number g -/
def outT (th : Nmd) (g : Nat) : Nmd := th.filter fun x => decide (x.1 ≠ g)
theorem NmK.drop (h : NmK H kvs th) (g : Nat) : NmK H (dropK kvs (nKy g)) (outT th g) := by
  unfold dropK outT
  induction h with
  | nil => exact .nil
  | @cons n' r' v kvs' th' f _ ih =>
    rw [List.filter_cons, List.filter_cons]
    by_cases e : n' = g
    · rw [if_neg (by simp [e]), if_neg (by simp [e])]
      exact ih
    · have e2 : ¬ (nKy n' = nKy g) := fun z => e (nKy_inj z)
      rw [if_pos (by simpa using e2), if_pos (by simpa using e)]
      exact .cons f ih
/-- rows numbered from n -/
def thN : Nat → List (List Int) → Nmd
  | _, [] => []
  | n, r :: rs => (n, r) :: thN (n + 1) rs
theorem NmK.en : ∀ {rows : List (List Int)} {vs : List V} (n : Nat), FzA H vs (rows.map rowD) → NmK H (enK n vs) (thN n rows)
  | [], _, _, .nil => .nil
  | r :: rs, _, n, .cons f a => .cons f (NmK.en (n + 1) a)
theorem thN_rows : ∀ (rows : List (List Int)) (n : Nat), (thN n rows).map (·.2) = rows
  | [], _ => rfl
  | r :: rs, n => congrArg (r :: ·) (thN_rows rs (n + 1))
theorem thN_len (rows : List (List Int)) (n : Nat) : (thN n rows).length = rows.length := by
  have := congrArg List.length (thN_rows rows n)
  rw [List.length_map] at this
  exact this
theorem thN_nums : ∀ (rows : List (List Int)) (n : Nat), (thN n rows).map (·.1) = List.range' n rows.length
  | [], _ => rfl
  | r :: rs, n => congrArg (n :: ·) (thN_nums rs (n + 1))
/-- what is right of the rows that are there -/
structure NmOk (w : Nat) (th : Nmd) (n : Nat) : Prop where
  up : (th.map (·.1)).Pairwise (· < ·)
  lt : ∀ x ∈ th, x.1 < n
  row : ∀ x ∈ th, RowOk w x.2
theorem NmOk.nd {w n : Nat} (h : NmOk w th n) : (th.map (·.1)).Nodup := h.up.imp fun {a b} z => by omega
theorem NmOk.new {w n : Nat} (h : NmOk w th n) : n ∉ th.map (·.1) := fun z => by
  obtain ⟨x, hx, e⟩ := List.mem_map.mp z
  have := h.lt x hx
  omega
theorem NmOk.put {w n : Nat} (h : NmOk w th n) {r : List Int} (hr : RowOk w r) : NmOk w (th ++ [(n, r)]) (n + 1) := by
  refine ⟨?_, fun x hx => ?_, fun x hx => ?_⟩
  · rw [List.map_append, List.pairwise_append]
    refine ⟨h.up, List.pairwise_singleton _ _, fun a ha b hb => ?_⟩
    obtain ⟨x, hx, rfl⟩ := List.mem_map.mp ha
    rw [List.mem_singleton.mp hb]
    exact h.lt x hx
  · rcases List.mem_append.mp hx with z | z
    · have := h.lt x z
      omega
    · rw [List.mem_singleton.mp z]
      exact Nat.lt_succ_self n
  · rcases List.mem_append.mp hx with z | z
    · exact h.row x z
    · rw [List.mem_singleton.mp z]
      exact hr
theorem NmOk.out {w n : Nat} (h : NmOk w th n) (g : Nat) : NmOk w (outT th g) n :=
  ⟨List.Pairwise.sublist (List.filter_sublist.map _) h.up, fun x hx => h.lt x (List.mem_filter.mp hx).1, fun x hx => h.row x (List.mem_filter.mp hx).1⟩
theorem NmOk.start {w : Nat} {rows : List (List Int)} (h : RowsOk w rows) : NmOk w (thN 0 rows) rows.length := by
  refine ⟨?_, fun x hx => ?_, fun x hx => ?_⟩
  · rw [thN_nums]
    exact List.pairwise_lt_range'
  · have : x.1 ∈ (thN 0 rows).map (·.1) := List.mem_map.mpr ⟨x, hx, rfl⟩
    rw [thN_nums, List.mem_range'] at this
    obtain ⟨i, hi, e⟩ := this
    omega
  · have : x.2 ∈ (thN 0 rows).map (·.2) := List.mem_map.mpr ⟨x, hx, rfl⟩
    rw [thN_rows] at this
    exact h _ this
theorem NmOk.rows {w n : Nat} (h : NmOk w th n) : RowsOk w (th.map (·.2)) := fun r hr => by
  obtain ⟨x, hx, rfl⟩ := List.mem_map.mp hr
  exact h.row x hx
end
/-! ### the numbers sorted by a list -/
section
variable {cols one : List Nat}
def ltE (cols one : List Nat) (a b : Nat × List Int) : Prop := keyM cols a.2 one < keyM cols b.2 one ∨ (keyM cols a.2 one = keyM cols b.2 one ∧ a.1 < b.1)
theorem ltE.asymm {a b : Nat × List Int} (h : ltE cols one a b) (g : ltE cols one b a) : False := by
  rcases h with h | ⟨h, h'⟩ <;> rcases g with g | ⟨g, g'⟩
  · exact List.lt_irrefl _ (List.lt_trans h g)
  · rw [g] at h
    exact List.lt_irrefl _ h
  · rw [h] at g
    exact List.lt_irrefl _ g
  · omega
/-- ns: the numbers of the rows th, sorted by the list one and by themselves -/
def IsOrd (cols : List Nat) (th : Nmd) (one ns : List Nat) : Prop := ∃ es : Nmd, ns = es.map (·.1) ∧ es.Perm th ∧ es.Pairwise (ltE cols one)
theorem IsOrd.same {th : Nmd} {ns ms : List Nat} (a : IsOrd cols th one ns) (b : IsOrd cols th one ms) : ns = ms := by
  obtain ⟨es, rfl, p, s⟩ := a
  obtain ⟨fs, rfl, q, t⟩ := b
  rw [(p.trans q.symm).eq_of_pairwise (fun x y _ _ h g => (h.asymm g).elim) s t]
theorem IsOrd.nil : IsOrd cols [] one [] := ⟨[], rfl, .refl _, .nil⟩
theorem IsOrd.perm {th : Nmd} {ns : List Nat} (a : IsOrd cols th one ns) : ns.Perm (th.map (·.1)) := by
  obtain ⟨es, rfl, p, _⟩ := a
  exact p.map _
theorem IsOrd.len {th : Nmd} {ns : List Nat} (a : IsOrd cols th one ns) : ns.length = th.length := by
  have := a.perm.length_eq
  rw [List.length_map] at this
  exact this
theorem cut_sorted {α : Type} (p : α → Bool) : ∀ {es : List α}, es.Pairwise (fun a b => p b = true → p a = true) → es.take (es.filter p).length = es.filter p ∧ es.drop (es.filter p).length = es.filter fun a => !p a
  | [], _ => ⟨rfl, rfl⟩
  | a :: es, h => by
    obtain ⟨h1, h2⟩ := List.pairwise_cons.mp h
    rw [List.filter_cons, List.filter_cons]
    by_cases e : p a = true
    · obtain ⟨i1, i2⟩ := cut_sorted p h2
      rw [if_pos e, if_neg (by simp [e])]
      exact ⟨by rw [List.length_cons, List.take_succ_cons, i1], by rw [List.length_cons, List.drop_succ_cons, i2]⟩
    · have none : es.filter p = [] := List.filter_eq_nil_iff.mpr fun b hb z => e (h1 b hb z)
      have all : es.filter (fun a => !p a) = es := List.filter_eq_self.mpr fun b hb => by
        have : p b ≠ true := fun z => e (h1 b hb z)
        simp [this]
      rw [if_neg e, if_pos (by simp [e]), none, all]
      exact ⟨rfl, rfl⟩
/-- the keys that are not above the key of the row -/
def notAbove (cols one : List Nat) (row : List Int) (e : Nat × List Int) : Bool := !decide (keyM cols row one < keyM cols e.2 one)
theorem IsOrd.put {th es : Nmd} {n : Nat} {row : List Int} (p : es.Perm th) (s : es.Pairwise (ltE cols one)) (hn : ∀ x ∈ th, x.1 < n) :
    IsOrd cols (th ++ [(n, row)]) one ((es.map (·.1)).take (es.filter (notAbove cols one row)).length ++ [n] ++ (es.map (·.1)).drop (es.filter (notAbove cols one row)).length) := by
  have down : es.Pairwise fun a b => notAbove cols one row b = true → notAbove cols one row a = true := s.imp fun {a b} h g => by
    unfold notAbove at *
    rw [Bool.not_eq_true', decide_eq_false_iff_not] at *
    intro z
    rcases h with h | ⟨h, _⟩
    · exact g (List.lt_trans z h)
    · exact g (h ▸ z)
  obtain ⟨c1, c2⟩ := cut_sorted _ down
  refine ⟨es.filter (notAbove cols one row) ++ [(n, row)] ++ es.filter (fun e => !notAbove cols one row e), ?_, ?_, ?_⟩
  · rw [← List.map_take, ← List.map_drop, c1, c2, List.map_append, List.map_append]
    rfl
  · have q : (es.filter (notAbove cols one row) ++ es.filter (fun e => !notAbove cols one row e)).Perm es := List.filter_append_perm _ _
    have r : (es.filter (notAbove cols one row) ++ [(n, row)] ++ es.filter (fun e => !notAbove cols one row e)).Perm ((es.filter (notAbove cols one row) ++ es.filter (fun e => !notAbove cols one row e)) ++ [(n, row)]) := by
      rw [List.append_assoc, List.append_assoc]
      exact (List.perm_append_comm).append_left _
    exact r.trans ((q.trans p).append_right _)
  · rw [List.pairwise_append, List.pairwise_append]
    refine ⟨⟨s.filter _, List.pairwise_singleton _ _, fun a ha b hb => ?_⟩, s.filter _, fun a ha b hb => ?_⟩
    · obtain ⟨h1, h2⟩ := List.mem_filter.mp ha
      rw [List.mem_singleton.mp hb]
      unfold notAbove at h2
      rw [Bool.not_eq_true', decide_eq_false_iff_not] at h2
      rcases List.le_iff_lt_or_eq.mp (List.not_lt.mp h2) with z | z
      · exact .inl z
      · exact .inr ⟨z, hn a (p.mem_iff.mp h1)⟩
    · obtain ⟨g1, g2⟩ := List.mem_filter.mp hb
      unfold notAbove at g2
      rw [Bool.not_not, decide_eq_true_eq] at g2
      rcases List.mem_append.mp ha with z | z
      · obtain ⟨h1, h2⟩ := List.mem_filter.mp z
        unfold notAbove at h2
        rw [Bool.not_eq_true', decide_eq_false_iff_not] at h2
        refine .inl ?_
        rcases List.le_iff_lt_or_eq.mp (List.not_lt.mp h2) with y | y
        · exact List.lt_trans y g2
        · rw [y]
          exact g2
      · rw [List.mem_singleton.mp z]
        exact .inl g2
theorem IsOrd.out {th : Nmd} {ns : List Nat} (a : IsOrd cols th one ns) (g : Nat) : IsOrd cols (outT th g) one (ns.filter fun x => decide (x ≠ g)) := by
  obtain ⟨es, rfl, p, s⟩ := a
  refine ⟨es.filter fun x => decide (x.1 ≠ g), ?_, p.filter _, s.filter _⟩
  rw [List.filter_map]
  rfl
theorem erase_filter : ∀ {ns : List Nat} {j g : Nat}, ns.Nodup → ns[j]? = some g → ns.eraseIdx j = ns.filter fun x => decide (x ≠ g)
  | [], _, _, _, h => nomatch h
  | a :: ns, 0, g, nd, h => by
    cases h
    obtain ⟨h1, h2⟩ := List.nodup_cons.mp nd
    rw [List.eraseIdx_cons_zero, List.filter_cons, if_neg (by simp)]
    have hk : ∀ x ∈ ns, decide (x ≠ a) = true := fun x hx => by
      have : x ≠ a := fun z => h1 (z ▸ hx)
      simpa using this
    exact (List.filter_eq_self.mpr hk).symm
  | a :: ns, j + 1, g, nd, h => by
    obtain ⟨h1, h2⟩ := List.nodup_cons.mp nd
    have h3 : ns[j]? = some g := h
    have ne : a ≠ g := fun z => h1 (z ▸ List.mem_of_getElem? h3)
    rw [List.eraseIdx_cons_succ, List.filter_cons, if_pos (by simpa using ne), erase_filter h2 h3]
end
/-! ### the list by which a question is read -/
/-- one of the lists by which least is read, or none -/
def BestOf (cols : List Nat) (rows : List (List Int)) (ch : List (List Nat)) (es : List (Nat × Int)) (rc : Option (Nat × Int × Int)) : Option (List Nat) → Prop
  | none => ∀ o ∈ ch, (rows.length : Int) < priceM cols rows o es rc
  | some o => o ∈ ch ∧ (∀ o' ∈ ch, priceM cols rows o es rc ≤ priceM cols rows o' es rc) ∧ priceM cols rows o es rc ≤ rows.length
/-- how many rows are read so -/
def readN (cols : List Nat) (rows : List (List Int)) (es : List (Nat × Int)) (rc : Option (Nat × Int × Int)) : Option (List Nat) → Int
  | none => rows.length
  | some o => priceM cols rows o es rc - 1
theorem BestOf.like {cols : List Nat} {rows : List (List Int)} {ch : List (List Nat)} {es : List (Nat × Int)} {rc : Option (Nat × Int × Int)} {a b : Option (List Nat)} (h : BestOf cols rows ch es rc a) (g : BestOf cols rows ch es rc b) : a.isNone = b.isNone ∧ readN cols rows es rc a = readN cols rows es rc b := by
  match a, b, h, g with
  | none, none, _, _ => exact ⟨rfl, rfl⟩
  | none, some o, h, g =>
    have := h o g.1
    have := g.2.2
    omega
  | some o, none, h, g =>
    have := g o h.1
    have := h.2.2
    omega
  | some o, some o', h, g =>
    have h1 := h.2.1 o' g.1
    have h2 := g.2.1 o h.1
    refine ⟨rfl, ?_⟩
    show priceM cols rows o es rc - 1 = priceM cols rows o' es rc - 1
    omega
end My

set_option Elab.async false
set_option linter.all false
set_option maxRecDepth 100000
set_option maxHeartbeats 2000000
namespace My
open PySem PySem.Spec PyProof.Rows L2
/-! ### a list in order, by the places of the rows -/
section
variable {cols one : List Nat} {th : Nmd} {w n : Nat} {es : List (Nat × Int)} {rc : Option (Nat × Int × Int)}
/-- the number of the row at a place -/
def numAt (th : Nmd) (i : Nat) : Nat := (th.getD i (0, [])).1
theorem getD_at {th : Nmd} {i : Nat} (h : i < th.length) : th.getD i (0, []) = th[i] := by
  rw [List.getD_eq_getElem?_getD, List.getElem?_eq_getElem h]
  rfl
theorem rows_at {th : Nmd} {i : Nat} (h : i < th.length) : (th.map (·.2)).getD i [] = (th.getD i (0, [])).2 := by
  rw [getD_at h, List.getD_eq_getElem?_getD, List.getElem?_map, List.getElem?_eq_getElem h]
  rfl
theorem th_range (th : Nmd) : (List.range th.length).map (fun i => th.getD i (0, [])) = th := by
  refine List.ext_getElem (by rw [List.length_map, List.length_range]) fun i h1 h2 => ?_
  rw [List.getElem_map, List.getElem_range, getD_at h2]
theorem num_up (h : NmOk w th n) {a b : Nat} (hab : a < b) (hb : b < th.length) : numAt th a < numAt th b := by
  unfold numAt
  rw [getD_at hb, getD_at (by omega : a < th.length)]
  have := List.pairwise_iff_getElem.mp h.up a b (by rw [List.length_map]; omega) (by rw [List.length_map]; exact hb) hab
  rw [List.getElem_map, List.getElem_map] at this
  exact this
theorem ord_idx (h : NmOk w th n) (one : List Nat) : IsOrd cols th one ((idxM cols (th.map (·.2)) one).map (numAt th)) := by
  refine ⟨(idxM cols (th.map (·.2)) one).map fun i => th.getD i (0, []), ?_, ?_, ?_⟩
  · rw [List.map_map]
    rfl
  · have p := (idx_perm cols (th.map (·.2)) one).map fun i => th.getD i (0, [])
    rw [List.length_map, th_range] at p
    exact p
  · rw [List.pairwise_map]
    have lt : ∀ i ∈ idxM cols (th.map (·.2)) one, i < th.length := fun i hi => by
      have := (idx_perm cols (th.map (·.2)) one).mem_iff.mp hi
      rw [List.mem_range, List.length_map] at this
      exact this
    have nd : (idxM cols (th.map (·.2)) one).Nodup := (idx_perm cols (th.map (·.2)) one).nodup_iff.mpr List.nodup_range
    refine (List.Pairwise.and nd (idx_pw cols (th.map (·.2)) one)).imp_of_mem fun {a b} ha hb ⟨ne, le⟩ => ?_
    have la := lt a ha
    have lb := lt b hb
    unfold entLe entLt entAt at le
    dsimp only at le
    rw [rows_at la, rows_at lb] at le
    unfold ltE
    by_cases e : keyM cols (th.getD b (0, [])).2 one = keyM cols (th.getD a (0, [])).2 one
    · rw [if_pos e, Bool.not_eq_true', decide_eq_false_iff_not] at le
      exact .inr ⟨e.symm, num_up h (show a < b by omega) lb⟩
    · rw [if_neg e, Bool.not_eq_true', decide_eq_false_iff_not] at le
      rcases List.le_iff_lt_or_eq.mp (List.not_lt.mp le) with z | z
      · exact .inl z
      · exact absurd z.symm e
/-- the row of a number -/
def rowT (th : Nmd) (m : Nat) : List Int := ((th.find? fun x => decide (x.1 = m)).map (·.2)).getD []
theorem rowT_at : ∀ {th : Nmd} {m : Nat} {r : List Int}, (th.map (·.1)).Nodup → (m, r) ∈ th → rowT th m = r
  | [], _, _, _, h => nomatch h
  | x :: th, m, r, nd, h => by
    rw [List.map_cons, List.nodup_cons] at nd
    unfold rowT
    rcases List.mem_cons.mp h with z | z
    · rw [← z, List.find?_cons_of_pos (by simp)]
      rfl
    · have ne : ¬ x.1 = m := fun e => nd.1 (e ▸ List.mem_map.mpr ⟨(m, r), z, rfl⟩)
      rw [List.find?_cons_of_neg (by simpa using ne)]
      exact rowT_at nd.2 z
theorem rowT_mem {m : Nat} (nd : (th.map (·.1)).Nodup) (h : m ∈ th.map (·.1)) : (m, rowT th m) ∈ th := by
  obtain ⟨x, hx, rfl⟩ := List.mem_map.mp h
  rw [rowT_at (r := x.2) nd hx]
  exact hx
/-- the numbers of the rows that fit, rising -/
def fitT (cols : List Nat) (th : Nmd) (es : List (Nat × Int)) (rc : Option (Nat × Int × Int)) : List Nat := (th.filter fun x => fitsM cols x.2 es rc).map (·.1)
theorem fitT_up (h : NmOk w th n) : (fitT cols th es rc).Pairwise (· < ·) := List.Pairwise.sublist (List.filter_sublist.map _) h.up
theorem fitT_len : (fitT cols th es rc).length ≤ th.length := by
  unfold fitT
  rw [List.length_map]
  exact List.length_filter_le _ _
/-- what fits of the numbers that are read by a list -/
theorem near_fits (h : NmOk w th n) (hok : QOk cols es rc) {ns : List Nat} (ho : IsOrd cols th one ns) :
    (((ns.drop (aheadM cols (th.map (·.2)) one es rc)).take (behindM cols (th.map (·.2)) one es rc - aheadM cols (th.map (·.2)) one es rc)).filter fun m => fitsM cols (rowT th m) es rc).Perm (fitT cols th es rc) := by
  obtain rfl := ho.same (ord_idx h one)
  rw [← List.map_drop, ← List.map_take, List.filter_map]
  have lt : ∀ i ∈ idxM cols (th.map (·.2)) one, i < th.length := fun i hi => by
    have := (idx_perm cols (th.map (·.2)) one).mem_iff.mp hi
    rw [List.mem_range, List.length_map] at this
    exact this
  have e1 : ((((idxM cols (th.map (·.2)) one).drop (aheadM cols (th.map (·.2)) one es rc)).take (behindM cols (th.map (·.2)) one es rc - aheadM cols (th.map (·.2)) one es rc)).filter ((fun m => fitsM cols (rowT th m) es rc) ∘ numAt th)) = (idxM cols (th.map (·.2)) one).filter fun o => fitsM cols ((th.map (·.2)).getD o []) es rc := by
    rw [← read_fits hok]
    refine List.filter_congr fun i hi => ?_
    have li := lt i (List.mem_of_mem_drop (List.mem_of_mem_take hi))
    show fitsM cols (rowT th (numAt th i)) es rc = _
    rw [rows_at li, rowT_at (r := (th.getD i (0, [])).2) h.nd (by unfold numAt; rw [getD_at li]; exact List.getElem_mem li)]
  rw [e1]
  have p := ((idx_perm cols (th.map (·.2)) one).filter fun o => fitsM cols ((th.map (·.2)).getD o []) es rc).map (numAt th)
  refine p.trans (List.Perm.of_eq ?_)
  unfold fitT
  conv => rhs; rw [← th_range th, List.filter_map, List.map_map]
  rw [List.length_map]
  refine congrArg (List.map (numAt th)) (List.filter_congr fun i hi => ?_)
  show fitsM cols ((th.map (·.2)).getD i []) es rc = fitsM cols (th.getD i (0, [])).2 es rc
  rw [rows_at (List.mem_range.mp hi)]
theorem near_len {ns : List Nat} (ho : IsOrd cols th one ns) (hok : QOk cols es rc) : (((ns.drop (aheadM cols (th.map (·.2)) one es rc)).take (behindM cols (th.map (·.2)) one es rc - aheadM cols (th.map (·.2)) one es rc)).length : Int) = priceM cols (th.map (·.2)) one es rc - 1 := by
  have h1 := ho.len
  have h2 := behind_le cols (th.map (·.2)) one es rc
  have h3 := ahead_le (rows := th.map (·.2)) (one := one) hok
  rw [List.length_map] at h2
  rw [List.length_take, List.length_drop, h1]
  unfold priceM
  omega
theorem all_fits (h : NmOk w th n) : (((th.map (·.1)).filter fun m => fitsM cols (rowT th m) es rc)) = fitT cols th es rc := by
  unfold fitT
  rw [List.filter_map]
  refine congrArg _ (List.filter_congr fun x hx => ?_)
  show fitsM cols (rowT th x.1) es rc = _
  rw [rowT_at (r := x.2) h.nd hx]
end
end My

set_option Elab.async false
set_option linter.all false
set_option maxRecDepth 100000
set_option maxHeartbeats 2000000
namespace My
open PySem PySem.Spec PyProof.Rows L2
section
variable {X : Cx}
/-- what lies at the places of a dict whose values are ints -/
theorem num_at_place {kvs : List (Key × V)} {vs : List (Key × Value)} (rel : KV kvs vs) : ∀ {is : List Int}, kvs.map (·.2) = is.map V.int → is.length = vs.length ∧ ∀ (i : Nat) (p : Key × Value), vs[i]? = some p → ∃ n t, is[i]? = some n ∧ p.2 = Value.int n t := by
  unfold KV at rel
  induction rel with
  | nil =>
    intro is e
    have : is = [] := List.map_eq_nil_iff.mp e.symm
    exact ⟨by rw [this]; rfl, fun i p z => nomatch z⟩
  | cons hd tl ih =>
    intro is e
    match is, e with
    | n :: is, e =>
      obtain ⟨e1, e2⟩ := List.cons.inj e
      obtain ⟨len, look⟩ := ih e2
      refine ⟨congrArg (· + 1) len, fun i p z => ?_⟩
      match i, z with
      | 0, z =>
        cases z
        have here := hd.2
        dsimp only at e1
        rw [e1] at here
        obtain ⟨t, et⟩ := here
        exact ⟨n, t, rfl, et⟩
      | i + 1, z => exact look i p z
/-- the first of the least ones is one of them, and least -/
theorem least_of {is : List Int} (h : 0 < is.length) : ∃ n, is[argBest (fun i j => decide (is.getD i 0 < is.getD j 0)) (is.length - 1)]? = some n ∧ n ∈ is ∧ ∀ j ∈ is, n ≤ j := by
  have both := argBest_lt (is.getD · 0) (is.length - 1)
  generalize argBest (fun i j => decide (is.getD i 0 < is.getD j 0)) (is.length - 1) = b at both ⊢
  have inside : b < is.length := by have := both.1; omega
  refine ⟨is[b], List.getElem?_eq_getElem inside, List.getElem_mem inside, fun j hj => ?_⟩
  obtain ⟨m, hm, rfl⟩ := List.getElem_of_mem hj
  have le := both.2 m (by omega)
  simpa [List.getD_eq_getElem?_getD, List.getElem?_eq_getElem hm, List.getElem?_eq_getElem inside] using le
/-- min(o.values(), default=e), the values ints -/
def tMinValsD (td tv : TE) : TE := fun σ H Q => td σ H fun x H1 => ∃ (a : Addr) (kvs : List (Key × V)), x = V.ref a ∧ H1 a = some (.dK kvs) ∧
  tv σ H1 fun y H2 => ∃ (kvs : List (Key × V)) (is : List Int), H2 a = some (.dK kvs) ∧ kvs.map (·.2) = is.map V.int ∧ (is = [] → Q y H2) ∧ (is ≠ [] → ∀ m, m ∈ is → (∀ j ∈ is, m ≤ j) → Q (.int m) H2)
theorem pe_minValsD {o ed : Expr} {p pos apos mpos q1 : Pos} {n1 : Option Str} {td tv : TE} (hc : X.calm = true) (hd : PE X o td) (hv : PE X ed tv) (hg : Gl X "min") (hm : X.mg "min" = none)
    (hb : bootBuiltins "min" = some (.builtin "min") := by decide +kernel)
    (hbase : attributeBase o "values" X.env (eval o X.env) = eval o X.env := by rfl) (hline : (apos.endLine == mpos.line) = true := by rfl)
    (hse : backTo pos (starEach [Expr.Call (.Attribute o "values" apos) [] [] mpos] X.env) = (false, eval (Expr.Call (.Attribute o "values" apos) [] [] mpos) X.env) :: backTo pos (starEach [] X.env) := by rfl)
    (hpl : (backTo pos (starEach [Expr.Call (.Attribute o "values" apos) [] [] mpos] X.env)).any (·.1) = false := by rfl)
    (hall : (backToKw pos (keywordEach [⟨n1, ed, q1⟩] X.env)).all (·.1.isSome) = true := by rfl)
    (hnone : (backToKw pos (keywordEach [⟨n1, ed, q1⟩] X.env)).any (·.1.isNone) = false := by rfl)
    (hks : (backToKw pos (keywordEach [⟨n1, ed, q1⟩] X.env)).filterMap (·.1) = [Str.ofString "default"] := by rfl) :
    PE X (.Call (.Name "min" p) [.Call (.Attribute o "values" apos) [] [] mpos] [⟨n1, ed, q1⟩] pos) (tMinValsD td tv) := by
  constructor
  intro pins s σ H Q I hq
  refine wpAny_Call_Name_kw (ld_blt I hg hm hb (PyProof.Rows.callWith_kw ?_ hse hpl hall hnone))
  rw [hse, hks]
  refine Calls.spliced_cons (rest := backTo pos (starEach [] X.env)) ?_
  refine wpAny_Call_method (T := "dict") (id := "dict.values") hbase rfl hline F.plainAttrs_dict F.slot_dict_values F.type_dict_values (thn (hd.run pins s σ H _ I hq) fun u s1 hh => ?_)
  obtain ⟨x, H1, I1, rx, a, kvs, rfl, ha, q⟩ := hh
  cases rx
  have ⟨vs, ep, D⟩ := dk_at I1 ha
  have dof := D.lies.dictOf
  refine ⟨dof.typeIs, dof.mapOf.noDict, method_meetsIn F.slot_dict_values F.entry_dict_values rfl (PySem.evalArgs_none ⟨rfl, dof.typeIs, F.args_dict_values_1 _, _, meets_dict_values (mixKind X.prog X.w) a D.own, ⟨vs, dof⟩, Calls.spliced_nil ?_⟩)⟩
  generalize hvw : s1.heap.objs.size = view
  have hget : (s1.heap.push { cls := .type "dict_values", data := .fields #[.ref a] }).get? view = some { cls := .type "dict_values", data := .fields #[.ref a] } := hvw ▸ Heap.get?_push_size _ rfl
  have I2 : Inv X pins σ H1 { s1 with heap := s1.heap.push { cls := .type "dict_values", data := .fields #[.ref a] } } := I1.kept (t' := s1.toks) fun _ _ => Heap.get?_push_of_some _
  have fresh1 : H1 view = none := hvw ▸ I1.hok.fresh (Nat.le_refl _)
  have fp1 := I1.fpOk (H' := H1) (b := view) (Nat.le_of_eq hvw) fresh1
  have I2p : Inv X ((view, ({ cls := .type "dict_values", data := .fields #[.ref a] } : Obj)) :: pins) σ H1 { s1 with heap := s1.heap.push { cls := .type "dict_values", data := .fields #[.ref a] } } := I2.pins_of fun p hp => by
    rcases List.mem_cons.mp hp with z | z
    · rw [z]
      exact ⟨hget, fresh1, fp1.2.1, fp1.2.2.1, fun v e => nomatch e⟩
    · exact I2.pin p (List.mem_append_right _ z)
  show wpAny _ _ (evalAll [(do let v ← eval ed X.env; standAt pos; pure v)]) _ _ _
  refine wpAny_evalAll_cons (wpAny_bind (thn (hv.run _ _ σ H1 _ I2p q) fun y s3 hy => wpAny_bind (wpAny_standAt (wpAny_pure (wpAny_evalAll_nil ?_)))))
  obtain ⟨y1, H2, I3, ry, kvs2, is, ha2, his, q0, q1⟩ := hy
  have pv := (I3.pin (view, _) (List.mem_append_right _ List.mem_cons_self)).1
  show wpAny _ _ (call (.builtin "min") [.ref view] [(Str.ofString "default", y)]) _ _ _
  have ⟨vs3, ep3, D3⟩ := dk_at I3 ha2
  have ⟨hlv, look⟩ := num_at_place D3.rel his
  have I4 : Inv X pins σ H2 s3 := I3.pins_of fun p hp => I3.pin p (List.mem_append_right _ (List.mem_cons_of_mem _ hp))
  have old : a < s3.heap.objs.size := Nat.lt_of_not_le fun z => by
    have := I4.hok.fresh z
    rw [ha2] at this
    cases this
  have num : ∀ (i : Nat) (v : Value), (∃ k, vs3[i]? = some (k, v)) → ∃ t, v = Value.int (is.getD i 0) t := fun i v ⟨k, hk⟩ => by
    obtain ⟨n, t, hn, ev⟩ := look i _ hk
    exact ⟨t, by simpa [List.getD_eq_getElem?_getD, hn] using ev⟩
  have newer : ∀ {b : Addr} {u : Obj}, s3.heap.get? b = some u → b ∉ [s3.heap.objs.size] := fun {b u} e z => by
    have below := Heap.lt_size e
    rw [List.mem_singleton.mp z] at below
    exact Nat.lt_irrefl _ below
  have out : ∀ (it : Obj) {s' : Shared} {v : V} {u : Value}, Moved [s3.heap.objs.size] (fun a b => b = a) { s3 with heap := s3.heap.push it } s' → RelV v u → Q v H2 → EP X pins σ Q u s' := fun it {s' v u} hm rv qv => by
    have J : Inv X pins σ H2 { s3 with heap := s'.heap, toks := s'.toks } := I4.kept fun b u e => hm.heap b u (newer e) (Heap.get?_push_of_some _ e)
    have whole : s' = { s3 with heap := s'.heap, toks := s'.toks } := by
      have g := hm.gens
      have d := hm.drawn
      have o := hm.os
      obtain ⟨hp, gg, dd, tk, os⟩ := s'
      dsimp only at g d o
      rw [g, d, o]
    rw [whole]
    exact ⟨v, H2, J, rv, qv⟩
  refine call_min_walkD (wpAny_pyIter_values (v := view) (d := a) ⟨_, pv, rfl, rfl⟩ D3.lies ⟨_, _, _, _, _, _, _, s3.heap, _, rfl,
    (Walks.dictValues (knd := mixKind X.prog X.w) (A := X.A.in1) (I4.ok.hd hc) s3.heap.objs.size a (Nat.ne_of_lt old) vs3 ep3).toS, ⟨⟨_, Heap.get?_push_size _ rfl, rfl, rfl⟩, D3.lies.push _⟩, fun b hb => ?_, fun b o e => newer e,
    fun b o e => Heap.get?_push_of_some _ e, fun hn s' hm => out _ hm ry (q0 (List.eq_nil_of_length_eq_zero (hlv.trans hn))), fun hn => ⟨fun i j vi vj s Q E _ hi hj h => CmpOf.ints_lt (is.getD · 0) num i j vi vj s Q E hi hj h, fun v s' hP hm => ?_⟩⟩)
  · simp only [List.mem_cons, List.not_mem_nil, or_false] at hb
    show b < (s3.heap.push _).objs.size
    rw [Heap.size_push]
    rcases hb with z | z <;> rw [z]
    · exact Nat.lt_succ_self _
    · exact Nat.lt_succ_of_lt old
  · obtain ⟨n, hn2, mem, le⟩ := least_of (hlv ▸ hn : 0 < is.length)
    rw [hlv] at hn2
    obtain ⟨t, ev⟩ := num _ v hP
    have en : is.getD (argBest (fun i j => decide (is.getD i 0 < is.getD j 0)) (vs3.length - 1)) 0 = n := (List.getD_eq_getElem?_getD ..).trans (by rw [hn2]; rfl)
    exact out _ (v := .int n) hm ⟨t, by rw [ev, en]⟩ (q1 (fun z => by rw [z] at mem; cases mem) n mem le)
end
end My

set_option Elab.async false
set_option linter.all false
set_option maxRecDepth 100000
set_option maxHeartbeats 2000000
namespace My
open PySem PySem.Spec PyProof.Rows L2
/-! ### dicts of numbers whose keys are tuples of any depth -/
section
variable {X : Cx} {pins : List (Addr × Obj)} {σ : L2.St} {H : Hp} {s : Shared}
end
abbrev KvQ := List (NestedKey × Addr × Int)
def entQ (w : World) (x : NestedKey × Addr × Value) : DictEntry := ⟨x.1.hash w, .ref x.2.1, x.2.2⟩
section
variable {kvs : KvQ} {xs : List (NestedKey × Addr × Value)} {k : NestedKey} {a : Addr} {n : Int} {v : Value}
end
section
variable {X : Cx} {pins : List (Addr × Obj)} {σ : L2.St} {H : Hp} {s : Shared} {d : Addr} {kvs : KvQ} {K : PySem.W.Frag}
/-! #### the operations -/
/-! #### tuple(d.items()) -/
/-- many new objects at once -/
theorem _root_.L2.Inv.many {H' : Hp} {h' : Heap} {tk : Nat} (I : L2.Inv X pins σ H s) (k : ∀ b o, s.heap.get? b = some o → h'.get? b = some o) (sm : Same H H') (low : ∀ b o, s.heap.get? b = some o → H b = none → H' b = none) (new : ∀ b o, H' b = some o → H b = none → ObjOk X.prog X.w H' h' b o) : L2.Inv X pins σ H' { s with heap := h', toks := tk } := by
  refine I.un ⟨fun b o e _ _ _ => k b o e, fun b o e _ _ _ => ⟨o.slots, k b o e⟩, fun b o e n _ => low b o e n, fun b o e _ => ⟨o, k b o e⟩, fun b xs e => sm _ _ e, fun b o u e => sm _ _ e, fun b ps e => ⟨#[], by rw [sm _ _ e]; simp⟩⟩ fun b o e => ?_
  cases z : H b with
  | none => exact new b o e z
  | some o2 =>
    have e2 := sm _ _ z
    rw [e] at e2
    cases e2
    exact (I.hok b _ z).stay (fun c u _ q => k c u q) (fun c q => sm _ _ q) fun c xs q => sm _ _ q
end
end My

set_option Elab.async false
set_option linter.all false
set_option maxRecDepth 100000
set_option maxHeartbeats 2000000
namespace My
open PySem PySem.Spec PyProof.Rows L2
/-! ### questions as keys -/
theorem QZ.ref {H : Hp} {v : V} {es : List (Nat × Int)} {rc : Option (Nat × Int × Int)} (h : QZ H v es rc) : ∃ a, v = .ref a := by
  obtain ⟨qa, ev, y, rfl, _⟩ := h
  exact ⟨qa, rfl⟩
/-! ### what is wanted -/
/-! ### data in a list of data, questions compared -/
end My

set_option Elab.async false
set_option linter.all false
set_option maxRecDepth 100000
set_option maxHeartbeats 4000000
namespace My
open PySem PySem.Spec PyProof.Rows L2
/-! ### the part of a question that a list uses -/
section
variable {cols : List Nat} {rows : List (List Int)} {o : List Nat} {es : List (Nat × Int)} {rc : Option (Nat × Int × Int)}
def esP (es : List (Nat × Int)) (u : List Nat) : List (Nat × Int) := es.filter fun p => decide (p.1 ∈ u)
def rcP : Option (Nat × Int × Int) → List Nat → Option (Nat × Int × Int)
  | none, _ => none
  | some t, u => if t.1 ∈ u then some t else none
theorem rcP_mem {t : Nat × Int × Int} {u : List Nat} : t ∈ (rcP rc u).toList ↔ t ∈ rc.toList ∧ t.1 ∈ u := by
  cases rc with
  | none =>
    constructor
    · intro h
      cases h
    · rintro ⟨h, _⟩
      cases h
  | some s =>
    show t ∈ (if s.1 ∈ u then some s else none).toList ↔ _
    by_cases c : s.1 ∈ u
    · rw [if_pos c]
      constructor
      · intro h
        have : t = s := by simpa using h
        rw [this]
        exact ⟨by simp, c⟩
      · exact fun h => h.1
    · rw [if_neg c]
      constructor
      · intro h
        cases h
      · rintro ⟨h, h2⟩
        have : t = s := by simpa using h
        exact absurd (this ▸ h2) c
theorem QOk.part (h : QOk cols es rc) (u : List Nat) : QOk cols (esP es u) (rcP rc u) := by
  refine ⟨List.Pairwise.sublist (List.filter_sublist.map _) h.up, fun p hp => h.ok p (List.mem_filter.mp hp).1, Nat.le_trans (List.length_filter_le _ _) h.len, fun c lo hi e => ?_⟩
  have m : (c, lo, hi) ∈ (rcP rc u).toList := by rw [e]; simp
  obtain ⟨m1, m2⟩ := rcP_mem.mp m
  have e2 : rc = some (c, lo, hi) := by simpa using m1
  obtain ⟨a, b, r⟩ := h.rc c lo hi e2
  refine ⟨a, fun z => b ?_, r⟩
  obtain ⟨p, hp, e3⟩ := List.mem_map.mp z
  exact List.mem_map.mpr ⟨p, (List.mem_filter.mp hp).1, e3⟩
end
end My

set_option Elab.async false
set_option linter.all false
set_option maxRecDepth 100000
set_option maxHeartbeats 2000000
namespace My
open PySem PySem.Spec PyProof.Rows L2
/-! ### asks by their places -/
/-! ### asks in a list of values -/
/-! ### data whose tuples may be frozen -/
theorem Rd.mono {H H' : Hp} {a : Addr} {o : HO} (k : Same H H') (h : Rd H a o) : Rd H' a o := by
  rcases h with h | ⟨b, h⟩
  · exact .inl (k _ _ h)
  · exact .inr ⟨b, k _ _ h⟩
end My

set_option Elab.async false
set_option linter.all false
set_option maxRecDepth 100000
set_option maxHeartbeats 2000000
namespace My
open PySem PySem.Spec PyProof.Rows L2
/-! ### an exception kept behind its except clause -/
/-- an exception object of the class cls, without a dict, at a -/
def ExN (cls : Value) (a : Addr) : HO := .ext fun h => ∃ (oe : Obj) (vs : Array Value), h.get? a = some oe ∧ Zc cls none oe ∧ oe.data = .fields vs
section
variable {X : Cx} {pins : List (Addr × Obj)} {σ : L2.St} {H : Hp} {s : Shared} {a : Addr}
/-- an object that nothing of ours speaks of is tracked from now on -/
theorem Inv.noted {o : HO} (I : Inv X pins σ H s) (n : H a = none) (n0 : X.s_0.heap.get? a = none) (nL : a ≠ X.env.locals) (nC : ∀ x c, X.env.cells.lookup x = some c → c ≠ a) (nP : ∀ p ∈ X.pn ++ pins, p.1 ≠ a) (ok : ObjOk X.prog X.w (upd H a o) s.heap a o) : Inv X pins σ (upd H a o) s := by
  have up : ∀ {b : Addr} {u : HO}, H b = some u → upd H a o b = some u := fun {b u} e => keep_new e n
  have off : ∀ {b : Addr}, b ≠ a → upd H a o b = H b := fun h => upd_ne h
  have old : ∀ {b : Addr} {u : Obj}, X.s_0.heap.get? b = some u → b ≠ a := fun {b u} e z => by
    rw [z, n0] at e
    cases e
  exact { ok := I.ok, os := I.os, bare := I.bare, loc := I.loc, cell := I.cell, len := I.len
          base := { keep := I.base.keep, slot := I.base.slot, there := I.base.there
                    free := fun b u e1 e2 e3 => (off (old e1)).trans (I.base.free b u e1 e2 e3)
                    tups := fun b xs e => up (I.base.tups b xs e)
                    frzs := fun b u v e => up (I.base.frzs b u v e)
                    tbls := fun b ps e => let ⟨m, z⟩ := I.base.tbls b ps e; ⟨m, up z⟩ }
          free := (off (Ne.symm nL)).trans I.free
          freeC := fun x c e => (off (nC x c e)).trans (I.freeC x c e)
          pin := fun p hp => let ⟨e, z, r⟩ := I.pin p hp; ⟨e, (off (nP p hp)).trans z, r⟩
          hok := fun b u e => by
            by_cases c : b = a
            · subst c
              rw [upd_same] at e
              exact Option.some.inj e ▸ ok
            · exact (I.hok b u ((off c).symm.trans e)).stay (fun _ _ _ q => q) (fun _ q => up q) fun _ _ q => up q }
end
/-- what is wished of an exception that 'except c as n: m = n' notes: slot i is n's, slot j is m's -/
def wNote (K : PySem.W.Frag) (c : Value) (i j : Nat) (D : Ends) : WX := fun cls d σ H => PySem.W.exmOne K cls c = some true ∧ d = none ∧ ∀ a, H a = none → D.nx ((σ.set i (some (.ref a))).set j (some (.ref a)) |>.set i none) (upd H a (ExN cls a))
/-- where an exception has come down: the state with it -/
structure Fell (X : Cx) (pins : List (Addr × Obj)) (a : Addr) (cls : Value) (σ : L2.St) (H : Hp) (s : Shared) (oe : Obj) : Prop where
  inv : Inv X pins σ H s
  at' : s.heap.get? a = some oe
  zc : Zc cls none oe
  da : ∃ vs, oe.data = .fields vs
  na : H a = none
  nL : a ≠ X.env.locals
  nF : a ∉ X.fs
  n0 : X.s_0.heap.get? a = none
  nP : ∀ p ∈ X.pn ++ pins, p.1 ≠ a
section
variable {X : Cx} {pins : List (Addr × Obj)} {σ : L2.St} {H : Hp} {s sI s' : Shared} {a : Addr} {B : Heap} {cls : Value}
theorem fell_of (hs : X.stack = X.env :: X.outer) (hf : X.env.frame = some X.env.locals) (hex : X.ex = []) (J : Inv X pins σ H sI) (nb : ∀ b o, sI.heap.get? b = some o → b ∉ frs X.stack → B.get? b = some o) (fl : HandSPX.FlyingZ B (X.env :: X.outer) a (Zc cls none) s'.heap) (up : sI.heap.UpToSlots s'.heap) (os : s'.os = sI.os) (ag : AllBare s'.gens) (na : H a = none) : ∃ oe, Fell X pins a cls σ H s' oe := by
  obtain ⟨oe, vs, h⟩ := fl.there
  obtain ⟨he, hz, hd⟩ := h
  have nS : a ∉ frs (X.env :: X.outer) := fun hm => by
    obtain ⟨_, o2, e2, n2⟩ := fl.2.2.1.mem hm
    cases he.symm.trans e2
    exact n2 vs hd
  have no : ∀ o, sI.heap.get? a = some o → False := fun o e => by
    have := nb a o e (by rw [hs]; exact nS)
    rw [fl.2.1] at this
    cases this
  refine ⟨oe, J.landed nb fl.1 up os ag, he, hz, ⟨vs, hd⟩, na, fun z => nS (List.mem_filterMap.mpr ⟨_, List.mem_cons_self, hf.trans (congrArg some z.symm)⟩), fun hm => ?_, ?_, fun p hp z => ?_⟩
  · obtain ⟨e, h1, h2⟩ := List.mem_filterMap.mp hm
    exact nS (List.mem_filterMap.mpr ⟨e, List.mem_cons_of_mem _ h1, h2⟩)
  · cases e : X.s_0.heap.get? a with
    | none => rfl
    | some o =>
      obtain ⟨o2, e2⟩ := J.base.there a o e (by rw [hex]; exact List.not_mem_nil)
      exact (no o2 e2).elim
  · have := (J.pin p hp).1
    rw [z] at this
    exact no _ this
end
/-- try: .. except x as n: m = n -/
theorem ps_try_note {X : Cx} {x n m : Str} {c : Value} {i j : Nat} {body : List Stmt} {np mp qp ap pos pos' : Pos} {tb : WX → TS} (hs : X.stack = X.env :: X.outer) (hf : X.env.frame = some X.env.locals) (hex : X.ex = []) (hN : X.N.Nodup) (hi : X.N[i]? = some n) (hj : X.N[j]? = some m) (hln : X.env.kindOf n = some .local) (hlm : X.env.kindOf m = some .local) (hlm2 : X.env.scope.names.lookup m = some .local) (hc : Names X x c)
    (hnd : (n == ("__debug__" : Str)) = false) (hncd : (n == ("__classdict__" : Str)) = false)
    (hsw : swapsWith (.Name n qp) (some (.Name m mp)) ap.line X.env = pure false)
    (hb : ∀ (W : WX) (pn : List (Addr × Obj)) (xe : Value → Shared → Prop), Takes (X.tr pn xe) W → PassesOwn (model X.prog X.w) X.A X.env xe → PSs (X.tr pn xe) body (tb W)) :
    PS X (.Try body [.ExceptHandler (some (.Name x np)) (some n) [.Assign [.Name m mp] (.Name n qp) ap] pos'] [] [] pos) (fun D σ H => tb (wNote X.K c i j D) D σ H) := by
  refine ⟨fun pins s σ H D I h => wpAny_Try_except ?_⟩
  have ok := I.ok
  refine wpAny_mono ((hb (wNote X.K c i j D) (X.pn ++ pins) _ (fun u s' air => ?air) PassesOwn.looking).run [] s σ H D (I.toTry _) h) (fun f s1 hsp => ?_) fun _ _ he => he
  case air =>
    obtain ⟨a, B, sI, pins', σ1, H1, cls, d, rfl, J', nb, up, sky, na, os, ag, hx, rfl, go⟩ := air
    have J : Inv X pins σ1 H1 sI := J'.ofTry ok
    refine Sky.land (outer := X.outer) (B := B) Zc.steady (ok.frames.trans (congrArg some hs)) hf (by rw [← hs]; exact sky) fun h3 fl3 up3 => ?_
    obtain ⟨o3, F3⟩ := fell_of (s' := { s' with heap := h3 }) hs hf hex J nb fl3 (up.trans up3) os ag na
    obtain ⟨v3, d3⟩ := F3.da
    have S3 := F3.inv.suite F3.at' d3 F3.na F3.nL F3.nF
    refine wpAny_handleBy_cons (codeAny_handlers_test ?_) (fun z => nomatch z)
    have look : PySem.W.Looks (model X.prog X.w) h3 (typeOf (.ref a)) cls := fun _ _ _ _ k q => wpAny_typeOf_ref (k _ _ F3.at') (by rw [F3.zc.1]; exact q)
    have hit := (PySem.W.exm_one F3.inv.kIn look hx)
    suffices thenit : wpAny (model X.prog X.w) (X.A.mark (some (.ref a))) (eval (.Name x np) X.env) (fun v t => v = c ∧ t = { s' with heap := h3 }) (fun _ _ => False) { s' with heap := h3 } by
      refine wpAny_mono thenit (fun v t e => ?_) fun _ _ z => z.elim
      obtain ⟨rfl, rfl⟩ := e
      refine hit.here ?_
      refine codeAny_handlers_suite_as (HandSPX.lands_againZ fl3 fun h4 fl4 up4 => ?_)
      obtain ⟨o4, F4⟩ := fell_of (s' := { s' with heap := h4 }) hs hf hex J nb fl4 ((up.trans up3).trans up4) os ag na
      obtain ⟨v4, d4⟩ := F4.da
      have S4 := F4.inv.suite F4.at' d4 F4.na F4.nL F4.nF
      refine store_ok (X := X.suite a ((a, o4) :: (X.pn ++ pins))) (v := .ref a) S4 hN hi (.inl hln) rfl (fun s5 S5 => ?_) (.inr hln)
      have li : i < σ1.length := by
        have := S4.len
        rw [this]
        exact (List.getElem?_eq_some_iff.mp hi).1
      have asg := pss_one (ps_set (X := X.suite a ((a, o4) :: (X.pn ++ pins))) (pos' := mp) (pos := ap) (i := j) hN hj (.inl hlm) (pv i hi (.inl hln) hnd hncd) hsw (.inr hlm2))
      refine wpAny_mono (asg.run [] s5 _ H1 { nx := fun σ6 H6 => σ6 = (σ1.set i (some (.ref a))).set j (some (.ref a)) ∧ H6 = H1, rt := fun _ _ => False, bk := fun _ _ => False, ct := fun _ _ => False } S5 ⟨.ref a, List.getElem?_set_self li, rfl, rfl⟩) (fun f s6 hsp => ?_) fun _ _ z => z.elim
      cases f with
      | next =>
        obtain ⟨σ6, H6, S6, rfl, rfl⟩ := hsp
        refine gone_ok (X := X.suite a ((a, o4) :: (X.pn ++ pins))) S6 hN hi hln fun s7 S7 => ?_
        obtain ⟨e7, _, _, _, nd7⟩ := S7.pin (a, o4) (List.mem_append_left _ List.mem_cons_self)
        have J7 := S7.unsuite ok
        exact ⟨_, _, Inv.noted (o := ExN cls a) J7 F4.na F4.n0 F4.nL (fun y c2 e z => by
          obtain ⟨v, oc, ho, hd⟩ := J7.cell y c2 e
          rw [z, e7] at ho
          exact nd7 v (Option.some.inj ho ▸ hd)) F4.nP ⟨⟨o4, v4, e7, F4.zc, d4⟩, ⟨o4, e7⟩, fun _ _ ⟨u, w', q, r⟩ k => ⟨u, w', k u q, r⟩⟩, go a na⟩
      | brk => exact hsp.elim fun _ h => h.elim fun _ h => h.2.elim
      | cont => exact hsp.elim fun _ h => h.elim fun _ h => h.2.elim
      | ret u => exact hsp.elim fun _ h => h.elim fun _ h => h.elim fun _ h => h.2.2.elim
    obtain ⟨hg, hdb, hm | ⟨hm, hv, hnn⟩⟩ := hc
    · exact ld_glob (X := X.suite a ((a, o3) :: (X.pn ++ pins))) S3 hg hm ⟨rfl, rfl⟩ hdb
    · exact ld_blt (X := X.suite a ((a, o3) :: (X.pn ++ pins))) S3 hg hm hv ⟨rfl, rfl⟩ hnn hdb
  · cases f with
    | next => exact let ⟨_, _, J, q⟩ := hsp; wpAny_execs_nil ⟨_, _, J.ofTry ok, q⟩
    | brk => exact let ⟨_, _, J, q⟩ := hsp; ⟨_, _, J.ofTry ok, q⟩
    | cont => exact let ⟨_, _, J, q⟩ := hsp; ⟨_, _, J.ofTry ok, q⟩
    | ret u => exact let ⟨_, _, _, J, q⟩ := hsp; ⟨_, _, _, J.ofTry ok, q⟩
end My

set_option Elab.async false
set_option linter.all false
set_option maxRecDepth 100000
set_option maxHeartbeats 2000000
namespace My
open PySem PySem.Spec PyProof.Rows L2
/-! ### isinstance of a noted exception -/
/-- isinstance(e, c), isinstance(e, (c, ..)), e noted -/
def rIsN (K : PySem.W.Frag) : List V → Hp → VK → Prop := fun xs H Q => ∃ (a D : Addr) (c : V) (b : Bool), xs = [.ref a, c] ∧ H a = some (ExN (.ref D) a) ∧ ExcC K D ∧
  ((∃ cv : Value, (∀ u, RelV c u → u = cv) ∧ PySem.W.kitOne K (.ref D) cv = some b) ∨ ∃ (t : Addr) (cs : List V) (cvs : List Value), c = .ref t ∧ H t = some (.tup cs) ∧ (∀ us, Vals cs us → us = cvs) ∧ PySem.W.kitAny K (.ref D) cvs = some b) ∧ Q (.bl b) H
theorem isN (K : PySem.W.Frag) {X : Cx} (hK : X.K = K := by rfl) : CallR X (.builtin "isinstance") (rIsN K) := by
  subst hK
  intro pins s σ H xs us Q I r ⟨a, D, c, b, ex, ha, C, hc, q⟩
  subst ex
  obtain ⟨x, y, rfl, rx, ry⟩ : ∃ x y, us = [x, y] ∧ RelV (.ref a) x ∧ RelV c y := by
    cases r with
    | cons r1 r2 => cases r2 with
      | cons r3 r4 => cases r4; exact ⟨_, _, rfl, r1, r3⟩
  obtain rfl : x = .ref a := rx
  obtain ⟨⟨oe, vs, ho, hz, hd⟩, _, _⟩ := I.hok a _ ha
  have J : PySem.W.InstAt s.heap a oe D none := by
    obtain ⟨oc, od, oda, osl⟩ := oe
    obtain ⟨rfl, rfl⟩ : oc = .ref D ∧ od = none := hz
    obtain rfl : oda = .fields vs := hd
    exact ⟨ho, rfl, rfl, trivial⟩
  have KX := PySem.W.handS_kitx_exc (x := a) (ox := oe) C.hg C.hk C.hs C.hd C.ha C.hn C.ht C.hm
  have fin : ∀ tk, EP X pins σ Q (.bool b) { s with toks := tk } := fun tk => ⟨.bl b, H, I.kept (t' := tk) fun _ _ z => z, rfl, q⟩
  rcases hc with ⟨cv, hcv, e⟩ | ⟨t, cs, cvs, rfl, ht, hcv, e⟩
  · exact PySem.W.kia_one KX I.kIn J (hcv _ ry ▸ e) (fun z => nomatch z) fin
  · obtain rfl : y = .ref t := ry
    obtain ⟨_, its, rv, ⟨oc, od, oda, osl⟩, ht2, hcl, ⟨n, hdt⟩⟩ := I.hok t _ ht
    obtain rfl : oc = .type "tuple" := hcl
    obtain rfl : oda = .seq its.toArray n := hdt
    exact PySem.W.kia_tup KX I.kIn J ht2 (hcv _ rv ▸ e) (fun z => nomatch z) fin
/-! ### a method that may raise, called in a try or where the raise goes on -/
def tMethX (C : Addr) (m : Str) (sp : Sp) (E : L2.St → XK) (ta : TE) (t : TA) : TE := fun σ H Q => ta σ H fun x H1 => ∃ a dx fs, x = .ref a ∧ H1 a = some (.ins C dx fs) ∧ fs.lookup m = none ∧ t σ H1 fun vs H2 => sp (x :: vs) H2 Q (E σ)
theorem pe_methX {X : Cx} {CX : CXT} {k : Nat} {f C : Addr} {fd : FuncData} {ps : List Str} {sp : Sp} {E : L2.St → XK} {m : Str} {pos apos : Pos} {e o : Expr} {es : List Expr} {ta : TE} {t : TA} {pl : Sem Bool}
    (he : PE X o ta) (c : Cls X.K C) (hm : Meth X.K C m f) (F : FnOk X.prog X.w X.K X.mg X.base CX k f fd ps sp) (hr : Room k X.A) (hb : Binds X.K fd ps []) (hx : ∀ σ, PassesAt CX X σ (E σ)) (ha : PA X (e :: es) t)
    (hst : starEach (e :: es) X.env = (false, eval e X.env) :: starEach es X.env := by rfl) (hpl : (backTo pos (starEach es X.env)).any (·.1) = false := by rfl)
    (ht : eval (.Call (.Attribute o m apos) (e :: es) [] pos) X.env = (do
      let ov ← eval o X.env
      standAt apos.atName
      let (f, first) ← holding [ov] (getMethod ov m pl)
      callWith pos f first (backTo pos (starEach (e :: es) X.env)) (backToKw pos (keywordEach [] X.env))) := by rfl) :
    PE X (.Call (.Attribute o m apos) (e :: es) [] pos) (tMethX C m sp E ta t) := ⟨fun pins s σ H Q I h =>
  PySem.W.methodCall_KW (pl := pl) (thn (he.run pins s σ H _ I h) fun u s1 ⟨x, H1, I1, rx, a, dx, fs, ex, ea, l, q⟩ => by
    subst ex
    obtain rfl : u = Value.ref a := rx
    exact getmeth_ok I1 ea c hm l (PySem.W.callWith_K (first := [.ref a]) (h₀ := X.base) I.ok.mod.kin hm.kp (thn (ha.run pos pins s1 σ H1 _ I1 q) fun us s2 ⟨vs, H2, I2, r, q2⟩ =>
      ⟨I2.kIn, run_fnS (us := .ref a :: us) (vs := .ref a :: vs) F hr hb (hx σ) I2 (.cons rfl r) q2⟩) hst hpl)) ht⟩
/-! ### the program's exceptions -/
abbrev veL : List Value := [.type "ValueError", .type "Exception", .type "BaseException", .type "object"]
/-- an own exception class, made with a text, that leaves by raise and is caught under LE -/
structure XCls (K : PySem.W.Frag) (C LE : Addr) : Prop where
  q : PySem.W.excIn K C veL "ValueError.__new__" = true
  kp : PySem.W.keepIn K (.ref C) = true
  bE : PySem.W.subIn K (.ref C) (.type "BaseException") = some true
  tE : PySem.W.typeIn K (.ref C) = some (.type "type")
  ex : ExcC K C
  le : PySem.W.exmOne K (.ref C) (.ref LE) = some true
  se : PySem.W.exmOne K (.ref C) (.ref C) = some true
  ve : PySem.W.kitOne K (.ref C) (.type "ValueError") = some true
def xclsB (K : PySem.W.Frag) (C LE : Addr) : Bool :=
  PySem.W.excIn K C veL "ValueError.__new__" && (PySem.W.keepIn K (.ref C) && (decide (PySem.W.subIn K (.ref C) (.type "BaseException") = some true) && (decide (PySem.W.typeIn K (.ref C) = some (.type "type")) &&
    ((decide (PySem.W.findIn K (.ref C) "__getattribute__" = some (some (.builtin "BaseException.__getattribute__"))) && (decide (PySem.W.findIn K (.ref C) "__getattr__" = some none) && (PySem.W.hasDictIn K C && (decide (PySem.W.findIn K (.ref C) "__class__" = some (some (.builtin "object.__class__"))) &&
      (decide (PySem.W.specialIn K (.builtin "object.__class__") "__get__" = some (some (.builtin "getset_descriptor.__get__"))) && (decide (PySem.W.takesIn K (.builtin "object.__class__") = some true) && decide (PySem.W.mroIn K C (.type "object") = some true))))))) &&
    (decide (PySem.W.exmOne K (.ref C) (.ref LE) = some true) && (decide (PySem.W.exmOne K (.ref C) (.ref C) = some true) && decide (PySem.W.kitOne K (.ref C) (.type "ValueError") = some true)))))))
theorem xcls_of {K : PySem.W.Frag} {C LE : Addr} (h : xclsB K C LE = true) : XCls K C LE := by
  unfold xclsB at h
  simp only [Bool.and_eq_true, decide_eq_true_eq] at h
  obtain ⟨h1, h2, h3, h4, ⟨g1, g2, g3, g4, g5, g6, g7⟩, h5, h6, h7⟩ := h
  exact ⟨h1, h2, h3, h4, ⟨g1, g2, h3, g3, g4, g5, g6, g7⟩, h5, h6, h7⟩
/-- the exceptions R that are raised and caught, among those that are asked for, A -/
structure XFam (K : PySem.W.Frag) (xa : Str → Addr) (R A : List Str) : Prop where
  cls : ∀ n ∈ R, XCls K (xa n) (xa "ListError")
  kit : ∀ n ∈ R, ∀ m ∈ A, PySem.W.kitOne K (.ref (xa n)) (.ref (xa m)) = some (n == m)
def xfamB (K : PySem.W.Frag) (xa : Str → Addr) (R A : List Str) : Bool :=
  R.all (fun n => xclsB K (xa n) (xa "ListError")) && R.all fun n => A.all fun m => decide (PySem.W.kitOne K (.ref (xa n)) (.ref (xa m)) = some (n == m))
theorem xfam_of {K : PySem.W.Frag} {xa : Str → Addr} {R A : List Str} (h : xfamB K xa R A = true) : XFam K xa R A := by
  obtain ⟨h1, h2⟩ := (Bool.and_eq_true _ _).mp h
  exact ⟨fun n hn => xcls_of (List.all_eq_true.mp h1 n hn), fun n hn m hm => of_decide_eq_true (List.all_eq_true.mp (List.all_eq_true.mp h2 n hn) m hm)⟩
end My

set_option Elab.async false
set_option linter.all false
set_option maxRecDepth 100000
set_option maxHeartbeats 2000000
namespace My
open PySem PySem.Spec PyProof.Rows L2
/-! ### xs.count(y) of flat values -/
/-! ### a() within a try, a the lambda that was handed in -/
theorem Takes.len {X : Cx} {W : WX} (tk : Takes X W) : Takes X fun cls d σ H => σ.length = X.N.length → W cls d σ H := fun u s' ⟨a, B, sI, pins, σ, H, cls, d, e, I, nb, up, sky, na, os, ag, w⟩ =>
  tk u s' ⟨a, B, sI, pins, σ, H, cls, d, e, I, nb, up, sky, na, os, ag, w I.len⟩
/-! ### x(lambda: body): of all else that stands nothing is lost -/
end My

set_option Elab.async false
set_option linter.all false
set_option maxRecDepth 100000
set_option maxHeartbeats 2000000
namespace My
open PySem PySem.Spec PyProof.Rows L2
/-! ### a method that may raise, called where it doesn't; x(lambda: body) by the fact of the def x -/
theorem passNo {P : Program} {w : World} {X : Cx} (σ : L2.St) : PassesAt (L2.CX P w) X σ (fun _ _ _ => False) := fun _ _ _ _ _ _ h => by
  obtain ⟨_, _, _, _, _, _, _, _, _, _, _, _, z⟩ := h
  exact z.elim
end My

set_option Elab.async false
set_option linter.all false
set_option maxRecDepth 100000
set_option maxHeartbeats 2000000
namespace My
open PySem PySem.Spec PyProof.Rows L2
/-! ### {(True, False): "..", ..}.get(k, "..") -/
abbrev KvS := List (List Bool × Addr × Str)
def kB (bs : List Bool) : NestedKey := .tup (bs.map fun b => .num (if b = true then 1 else 0))
theorem kB_inj {a b : List Bool} (h : kB a = kB b) : a = b := by
  unfold kB at h
  injection h with h
  refine List.map_inj_right (fun x y e => ?_) |>.mp h
  injection e with e
  cases x <;> cases y <;> first | rfl | (exact absurd e (by decide))
theorem kB_depth (bs : List Bool) : (kB bs).depth ≤ 8 := by
  have key : ∀ bs : List Bool, NestedKey.depthAll (bs.map fun b => .num (if b = true then 1 else 0)) ≤ 0 := fun bs => by
    induction bs with
    | nil => exact Nat.le_refl _
    | cons b bs ih =>
      show max 0 _ ≤ 0
      omega
  show NestedKey.depthAll (bs.map fun b => .num (if b = true then 1 else 0)) + 1 ≤ 8
  have := key bs
  omega
abbrev RelS : KvS → List (NestedKey × Addr × Value) → Prop := Paired fun p q => kB p.1 = q.1 ∧ p.2.1 = q.2.1 ∧ RelV (.str p.2.2) q.2.2
def LiesS (w : World) (d : Addr) (kvs : KvS) (h : Heap) : Prop :=
  (d == sysModules) = false ∧ ∃ xs, RelS kvs xs ∧ (xs.map (·.1)).Nodup ∧ ∃ (o : Obj) (es : Array DictEntry) (ep : Nat), h.get? d = some o ∧ o.ExactDict ∧ o.data = .dict es ep ∧ es.toList = xs.map (entQ w)
def dicS (w : World) (d : Addr) (kvs : KvS) : HO := .ext (LiesS w d kvs)
/-- the tuples of the keys stand -/
def KeysS (H : Hp) (kvs : KvS) : Prop := ∀ p ∈ kvs, Rd H p.2.1 (.tup (p.1.map V.bl))
def valS (kvs : KvS) (bs : List Bool) : Option Str := (kvs.find? fun p => decide (p.1 = bs)).map (·.2.2)
section
variable {X : Cx} {pins : List (Addr × Obj)} {σ : L2.St} {H : Hp} {s : Shared} {d a : Addr} {kvs : KvS} {bs : List Bool}
theorem ext_dicS {P : Program} {w : World} {H : Hp} {h : Heap} (l : LiesS w d kvs h) : ObjOk P w H h d (dicS w d kvs) :=
  ⟨l, (let ⟨_, _, _, _, o, _, _, e, _⟩ := l; ⟨o, e⟩), fun h1 h2 l k => let ⟨a, xs, r, nd, o, es, ep, e, c⟩ := l; ⟨a, xs, r, nd, o, es, ep, k o e, c⟩⟩
theorem bools_is {h : Heap} : ∀ {bs : List Bool} {us : List Value}, Vals (bs.map V.bl) us → NestedAll h (bs.map fun b => .num (if b = true then 1 else 0)) us
  | [], _, r => by
    cases r
    exact .nil
  | b :: bs, _, r => by
    cases r with
    | cons r t =>
      cases r
      exact .cons (.bool rfl) (bools_is t)
theorem kB_is (I : L2.Inv X pins σ H s) (h : Rd H a (.tup (bs.map V.bl))) : NestedIs s.heap (kB bs) (.ref a) := by
  obtain ⟨its, rv, ⟨⟨oc, od, oda, osl⟩, ht, hcl, ⟨m, hdt⟩⟩, _⟩ := I.tuple (.inl h)
  obtain rfl : oc = .type "tuple" := hcl
  obtain rfl : oda = .seq its.toArray m := hdt
  exact .tup ht rfl rfl (by simpa using bools_is rv)
theorem dicS_at (I : L2.Inv X pins σ H s) (h : H d = some (dicS X.w d kvs)) (ok : KeysS H kvs) : ∃ xs, (d == sysModules) = false ∧ RelS kvs xs ∧ s.heap.DictOfH (nestedKind X.prog X.w) d xs := by
  obtain ⟨a, xs, r, nd, o, es, ep, e, c, dt, el⟩ : LiesS X.w d kvs s.heap := (I.hok d _ h).1
  refine ⟨xs, a, r, o, es, ep, e, c, dt, el, fun x hx => ?_, nd⟩
  have key : ∀ {kvs : KvS} {xs : List (NestedKey × Addr × Value)}, RelS kvs xs → KeysS H kvs → ∀ x ∈ xs, (nestedKind X.prog X.w).is s.heap x.1 x.2.1 := fun {kvs xs} r => by
    induction r with
    | nil => exact fun _ x hx => nomatch hx
    | @cons p q ps qs e t ih =>
      intro ok x hx
      rcases List.mem_cons.mp hx with z | z
      · rw [z, ← e.1, ← e.2.1]
        exact ⟨kB_is I (ok p List.mem_cons_self), kB_depth _⟩
      · exact ih (fun p hp => ok p (List.mem_cons_of_mem _ hp)) x z
  exact key r ok x hx
theorem RelS.look {xs : List (NestedKey × Addr × Value)} (r : RelS kvs xs) (bs : List Bool) : (valS kvs bs = none ∧ atKey xs (kB bs) = none) ∨ ∃ x p, valS kvs bs = some x ∧ atKey xs (kB bs) = some p ∧ RelV (.str x) p.2 := by
  induction r with
  | nil => exact .inl ⟨rfl, rfl⟩
  | @cons p q ps qs e t ih =>
    by_cases c : p.1 = bs
    · refine .inr ⟨p.2.2, q.2, ?_, ?_, e.2.2⟩
      · unfold valS
        rw [List.find?_cons, decide_eq_true c]
        rfl
      · unfold atKey
        rw [List.find?_cons, ← e.1, c, decide_eq_true rfl]
        rfl
    · have c2 : ¬ q.1 = kB bs := fun z => c (kB_inj (e.1.trans z))
      have e1 : valS (p :: ps) bs = valS ps bs := by
        unfold valS
        rw [List.find?_cons, decide_eq_false c]
      have e2 : atKey (q :: qs) (kB bs) = atKey qs (kB bs) := by
        unfold atKey
        rw [List.find?_cons, decide_eq_false c2]
      rw [e1, e2]
      exact ih
/-- {t1: "..", t2: ".."}, its keys unlike tuples of truths -/
def tDispS (w : World) (trs : List (TE × TE)) : TE := fun σ H Q => ∀ p, H p = none → tPairs trs σ (upd H p (dicS w p [])) fun ps H2 => H2 p = some (dicS w p []) ∧ ∃ (b1 b2 : List Bool) (a1 a2 : Addr) (s1 s2 : Str), ps = [(.ref a1, .str s1), (.ref a2, .str s2)] ∧ Rd H2 a1 (.tup (b1.map V.bl)) ∧ Rd H2 a2 (.tup (b2.map V.bl)) ∧ b1 ≠ b2 ∧ Q (.ref p) (upd H2 p (dicS w p [(b1, a1, s1), (b2, a2, s2)]))
theorem pe_dispS (w : World) {pos : Pos} {keys : List (Option Expr)} {values : List Expr} {trs : List (TE × TE)} (hu : X.A.units + 64 < cLine) (h : PPs X pos keys values trs) (hall : keys.all (·.isSome) = true) (hl : keys.length = values.length) (h0 : keys ≠ []) (h15 : keys.length ≤ 15) (hw : X.w = w := by rfl) : PE X (.Dict keys values pos) (tDispS w trs) := by
  subst hw
  refine ⟨fun pins s σ H Q I q => ?_⟩
  have hn := I.hok.fresh (Nat.le_refl s.heap.objs.size)
  have here := Heap.get?_push_size s.heap (o := { cls := .type "dict", data := .dict #[] }) rfl
  have nd : (s.heap.objs.size == sysModules) = false := beq_eq_false_iff_ne.mpr (Nat.ne_of_gt I.big)
  have I1 := I.laid (a := s.heap.objs.size) (o := dicS X.w s.heap.objs.size []) (h' := s.heap.push { cls := .type "dict", data := .dict #[] }) (t' := s.toks) (fun _ _ q => Heap.get?_push_of_some _ q) (Nat.le_refl _) (ext_dicS ⟨nd, [], .nil, .nil, _, _, _, here, ⟨rfl, rfl, rfl⟩, rfl, rfl⟩)
  have hpl := pairTrees_length keys values X.env pos hall hl
  rw [arm_eval_Dict, zip_pairTrees keys values X.env pos hall hl, dictDisplay_pairs _ (fun he => h0 (by rw [he] at hpl; exact List.length_eq_zero_iff.mp hpl.symm)) (by omega)]
  refine wpAny_bind (wpAny_standAt (wpAny_bind (wpAny_subDictH (knd := nestedKind X.prog X.w) (by show X.A.units + 8 < cLine; omega) (by omega) (thn (h.run pins _ σ _ _ I1 (q _ hn)) fun ws s2 ⟨ps, H2, I2, rel, e, b1, b2, a1, a2, s1, s2', ep, r1, r2, ne, q2⟩ => ?_))))
  subst ep
  obtain ⟨u1, u2, v1, v2, rfl, e1, e2, e3, e4⟩ : ∃ u1 u2 v1 v2, ws = [(u1, v1), (u2, v2)] ∧ RelV (.ref a1) u1 ∧ RelV (.str s1) v1 ∧ RelV (.ref a2) u2 ∧ RelV (.str s2') v2 := by
    cases rel with
    | cons f1 t1 =>
      cases t1 with
      | cons f2 t2 =>
        cases t2
        exact ⟨_, _, _, _, rfl, f1.1, f1.2, f2.1, f2.2⟩
  cases e1
  cases e3
  obtain ⟨xs0, nd0, r0, m0⟩ := dicS_at I2 e (fun p hp => nomatch hp)
  cases r0
  have k12 : kB b1 ≠ kB b2 := fun z => ne (kB_inj z)
  refine ⟨[(kB b1, a1, v1), (kB b2, a2, v2)], ⟨rfl, rfl, ⟨kB_is I2 r1, kB_depth _⟩, rfl, rfl, ⟨kB_is I2 r2, kB_depth _⟩, trivial⟩, m0, fun h' tk hm hs => wpAny_pure ?_⟩
  have est : storedAllH [] [(kB b1, a1, v1), (kB b2, a2, v2)] = [(kB b1, a1, v1), (kB b2, a2, v2)] := by
    simp [storedAllH, storedH, atKey, k12]
  rw [est] at hm
  obtain ⟨o, es, ep, ho, hc, hd, he, _, hnd⟩ := hm
  refine ⟨.ref s.heap.objs.size, _, ?_, rfl, q2⟩
  refine I2.write (x := s.heap.objs.size) (e := s.heap.objs.size) (by rw [e]; exact trivial) (.inl rfl) (fun b u nb hu => (hs.2 b nb).trans hu) ⟨o, ho⟩ (ext_dicS ⟨nd, _, .cons ⟨rfl, rfl, e2⟩ (.cons ⟨rfl, rfl, e4⟩ .nil), hnd, o, es, ep, ho, hc, hd, he⟩)
/-- d.get(k, "..") -/
def tDGetS (w : World) (td ty tx : TE) : TE := fun σ H Q => td σ H fun x H1 => ∃ d kvs, x = .ref d ∧ H1 d = some (dicS w d kvs) ∧ KeysS H1 kvs ∧ ty σ H1 fun y H2 => tx σ H2 fun z H3 => ∃ (a : Addr) (kvs : KvS) (bs : List Bool) (sx : Str), y = .ref a ∧ z = .str sx ∧ H3 d = some (dicS w d kvs) ∧ KeysS H3 kvs ∧ Rd H3 a (.tup (bs.map V.bl)) ∧ Q (.str ((valS kvs bs).getD sx)) H3
theorem plain_dicS {P : Program} {w : World} {h : Heap} {xs : List (NestedKey × Addr × Value)} (m : h.DictOfH (nestedKind P w) d xs) : ∀ b, Value.ref d = .ref b → ∃ ob, h.get? b = some ob ∧ ob.dict = none := fun b e => by
  cases e
  obtain ⟨o, _, _, h1, h2, _⟩ := m
  exact ⟨o, h1, h2.2.1⟩
theorem pe_dgetS (w : World) {o e f : Expr} {apos cpos : Pos} {td ty tx : TE} (hu : X.A.units + 64 < cLine) (ho : PE X o td) (he : PE X e ty) (hf : PE X f tx) (m : M2 X o "get" apos e f cpos) (hw : X.w = w := by rfl) : PE X (.Call (.Attribute o "get" apos) [e, f] [] cpos) (tDGetS w td ty tx) := by
  subst hw
  constructor
  intro pins s σ H Q I h
  refine wpAny_Call_method m.base m.few m.line F.plainAttrs_dict F.slot_dict_get F.type_dict_get (thn (ho.run pins s σ H _ I h) fun u s1 hh => ?_)
  obtain ⟨x, H1, I1, rx, d, kvs, rfl, hd, ok, q1⟩ := hh
  cases rx
  obtain ⟨xs, nd, r, mm⟩ := dicS_at I1 hd ok
  refine ⟨mm.typeIs, plain_dicS mm, ?_⟩
  rw [m.trees]
  refine Calls.callWith_builtin rfl (Calls.evalArgs_plain (Calls.spliced_cons (thn (he.run pins s1 σ H1 _ I1 q1) fun iv s2 ⟨y, H2, I2, ry, q2⟩ => Calls.spliced_cons (thn (hf.run pins s2 σ H2 _ I2 q2) fun fv s3 hh3 => Calls.spliced_nil ?_))))
  obtain ⟨z, H3, I3, rz, a, kvs3, bs, sx, rfl, rfl, hd3, ok3, hk, q3⟩ := hh3
  cases ry
  obtain ⟨xs3, nd3, r3, m3⟩ := dicS_at I3 hd3 ok3
  refine call_meetsIn F.slot_dict_get m3.typeIs F.entry_dict_get (F.args_dict_get_3 _ _ _) (meetsH_dict_get_default (nestedKind X.prog X.w) d a nd3 fv) ⟨by show X.A.units + 1 + 8 < cLine; omega, kB bs, xs3, ⟨kB_is I3 hk, kB_depth _⟩, m3, ?_⟩
  have I4 := I3.kept (h' := s3.heap) (t' := s3.toks + (nestedKind X.prog X.w).draws (kB bs)) fun _ _ e => e
  rcases RelS.look r3 bs with ⟨h1, h2⟩ | ⟨m1, p, h1, h2, h3⟩
  · rw [h1] at q3
    rw [h2]
    exact ⟨_, H3, I4, rz, q3⟩
  · rw [h1] at q3
    rw [h2]
    exact ⟨_, H3, I4, h3, q3⟩
end
end My

set_option Elab.async false
set_option linter.all false
set_option maxRecDepth 100000
set_option maxHeartbeats 2000000
namespace My
open PySem PySem.Spec PyProof.Rows L2
/-! ### sorted of ([what a list sorts a row by], its number) -/
def kyE (cols o : List Nat) (x : Nat × List Int) : Ent := (keyM cols x.2 o, (x.1 : Int))
def kyD (cols o : List Nat) (x : Nat × List Int) : PyData := .tuple [lsD (keyM cols x.2 o), .int (x.1 : Int)]
theorem lsD_alike (a b : List Int) : W.alike (lsD a) (lsD b) = true := by
  show W.alike (.list _) (.list _) = true
  rw [W.alike]
  exact W.alike_ints _ _
theorem dataLt_ky (cols o : List Nat) (b c : Nat × List Int) : W.dataLt (kyD cols o b) (kyD cols o c) = entLt (kyE cols o b) (kyE cols o c) := by
  unfold kyD
  rw [W.dataLt_pair (lsD_alike _ _) (by simp [W.alike]), W.dataLt_int]
  have e1 : PyData.eqv (lsD (keyM cols b.2 o)) (lsD (keyM cols c.2 o)) = decide (keyM cols b.2 o = keyM cols c.2 o) := eqvA_int _ _
  have e2 : W.dataLt (lsD (keyM cols b.2 o)) (lsD (keyM cols c.2 o)) = decide (keyM cols b.2 o < keyM cols c.2 o) := by
    show W.dataLt (.list _) (.list _) = _
    rw [W.dataLt_list]
    exact W.dataLt_ints _ _
  rw [e1, e2]
  unfold entLt kyE
  by_cases e : keyM cols b.2 o = keyM cols c.2 o
  · rw [decide_eq_true e, if_pos rfl, if_pos e]
    show (if ((b.1 : Int) == (c.1 : Int)) = true then false else decide ((b.1 : Int) < (c.1 : Int))) = decide ((b.1 : Int) < (c.1 : Int))
    by_cases f : (b.1 : Int) = (c.1 : Int)
    · rw [f]
      simp
    · simp [f]
  · rw [decide_eq_false e, if_neg (by decide), if_neg e]
theorem ky_le (cols o : List Nat) : (W.dataLe false fun b : V × (Nat × List Int) => kyD cols o b.2) = fun b c => entLe (kyE cols o b.2) (kyE cols o c.2) := by
  funext b c
  show (!W.dataLt (kyD cols o c.2) (kyD cols o b.2)) = _
  rw [dataLt_ky]
  rfl
theorem ky_ok (cols o : List Nat) (bs : List (V × (Nat × List Int))) : W.AllAlike (bs.map fun b => kyD cols o b.2) ∧ W.Sortable (bs.map fun b => kyD cols o b.2) ∧ ∀ b ∈ bs, (kyD cols o b.2).depth ≤ 20 := by
  refine ⟨W.AllAlike.of fun b c => ?_, W.Sortable.tuples fun b => ⟨_, _, rfl⟩, fun b _ => ?_⟩
  · show W.alike (.tuple [lsD _, .int _]) (.tuple [lsD _, .int _]) = true
    rw [W.alike, W.alikeAll, W.alikeAll, lsD_alike]
    simp [W.alike, W.alikeAll]
  · show max (PyData.depth (lsD _)) (max 0 0) + 1 ≤ 20
    have : PyData.depth (lsD (keyM cols b.2.2 o)) = 1 := by
      show PyData.depthAll ((keyM cols b.2.2 o).map PyData.int) + 1 = 1
      rw [W.depth_ints]
    omega
/-- what is sorted so stands as the list has it -/
theorem ky_ord {cols o : List Nat} {bs : List (V × (Nat × List Int))} {th : Nmd} (h : bs.map (·.2) = th) (nd : (th.map (·.1)).Nodup) : IsOrd cols th o ((bs.mergeSort (W.dataLe false fun b => kyD cols o b.2)).map (·.2.1)) := by
  have p := List.mergeSort_perm bs (W.dataLe false fun b : V × (Nat × List Int) => kyD cols o b.2)
  refine ⟨(bs.mergeSort (W.dataLe false fun b => kyD cols o b.2)).map (·.2), by rw [List.map_map]; rfl, by rw [← h]; exact p.map _, ?_⟩
  have pw := List.pairwise_mergeSort (le := W.dataLe false fun b : V × (Nat × List Int) => kyD cols o b.2) (fun a b c h1 h2 => by
    rw [ky_le] at h1 h2 ⊢
    exact entLe_trans _ _ _ h1 h2) (fun a b => by
    rw [ky_le]
    exact entLe_total _ _) bs
  have nd2 : ((bs.mergeSort (W.dataLe false fun b => kyD cols o b.2)).map fun b => b.2.1).Nodup := by
    have e : (bs.map fun b => b.2.1) = th.map (·.1) := by rw [← h, List.map_map]; rfl
    exact (p.map fun b => b.2.1).nodup_iff.mpr (e ▸ nd)
  rw [List.pairwise_map]
  have ne := List.pairwise_map.mp nd2
  refine (List.Pairwise.and pw ne).imp fun {a b} hab => ?_
  obtain ⟨h1, h2⟩ := hab
  rw [ky_le] at h1
  have h3 : entLt (kyE cols o b.2) (kyE cols o a.2) = false := by
    unfold entLe at h1
    simpa using h1
  rcases entLt_tri (kyE cols o a.2) (kyE cols o b.2) with z | z | z
  · unfold entLt kyE at z
    dsimp only at z
    split at z
    · next e => exact .inr ⟨e, by have := of_decide_eq_true z; omega⟩
    · exact .inl (of_decide_eq_true z)
  · exact absurd (by have := congrArg Prod.snd z; unfold kyE at this; dsimp only at this; omega) h2
  · rw [h3] at z
    cases z
def rSortKy (K : PySem.W.Frag) : List V → Hp → VK → Prop := fun xs H Q => ∃ (cols o : List Nat) (p : Addr) (bs : List (V × (Nat × List Int))), xs = [.ref p] ∧ SqL K H p (bs.map (·.1)) ∧ (∀ b ∈ bs, Dp K H b.1 (kyD cols o b.2)) ∧ ∀ l, H l = none → Q (.ref l) (upd H l (.lst ((bs.mergeSort (W.dataLe false fun b => kyD cols o b.2)).map (·.1))))
theorem cSortKy (K : PySem.W.Frag) {X : Cx} {k : Nat} (hr : Room k X.A) (hK : X.K = K := by rfl) : CallR X (.builtin "sorted") (rSortKy K) := by
  intro pins s σ H xs us Q I r h
  obtain ⟨cols, o, p, bs, rfl, hq, hf, q⟩ := h
  obtain ⟨h1, h2, h3⟩ := ky_ok cols o bs
  exact cSortDL K (enc := kyD cols o) hr hK pins s σ H _ us Q I r ⟨p, bs, rfl, hq, hf, h1, h2, h3, q⟩
end My

set_option Elab.async false
set_option linter.all false
set_option maxRecDepth 100000
set_option maxHeartbeats 1000000
namespace My
open PySem PySem.Spec PyProof.Rows L2
def topS (i : Nat) : Stmt := PySem.Challenge.pw_stretchkeep_k41_kept_refused.main.body.getD i (.Pass ⟨0, 0, 0, 0⟩)
abbrev s_picked : Stmt := topS 9
theorem sc_picked : FnScope ["columns", "row", "letters"] ["columns", "row", "letters"] (defScope s_picked) := ⟨rfl, rfl, rfl, by decide +kernel, rfl, by decide +kernel, by decide +kernel⟩
abbrev s_letters_of : Stmt := topS 11
theorem sc_letters_of : FnScope ["equals", "letter", "number"] ["equals"] (defScope s_letters_of) := ⟨rfl, rfl, rfl, by decide +kernel, rfl, by decide +kernel, by decide +kernel⟩
abbrev s_spans : Stmt := topS 12
theorem sc_spans : FnScope ["question", "equals", "reach", "letter", "wanted", "low", "high", "number"] ["question"] (defScope s_spans) := ⟨rfl, rfl, rfl, by decide +kernel, rfl, by decide +kernel, by decide +kernel⟩
abbrev s_fits : Stmt := topS 13
theorem sc_fits : FnScope ["columns", "row", "question", "wanted", "letter", "low", "high"] ["columns", "row", "question"] (defScope s_fits) := ⟨rfl, rfl, rfl, by decide +kernel, rfl, by decide +kernel, by decide +kernel⟩
abbrev s_used : Stmt := topS 15
theorem sc_used : FnScope ["one", "question", "equals", "reach", "letters", "many"] ["one", "question"] (defScope s_used) := ⟨rfl, rfl, rfl, by decide +kernel, rfl, by decide +kernel, by decide +kernel⟩
abbrev s_stretch : Stmt := topS 16
theorem sc_stretch : FnScope ["table", "one", "question", "columns", "rows", "letters", "first", "last", "keys", "ahead", "behind", "wanted", "row", "key"] ["table", "one", "question"] (defScope s_stretch) := ⟨rfl, rfl, rfl, by decide +kernel, rfl, by decide +kernel, by decide +kernel⟩
abbrev s_price_by : Stmt := topS 18
theorem sc_price_by : FnScope ["table", "one", "question", "columns", "rows", "start", "end"] ["table", "one", "question"] (defScope s_price_by) := ⟨rfl, rfl, rfl, by decide +kernel, rfl, by decide +kernel, by decide +kernel⟩
abbrev s_Rows___init__ : Stmt := inClass (topS 20) 0
theorem sc_Rows___init__ : FnScope ["self", "table", "columns", "rows"] ["self", "table"] (defScope s_Rows___init__) := ⟨rfl, rfl, rfl, by decide +kernel, rfl, by decide +kernel, by decide +kernel⟩
abbrev s_Rows_put : Stmt := inClass (topS 20) 1
theorem sc_Rows_put : FnScope ["self", "row", "number"] ["self", "row"] (defScope s_Rows_put) := ⟨rfl, rfl, rfl, by decide +kernel, rfl, by decide +kernel, by decide +kernel⟩
abbrev s_Rows_take : Stmt := inClass (topS 20) 2
theorem sc_Rows_take : FnScope ["self", "number"] ["self", "number"] (defScope s_Rows_take) := ⟨rfl, rfl, rfl, by decide +kernel, rfl, by decide +kernel, by decide +kernel⟩
abbrev s_Rows_as_table : Stmt := inClass (topS 20) 3
theorem sc_Rows_as_table : FnScope ["self"] ["self"] (defScope s_Rows_as_table) := ⟨rfl, rfl, rfl, by decide +kernel, rfl, by decide +kernel, by decide +kernel⟩
abbrev s_Kept___init__ : Stmt := inClass (topS 21) 0
theorem sc_Kept___init__ : FnScope ["self", "table", "choice", "number", "one"] ["self", "table", "choice"] (defScope s_Kept___init__) := ⟨rfl, rfl, rfl, by decide +kernel, rfl, by decide +kernel, by decide +kernel⟩
abbrev s_Kept_key_by : Stmt := inClass (topS 21) 1
theorem sc_Kept_key_by : FnScope ["self", "one", "number"] ["self", "one", "number"] (defScope s_Kept_key_by) := ⟨rfl, rfl, rfl, by decide +kernel, rfl, by decide +kernel, by decide +kernel⟩
abbrev s_Kept_enter : Stmt := inClass (topS 21) 2
theorem sc_Kept_enter : FnScope ["self", "number", "one", "order", "key", "ahead", "other"] ["self", "number"] (defScope s_Kept_enter) := ⟨rfl, rfl, rfl, by decide +kernel, rfl, by decide +kernel, by decide +kernel⟩
abbrev s_Kept_put : Stmt := inClass (topS 21) 3
theorem sc_Kept_put : FnScope ["self", "row", "number"] ["self", "row"] (defScope s_Kept_put) := ⟨rfl, rfl, rfl, by decide +kernel, rfl, by decide +kernel, by decide +kernel⟩
abbrev s_Kept_take : Stmt := inClass (topS 21) 4
theorem sc_Kept_take : FnScope ["self", "number", "one"] ["self", "number"] (defScope s_Kept_take) := ⟨rfl, rfl, rfl, by decide +kernel, rfl, by decide +kernel, by decide +kernel⟩
abbrev s_Kept_sorted_by : Stmt := inClass (topS 21) 5
theorem sc_Kept_sorted_by : FnScope ["self", "one"] ["self", "one"] (defScope s_Kept_sorted_by) := ⟨rfl, rfl, rfl, by decide +kernel, rfl, by decide +kernel, by decide +kernel⟩
abbrev s_Kept_next_number : Stmt := inClass (topS 21) 6
theorem sc_Kept_next_number : FnScope ["self"] ["self"] (defScope s_Kept_next_number) := ⟨rfl, rfl, rfl, by decide +kernel, rfl, by decide +kernel, by decide +kernel⟩
abbrev s_Kept_numbers_read : Stmt := inClass (topS 21) 7
theorem sc_Kept_numbers_read : FnScope ["self", "table", "one", "question", "start", "end"] ["self", "table", "one", "question"] (defScope s_Kept_numbers_read) := ⟨rfl, rfl, rfl, by decide +kernel, rfl, by decide +kernel, by decide +kernel⟩
abbrev s_Kept_ask : Stmt := inClass (topS 21) 8
theorem sc_Kept_ask : FnScope ["self", "question", "one", "near", "found", "table", "number"] ["self", "question"] (defScope s_Kept_ask) := ⟨rfl, rfl, rfl, by decide +kernel, rfl, by decide +kernel, by decide +kernel⟩
abbrev s_Kept_moved : Stmt := inClass (topS 21) 9
theorem sc_Kept_moved : FnScope ["self"] ["self"] (defScope s_Kept_moved) := ⟨rfl, rfl, rfl, by decide +kernel, rfl, by decide +kernel, by decide +kernel⟩
abbrev s_l_reel : Stmt := topS 23
theorem sc_l_reel : FnScope ["script", "k", "number", "stir", "found", "turn"] ["script", "k"] (defScope s_l_reel) := ⟨rfl, rfl, rfl, by decide +kernel, rfl, by decide +kernel, by decide +kernel⟩
abbrev s_l_pick : Stmt := topS 24
theorem sc_l_pick : FnScope ["reel", "many", "digit"] ["reel", "many"] (defScope s_l_pick) := ⟨rfl, rfl, rfl, by decide +kernel, rfl, by decide +kernel, by decide +kernel⟩
abbrev s_l_columns : Stmt := topS 25
theorem sc_l_columns : FnScope ["reel", "many", "left", "found", "k"] ["reel", "many"] (defScope s_l_columns) := ⟨rfl, rfl, rfl, by decide +kernel, rfl, by decide +kernel, by decide +kernel⟩
abbrev s_l_one : Stmt := topS 26
theorem sc_l_one : FnScope ["reel", "columns", "left", "found", "k"] ["reel", "columns"] (defScope s_l_one) := ⟨rfl, rfl, rfl, by decide +kernel, rfl, by decide +kernel, by decide +kernel⟩
abbrev s_l_choice : Stmt := topS 27
theorem sc_l_choice : FnScope ["reel", "columns", "many", "found", "k"] ["reel", "columns", "many"] (defScope s_l_choice) := ⟨rfl, rfl, rfl, by decide +kernel, rfl, by decide +kernel, by decide +kernel⟩
abbrev s_l_used : Stmt := topS 28
theorem sc_l_used : FnScope ["one", "question", "letter", "letters", "found", "more", "number"] ["one", "question"] (defScope s_l_used) := ⟨rfl, rfl, rfl, by decide +kernel, rfl, by decide +kernel, by decide +kernel⟩
abbrev s_l_stretch : Stmt := topS 29
theorem sc_l_stretch : FnScope ["table", "one", "question", "columns", "rows", "begun", "equals", "start", "end", "row", "sign", "letter", "here", "low", "high"] ["table", "one", "question"] (defScope s_l_stretch) := ⟨rfl, rfl, rfl, by decide +kernel, rfl, by decide +kernel, by decide +kernel⟩
abbrev s_l_fits : Stmt := topS 30
theorem sc_l_fits : FnScope ["columns", "row", "question", "letter", "number", "low", "high"] ["columns", "row", "question"] (defScope s_l_fits) := ⟨rfl, rfl, rfl, by decide +kernel, rfl, by decide +kernel, by decide +kernel⟩
abbrev s_l_right : Stmt := topS 31
theorem sc_l_right : FnScope ["found", "columns", "there", "choice", "question", "some", "one", "many", "due", "table", "by", "other", "start", "end", "least", "number"] ["found", "columns", "there", "choice", "question"] (defScope s_l_right) := ⟨rfl, rfl, rfl, by decide +kernel, rfl, by decide +kernel, by decide +kernel⟩
abbrev s_l_word : Stmt := topS 32
theorem sc_l_word : FnScope ["kept", "way", "thing", "caught", "e", "kinds"] ["kept", "way", "thing"] (defScope s_l_word) := ⟨rfl, rfl, rfl, by decide +kernel, rfl, by decide +kernel, by decide +kernel⟩
abbrev s_l_state : Stmt := topS 33
theorem sc_l_state : FnScope ["kept", "columns", "choice", "row", "told", "question", "found", "one"] ["kept", "columns", "choice", "row"] (defScope s_l_state) := ⟨rfl, rfl, rfl, by decide +kernel, rfl, by decide +kernel, by decide +kernel⟩
abbrev s_l_listed : Stmt := topS 34
theorem sc_l_listed : FnScope ["kept", "columns", "there", "choice", "number", "question", "one", "keyed", "key", "letter"] ["kept", "columns", "there", "choice"] (defScope s_l_listed) := ⟨rfl, rfl, rfl, by decide +kernel, rfl, by decide +kernel, by decide +kernel⟩
abbrev s_l_all_refused : Stmt := topS 35
theorem sc_l_all_refused : FnScope ["kept", "columns", "choice", "row", "things", "state", "thing"] ["kept", "columns", "choice", "row", "things"] (defScope s_l_all_refused) := ⟨rfl, rfl, rfl, by decide +kernel, rfl, by decide +kernel, by decide +kernel⟩
abbrev s_l_full_at_once : Stmt := topS 36
theorem sc_l_full_at_once : FnScope ["columns", "choice", "rows", "kept", "state", "at", "spot"] ["columns", "choice"] (defScope s_l_full_at_once) := ⟨rfl, rfl, rfl, by decide +kernel, rfl, by decide +kernel, by decide +kernel⟩
abbrev s_l_by_turns : Stmt := topS 37
theorem sc_l_by_turns : FnScope ["reel", "kept", "there", "row", "most", "gone", "turn", "number"] ["reel", "kept", "there", "row", "most"] (defScope s_l_by_turns) := ⟨rfl, rfl, rfl, by decide +kernel, rfl, by decide +kernel, by decide +kernel⟩
abbrev s_l_begun : Stmt := topS 38
theorem sc_l_begun : FnScope ["reel", "k", "columns", "many", "rows", "choice", "odd", "turn", "letter"] ["reel", "k"] (defScope s_l_begun) := ⟨rfl, rfl, rfl, by decide +kernel, rfl, by decide +kernel, by decide +kernel⟩
abbrev s_l_filled : Stmt := topS 39
theorem sc_l_filled : FnScope ["kept", "there", "row"] ["kept", "there", "row"] (defScope s_l_filled) := ⟨rfl, rfl, rfl, by decide +kernel, rfl, by decide +kernel, by decide +kernel⟩
abbrev s_l_far_on : Stmt := topS 40
theorem sc_l_far_on : FnScope ["kept", "turn"] [] (defScope s_l_far_on) := ⟨rfl, rfl, rfl, by decide +kernel, rfl, by decide +kernel, by decide +kernel⟩
abbrev s_law : Stmt := topS 41
theorem sc_law : FnScope ["script", "k", "reel", "columns", "choice", "there", "kept", "odd", "row", "state", "turn", "taken", "letter"] ["script"] (defScope s_law) := ⟨rfl, rfl, rfl, by decide +kernel, rfl, by decide +kernel, by decide +kernel⟩
structure Ad where
  f_picked : Addr
  d_picked : FuncData
  c_picked : Addr
  P_picked : Addr
  f_letters_of : Addr
  d_letters_of : FuncData
  f_spans : Addr
  d_spans : FuncData
  f_fits : Addr
  d_fits : FuncData
  f_used : Addr
  d_used : FuncData
  f_stretch : Addr
  d_stretch : FuncData
  c_stretch : Addr
  P_stretch : Addr
  f_price_by : Addr
  d_price_by : FuncData
  f_Rows___init__ : Addr
  d_Rows___init__ : FuncData
  f_Rows_put : Addr
  d_Rows_put : FuncData
  f_Rows_take : Addr
  d_Rows_take : FuncData
  f_Rows_as_table : Addr
  d_Rows_as_table : FuncData
  f_Kept___init__ : Addr
  d_Kept___init__ : FuncData
  f_Kept_key_by : Addr
  d_Kept_key_by : FuncData
  f_Kept_enter : Addr
  d_Kept_enter : FuncData
  f_Kept_put : Addr
  d_Kept_put : FuncData
  f_Kept_take : Addr
  d_Kept_take : FuncData
  f_Kept_sorted_by : Addr
  d_Kept_sorted_by : FuncData
  f_Kept_next_number : Addr
  d_Kept_next_number : FuncData
  f_Kept_numbers_read : Addr
  d_Kept_numbers_read : FuncData
  f_Kept_ask : Addr
  d_Kept_ask : FuncData
  c_Kept_ask : Addr
  P_Kept_ask : Addr
  f_Kept_moved : Addr
  d_Kept_moved : FuncData
  f_l_reel : Addr
  d_l_reel : FuncData
  f_l_pick : Addr
  d_l_pick : FuncData
  f_l_columns : Addr
  d_l_columns : FuncData
  f_l_one : Addr
  d_l_one : FuncData
  f_l_choice : Addr
  d_l_choice : FuncData
  f_l_used : Addr
  d_l_used : FuncData
  f_l_stretch : Addr
  d_l_stretch : FuncData
  f_l_fits : Addr
  d_l_fits : FuncData
  f_l_right : Addr
  d_l_right : FuncData
  f_l_word : Addr
  d_l_word : FuncData
  f_l_state : Addr
  d_l_state : FuncData
  f_l_listed : Addr
  d_l_listed : FuncData
  f_l_all_refused : Addr
  d_l_all_refused : FuncData
  f_l_full_at_once : Addr
  d_l_full_at_once : FuncData
  f_l_by_turns : Addr
  d_l_by_turns : FuncData
  f_l_begun : Addr
  d_l_begun : FuncData
  f_l_filled : Addr
  d_l_filled : FuncData
  f_l_far_on : Addr
  d_l_far_on : FuncData
  f_law : Addr
  d_law : FuncData
  C_Rows : Addr
  C_Kept : Addr
  k_MOST_ROWS : Tok
  xa : Str → Addr
abbrev Ad.Ps (Z : Ad) : List Addr := [Z.P_picked, Z.P_stretch]
abbrev Ad.Ls (Z : Ad) : List (Addr × Str) := [(Z.P_Kept_ask, lamQ "Kept.ask")]
abbrev Ad.Pl (Z : Ad) : List Addr := [Z.P_picked, Z.P_stretch, Z.P_Kept_ask]
structure Tb (base : Heap) (mg : Str → Option Value) (Z : Ad) : Prop where
  t_picked : LamX.TabB base mg Z.c_picked Z.P_picked
  t_stretch : LamX.TabB base mg Z.c_stretch Z.P_stretch
  t_Kept_ask : LamX.TabB base mg Z.c_Kept_ask Z.P_Kept_ask
structure Tx (K : PySem.W.Frag) (mg : Str → Option Value) (Z : Ad) : Prop where
  F_picked : Fun K "picked" "picked" s_picked Z.f_picked Z.d_picked
  C_picked : FunC K "picked" "picked" s_picked Z.f_picked Z.d_picked Z.c_picked
  b_picked : Binds K Z.d_picked ["columns", "row", "letters"] []
  g_picked : mg "picked" = some (.ref Z.f_picked)
  F_letters_of : Fun K "letters_of" "letters_of" s_letters_of Z.f_letters_of Z.d_letters_of
  b_letters_of : Binds K Z.d_letters_of ["equals"] []
  g_letters_of : mg "letters_of" = some (.ref Z.f_letters_of)
  F_spans : Fun K "spans" "spans" s_spans Z.f_spans Z.d_spans
  b_spans : Binds K Z.d_spans ["question"] []
  g_spans : mg "spans" = some (.ref Z.f_spans)
  F_fits : Fun K "fits" "fits" s_fits Z.f_fits Z.d_fits
  b_fits : Binds K Z.d_fits ["columns", "row", "question"] []
  g_fits : mg "fits" = some (.ref Z.f_fits)
  F_used : Fun K "used" "used" s_used Z.f_used Z.d_used
  b_used : Binds K Z.d_used ["one", "question"] []
  g_used : mg "used" = some (.ref Z.f_used)
  F_stretch : Fun K "stretch" "stretch" s_stretch Z.f_stretch Z.d_stretch
  C_stretch : FunC K "stretch" "stretch" s_stretch Z.f_stretch Z.d_stretch Z.c_stretch
  b_stretch : Binds K Z.d_stretch ["table", "one", "question"] []
  g_stretch : mg "stretch" = some (.ref Z.f_stretch)
  F_price_by : Fun K "price_by" "price_by" s_price_by Z.f_price_by Z.d_price_by
  b_price_by : Binds K Z.d_price_by ["table", "one", "question"] []
  g_price_by : mg "price_by" = some (.ref Z.f_price_by)
  F_Rows___init__ : Fun K "__init__" "Rows.__init__" s_Rows___init__ Z.f_Rows___init__ Z.d_Rows___init__
  b_Rows___init__ : Binds K Z.d_Rows___init__ ["self", "table"] []
  mk_Rows : Mk K Z.C_Rows Z.f_Rows___init__
  F_Rows_put : Fun K "put" "Rows.put" s_Rows_put Z.f_Rows_put Z.d_Rows_put
  b_Rows_put : Binds K Z.d_Rows_put ["self", "row"] []
  m_Rows_put : Meth K Z.C_Rows "put" Z.f_Rows_put
  F_Rows_take : Fun K "take" "Rows.take" s_Rows_take Z.f_Rows_take Z.d_Rows_take
  b_Rows_take : Binds K Z.d_Rows_take ["self", "number"] []
  m_Rows_take : Meth K Z.C_Rows "take" Z.f_Rows_take
  F_Rows_as_table : Fun K "as_table" "Rows.as_table" s_Rows_as_table Z.f_Rows_as_table Z.d_Rows_as_table
  b_Rows_as_table : Binds K Z.d_Rows_as_table ["self"] []
  m_Rows_as_table : Meth K Z.C_Rows "as_table" Z.f_Rows_as_table
  F_Kept___init__ : Fun K "__init__" "Kept.__init__" s_Kept___init__ Z.f_Kept___init__ Z.d_Kept___init__
  b_Kept___init__ : Binds K Z.d_Kept___init__ ["self", "table", "choice"] []
  mk_Kept : Mk K Z.C_Kept Z.f_Kept___init__
  F_Kept_key_by : Fun K "key_by" "Kept.key_by" s_Kept_key_by Z.f_Kept_key_by Z.d_Kept_key_by
  b_Kept_key_by : Binds K Z.d_Kept_key_by ["self", "one", "number"] []
  m_Kept_key_by : Meth K Z.C_Kept "key_by" Z.f_Kept_key_by
  F_Kept_enter : Fun K "enter" "Kept.enter" s_Kept_enter Z.f_Kept_enter Z.d_Kept_enter
  b_Kept_enter : Binds K Z.d_Kept_enter ["self", "number"] []
  m_Kept_enter : Meth K Z.C_Kept "enter" Z.f_Kept_enter
  F_Kept_put : Fun K "put" "Kept.put" s_Kept_put Z.f_Kept_put Z.d_Kept_put
  b_Kept_put : Binds K Z.d_Kept_put ["self", "row"] []
  m_Kept_put : Meth K Z.C_Kept "put" Z.f_Kept_put
  F_Kept_take : Fun K "take" "Kept.take" s_Kept_take Z.f_Kept_take Z.d_Kept_take
  b_Kept_take : Binds K Z.d_Kept_take ["self", "number"] []
  m_Kept_take : Meth K Z.C_Kept "take" Z.f_Kept_take
  F_Kept_sorted_by : Fun K "sorted_by" "Kept.sorted_by" s_Kept_sorted_by Z.f_Kept_sorted_by Z.d_Kept_sorted_by
  b_Kept_sorted_by : Binds K Z.d_Kept_sorted_by ["self", "one"] []
  m_Kept_sorted_by : Meth K Z.C_Kept "sorted_by" Z.f_Kept_sorted_by
  F_Kept_next_number : Fun K "next_number" "Kept.next_number" s_Kept_next_number Z.f_Kept_next_number Z.d_Kept_next_number
  b_Kept_next_number : Binds K Z.d_Kept_next_number ["self"] []
  m_Kept_next_number : Meth K Z.C_Kept "next_number" Z.f_Kept_next_number
  F_Kept_numbers_read : Fun K "numbers_read" "Kept.numbers_read" s_Kept_numbers_read Z.f_Kept_numbers_read Z.d_Kept_numbers_read
  b_Kept_numbers_read : Binds K Z.d_Kept_numbers_read ["self", "table", "one", "question"] []
  m_Kept_numbers_read : Meth K Z.C_Kept "numbers_read" Z.f_Kept_numbers_read
  F_Kept_ask : Fun K "ask" "Kept.ask" s_Kept_ask Z.f_Kept_ask Z.d_Kept_ask
  C_Kept_ask : FunC K "ask" "Kept.ask" s_Kept_ask Z.f_Kept_ask Z.d_Kept_ask Z.c_Kept_ask
  b_Kept_ask : Binds K Z.d_Kept_ask ["self", "question"] []
  m_Kept_ask : Meth K Z.C_Kept "ask" Z.f_Kept_ask
  F_Kept_moved : Fun K "moved" "Kept.moved" s_Kept_moved Z.f_Kept_moved Z.d_Kept_moved
  b_Kept_moved : Binds K Z.d_Kept_moved ["self"] []
  m_Kept_moved : Meth K Z.C_Kept "moved" Z.f_Kept_moved
  F_l_reel : Fun K "_law_reel" "_law_reel" s_l_reel Z.f_l_reel Z.d_l_reel
  b_l_reel : Binds K Z.d_l_reel ["script", "k"] []
  g_l_reel : mg "_law_reel" = some (.ref Z.f_l_reel)
  F_l_pick : Fun K "_law_pick" "_law_pick" s_l_pick Z.f_l_pick Z.d_l_pick
  b_l_pick : Binds K Z.d_l_pick ["reel", "many"] []
  g_l_pick : mg "_law_pick" = some (.ref Z.f_l_pick)
  F_l_columns : Fun K "_law_columns" "_law_columns" s_l_columns Z.f_l_columns Z.d_l_columns
  b_l_columns : Binds K Z.d_l_columns ["reel", "many"] []
  g_l_columns : mg "_law_columns" = some (.ref Z.f_l_columns)
  F_l_one : Fun K "_law_one" "_law_one" s_l_one Z.f_l_one Z.d_l_one
  b_l_one : Binds K Z.d_l_one ["reel", "columns"] []
  g_l_one : mg "_law_one" = some (.ref Z.f_l_one)
  F_l_choice : Fun K "_law_choice" "_law_choice" s_l_choice Z.f_l_choice Z.d_l_choice
  b_l_choice : Binds K Z.d_l_choice ["reel", "columns", "many"] []
  g_l_choice : mg "_law_choice" = some (.ref Z.f_l_choice)
  F_l_used : Fun K "_law_used" "_law_used" s_l_used Z.f_l_used Z.d_l_used
  b_l_used : Binds K Z.d_l_used ["one", "question"] []
  g_l_used : mg "_law_used" = some (.ref Z.f_l_used)
  F_l_stretch : Fun K "_law_stretch" "_law_stretch" s_l_stretch Z.f_l_stretch Z.d_l_stretch
  b_l_stretch : Binds K Z.d_l_stretch ["table", "one", "question"] []
  g_l_stretch : mg "_law_stretch" = some (.ref Z.f_l_stretch)
  F_l_fits : Fun K "_law_fits" "_law_fits" s_l_fits Z.f_l_fits Z.d_l_fits
  b_l_fits : Binds K Z.d_l_fits ["columns", "row", "question"] []
  g_l_fits : mg "_law_fits" = some (.ref Z.f_l_fits)
  F_l_right : Fun K "_law_right" "_law_right" s_l_right Z.f_l_right Z.d_l_right
  b_l_right : Binds K Z.d_l_right ["found", "columns", "there", "choice", "question"] []
  g_l_right : mg "_law_right" = some (.ref Z.f_l_right)
  F_l_word : Fun K "_law_word" "_law_word" s_l_word Z.f_l_word Z.d_l_word
  b_l_word : Binds K Z.d_l_word ["kept", "way", "thing"] []
  g_l_word : mg "_law_word" = some (.ref Z.f_l_word)
  F_l_state : Fun K "_law_state" "_law_state" s_l_state Z.f_l_state Z.d_l_state
  b_l_state : Binds K Z.d_l_state ["kept", "columns", "choice", "row"] []
  g_l_state : mg "_law_state" = some (.ref Z.f_l_state)
  F_l_listed : Fun K "_law_listed" "_law_listed" s_l_listed Z.f_l_listed Z.d_l_listed
  b_l_listed : Binds K Z.d_l_listed ["kept", "columns", "there", "choice"] []
  g_l_listed : mg "_law_listed" = some (.ref Z.f_l_listed)
  F_l_all_refused : Fun K "_law_all_refused" "_law_all_refused" s_l_all_refused Z.f_l_all_refused Z.d_l_all_refused
  b_l_all_refused : Binds K Z.d_l_all_refused ["kept", "columns", "choice", "row", "things"] []
  g_l_all_refused : mg "_law_all_refused" = some (.ref Z.f_l_all_refused)
  F_l_full_at_once : Fun K "_law_full_at_once" "_law_full_at_once" s_l_full_at_once Z.f_l_full_at_once Z.d_l_full_at_once
  b_l_full_at_once : Binds K Z.d_l_full_at_once ["columns", "choice"] []
  g_l_full_at_once : mg "_law_full_at_once" = some (.ref Z.f_l_full_at_once)
  F_l_by_turns : Fun K "_law_by_turns" "_law_by_turns" s_l_by_turns Z.f_l_by_turns Z.d_l_by_turns
  b_l_by_turns : Binds K Z.d_l_by_turns ["reel", "kept", "there", "row", "most"] []
  g_l_by_turns : mg "_law_by_turns" = some (.ref Z.f_l_by_turns)
  F_l_begun : Fun K "_law_begun" "_law_begun" s_l_begun Z.f_l_begun Z.d_l_begun
  b_l_begun : Binds K Z.d_l_begun ["reel", "k"] []
  g_l_begun : mg "_law_begun" = some (.ref Z.f_l_begun)
  F_l_filled : Fun K "_law_filled" "_law_filled" s_l_filled Z.f_l_filled Z.d_l_filled
  b_l_filled : Binds K Z.d_l_filled ["kept", "there", "row"] []
  g_l_filled : mg "_law_filled" = some (.ref Z.f_l_filled)
  F_l_far_on : Fun K "_law_far_on" "_law_far_on" s_l_far_on Z.f_l_far_on Z.d_l_far_on
  b_l_far_on : Binds K Z.d_l_far_on [] []
  g_l_far_on : mg "_law_far_on" = some (.ref Z.f_l_far_on)
  F_law : Fun K "law" "law" s_law Z.f_law Z.d_law
  b_law : Binds K Z.d_law ["script"] []
  g_law : mg "law" = some (.ref Z.f_law)
  l_Kept_ask : Z.P_Kept_ask ∉ Z.Ps
  cl_Rows : Cls K Z.C_Rows
  g_Rows : mg "Rows" = some (.ref Z.C_Rows)
  n_Rows_columns : NoAttr K Z.C_Rows "columns"
  n_Rows_there : NoAttr K Z.C_Rows "there"
  n_Rows_coming : NoAttr K Z.C_Rows "coming"
  cl_Kept : Cls K Z.C_Kept
  g_Kept : mg "Kept" = some (.ref Z.C_Kept)
  n_Kept_rows : NoAttr K Z.C_Kept "rows"
  n_Kept_orders : NoAttr K Z.C_Kept "orders"
  n_Kept_moves : NoAttr K Z.C_Kept "moves"
  m_len : mg "len" = none
  m_range : mg "range" = none
  m_list : mg "list" = none
  m_sorted : mg "sorted" = none
  m_tuple : mg "tuple" = none
  m_min : mg "min" = none
  m_max : mg "max" = none
  m_enumerate : mg "enumerate" = none
  m_dict : mg "dict" = none
  m_isinstance : mg "isinstance" = none
  m_zip : mg "zip" = none
  m_int : mg "int" = none
  m_bool : mg "bool" = none
  m_str : mg "str" = none
  m_ValueError : mg "ValueError" = none
  c_MOST_ROWS : mg "MOST_ROWS" = some (.int 60 Z.k_MOST_ROWS)
  xf : XFam K Z.xa ["TooMany", "NoNumber"] ["TooMany", "NoNumber", "NoQuestion", "NoRow", "NoText"]
  gx_ListError : mg "ListError" = some (.ref (Z.xa "ListError"))
  gx_TooMany : mg "TooMany" = some (.ref (Z.xa "TooMany"))
  gx_NoNumber : mg "NoNumber" = some (.ref (Z.xa "NoNumber"))
  gx_NoQuestion : mg "NoQuestion" = some (.ref (Z.xa "NoQuestion"))
  gx_NoRow : mg "NoRow" = some (.ref (Z.xa "NoRow"))
  gx_NoText : mg "NoText" = some (.ref (Z.xa "NoText"))
section
variable {P : Program} {w : World} {K : PySem.W.Frag} {mg : Str → Option Value} {base : Heap} {Z : Ad}
/-! ### _law_reel -/
def spReel (K : PySem.W.Frag) : Sp := fun vs H Q _ => ∃ (a : Addr) (ns : List Int) (k : Nat), vs = [.ref a, .int k] ∧ SqL K H a (ns.map V.int) ∧ k < 1000 ∧ ∀ (n : Int) p, H p = none → Q (.ref p) (upd H p (.lst [.int n]))
theorem ok_reel (T : Tx K mg Z) : FnOk P w K mg base CX0 1 Z.f_l_reel Z.d_l_reel ["script", "k"] (spReel K) := by
  refine T.F_l_reel.ok sc_l_reel (fun vs H Q E h => ?_) (fun cdv A outer s H vs Q E hr h => ?_)
  · obtain ⟨a, ns, k, rfl, _⟩ := h
    rfl
  · obtain ⟨a, ns, k, rfl, hS, hk, q⟩ := h
    refine ⟨_, (pss_cons (ps_set (i := 2) sc_l_reel.nd rfl (.inl rfl) (pe_op op_add (pe_op op_mul pe_int (pv 1)) pe_int))
      (pss_mid (ps_if (pt_cmpR op_lt (pv 1) (pe_callB (cLenSq K) (by rfl) T.m_len (by decide +kernel) (pa_cons (pv 0) pa_nil)) (nomark _)) (pss_one (ps_set (i := 2) sc_l_reel.nd rfl (.inl rfl) (pe_ix (ixL K) (pv 0) (pv 1) (fun _ _ => rfl)))) pss_nil)
      (pss_cons (ps_if (pt_cmpR op_eq (pe_op op_mod (pv 2) pe_int) pe_int (nomark _)) (pss_one (ps_ret (pe_lst (pa_cons (pe_op op_fdiv (pv 2) pe_int) pa_nil)))) pss_nil)
      (pss_cons (ps_set (i := 3) sc_l_reel.nd rfl (.inl rfl) (pe_op op_mod (pe_op op_add (pe_op op_add (pe_op op_mul (pe_op op_mod (pv 2) pe_int) pe_int) (pe_op op_mul pe_int (pv 1))) pe_int) pe_int))
      (pss_cons (ps_set (i := 4) sc_l_reel.nd rfl (.inl rfl) pe_int)
      (pss_cons (ps_for PassesOwn.never rfl (pi_range1 (by rfl) T.m_range (pa_cons pe_int pa_nil)) (pg_name (i := 5) sc_l_reel.nd rfl (.inl rfl)) (pss_cons (ps_set (i := 3) sc_l_reel.nd rfl (.inl rfl) (pe_op op_mod (pe_op op_add (pe_op op_add (pe_op op_add (pe_op op_mul (pv 3) (pv 3)) (pe_op op_mul pe_int (pv 3))) (pe_op op_mul pe_int (pv 5))) pe_int) pe_int))
      (pss_one (ps_set (i := 4) sc_l_reel.nd rfl (.inl rfl) (pe_op op_add (pe_op op_mul (pv 4) pe_int) (pv 3))))))
      (pss_one (ps_ret (pe_lst (pa_cons (pv 4) pa_nil)))))))))), ?_⟩
    have b64 : ∀ x : Int, 0 ≤ x → x < 2147483399 → -(2 ^ 64) < x ∧ x < 2 ^ 64 := fun x h0 h1 => ⟨by omega, by omega⟩
    have em : ∀ x : Int, 0 ≤ x % 2147483399 ∧ x % 2147483399 < 2147483399 := fun x => ⟨Int.emod_nonneg _ (by decide), Int.emod_lt_of_pos _ (by decide)⟩
    refine ⟨.int k, rfl, 7, k, rfl, rfl, .inl ⟨by decide, by decide⟩, _, 4, rfl, rfl, ?_⟩
    refine ⟨fun σ H' => ∃ num : Int, σ = [some (.ref a), some (.int k), some (.int num), none, none, none] ∧ H' = H, ?_, ?_⟩
    · refine ⟨.int k, rfl, .ref a, rfl, a, _, rfl, .inl hS, _, _, rfl, rfl, _, rfl, ite2 (fun e => ?_) (fun e => ?_)⟩
      · have e1 : (k : Int) < ((ns.map V.int).length : Nat) := of_decide_eq_true e
        have e2 : k < ns.length := by
          rw [List.length_map] at e1
          omega
        refine ⟨.ref a, rfl, .int k, rfl, a, _, _, .int ns[k], rfl, rfl, hS, atI_nat (by rw [List.getElem?_map, List.getElem?_eq_getElem e2]; rfl), ?_⟩
        exact ⟨_, rfl, rfl⟩
      · exact ⟨_, rfl, rfl⟩
    · intro σ1 H1 hM
      obtain ⟨num, rfl, rfl⟩ := hM
      refine ⟨.int num, rfl, num, 5, rfl, rfl, (by show (0 : Int) < 5; decide), rfl, _, rfl, ite2 (fun e => ?_) (fun e => ?_)⟩
      · refine ⟨.int num, rfl, num, 5, rfl, rfl, ⟨by decide, by decide⟩, (by show 1 ≤ sizeLine; decide), fun p np => ?_⟩
        exact q _ p np
      · refine ⟨.int num, rfl, num, 2147483399, rfl, rfl, (by show (0 : Int) < 2147483399; decide), _, 50021, rfl, rfl, .inl (b64 _ (em _).1 (em _).2), .int k, rfl, 977, k, rfl, rfl, .inl ⟨by decide, by decide⟩, _, _, rfl, rfl, _, 31, rfl, rfl, _, 2147483399, rfl, rfl, (by show (0 : Int) < 2147483399; decide), ?_⟩
        refine ⟨60, rfl, by decide, by decide, for_range (fun i σ H' => ∃ (st fo : Int) (y : Option V), σ = [some (.ref a), some (.int k), some (.int num), some (.int st), some (.int fo), y] ∧ 0 ≤ st ∧ st < 2147483399 ∧ H' = H1) ⟨_, 0, none, rfl, (em _).1, (em _).2, rfl⟩ (fun i σ H' hi hP => ?_) (fun σ H' hP => ?_)⟩
        · obtain ⟨st, fo, y, rfl, s0, s1, rfl⟩ := hP
          refine ⟨.int st, rfl, .int st, rfl, st, st, rfl, rfl, .inl (b64 _ s0 s1), .int st, rfl, 60013, st, rfl, rfl, .inl ⟨by decide, by decide⟩, _, _, rfl, rfl, _, rfl, 29, _, rfl, rfl, .inl ⟨by decide, by decide⟩, _, _, rfl, rfl, _, 5, rfl, rfl, _, 2147483399, rfl, rfl, (by show (0 : Int) < 2147483399; decide), ?_⟩
          refine ⟨.int fo, rfl, fo, 2147483399, rfl, rfl, .inr ⟨by decide, by decide⟩, _, rfl, _, _, rfl, rfl, ?_⟩
          exact ⟨_, _, _, rfl, (em _).1, (em _).2, rfl⟩
        · obtain ⟨st, fo, y, rfl, s0, s1, rfl⟩ := hP
          refine ⟨.int fo, rfl, (by show 1 ≤ sizeLine; decide), fun p np => ?_⟩
          exact q _ p np
/-! ### _law_pick -/
def spPick (K : PySem.W.Frag) : Sp := fun vs H Q _ => ∃ (r : Addr) (n m : Int), vs = [.ref r, .int m] ∧ H r = some (.lst [.int n]) ∧ 0 < m ∧ m < 1073741824 ∧ ∀ (d n' : Int), 0 ≤ d → d < m → Q (.int d) (upd H r (.lst [.int n']))
theorem ok_pick (T : Tx K mg Z) : FnOk P w K mg base CX0 1 Z.f_l_pick Z.d_l_pick ["reel", "many"] (spPick K) := by
  refine T.F_l_pick.ok sc_l_pick (fun vs H Q E h => ?_) (fun cdv A outer s H vs Q E hr h => ?_)
  · obtain ⟨a, n, m, rfl, _⟩ := h
    rfl
  · obtain ⟨r, n, m, rfl, hS, h0, h1, q⟩ := h
    refine ⟨_, (pss_cons (ps_set (i := 2) sc_l_pick.nd rfl (.inl rfl) (pe_op op_mod (pe_ix (ixL K) (pv 0) pe_int (fun _ _ => rfl)) (pv 1)))
      (pss_cons (ps_asg (pe_op op_fdiv (pe_ix (ixL K) (pv 0) pe_int (fun _ _ => rfl)) (pv 1)) (pg_sub (pv 0) pe_int set_list))
      (pss_one (ps_ret (pv 2))))), ?_⟩
    refine ⟨.ref r, rfl, r, [.int n], 0, .int n, rfl, rfl, .inl (.inl hS), rfl, .int m, rfl, n, m, rfl, rfl, h0, ?_⟩
    refine ⟨.ref r, rfl, r, [.int n], 0, .int n, rfl, rfl, .inl (.inl hS), rfl, .int m, rfl, n, m, rfl, rfl, ⟨h0, h1⟩, ?_⟩
    refine ⟨.ref r, rfl, r, [.int n], 0, 0, rfl, rfl, hS, rfl, _, rfl, ?_⟩
    exact q _ _ (Int.emod_nonneg _ (by omega)) (Int.emod_lt_of_pos _ h0)
/-! ### _law_columns -/
def alpha : List Nat := [97, 98, 99, 100, 101, 102, 103, 104, 105, 106, 107, 108, 109, 110, 111, 112, 113, 114, 115, 116, 117, 118, 119, 120, 121, 122]
def spColumns (K : PySem.W.Frag) : Sp := fun vs H Q _ => ∃ (r : Addr) (n : Int) (m : Nat), vs = [.ref r, .int m] ∧ H r = some (.lst [.int n]) ∧ m ≤ 26 ∧ ∀ (l : List Nat) (n' : Int) (H' : Hp), Kp r H H' → H' r = some (.lst [.int n']) → Cols l → l.length = m → Q (tx l) H'
theorem ok_columns (T : Tx K mg Z) : FnOk P w K mg base CX0 2 Z.f_l_columns Z.d_l_columns ["reel", "many"] (spColumns K) := by
  have G_l_pick : FnOk P w K mg base CX0 1 Z.f_l_pick Z.d_l_pick ["reel", "many"] (spPick K) := ok_pick T
  refine T.F_l_columns.ok sc_l_columns (fun vs H Q E h => ?_) (fun cdv A outer s H vs Q E hr h => ?_)
  · obtain ⟨r, n, m, rfl, _⟩ := h
    rfl
  · obtain ⟨r, n, m, rfl, hR, hm, q⟩ := h
    refine ⟨_, (pss_cons (ps_set (i := 2) sc_l_columns.nd rfl (.inl rfl) (pe_callTy call_list_txt (by rfl) T.m_list (by decide +kernel) (pa_cons pe_str pa_nil)))
      (pss_cons (ps_set (i := 3) sc_l_columns.nd rfl (.inl rfl) (pe_lst pa_nil))
      (pss_cons (ps_for PassesOwn.never rfl (pi_range1 (by rfl) T.m_range (pa_cons (pv 1) pa_nil)) (pg_name (i := 4) sc_l_columns.nd rfl (.inl rfl)) (pss_one (ps_expr (bmK K PySem.F.plainAttrs_list PySem.F.slot_list_append PySem.F.type_list_append mt_append (pv 3) (pa_cons (bmK K PySem.F.plainAttrs_list PySem.F.slot_list_pop PySem.F.type_list_pop mt_popAt (pv 2) (pa_cons (pe_call G_l_pick (hr.mono (by omega)) (by rfl) T.g_l_pick T.F_l_pick.kp T.b_l_pick .nil pass0 (pa_cons (pv 0) (pa_cons (pe_callB (cLenSq K) (by rfl) T.m_len (by decide +kernel) (pa_cons (pv 2) pa_nil)) pa_nil))) pa_nil)) pa_nil)))))
      (pss_one (ps_ret (pe_join pe_str (pe_callB cr_sortedS (by rfl) T.m_sorted (by decide +kernel) (pa_cons (pv 3) pa_nil)))))))), ?_⟩
    have ea : (Str.ofString "abcdefghijklmnopqrstuvwxyz").cps.toList = alpha := by decide +kernel
    refine ⟨_, rfl, (by decide +kernel), fun L nL => ?_⟩
    rw [ea]
    refine ⟨Nat.zero_le _, fun F nF => ?_⟩
    have nFL : F ≠ L := fun e => by
      rw [e, upd_same] at nF
      cases nF
    have nF0 : H F = none := by
      rw [upd_ne nFL] at nF
      exact nF
    have nLr : L ≠ r := (ne_of_none hR nL).symm
    have nFr : F ≠ r := (ne_of_none hR nF0).symm
    refine ⟨.int m, rfl, m, rfl, by omega, by omega, for_range (fun i σ H' => ∃ (ll ff : List Nat) (n' : Int) (y : Option V), σ = [some (.ref r), some (.int m), some (.ref L), some (.ref F), y] ∧ Kp r H H' ∧ H' r = some (.lst [.int n']) ∧ H' L = some (.lst (ll.map sg)) ∧ H' F = some (.lst (ff.map sg)) ∧ (ll ++ ff).Perm alpha ∧ ff.length = i)
      ⟨alpha, [], n, none, rfl, ?_, ?_, ?_, ?_, ?_, rfl⟩ (fun i σ H' hi hP => ?_) (fun σ H' hP => ?_)⟩
    · exact (Kp.new Kp.rfl' nL).new nF
    · rw [upd_ne nFr.symm, upd_ne nLr.symm]
      exact hR
    · rw [upd_ne nFL.symm, upd_same]
    · rw [upd_same]
      rfl
    · rw [List.append_nil]
    · obtain ⟨ll, ff, n1, y, rfl, kp, hR1, hL, hF, hp, hl⟩ := hP
      have hlen : ll.length + ff.length = 26 := by
        have := hp.length_eq
        rw [List.length_append] at this
        exact this
      have hll : 0 < ll.length := by
        have : i < m := by omega
        omega
      refine ⟨.ref F, rfl, .inl ⟨rfl, _, .inl (.inl hF)⟩, .ref L, rfl, .inl ⟨rfl, _, .inl (.inl hL)⟩, .ref r, rfl, .ref L, rfl, L, _, rfl, .inl (.inl (.inl hL)), r, n1, _, rfl, hR1, ?_, ?_, fun d n2 d0 d1 => ?_⟩
      · rw [List.length_map]
        omega
      · rw [List.length_map]
        omega
      · rw [List.length_map] at d1
        have hd : d.toNat < ll.length := by omega
        have hL2 : (upd H' r (.lst [.int n2])) L = some (.lst (ll.map sg)) := by
          rw [upd_ne nLr]
          exact hL
        have hF2 : (upd (upd H' r (.lst [.int n2])) L (.lst ((ll.map sg).eraseIdx d.toNat))) F = some (.lst (ff.map sg)) := by
          rw [upd_ne nFL, upd_ne nFr]
          exact hF
        have hy : ll[d.toNat]? = some ll[d.toNat] := List.getElem?_eq_getElem hd
        refine ⟨L, _, d, d.toNat, sg ll[d.toNat], rfl, rfl, hL2, by omega, by omega, PySem.seqIndex_of d0 (by rw [List.length_map]; exact d1), ?_, F, _, _, rfl, rfl, hF2, ?_, ?_⟩
        · rw [List.getElem?_map, hy]
          rfl
        · rw [List.length_map]
          exact small1000 (by omega)
        · refine ⟨ll.eraseIdx d.toNat, ff ++ [ll[d.toNat]], n2, _, rfl, ?_, ?_, ?_, ?_, (popped hy ff).trans hp, by rw [List.length_append, hl]; rfl⟩
          · exact ((Kp.own kp).mut nL).mut nF0
          · rw [upd_ne nFr.symm, upd_ne nLr.symm, upd_same]
          · rw [upd_ne nFL.symm, upd_same, erase_map]
          · rw [upd_same, List.map_append]
            rfl
    · obtain ⟨ll, ff, n1, y, rfl, kp, hR1, hL, hF, hp, hl⟩ := hP
      have hm2 : ff.length = m := by
        rw [hl]
        omega
      refine ⟨⟨_, rfl⟩, .ref F, rfl, F, ff.map sS, rfl, .inl (.inl (by rw [← map_sg]; exact hF)), by rw [List.length_map]; omega, fun ys p hys hso np => ?_⟩
      obtain ⟨l, rfl, pl⟩ := perm_signs hys
      have ndA : (ll ++ ff).Nodup := hp.nodup_iff.mpr (by decide)
      have ndf : ff.Nodup := (List.nodup_append.mp ndA).2.1
      have ndl : l.Nodup := pl.nodup_iff.mpr ndf
      refine ⟨_, p, _, rfl, rfl, .inl (.inl (.inl upd_same)), ?_, ?_⟩
      · have e1 : (Str.ofString "").length = 0 := by decide +kernel
        rw [e1, Nat.mul_zero, Nat.add_zero, List.map_map]
        have e2 : ∀ k : List Nat, (k.map ((fun x : Str => x.length) ∘ sS)).sum = k.length := fun k => by
          induction k with
          | nil => rfl
          | cons a k ih =>
            rw [List.map_cons, List.sum_cons, ih, List.length_cons]
            show 1 + k.length = k.length + 1
            omega
        rw [e2, pl.length_eq]
        omega
      · rw [join_signs]
        refine q l n1 _ (kp.new np) ?_ ⟨strict_of (sorted_signs l hso) ndl, fun c hc => ?_⟩ (by rw [pl.length_eq]; exact hm2)
        · rw [upd_ne (ne_of_none hR1 np)]
          exact hR1
        · have hc2 : c ∈ alpha := hp.mem_iff.mp (List.mem_append_right _ (pl.mem_iff.mp hc))
          have : ∀ c ∈ alpha, 97 ≤ c ∧ c ≤ 122 := by decide
          exact this c hc2

/-! ### letters_of -/
def spLetters (K : PySem.W.Frag) : Sp := fun vs H Q _ => ∃ (ev : V) (es : List (Nat × Int)), vs = [ev] ∧ EZ H ev es ∧ es.length ≤ 1000 ∧ ∀ (p : Addr) (H' : Hp), Same H H' → H p = none → H' p = some (.lst ((es.map (·.1)).map sg)) → Q (.ref p) H'
theorem ok_letters (T : Tx K mg Z) : FnOk P w K mg base CX0 1 Z.f_letters_of Z.d_letters_of ["equals"] (spLetters K) := by
  refine T.F_letters_of.ok sc_letters_of (fun vs H Q E h => ?_) (fun cdv A outer s H vs Q E hr h => ?_)
  · obtain ⟨ev, es, rfl, _⟩ := h
    rfl
  · obtain ⟨ev, es, rfl, fe, hel, q⟩ := h
    obtain ⟨ea, ob, ps, rfl, hob, hea, fps⟩ := fe
    have hpl : ps.length = es.length := by rw [fps.len, List.length_map]
    refine ⟨_, (pss_one (ps_ret (pe_lc (own := [("letter", 1), ("number", 2)]) (tt := tYes) (by rfl) sc_letters_of.nd (piT K (pv 0)) (blkOk_by (own := [("letter", 1), ("number", 2)]) (by kernel_rfl)) (fun _ _ _ _ _ => (pgT K (n := 2) (pgs_cons (pg_name (i := 1) sc_letters_of.nd rfl (.inl rfl)) (pgs_cons (pg_name (i := 2) sc_letters_of.nd rfl (.inl rfl)) pgs_nil)))) (fun _ _ _ _ _ => pts_nil) (fun _ _ _ _ _ => (pv 1))))), ?_⟩
    refine ⟨.ref ea, rfl, ea, rfl, ⟨_, .inl (.inr ⟨_, hea⟩)⟩, fun D nD => lc_it (walk_tup (xs := ps)) (fun i H' => Same H H' ∧ H' D = some (.lst (((es.take i).map (·.1)).map sg)))
      ⟨Same.new (Same.refl H) nD, upd_same⟩ (fun i H' _ hP => .inl (.inr ⟨_, hP.1 _ _ hea⟩)) (fun i x H3 H4 hi hP hY => ?_) (fun H3 hP => ?_)⟩
    · obtain ⟨sm, hD⟩ := hP
      obtain ⟨rfl, hx⟩ := hY
      obtain ⟨dd, hdd, fd⟩ := fps.getV hx
      rw [List.getElem?_map] at hdd
      obtain ⟨pr, hpr, rfl⟩ := Option.map_eq_some_iff.mp hdd
      have hi2 : i < es.length := (List.getElem?_eq_some_iff.mp hpr).1
      have epr : es[i] = pr := (List.getElem?_eq_some_iff.mp hpr).2
      obtain ⟨pa, ys, rfl, hpa, fy2⟩ := fd.open
      obtain ⟨c, v, rfl, fc, fv⟩ := fy2.two
      rw [fc.isStr, fv.isInt] at hpa
      refine ⟨pa, [sg pr.1, .int pr.2], rfl, .inl (.inl (sm _ _ hpa)), rfl, sg pr.1, [.int pr.2], rfl, .int pr.2, [], rfl, rfl, rfl, sg pr.1, rfl, _, hD, ?_, Same.mut sm nD, ?_⟩
      · rw [List.length_map, List.length_map, List.length_take]
        exact small1000 (by omega)
      · rw [upd_same, List.take_succ_eq_append_getElem hi2, epr, List.map_append, List.map_append]
        rfl
    · obtain ⟨sm, hD⟩ := hP
      rw [hpl, List.take_of_length_le (Nat.le_refl _)] at hD
      exact q D H3 sm nD hD

/-! ### used -/
def spUsed (K : PySem.W.Frag) : Sp := fun vs H Q _ => ∃ (one : List Nat) (qv : V) (es : List (Nat × Int)) (rc : Option (Nat × Int × Int)), vs = [tx one, qv] ∧ one.length ≤ 1000 ∧ QZ H qv es rc ∧ es.length ≤ 1000 ∧ ∀ (H' : Hp), Same H H' → Q (tx (usedM one es rc)) H'
theorem ok_used (T : Tx K mg Z) : FnOk P w K mg base CX0 2 Z.f_used Z.d_used ["one", "question"] (spUsed K) := by
  have G_letters_of : FnOk P w K mg base CX0 1 Z.f_letters_of Z.d_letters_of ["equals"] (spLetters K) := ok_letters T
  refine T.F_used.ok sc_used (fun vs H Q E h => ?_) (fun cdv A outer s H vs Q E hr h => ?_)
  · obtain ⟨one, qv, es, rc, rfl, _⟩ := h
    rfl
  · obtain ⟨one, qv, es, rc, rfl, hol, fq, hel, q⟩ := h
    obtain ⟨qa, x, y, rfl, hqa, fx, fy⟩ := fq
    have fx2 := fx
    obtain ⟨ea, ob, ps, rfl, hob, hea, fps⟩ := fx2
    refine ⟨_, (pss_cons (ps_asg (pv 1) (pgT K (n := 2) (pgs_cons (pg_name (i := 2) sc_used.nd rfl (.inl rfl)) (pgs_cons (pg_name (i := 3) sc_used.nd rfl (.inl rfl)) pgs_nil))))
      (pss_cons (ps_set (i := 4) sc_used.nd rfl (.inl rfl) (pe_call G_letters_of (hr.mono (by omega)) (by rfl) T.g_letters_of T.F_letters_of.kp T.b_letters_of .nil pass0 (pa_cons (pv 2) pa_nil)))
      (pss_cons (ps_set (i := 5) sc_used.nd rfl (.inl rfl) pe_int)
      (pss_cons (ps_while PassesOwn.never (PW.pt (pw_and (pt_cmpR op_lt (pv 5) (pe_callB call_len_str (by rfl) T.m_len (by decide +kernel) (pa_cons (pv 0) pa_nil)) (nomark _)) (pw_and1 (pt_cmpR (inSq K) (pe_ix ix_str (pv 0) (pv 5) (fun _ _ => rfl)) (pv 4) (by rfl))))) (pss_one (ps_aug (i := 5) sc_used.nd rfl (.inl rfl) pe_int ip_add)))
      (pss_mid (ps_if (PW.pt (pw_and (pt_cmpR op_notN (pv 3) pe_non (nomark _)) (pw_and1 (pt_cmpR op_eq (pe_slice sl_str (pv 0) (po_some (pv 5)) (po_some (pe_op op_add (pv 5) pe_int))) (pe_ix (ixT K) (pv 3) pe_int (fun _ _ => rfl)) (nomark _))))) (pss_one (ps_aug (i := 5) sc_used.nd rfl (.inl rfl) pe_int ip_add)) pss_nil)
      (pss_one (ps_ret (pe_slice sl_str (pv 0) po_none (po_some (pv 5)))))))))), ?_⟩
    refine ⟨.ref qa, rfl, qa, [.ref ea, y], rfl, .inl (.inl hqa), rfl, .ref ea, [y], rfl, y, [], rfl, rfl, ?_⟩
    refine ⟨.ref ea, rfl, .ref ea, es, rfl, fx, hel, fun L H1 sm nL hL => ?_⟩
    -- while
    refine ⟨fun m σ H' => ∃ k : Nat, m = one.length - k ∧ k ≤ one.length ∧ σ = [some (tx one), some (.ref qa), some (.ref ea), some y, some (.ref L), some (.int k)] ∧ H' = H1 ∧ ∀ (i : Nat) (h : i < one.length), i < k → one[i] ∈ es.map (·.1), ⟨_, 0, rfl, Nat.zero_le _, rfl, rfl, fun i _ h => absurd h (Nat.not_lt_zero _)⟩, fun m σ H' hW => ?_⟩
    obtain ⟨k, rfl, hk, rfl, rfl, hin⟩ := hW
    refine ⟨.int k, rfl, tx one, rfl, _, rfl, Nat.le_of_lt (small1000 (show one.length ≤ 1000 from hol)), _, _, rfl, rfl, _, rfl, ite2 (fun e => ?_) (fun e => ?_)⟩
    · have hkl : k < one.length := by
        have : (k : Int) < ((one.length : Nat) : Int) := of_decide_eq_true e
        omega
      have hat : atI (⟨one.toArray⟩ : Str).cps.toList (k : Int) = some one[k] := atI_nat (by simp [hkl])
      refine ⟨tx one, rfl, .int k, rfl, _, _, _, rfl, rfl, Nat.le_of_lt (small1000 (show one.length ≤ 1000 from hol)), hat, .ref L, rfl, L, _, rfl, .inl (.inl (.inl hL)), rfl, flat_signs _, _, rfl, ?_⟩
      show (if inV (sg one[k]) ((es.map (·.1)).map sg) = true then _ else _)
      rw [inV_signs]
      refine ite2 (fun e2 => ?_) (fun e2 => ?_)
      · have hm : one[k] ∈ es.map (·.1) := of_decide_eq_true e2
        refine ⟨fun σ2 H2 => σ2 = [some (tx one), some (.ref qa), some (.ref ea), some y, some (.ref L), some (.int ((k : Int) + 1))] ∧ H2 = H', fun σ2 H2 hN => ?_, ?_⟩
        · obtain ⟨rfl, rfl⟩ := hN
          refine ⟨one.length - (k + 1), by omega, k + 1, rfl, hkl, rfl, rfl, fun i h hi => ?_⟩
          by_cases e3 : i = k
          · subst e3
            exact hm
          · exact hin i h (by omega)
        · exact ⟨_, rfl, _, _, rfl, rfl, rfl, rfl⟩
      · have hno : ∀ h : k < one.length, ¬ one[k] ∈ es.map (·.1) := fun _ z => e2 (decide_eq_true z)
        have hkk : (eqPart one es).length = k := take_while_at _ _ _ hk (fun i h hi => decide_eq_true (hin i h hi)) (fun h => decide_eq_false (hno h))
        have htk : one.take k = eqPart one es := by rw [← hkk]; exact (eqPart_take one es).symm
        refine ⟨fun σ H2 => ∃ k2 : Nat, σ = [some (tx one), some (.ref qa), some (.ref ea), some y, some (.ref L), some (.int k2)] ∧ H2 = H' ∧ one.take k2 = usedM one es rc, ?_, ?_⟩
        · cases rc with
          | none =>
            obtain rfl : y = .non := fy.isNon
            refine ⟨.non, rfl, rfl, _, rfl, ite2 (fun z => ?_) (fun _ => ?_)⟩
            · exact absurd z (by simp)
            · exact ⟨k, rfl, rfl, htk⟩
          | some t3 =>
            obtain ⟨c, lo, hi⟩ := t3
            obtain ⟨ra, zs, rfl, hra, fz⟩ := Fz.open (ds := [.str ⟨#[c]⟩, .int lo, .int hi]) fy
            obtain ⟨z1, z2, z3, rfl, g1, g2, g3⟩ := fz.three
            rw [g1.isStr, g2.isInt, g3.isInt] at hra
            refine ⟨.ref ra, rfl, rfl, _, rfl, ite2 (fun _ => ?_) (fun z => ?_)⟩
            · refine ⟨tx one, rfl, .int k, rfl, _, rfl, .int k, rfl, _, 1, rfl, rfl, _, rfl, _, rfl, Nat.le_of_lt (small1000 (show one.length ≤ 1000 from hol)), .ref ra, rfl, ra, _, 0, sg c, rfl, rfl, .inl (.inl (sm _ _ hra)), rfl, rfl, _, rfl, ?_⟩
              rw [cut_one one k hk]
              refine ite2 (fun z => ?_) (fun z => ?_)
              · have z2 : (one.drop k).take 1 = [c] := tx_inj (of_decide_eq_true z)
                refine ⟨_, rfl, _, _, rfl, rfl, k + 1, rfl, rfl, ?_⟩
                show one.take (k + 1) = (if (one.drop (eqPart one es).length).take 1 = [c] then one.take ((eqPart one es).length + 1) else eqPart one es)
                rw [hkk, if_pos z2]
              · have z2 : ¬ (one.drop k).take 1 = [c] := fun z3 => z (decide_eq_true (by rw [z3]))
                refine ⟨k, rfl, rfl, ?_⟩
                show one.take k = (if (one.drop (eqPart one es).length).take 1 = [c] then one.take ((eqPart one es).length + 1) else eqPart one es)
                rw [hkk, if_neg z2]
                exact htk
            · exact absurd (by simp) z
        · intro σ2 H2 hM
          obtain ⟨k2, rfl, rfl, hk2⟩ := hM
          refine ⟨tx one, rfl, .int k2, rfl, _, rfl, _, rfl, Nat.le_of_lt (small1000 (show one.length ≤ 1000 from hol)), ?_⟩
          rw [cut_take, hk2]
          exact q _ sm
    · have hge : ¬ k < one.length := fun z => e (decide_eq_true (show (k : Int) < ((one.length : Nat) : Int) by omega))
      have hkk : (eqPart one es).length = k := take_while_at _ _ _ hk (fun i h hi => decide_eq_true (hin i h hi)) (fun h => decide_eq_false ((absurd h hge : ¬ one[k] ∈ es.map (·.1))))
      have htk : one.take k = eqPart one es := by rw [← hkk]; exact (eqPart_take one es).symm
      refine ⟨fun σ H2 => ∃ k2 : Nat, σ = [some (tx one), some (.ref qa), some (.ref ea), some y, some (.ref L), some (.int k2)] ∧ H2 = H' ∧ one.take k2 = usedM one es rc, ?_, ?_⟩
      · cases rc with
        | none =>
          obtain rfl : y = .non := fy.isNon
          refine ⟨.non, rfl, rfl, _, rfl, ite2 (fun z => ?_) (fun _ => ?_)⟩
          · exact absurd z (by simp)
          · exact ⟨k, rfl, rfl, htk⟩
        | some t3 =>
          obtain ⟨c, lo, hi⟩ := t3
          obtain ⟨ra, zs, rfl, hra, fz⟩ := Fz.open (ds := [.str ⟨#[c]⟩, .int lo, .int hi]) fy
          obtain ⟨z1, z2, z3, rfl, g1, g2, g3⟩ := fz.three
          rw [g1.isStr, g2.isInt, g3.isInt] at hra
          refine ⟨.ref ra, rfl, rfl, _, rfl, ite2 (fun _ => ?_) (fun z => ?_)⟩
          · refine ⟨tx one, rfl, .int k, rfl, _, rfl, .int k, rfl, _, 1, rfl, rfl, _, rfl, _, rfl, Nat.le_of_lt (small1000 (show one.length ≤ 1000 from hol)), .ref ra, rfl, ra, _, 0, sg c, rfl, rfl, .inl (.inl (sm _ _ hra)), rfl, rfl, _, rfl, ?_⟩
            rw [cut_one one k hk]
            refine ite2 (fun z => ?_) (fun z => ?_)
            · have z2 : (one.drop k).take 1 = [c] := tx_inj (of_decide_eq_true z)
              refine ⟨_, rfl, _, _, rfl, rfl, k + 1, rfl, rfl, ?_⟩
              show one.take (k + 1) = (if (one.drop (eqPart one es).length).take 1 = [c] then one.take ((eqPart one es).length + 1) else eqPart one es)
              rw [hkk, if_pos z2]
            · have z2 : ¬ (one.drop k).take 1 = [c] := fun z3 => z (decide_eq_true (by rw [z3]))
              refine ⟨k, rfl, rfl, ?_⟩
              show one.take k = (if (one.drop (eqPart one es).length).take 1 = [c] then one.take ((eqPart one es).length + 1) else eqPart one es)
              rw [hkk, if_neg z2]
              exact htk
          · exact absurd (by simp) z
      · intro σ2 H2 hM
        obtain ⟨k2, rfl, rfl, hk2⟩ := hM
        refine ⟨tx one, rfl, .int k2, rfl, _, rfl, _, rfl, Nat.le_of_lt (small1000 (show one.length ≤ 1000 from hol)), ?_⟩
        rw [cut_take, hk2]
        exact q _ sm

/-! ### spans -/
def spSpans (K : PySem.W.Frag) : Sp := fun vs H Q _ => ∃ (qv : V) (cols : List Nat) (es : List (Nat × Int)) (rc : Option (Nat × Int × Int)), vs = [qv] ∧ QZ H qv es rc ∧ QOk cols es rc ∧ es.length ≤ 1000 ∧
  ∀ (d : Addr) (kvs : List (Key × V)) (H' : Hp), Same H H' → H d = none → H' d = some (.dK kvs) → SpA H' kvs (spanL es rc) → Q (.ref d) H'
theorem ok_spans (T : Tx K mg Z) : FnOk P w K mg base CX0 1 Z.f_spans Z.d_spans ["question"] (spSpans K) := by
  refine T.F_spans.ok sc_spans (fun vs H Q E h => ?_) (fun cdv A outer s H vs Q E hr h => ?_)
  · obtain ⟨qv, cols, es, rc, rfl, _⟩ := h
    rfl
  · obtain ⟨qv, cols, es, rc, rfl, fq, hok, hel, q⟩ := h
    obtain ⟨qa, x, y, rfl, hqa, fx, fy⟩ := fq
    obtain ⟨ea, ob, ps, rfl, hob, hea, fps⟩ := fx
    have hndE : (es.map (·.1)).Nodup := hok.up.imp fun {a b} q => by
      have : a < b := q
      omega
    refine ⟨_, (pss_cons (ps_asg (pv 0) (pgT K (n := 2) (pgs_cons (pg_name (i := 1) sc_spans.nd rfl (.inl rfl)) (pgs_cons (pg_name (i := 2) sc_spans.nd rfl (.inl rfl)) pgs_nil))))
      (pss_cons (ps_setDc (i := 4) (own := [("letter", 3), ("number", 7)]) (tt := tYes) (by rfl) sc_spans.nd rfl rfl (sw_dict rfl rfl rfl (by decide +kernel)) (piT K (pv 1)) (blkOk_by (own := [("letter", 3), ("number", 7)]) (by kernel_rfl)) (fun _ _ _ _ _ => (pgT K (n := 2) (pgs_cons (pg_name (i := 3) sc_spans.nd rfl (.inl rfl)) (pgs_cons (pg_name (i := 7) sc_spans.nd rfl (.inl rfl)) pgs_nil)))) (fun _ _ _ _ _ => pts_nil) (fun _ _ _ _ _ => (pv 3)) (fun _ _ _ _ _ => (pe_tup (pa_cons (pv 7) (pa_cons (pv 7) pa_nil)))))
      (pss_mid (ps_if (pt_cmpR op_notN (pv 2) pe_non (nomark _)) (pss_cons (ps_asg (pv 2) (pgT K (n := 3) (pgs_cons (pg_name (i := 3) sc_spans.nd rfl (.inl rfl)) (pgs_cons (pg_name (i := 5) sc_spans.nd rfl (.inl rfl)) (pgs_cons (pg_name (i := 6) sc_spans.nd rfl (.inl rfl)) pgs_nil)))))
      (pss_one (ps_dput (hu_of hr) (pv 4) (pv 3) (pe_tup (pa_cons (pv 5) (pa_cons (pv 6) pa_nil))) rfl))) pss_nil)
      (pss_one (ps_ret (pv 4)))))), ?_⟩
    refine ⟨.ref qa, rfl, qa, [.ref ea, y], rfl, .inl (.inl hqa), rfl, .ref ea, [y], rfl, y, [], rfl, rfl, ?_⟩
    refine ⟨.ref ea, rfl, ea, rfl, ⟨_, .inl (.inr ⟨_, hea⟩)⟩, fun D nD => dc_tup (xs := ps) (fun i H' => ∃ kvs, Same H H' ∧ H' D = some (.dK kvs) ∧ SpA H' kvs ((es.take i).map fun p => (p.1, p.2, p.2)))
      ⟨[], Same.new (Same.refl H) nD, upd_same, .nil⟩ (fun i H' _ hP => ?_) (fun i x H3 hx hP => ?_) (fun H3 hP => ?_)⟩
    · obtain ⟨kvs, sm, _⟩ := hP
      exact .inl (.inr ⟨_, sm _ _ hea⟩)
    · obtain ⟨kvs, sm, hD3, fk⟩ := hP
      obtain ⟨dd, hdd, fd⟩ := fps.getV hx
      rw [List.getElem?_map] at hdd
      obtain ⟨pr, hpr, rfl⟩ := Option.map_eq_some_iff.mp hdd
      obtain ⟨pa, ys, rfl, hpa, fy2⟩ := fd.open
      obtain ⟨c, v, rfl, fc, fv⟩ := fy2.two
      rw [fc.isStr, fv.isInt] at hpa
      have hi : i < es.length := (List.getElem?_eq_some_iff.mp hpr).1
      have epr : es[i] = pr := (List.getElem?_eq_some_iff.mp hpr).2
      refine ⟨pa, [sg pr.1, .int pr.2], rfl, .inl (.inl (sm _ _ hpa)), rfl, sg pr.1, [.int pr.2], rfl, .int pr.2, [], rfl, rfl, rfl, sg pr.1, rfl, .int pr.2, rfl, .int pr.2, rfl, (by show 2 ≤ sizeLine; decide), fun tp ntp => ?_⟩
      have hD4 : (upd H3 tp (.tup [.int pr.2, .int pr.2])) D = some (.dK kvs) := keep_new hD3 ntp
      have fk4 := fk.kt (Kt.new ntp (o := .tup [.int pr.2, .int pr.2]))
      have tk : (es.take (i + 1)).map (fun p => (p.1, p.2, p.2)) = (es.take i).map (fun p => (p.1, p.2, p.2)) ++ [(pr.1, pr.2, pr.2)] := by
        rw [List.take_succ_eq_append_getElem hi, epr, List.map_append]
        rfl
      have nk : valV kvs (Sum.inr (sS pr.1)) = none := by
        refine fk.none fun hm => ?_
        rw [spanL_keys] at hm
        have hnd2 : ((es.take (i + 1)).map (·.1)).Nodup := hndE.sublist ((List.take_sublist _ _).map _)
        rw [List.take_succ_eq_append_getElem hi, epr, List.map_append] at hnd2
        exact (List.nodup_append.mp hnd2).2.2 _ hm _ (by simp) rfl
      refine ⟨kvs, Sum.inr (sS pr.1), rfl, hD4, ?_, putK kvs (Sum.inr (sS pr.1)) (.ref tp), ?_, upd_same, ?_⟩
      · rw [fk.len, List.length_map, List.length_take]
        exact small1000 (by omega)
      · exact Same.mut (Same.new sm ntp) nD
      · rw [putK_new _ nk, tk]
        exact (SpA.snoc fk4 upd_same).kt (.dct hD4)
    · obtain ⟨kvs, sm, hD3, fk⟩ := hP
      have hpl : ps.length = es.length := by
        rw [fps.len, List.length_map]
      rw [hpl, List.take_of_length_le (Nat.le_refl _)] at fk
      refine ⟨fun σ H' => ∃ (kvs' : List (Key × V)) (y3 y5 y6 : Option V), σ = [some (.ref qa), some (.ref ea), some y, y3, some (.ref D), y5, y6, none] ∧ Same H H' ∧ H' D = some (.dK kvs') ∧ SpA H' kvs' (spanL es rc), ?_, ?_⟩
      · cases rc with
        | none =>
          have ey : y = .non := fy.isNon
          subst ey
          refine ⟨.non, rfl, rfl, _, rfl, iteNS rfl ?_⟩
          refine ⟨kvs, _, _, _, rfl, sm, hD3, ?_⟩
          unfold spanL
          rw [Option.toList_none, List.append_nil]
          exact fk
        | some t3 =>
          obtain ⟨c, lo, hi⟩ := t3
          obtain ⟨ra, zs, rfl, hra, fz⟩ := Fz.open (ds := [.str ⟨#[c]⟩, .int lo, .int hi]) fy
          obtain ⟨z1, z2, z3, rfl, g1, g2, g3⟩ := fz.three
          rw [g1.isStr, g2.isInt, g3.isInt] at hra
          refine ⟨.ref ra, rfl, rfl, _, rfl, ite2 (fun _ => ?_) (fun e => ?_)⟩
          · refine ⟨.ref ra, rfl, ra, [sg c, .int lo, .int hi], rfl, .inl (.inl (sm _ _ hra)), rfl, sg c, [.int lo, .int hi], rfl, .int lo, [.int hi], rfl, .int hi, [], rfl, rfl, ?_⟩
            refine ⟨.int lo, rfl, .int hi, rfl, (by show 2 ≤ sizeLine; decide), fun tp ntp => ?_⟩
            have hD4 : (upd H3 tp (.tup [.int lo, .int hi])) D = some (.dK kvs) := keep_new hD3 ntp
            have nk : valV kvs (Sum.inr (sS c)) = none := fk.none (by
              rw [spanL_keys]
              exact (hok.rc c lo hi rfl).2.1)
            refine ⟨.ref D, rfl, sg c, rfl, D, _, rfl, DPut.k (k := Sum.inr (sS c)) hD4 (by rw [fk.len, List.length_map]; exact small1000 hel), ?_⟩
            refine ⟨_, _, _, _, rfl, Same.mut (Same.new sm ntp) nD, upd_same, ?_⟩
            rw [putK_new _ nk]
            exact (SpA.snoc (fk.kt (Kt.new ntp)) upd_same).kt (.dct hD4)
          · exact absurd (by simp) e
      · intro σ1 H1 hM
        obtain ⟨kvs', y3, y5, y6, rfl, sm1, hD1, fk1⟩ := hM
        exact ⟨.ref D, rfl, q D kvs' H1 sm1 nD hD1 fk1⟩

/-! ### fits -/
def spFits (K : PySem.W.Frag) : Sp := fun vs H Q _ => ∃ (cols : List Nat) (rv : V) (row : List Int) (qv : V) (es : List (Nat × Int)) (rc : Option (Nat × Int × Int)), vs = [tx cols, rv, qv] ∧ Fz H rv (rowD row) ∧ row.length = cols.length ∧ QZ H qv es rc ∧ QOk cols es rc ∧ es.length ≤ 1000 ∧
  ∀ (H' : Hp), Same H H' → Q (.bl (fitsM cols row es rc)) H'
theorem ok_fits (T : Tx K mg Z) : FnOk P w K mg base CX0 2 Z.f_fits Z.d_fits ["columns", "row", "question"] (spFits K) := by
  have G_spans : FnOk P w K mg base CX0 1 Z.f_spans Z.d_spans ["question"] (spSpans K) := ok_spans T
  refine T.F_fits.ok sc_fits (fun vs H Q E h => ?_) (fun cdv A outer s H vs Q E hr h => ?_)
  · obtain ⟨cols, rv, row, qv, es, rc, rfl, _⟩ := h
    rfl
  · obtain ⟨cols, rv, row, qv, es, rc, rfl, fr, hrl, fq, hok, hel, q⟩ := h
    obtain ⟨ra, rfl, hra⟩ := row_open fr
    refine ⟨_, (pss_cons (ps_set (i := 3) sc_fits.nd rfl (.inl rfl) (pe_call G_spans (hr.mono (by omega)) (by rfl) T.g_spans T.F_spans.kp T.b_spans .nil pass0 (pa_cons (pv 2) pa_nil)))
      (pss_cons (ps_lock (ps_for PassesOwn.never rfl (pi_keys (pv 3)) (pg_name (i := 4) sc_fits.nd rfl (.inl rfl)) (pss_cons (ps_asg (pe_dget (hu_of hr) (pv 3) (pv 4) (fun _ _ => rfl)) (pgT K (n := 2) (pgs_cons (pg_name (i := 5) sc_fits.nd rfl (.inl rfl)) (pgs_cons (pg_name (i := 6) sc_fits.nd rfl (.inl rfl)) pgs_nil))))
      (pss_one (ps_if (pt_not (pt_chain op_le op_le (pv 5) (pe_ix (ixT K) (pv 1) (bmK K PySem.F.plainAttrs_str PySem.F.slot_str_index PySem.F.type_str_index mt_sindex (pv 0) (pa_cons (pv 4) pa_nil)) (fun _ _ => rfl)) (pv 6))) (pss_one (ps_ret pe_bl)) pss_nil)))))
      (pss_one (ps_ret pe_bl)))), ?_⟩
    refine ⟨qv, rfl, qv, cols, es, rc, rfl, fq, hok, hel, fun d kvs H1 sm nd hd fk => ?_⟩
    have ndr : ra ≠ d := ne_of_none hra nd
    have hra1 : H1 ra = some (.tup (row.map V.int)) := sm _ _ hra
    have hback : ∀ od, Same H (upd (upd H1 d (.frz od (.dK kvs))) d (.dK kvs)) := fun od b o e => by
      have nb : b ≠ d := ne_of_none e nd
      rw [upd_ne nb, upd_ne nb]
      exact sm b o e
    refine ⟨d, .dK kvs, hd, trivial, fun od => ⟨.ref d, rfl, d, od, rfl, .inl ⟨kvs, upd_same, for_it walk_keys (fun i σ H' => ∃ y4 y5 y6 : Option V, σ = [some (tx cols), some (.ref ra), some qv, some (.ref d), y4, y5, y6] ∧ H' = upd H1 d (.frz od (.dK kvs)) ∧ ((spanL es rc).take i).all (spanFit cols row) = true)
      ⟨none, none, none, rfl, rfl, rfl⟩ (fun i σ H' _ hP => ?_) (fun i x σ H3 H4 hi hP hY => ?_) (fun σ H3 hP => ?_)⟩⟩⟩
    · obtain ⟨_, _, _, _, rfl, _⟩ := hP
      exact upd_same
    · obtain ⟨y4, y5, y6, rfl, rfl, hall⟩ := hP
      obtain ⟨rfl, k, v, hkv, rfl⟩ := hY
      obtain ⟨p, c, lo, hi2, rfl, rfl, hp, hsp⟩ := fk.get hkv
      have hm : (c, lo, hi2) ∈ spanL es rc := List.mem_of_getElem? hsp
      obtain ⟨p2, hv2, hp2⟩ := fk.look (spanL_nd hok) hm
      have hcc : c ∈ cols := SpanOk hok _ hm
      obtain ⟨orest, hocc⟩ := ix_one hcc
      have npd : p2 ≠ d := fun z => by
        rw [z, hd] at hp2
        cases hp2
      have hat := row_at hrl hcc
      have hsi : i < (spanL es rc).length := (List.getElem?_eq_some_iff.mp hsp).1
      have esi : (spanL es rc)[i] = (c, lo, hi2) := (List.getElem?_eq_some_iff.mp hsp).2
      have tk : (spanL es rc).take (i + 1) = (spanL es rc).take i ++ [(c, lo, hi2)] := by
        rw [List.take_succ_eq_append_getElem hsi, esi]
      have bad : spanFit cols row (c, lo, hi2) = false → fitsM cols row es rc = false := fun z => by
        unfold fitsM
        rw [List.all_eq_false]
        exact ⟨_, hm, by rw [z]; decide⟩
      refine ⟨.ref d, rfl, sg c, rfl, d, .ref p2, rfl, .inl ⟨kvs, Sum.inr (sS c), .inr ⟨od, upd_same⟩, rfl, hv2.symm⟩, ?_⟩
      refine ⟨p2, [.int lo, .int hi2], rfl, .inl (.inl (keep_ne hp2 npd)), rfl, .int lo, [.int hi2], rfl, .int hi2, [], rfl, rfl, ?_⟩
      refine ⟨.int lo, rfl, .ref ra, rfl, tx cols, rfl, rfl, sg c, rfl, _, _, cols.idxOf c, orest, rfl, rfl, hocc, ra, _, _, _, rfl, rfl, .inl (.inl (keep_ne hra1 ndr)), atI_nat hat, lo, _, rfl, rfl, _, rfl, ite2 (fun e => ?_) (fun e => ?_)⟩
      · have e1 : lo ≤ rowAt cols row c := of_decide_eq_true e
        refine ⟨.int hi2, rfl, _, hi2, rfl, rfl, _, rfl, ?_⟩
        by_cases e2 : rowAt cols row c ≤ hi2
        · rw [decide_eq_true e2]
          refine ⟨_, _, _, rfl, rfl, ?_⟩
          rw [tk, List.all_append, hall]
          unfold List.all
          show (true && (spanFit cols row (c, lo, hi2) && true)) = true
          unfold spanFit
          rw [decide_eq_true e1, decide_eq_true e2]
          rfl
        · rw [decide_eq_false e2]
          refine ⟨upd_same, ?_⟩
          have := q _ (hback od)
          rw [bad (by unfold spanFit; rw [decide_eq_false e2, Bool.and_false])] at this
          exact this
      · have e1 : ¬ lo ≤ rowAt cols row c := fun z => e (decide_eq_true z)
        refine ⟨_, rfl, upd_same, ?_⟩
        have := q _ (hback od)
        rw [bad (by unfold spanFit; rw [decide_eq_false e1, Bool.false_and])] at this
        exact this
    · obtain ⟨y4, y5, y6, rfl, rfl, hall⟩ := hP
      refine ⟨upd_same, ?_⟩
      have := q _ (hback od)
      rw [fk.len, List.take_of_length_le (Nat.le_refl _)] at hall
      have e : fitsM cols row es rc = true := hall
      rw [e] at this
      exact this

/-! ### picked -/
def spPicked (K : PySem.W.Frag) (Z : Ad) : Sp := fun vs H Q _ => ∃ (cols : List Nat) (rv : V) (row : List Int) (ls : List Nat), vs = [tx cols, rv, tx ls] ∧ TG Z.Ps H ∧ Fz H rv (rowD row) ∧ row.length = cols.length ∧ (∀ c ∈ ls, c ∈ cols) ∧ ls.length ≤ 1000 ∧
  ∀ (p : Addr) (H' : Hp), Sx Z.Ps H H' → TG Z.Ps H' → H p = none → H' p = some (.tup ((keyM cols row ls).map V.int)) → Q (.ref p) H'
theorem ok_picked (T : Tx K mg Z) (TB : Tb base mg Z) : FnOk P w K mg base CX0 1 Z.f_picked Z.d_picked ["columns", "row", "letters"] (spPicked K Z) := by
  refine T.C_picked.ok sc_picked (fun vs H Q E h => ?_) (fun A outer s H vs Q E hr h => ?_)
  · obtain ⟨cols, rv, row, ls, rfl, _⟩ := h
    rfl
  · obtain ⟨cols, rv, row, ls, rfl, tg, fr, hrl, hls, hll, q⟩ := h
    obtain ⟨ra, rfl, hra⟩ := row_open fr
    refine ⟨_, (pss_one (ps_ret (pe_tupG (D := (DRow Z.P_picked 0 1)) hr (by rfl) T.m_tuple (TB.t_picked) rfl (genS_by (sc := defScope s_picked) (by kernel_rfl) rfl) (pv 2) (hd_row rfl rfl rfl rfl rfl rfl rfl rfl (by decide +kernel) (by decide +kernel) rfl)))), ?_⟩
    have hP : Z.P_picked ∈ Z.Ps := by simp
    have lsl : (⟨ls.toArray⟩ : Str).cps.toList = ls := by simp
    refine ⟨tx ls, rfl, (keyM cols row ls).map V.int, ⟨tg _ hP, _, cols, ra, row, rfl, Nat.le_of_lt (small1000 (show ls.length ≤ 1000 from hll)), rfl, rfl, hra, hrl, by rw [lsl]; exact hls, ?_⟩, tg _ hP, fun G2 hT p np => ?_⟩
    · rw [lsl]
      unfold keyM
      rw [List.map_map]
      rfl
    · refine q p _ ((Tabbed.sx hP hT).new np) ((Tabbed.tg tg hT).new np) ?_ upd_same
      exact Sx.free (Tabbed.tg tg hT) (Tabbed.sx hP hT) np

/-! ### stretch -/
def spStretch (K : PySem.W.Frag) (Z : Ad) : Sp := fun vs H Q _ => ∃ (tv : V) (cols : List Nat) (rows : List (List Int)) (one : List Nat) (qv : V) (es : List (Nat × Int)) (rc : Option (Nat × Int × Int)), vs = [tv, tx one, qv] ∧ TG Z.Ps H ∧ Fz H tv (tabD cols rows) ∧ RowsOk cols.length rows ∧ rows.length ≤ 1000 ∧ one.length ≤ 1000 ∧ (∀ c ∈ one, c ∈ cols) ∧ QZ H qv es rc ∧ QOk cols es rc ∧ es.length ≤ 1000 ∧
  ∀ (p : Addr) (H' : Hp), Sx Z.Ps H H' → TG Z.Ps H' → H p = none → H' p = some (.tup [.int (aheadM cols rows one es rc : Nat), .int (behindM cols rows one es rc : Nat)]) → Q (.ref p) H'
theorem ok_stretch (T : Tx K mg Z) (TB : Tb base mg Z) : FnOk P w K mg base CX0 3 Z.f_stretch Z.d_stretch ["table", "one", "question"] (spStretch K Z) := by
  have G_used : FnOk P w K mg base CX0 2 Z.f_used Z.d_used ["one", "question"] (spUsed K) := ok_used T
  have G_spans : FnOk P w K mg base CX0 1 Z.f_spans Z.d_spans ["question"] (spSpans K) := ok_spans T
  have G_picked : FnOk P w K mg base CX0 1 Z.f_picked Z.d_picked ["columns", "row", "letters"] (spPicked K Z) := ok_picked T TB
  refine T.C_stretch.ok sc_stretch (fun vs H Q E h => ?_) (fun A outer s H vs Q E hr h => ?_)
  · obtain ⟨tv, cols, rows, one, qv, es, rc, rfl, _⟩ := h
    rfl
  · obtain ⟨tv, cols, rows, one, qv, es, rc, rfl, tg, fT, hrs, hrn, hol, hoc, fq, hok, hel, q⟩ := h
    obtain ⟨t, R, vs, rfl, ht, hRR, fvs⟩ := tab_open fT
    have hvl : vs.length = rows.length := by rw [fvs.len, List.length_map]
    refine ⟨_, (pss_cons (ps_asg (pv 0) (pgT K (n := 2) (pgs_cons (pg_name (i := 3) sc_stretch.nd rfl (.inr rfl)) (pgs_cons (pg_name (i := 4) sc_stretch.nd rfl (.inl rfl)) pgs_nil))))
      (pss_cons (ps_set (i := 5) sc_stretch.nd rfl (.inr rfl) (pe_call G_used (hr.mono (by omega)) (by rfl) T.g_used T.F_used.kp T.b_used .nil pass0 (pa_cons (pv 1) (pa_cons (pv 2) pa_nil))))
      (pss_cons (ps_set (i := 11) sc_stretch.nd rfl (.inr rfl) (pe_call G_spans (hr.mono (by omega)) (by rfl) T.g_spans T.F_spans.kp T.b_spans .nil pass0 (pa_cons (pv 2) pa_nil)))
      (pss_cons (ps_set (i := 6) sc_stretch.nd rfl (.inr rfl) (pe_tupG (D := (DWant Z.P_stretch 11 0)) hr (by rfl) T.m_tuple (TB.t_stretch) rfl (genS_by (sc := defScope s_stretch) (by kernel_rfl) rfl) (pv 5) (hd_want (.inl rfl) rfl rfl rfl rfl rfl (by decide +kernel))))
      (pss_cons (ps_set (i := 7) sc_stretch.nd rfl (.inr rfl) (pe_tupG (D := (DWant Z.P_stretch 11 1)) hr (by rfl) T.m_tuple (TB.t_stretch) rfl (genS_by (sc := defScope s_stretch) (by kernel_rfl) rfl) (pv 5) (hd_want (.inr rfl) rfl rfl rfl rfl rfl (by decide +kernel))))
      (pss_cons (ps_setLc (i := 8) (own := [("row", 12)]) (tt := tYes) (by rfl) sc_stretch.nd rfl rfl (sw_true rfl rfl rfl (by decide +kernel)) (piT K (pv 4)) (blkOk_by (own := [("row", 12)]) (by kernel_rfl)) (fun _ _ _ _ _ => (pg_name (i := 12) sc_stretch.nd rfl (.inl rfl))) (fun _ _ _ _ _ => pts_nil) (fun _ _ _ _ _ => (pe_call G_picked (hr.mono (by omega)) (by rfl) T.g_picked T.F_picked.kp T.b_picked .nil pass0 (pa_cons (pv 3) (pa_cons (pv 12) (pa_cons (pv 5) pa_nil))))))
      (pss_cons (ps_set (i := 9) sc_stretch.nd rfl (.inl rfl) (pe_callB (cLenSq K) (by rfl) T.m_len (by decide +kernel) (pa_cons (pe_lc (own := [("key", 13)]) (tt := _) (by rfl) sc_stretch.nd (piL K (pv 8)) (blkOk_by (own := [("key", 13)]) (by kernel_rfl)) (fun _ _ _ _ _ => (pg_name (i := 13) sc_stretch.nd rfl (.inl rfl))) (fun _ _ _ _ _ => (pts_one (pt_cmpR (ltTK K hr.units0) (pv 13) (pv 6) (nomark _)))) (fun _ _ _ _ _ => (pv 13))) pa_nil)))
      (pss_cons (ps_set (i := 10) sc_stretch.nd rfl (.inl rfl) (pe_callB (cLenSq K) (by rfl) T.m_len (by decide +kernel) (pa_cons (pe_lc (own := [("key", 13)]) (tt := _) (by rfl) sc_stretch.nd (piL K (pv 8)) (blkOk_by (own := [("key", 13)]) (by kernel_rfl)) (fun _ _ _ _ _ => (pg_name (i := 13) sc_stretch.nd rfl (.inl rfl))) (fun _ _ _ _ _ => (pts_one (pt_cmpR (leTK K hr.units0) (pv 13) (pv 7) (nomark _)))) (fun _ _ _ _ _ => (pv 13))) pa_nil)))
      (pss_one (ps_ret (pe_tup (pa_cons (pv 9) (pa_cons (pv 10) pa_nil))))))))))))), ?_⟩
    refine ⟨.ref t, rfl, t, [tx cols, .ref R], rfl, .inl (.inl ht), rfl, tx cols, [.ref R], rfl, .ref R, [], rfl, rfl, ?_⟩
    refine ⟨tx one, rfl, qv, rfl, one, qv, es, rc, rfl, hol, fq, hel, fun H1 sm1 => ?_⟩
    refine ⟨qv, rfl, qv, cols, es, rc, rfl, fq.kT (Same.kT sm1), hok, hel, fun d kvs H2 sm2 nd hd fk => ?_⟩
    have sm02 : Same H H2 := Same.trans sm1 sm2
    have tg2 : TG Z.Ps H2 := tg.same sm02
    have hP : Z.P_stretch ∈ Z.Ps := by simp
    have lsl : (⟨(usedM one es rc).toArray⟩ : Str).cps.toList = usedM one es rc := by simp
    have hul : (usedM one es rc).length ≤ 1000 := Nat.le_trans (used_len _ _ _) hol
    have hus : (⟨(usedM one es rc).toArray⟩ : Str).length ≤ sizeLine := Nat.le_of_lt (small1000 (show (usedM one es rc).length ≤ 1000 from hul))
    have want : ∀ (n : Int) (G : Hp) (σ : L2.St), TG Z.Ps G → G d = some (.dK kvs) → SpA G kvs (spanL es rc) → σ[11]? = some (some (.ref d)) → DWant Z.P_stretch 11 n (tx (usedM one es rc)) σ G (((usedM one es rc).map fun c => if n = 0 then (spanOf es rc c).1 else (spanOf es rc c).2).map V.int) := fun n G σ tG hG fG hσ => by
      refine ⟨tG _ hP, _, d, kvs, fun c => if n = 0 then (spanOf es rc c).1 else (spanOf es rc c).2, rfl, hus, hσ, hG, fun c hc => ?_, ?_⟩
      · rw [lsl] at hc
        obtain ⟨lo, hi, hm⟩ := used_span hc
        obtain ⟨p, h1, h2⟩ := fG.look (spanL_nd hok) hm
        refine ⟨p, lo, hi, h1, h2, ?_⟩
        show (if n = 0 then (spanOf es rc c).1 else (spanOf es rc c).2) = _
        rw [spanOf_mem (spanL_nd hok) hm]
      · rw [lsl, List.map_map]
        rfl
    -- first
    refine ⟨tx (usedM one es rc), rfl, (loM es rc (usedM one es rc)).map V.int, want 0 H2 _ tg2 hd fk rfl, tg2 _ hP, fun G3 t3 p3 n3 => ?_⟩
    have sx3 : Sx Z.Ps H2 (upd G3 p3 (.tup ((loM es rc (usedM one es rc)).map V.int))) := (Tabbed.sx hP t3).new n3
    have tg3 : TG Z.Ps (upd G3 p3 (.tup ((loM es rc (usedM one es rc)).map V.int))) := (Tabbed.tg tg2 t3).new n3
    have h33 : (upd G3 p3 (.tup ((loM es rc (usedM one es rc)).map V.int))) p3 = some (.tup ((loM es rc (usedM one es rc)).map V.int)) := upd_same
    generalize upd G3 p3 (.tup ((loM es rc (usedM one es rc)).map V.int)) = H3 at sx3 tg3 h33
    -- last
    refine ⟨tx (usedM one es rc), rfl, (hiM es rc (usedM one es rc)).map V.int, want 1 H3 _ tg3 (sx3.dct tg2 hd) (fk.kt (sx3.kt tg2)) rfl, tg3 _ hP, fun G4 t4 p4 n4 => ?_⟩
    have sx4 : Sx Z.Ps H3 (upd G4 p4 (.tup ((hiM es rc (usedM one es rc)).map V.int))) := (Tabbed.sx hP t4).new n4
    have tg4 : TG Z.Ps (upd G4 p4 (.tup ((hiM es rc (usedM one es rc)).map V.int))) := (Tabbed.tg tg3 t4).new n4
    have h44 : (upd G4 p4 (.tup ((hiM es rc (usedM one es rc)).map V.int))) p4 = some (.tup ((hiM es rc (usedM one es rc)).map V.int)) := upd_same
    generalize upd G4 p4 (.tup ((hiM es rc (usedM one es rc)).map V.int)) = H4 at sx4 tg4 h44
    have sx04 : Sx Z.Ps H H4 := ((Same.sx sm02).trans sx3).trans sx4
    have h43 : H4 p3 = some (.tup ((loM es rc (usedM one es rc)).map V.int)) := sx4.kt tg3 _ _ h33
    have kt04 : Kt H H4 := sx04.kt tg
    have hR4 := kt04 _ _ hRR
    -- keys
    refine ⟨.ref R, rfl, R, rfl, ⟨_, .inl (.inl hR4)⟩, fun D nD => lc_it (walk_tup (xs := vs)) (fun i H' => ∃ ks : List V, Sx Z.Ps H4 H' ∧ TG Z.Ps H' ∧ H' D = some (.lst ks) ∧ FzA H' ks (((rows.take i).map fun row => keyM cols row (usedM one es rc)).map rowD))
      ⟨[], Sx.rfl'.new nD, tg4.new nD, upd_same, .nil⟩ (fun i H' _ hI => ?_) (fun i x H5 H6 hi hI hY => ?_) (fun H5 hI => ?_)⟩
    · obtain ⟨ks, sx, _, _⟩ := hI
      exact .inl (.inl (sx.kt tg4 _ _ hR4))
    · obtain ⟨ks, sx5, tg5, hD5, fks⟩ := hI
      obtain ⟨rfl, ex⟩ := hY
      obtain ⟨dd, hdd, fd⟩ := fvs.getV ex
      rw [List.getElem?_map] at hdd
      obtain ⟨row, hrow, rfl⟩ := Option.map_eq_some_iff.mp hdd
      have hi2 : i < rows.length := (List.getElem?_eq_some_iff.mp hrow).1
      have erow : rows[i] = row := (List.getElem?_eq_some_iff.mp hrow).2
      have rok := hrs row (List.mem_of_getElem? hrow)
      have kt05 := kt04.trans (sx5.kt tg4)
      refine ⟨rfl, tx cols, rfl, x, rfl, tx (usedM one es rc), rfl, cols, x, row, usedM one es rc, rfl, tg5, fd.kt kt05, rok.1, fun c hc => hoc c (used_in hc), hul, fun p H7 sx7 tg7 np hp => ?_⟩
      have hD7 := sx7.lst tg5 hD5
      have fks7 := fks.kt (sx7.kt tg5)
      refine ⟨ks, hD7, ?_, ks ++ [.ref p], (sx5.trans sx7).mut nD, tg7.mut hD7, upd_same, ?_⟩
      · rw [fks.len, List.length_map, List.length_map, List.length_take]
        exact small1000 (by omega)
      · rw [List.take_succ_eq_append_getElem hi2, erow, List.map_append, List.map_append]
        exact (FzA.snoc fks7 (row_at_fz hp)).kt (Kt.lst hD7)
    · obtain ⟨ks, sx5, tg5, hD5, fks⟩ := hI
      rw [hvl, List.take_of_length_le (Nat.le_refl _)] at fks
      have hkl : ks.length = rows.length := by rw [fks.len, List.length_map, List.length_map]
      have h53 := (sx5.kt tg4) _ _ h43
      have h54 := (sx5.kt tg4) _ _ h44
      -- ahead
      refine ⟨.ref D, rfl, D, rfl, ⟨_, .inl (.inl hD5)⟩, fun D6 nD6 => lc_it (walk_list (xs := ks)) (fun i H' => ∃ cs : List V, Same H5 H' ∧ H' D6 = some (.lst cs) ∧ cs.length = ((rows.take i).filter fun row => HT.lexLt (keyM cols row (usedM one es rc)) (loM es rc (usedM one es rc))).length)
        ⟨[], Same.new (Same.refl H5) nD6, upd_same, rfl⟩ (fun i H' _ hI => ?_) (fun i x H6 H7 hi hI hY => ?_) (fun H6 hI => ?_)⟩
      · obtain ⟨cs, sm, _⟩ := hI
        exact .inl (.inl (sm _ _ hD5))
      · obtain ⟨cs, sm6, hD6, hcl⟩ := hI
        obtain ⟨rfl, ex⟩ := hY
        obtain ⟨dd, hdd, fd⟩ := fks.getV ex
        rw [List.getElem?_map] at hdd
        obtain ⟨key, hkey, rfl⟩ := Option.map_eq_some_iff.mp hdd
        rw [List.getElem?_map] at hkey
        obtain ⟨row, hrow, rfl⟩ := Option.map_eq_some_iff.mp hkey
        have hi2 : i < rows.length := (List.getElem?_eq_some_iff.mp hrow).1
        have erow : rows[i] = row := (List.getElem?_eq_some_iff.mp hrow).2
        obtain ⟨ka, rfl, hka⟩ := row_open fd
        refine ⟨rfl, .ref ka, rfl, .ref p3, rfl, ka, p3, _, _, rfl, rfl, .inl (.inl (sm6 _ _ hka)), .inl (.inl (sm6 _ _ h53)), _, rfl, ite2 (fun e => ?_) (fun e => ?_)⟩
        · refine ⟨.ref ka, rfl, cs, hD6, ?_, cs ++ [.ref ka], Same.mut sm6 nD6, upd_same, ?_⟩
          · rw [hcl]
            have := List.length_filter_le (fun row => HT.lexLt (keyM cols row (usedM one es rc)) (loM es rc (usedM one es rc))) (rows.take i)
            rw [List.length_take] at this
            exact small1000 (by omega)
          · rw [List.take_succ_eq_append_getElem hi2, erow, List.filter_append, List.filter_cons, if_pos e, List.length_append, List.length_append, hcl]
            rfl
        · refine ⟨cs, sm6, hD6, ?_⟩
          rw [List.take_succ_eq_append_getElem hi2, erow, List.filter_append, List.filter_cons, if_neg e, List.filter_nil, List.append_nil, hcl]
      · obtain ⟨cs, sm6, hD6, hcl⟩ := hI
        rw [hkl, List.take_of_length_le (Nat.le_refl _)] at hcl
        refine ⟨D6, cs, rfl, .inl (.inl (.inl hD6)), ?_⟩
        rw [hcl]
        -- behind
        refine ⟨.ref D, rfl, D, rfl, ⟨_, .inl (.inl (sm6 _ _ hD5))⟩, fun D8 nD8 => lc_it (walk_list (xs := ks)) (fun i H' => ∃ cs : List V, Same H6 H' ∧ H' D8 = some (.lst cs) ∧ cs.length = ((rows.take i).filter fun row => leK (keyM cols row (usedM one es rc)) (hiM es rc (usedM one es rc))).length)
          ⟨[], Same.new (Same.refl H6) nD8, upd_same, rfl⟩ (fun i H' _ hI => ?_) (fun i x H8 H9 hi hI hY => ?_) (fun H8 hI => ?_)⟩
        · obtain ⟨cs, sm, _⟩ := hI
          exact .inl (.inl (sm _ _ (sm6 _ _ hD5)))
        · obtain ⟨cs2, sm8, hD8, hcl2⟩ := hI
          obtain ⟨rfl, ex⟩ := hY
          obtain ⟨dd, hdd, fd⟩ := fks.getV ex
          rw [List.getElem?_map] at hdd
          obtain ⟨key, hkey, rfl⟩ := Option.map_eq_some_iff.mp hdd
          rw [List.getElem?_map] at hkey
          obtain ⟨row, hrow, rfl⟩ := Option.map_eq_some_iff.mp hkey
          have hi2 : i < rows.length := (List.getElem?_eq_some_iff.mp hrow).1
          have erow : rows[i] = row := (List.getElem?_eq_some_iff.mp hrow).2
          obtain ⟨ka, rfl, hka⟩ := row_open fd
          refine ⟨rfl, .ref ka, rfl, .ref p4, rfl, ka, p4, _, _, rfl, rfl, .inl (.inl (sm8 _ _ (sm6 _ _ hka))), .inl (.inl (sm8 _ _ (sm6 _ _ h54))), _, rfl, ite2 (fun e => ?_) (fun e => ?_)⟩
          · have e' : leK (keyM cols row (usedM one es rc)) (hiM es rc (usedM one es rc)) = true := e
            refine ⟨.ref ka, rfl, cs2, hD8, ?_, cs2 ++ [.ref ka], Same.mut sm8 nD8, upd_same, ?_⟩
            · rw [hcl2]
              have := List.length_filter_le (fun row => leK (keyM cols row (usedM one es rc)) (hiM es rc (usedM one es rc))) (rows.take i)
              rw [List.length_take] at this
              exact small1000 (by omega)
            · rw [List.take_succ_eq_append_getElem hi2, erow, List.filter_append, List.filter_cons, if_pos e', List.length_append, List.length_append, hcl2]
              rfl
          · have e' : ¬ leK (keyM cols row (usedM one es rc)) (hiM es rc (usedM one es rc)) = true := e
            refine ⟨cs2, sm8, hD8, ?_⟩
            rw [List.take_succ_eq_append_getElem hi2, erow, List.filter_append, List.filter_cons, if_neg e', List.filter_nil, List.append_nil, hcl2]
        · obtain ⟨cs2, sm8, hD8, hcl2⟩ := hI
          rw [hkl, List.take_of_length_le (Nat.le_refl _)] at hcl2
          refine ⟨D8, cs2, rfl, .inl (.inl (.inl hD8)), ?_⟩
          rw [hcl2]
          refine ⟨_, rfl, _, rfl, (by show 2 ≤ sizeLine; decide), fun pr npr => ?_⟩
          have sm58 : Same H5 H8 := Same.trans sm6 sm8
          refine q pr _ (((sx04.trans sx5).trans (Same.sx sm58)).new npr) ((tg5.same sm58).new npr) ?_ upd_same
          exact Sx.free (tg5.same sm58) ((sx04.trans sx5).trans (Same.sx sm58)) npr

/-! ### price_by -/
def spPriceBy (K : PySem.W.Frag) (Z : Ad) : Sp := fun vs H Q _ => ∃ (tv : V) (cols : List Nat) (rows : List (List Int)) (ov : Option (List Nat)) (qv : V) (es : List (Nat × Int)) (rc : Option (Nat × Int × Int)), vs = [tv, oV ov, qv] ∧ TG Z.Ps H ∧ Fz H tv (tabD cols rows) ∧ RowsOk cols.length rows ∧ rows.length ≤ 1000 ∧ (∀ o, ov = some o → o.length ≤ 1000 ∧ ∀ c ∈ o, c ∈ cols) ∧ QZ H qv es rc ∧ QOk cols es rc ∧ es.length ≤ 1000 ∧
  ∀ (H' : Hp), Sx Z.Ps H H' → TG Z.Ps H' → Q (.int (priceByM cols rows ov es rc)) H'
theorem ok_priceby (T : Tx K mg Z) (TB : Tb base mg Z) : FnOk P w K mg base CX0 4 Z.f_price_by Z.d_price_by ["table", "one", "question"] (spPriceBy K Z) := by
  have G_stretch : FnOk P w K mg base CX0 3 Z.f_stretch Z.d_stretch ["table", "one", "question"] (spStretch K Z) := ok_stretch T TB
  refine T.F_price_by.ok sc_price_by (fun vs H Q E h => ?_) (fun cdv A outer s H vs Q E hr h => ?_)
  · obtain ⟨tv, cols, rows, ov, qv, es, rc, rfl, _⟩ := h
    rfl
  · obtain ⟨tv, cols, rows, ov, qv, es, rc, rfl, tg, fT, hrs, hrn, hov, fq, hok, hel, q⟩ := h
    obtain ⟨t, R, vs, rfl, ht, hRR, fvs⟩ := tab_open fT
    have hvl : vs.length = rows.length := by rw [fvs.len, List.length_map]
    refine ⟨_, (pss_cons (ps_if (pt_cmpR op_isN (pv 1) pe_non (nomark _)) (pss_cons (ps_asg (pv 0) (pgT K (n := 2) (pgs_cons (pg_name (i := 3) sc_price_by.nd rfl (.inl rfl)) (pgs_cons (pg_name (i := 4) sc_price_by.nd rfl (.inl rfl)) pgs_nil))))
      (pss_one (ps_ret (pe_callB (cLenSq K) (by rfl) T.m_len (by decide +kernel) (pa_cons (pv 4) pa_nil))))) pss_nil)
      (pss_cons (ps_asg (pe_call G_stretch (hr.mono (by omega)) (by rfl) T.g_stretch T.F_stretch.kp T.b_stretch .nil pass0 (pa_cons (pv 0) (pa_cons (pv 1) (pa_cons (pv 2) pa_nil)))) (pgT K (n := 2) (pgs_cons (pg_name (i := 5) sc_price_by.nd rfl (.inl rfl)) (pgs_cons (pg_name (i := 6) sc_price_by.nd rfl (.inl rfl)) pgs_nil))))
      (pss_one (ps_ret (pe_op op_add (pe_op op_sub (pv 6) (pv 5)) pe_int))))), ?_⟩
    cases ov with
    | none =>
      refine ⟨.non, rfl, rfl, _, rfl, ite2 (fun _ => ?_) (fun z => ?_)⟩
      · refine ⟨.ref t, rfl, t, [tx cols, .ref R], rfl, .inl (.inl ht), rfl, tx cols, [.ref R], rfl, .ref R, [], rfl, rfl, ?_⟩
        refine ⟨.ref R, rfl, R, vs, rfl, .inr (.inl (.inl hRR)), ?_⟩
        rw [hvl]
        exact q H Sx.rfl' tg
      · exact absurd rfl z
    | some o =>
      refine ⟨tx o, rfl, rfl, _, rfl, ite2 (fun z => ?_) (fun _ => ?_)⟩
      · exact absurd z (by simp)
      · obtain ⟨hol, hoc⟩ := hov o rfl
        refine ⟨.ref t, rfl, tx o, rfl, qv, rfl, .ref t, cols, rows, o, qv, es, rc, rfl, tg, fT, hrs, hrn, hol, hoc, fq, hok, hel, fun sp H1 sx1 tg1 nsp hsp => ?_⟩
        refine ⟨sp, [.int (aheadM cols rows o es rc : Nat), .int (behindM cols rows o es rc : Nat)], rfl, .inl (.inl hsp), rfl, .int (aheadM cols rows o es rc : Nat), [.int (behindM cols rows o es rc : Nat)], rfl, .int (behindM cols rows o es rc : Nat), [], rfl, rfl, ?_⟩
        refine ⟨_, rfl, _, rfl, _, _, rfl, rfl, _, _, rfl, rfl, ?_⟩
        exact q H1 sx1 tg1

/-! ### _law_one -/
def spOne (K : PySem.W.Frag) : Sp := fun vs H Q _ => ∃ (r : Addr) (n : Int) (cols : List Nat), vs = [.ref r, tx cols] ∧ H r = some (.lst [.int n]) ∧ 0 < cols.length ∧ cols.length ≤ 26 ∧ ∀ (one rest : List Nat) (n' : Int) (H' : Hp), Kp r H H' → H' r = some (.lst [.int n']) → (rest ++ one).Perm cols → 0 < one.length → Q (tx one) H'
theorem ok_one (T : Tx K mg Z) : FnOk P w K mg base CX0 2 Z.f_l_one Z.d_l_one ["reel", "columns"] (spOne K) := by
  have G_l_pick : FnOk P w K mg base CX0 1 Z.f_l_pick Z.d_l_pick ["reel", "many"] (spPick K) := ok_pick T
  refine T.F_l_one.ok sc_l_one (fun vs H Q E h => ?_) (fun cdv A outer s H vs Q E hr h => ?_)
  · obtain ⟨r, n, cols, rfl, _⟩ := h
    rfl
  · obtain ⟨r, n, cols, rfl, hR, hc0, hc1, q⟩ := h
    refine ⟨_, (pss_cons (ps_set (i := 2) sc_l_one.nd rfl (.inl rfl) (pe_callTy call_list_txt (by rfl) T.m_list (by decide +kernel) (pa_cons (pv 1) pa_nil)))
      (pss_cons (ps_set (i := 3) sc_l_one.nd rfl (.inl rfl) pe_str)
      (pss_cons (ps_for PassesOwn.never rfl (pi_range1 (by rfl) T.m_range (pa_cons (pe_op op_add pe_int (pe_call G_l_pick (hr.mono (by omega)) (by rfl) T.g_l_pick T.F_l_pick.kp T.b_l_pick .nil pass0 (pa_cons (pv 0) (pa_cons (pe_callB call_len_str (by rfl) T.m_len (by decide +kernel) (pa_cons (pv 1) pa_nil)) pa_nil)))) pa_nil)) (pg_name (i := 4) sc_l_one.nd rfl (.inl rfl)) (pss_one (ps_set (i := 3) sc_l_one.nd rfl (.inl rfl) (pe_op op_add_str (pv 3) (bmK K PySem.F.plainAttrs_list PySem.F.slot_list_pop PySem.F.type_list_pop mt_popAt (pv 2) (pa_cons (pe_call G_l_pick (hr.mono (by omega)) (by rfl) T.g_l_pick T.F_l_pick.kp T.b_l_pick .nil pass0 (pa_cons (pv 0) (pa_cons (pe_callB (cLenSq K) (by rfl) T.m_len (by decide +kernel) (pa_cons (pv 2) pa_nil)) pa_nil))) pa_nil))))))
      (pss_one (ps_ret (pv 3)))))), ?_⟩
    refine ⟨tx cols, rfl, _, rfl, by show cols.length ≤ sizeLine; exact Nat.le_of_lt (small1000 (by omega)), fun L nL => ?_⟩
    have ea : (⟨cols.toArray⟩ : Str).cps.toList = cols := by simp
    rw [ea]
    have nLr : L ≠ r := (ne_of_none hR nL).symm
    have hR1 : (upd H L (.lst (cols.map sg))) r = some (.lst [.int n]) := keep_new hR nL
    have hlc : (⟨cols.toArray⟩ : Str).length = cols.length := by
      show cols.toArray.size = cols.length
      simp
    refine ⟨.ref r, rfl, tx cols, rfl, _, rfl, by rw [hlc]; exact Nat.le_of_lt (small1000 (by omega)), r, n, _, rfl, hR1, by rw [hlc]; omega, by rw [hlc]; omega, fun d n1 d0 d1 => ?_⟩
    rw [hlc] at d1
    refine ⟨1, d, rfl, rfl, _, rfl, by omega, by omega, ?_⟩
    refine for_range (fun i σ H' => ∃ (ll ff : List Nat) (n' : Int) (y : Option V), σ = [some (.ref r), some (tx cols), some (.ref L), some (tx ff), y] ∧ Kp r H H' ∧ H' r = some (.lst [.int n']) ∧ H' L = some (.lst (ll.map sg)) ∧ (ll ++ ff).Perm cols ∧ ff.length = i)
      ⟨cols, [], n1, none, rfl, (Kp.new Kp.rfl' nL).own, upd_same, ?_, by rw [List.append_nil], rfl⟩ (fun i σ H' hi hP => ?_) (fun σ H' hP => ?_)
    · rw [upd_ne nLr, upd_same]
    · obtain ⟨ll, ff, n2, y, rfl, kp, hR2, hL, hp, hl⟩ := hP
      have hlen : ll.length + ff.length = cols.length := by
        have := hp.length_eq
        rw [List.length_append] at this
        exact this
      have hll : 0 < ll.length := by omega
      refine ⟨tx ff, rfl, .ref L, rfl, .inl ⟨rfl, _, .inl (.inl hL)⟩, .ref r, rfl, .ref L, rfl, L, _, rfl, .inl (.inl (.inl hL)), r, n2, _, rfl, hR2, ?_, ?_, fun g n3 g0 g1 => ?_⟩
      · rw [List.length_map]
        omega
      · rw [List.length_map]
        omega
      · rw [List.length_map] at g1
        have hg : g.toNat < ll.length := by omega
        have hL2 : (upd H' r (.lst [.int n3])) L = some (.lst (ll.map sg)) := by
          rw [upd_ne nLr]
          exact hL
        have hy : ll[g.toNat]? = some ll[g.toNat] := List.getElem?_eq_getElem hg
        refine ⟨L, _, g, g.toNat, sg ll[g.toNat], rfl, rfl, hL2, by omega, by omega, PySem.seqIndex_of g0 (by rw [List.length_map]; exact g1), ?_, _, _, rfl, rfl, ?_, ?_⟩
        · rw [List.getElem?_map, hy]
          rfl
        · show ff.length + 1 ≤ sizeLine
          exact Nat.le_of_lt (small1000 (by omega))
        · refine ⟨ll.eraseIdx g.toNat, ff ++ [ll[g.toNat]], n3, some (.int (0 + (i : Nat))), ?_, (Kp.own kp).mut nL, ?_, ?_, (popped hy ff).trans hp, by rw [List.length_append, hl]; rfl⟩
          · have e1 : tx (ff ++ [ll[g.toNat]]) = .str ((⟨ff.toArray⟩ : Str) ++ (⟨[ll[g.toNat]].toArray⟩ : Str)) := by
              rw [app_txt]
            rw [e1]
            rfl
          · rw [upd_ne nLr.symm, upd_same]
          · rw [upd_same, erase_map]
    · obtain ⟨ll, ff, n2, y, rfl, kp, hR2, hL, hp, hl⟩ := hP
      exact ⟨_, rfl, q ff ll n2 _ kp hR2 hp (by omega)⟩

/-! ### _law_used -/
theorem ok_lused (T : Tx K mg Z) : FnOk P w K mg base CX0 1 Z.f_l_used Z.d_l_used ["one", "question"] (spUsed K) := by
  refine T.F_l_used.ok sc_l_used (fun vs H Q E h => ?_) (fun cdv A outer s H vs Q E hr h => ?_)
  · obtain ⟨one, qv, es, rc, rfl, _⟩ := h
    rfl
  · obtain ⟨one, qv, es, rc, rfl, hol, fq, hel, q⟩ := h
    obtain ⟨qa, x, y, rfl, hqa, fx, fy⟩ := fq
    have fx2 := fx
    obtain ⟨ea, ob, ps, rfl, hob, hea, fps⟩ := fx2
    refine ⟨_, (pss_cons (ps_setLc (i := 3) (own := [("letter", 2), ("number", 6)]) (tt := tYes) (by rfl) sc_l_used.nd rfl rfl (sw_true rfl rfl rfl (by decide +kernel)) (piT K (pe_ix (ixT K) (pv 1) pe_int (fun _ _ => rfl))) (blkOk_by (own := [("letter", 2), ("number", 6)]) (by kernel_rfl)) (fun _ _ _ _ _ => (pgT K (n := 2) (pgs_cons (pg_name (i := 2) sc_l_used.nd rfl (.inl rfl)) (pgs_cons (pg_name (i := 6) sc_l_used.nd rfl (.inl rfl)) pgs_nil)))) (fun _ _ _ _ _ => pts_nil) (fun _ _ _ _ _ => (pv 2)))
      (pss_cons (ps_set (i := 4) sc_l_used.nd rfl (.inl rfl) pe_str)
      (pss_mid (ps_for PassesOwn.never rfl (pi_str (pv 0)) (pg_name (i := 2) sc_l_used.nd rfl (.inl rfl)) (pss_cons (ps_if (PW.pt (pw_or (pt_cmpR op_ne (pv 4) (pe_slice sl_str (pv 0) po_none (po_some (pe_callB call_len_str (by rfl) T.m_len (by decide +kernel) (pa_cons (pv 4) pa_nil)))) (nomark _)) (pw_or1 (pt_cmpR (notInSq K) (pv 2) (pv 3) (by rfl))))) (pss_one ps_break) pss_nil)
      (pss_one (ps_set (i := 4) sc_l_used.nd rfl (.inl rfl) (pe_op op_add_str (pv 4) (pv 2))))))
      (pss_cons (ps_set (i := 5) sc_l_used.nd rfl (.inl rfl) (pe_slice sl_str (pv 0) (po_some (pe_callB call_len_str (by rfl) T.m_len (by decide +kernel) (pa_cons (pv 4) pa_nil))) (po_some (pe_op op_add (pe_callB call_len_str (by rfl) T.m_len (by decide +kernel) (pa_cons (pv 4) pa_nil)) pe_int))))
      (pss_mid (ps_if (PW.pt (pw_and (pt_cmpR op_notN (pe_ix (ixT K) (pv 1) pe_int (fun _ _ => rfl)) pe_non (nomark _)) (pw_and1 (pt_cmpR op_eq (pv 5) (pe_ix (ixT K) (pe_ix (ixT K) (pv 1) pe_int (fun _ _ => rfl)) pe_int (fun _ _ => rfl)) (nomark _))))) (pss_one (ps_set (i := 4) sc_l_used.nd rfl (.inl rfl) (pe_op op_add_str (pv 4) (pv 5)))) pss_nil)
      (pss_one (ps_ret (pv 4)))))))), ?_⟩
    refine ⟨.ref qa, rfl, qa, [.ref ea, y], 0, .ref ea, rfl, rfl, .inl (.inl hqa), rfl, ea, rfl, ⟨_, .inl (.inr ⟨_, hea⟩)⟩, fun D nD => lc_it (walk_tup (xs := ps)) (fun i H' => Same H H' ∧ H' D = some (.lst (((es.take i).map (·.1)).map sg)))
      ⟨Same.new (Same.refl H) nD, upd_same⟩ (fun i H' _ hP => .inl (.inr ⟨_, hP.1 _ _ hea⟩)) (fun i x H3 H4 hi hP hY => ?_) (fun H1 hP => ?_)⟩
    · obtain ⟨sm, hD⟩ := hP
      obtain ⟨rfl, hx⟩ := hY
      obtain ⟨dd, hdd, fd⟩ := fps.getV hx
      rw [List.getElem?_map] at hdd
      obtain ⟨pr, hpr, rfl⟩ := Option.map_eq_some_iff.mp hdd
      have hi2 : i < es.length := (List.getElem?_eq_some_iff.mp hpr).1
      have epr : es[i] = pr := (List.getElem?_eq_some_iff.mp hpr).2
      obtain ⟨pa, ys, rfl, hpa, fy2⟩ := fd.open
      obtain ⟨c, v, rfl, fc, fv⟩ := fy2.two
      rw [fc.isStr, fv.isInt] at hpa
      refine ⟨pa, [sg pr.1, .int pr.2], rfl, .inl (.inl (sm _ _ hpa)), rfl, sg pr.1, [.int pr.2], rfl, .int pr.2, [], rfl, rfl, rfl, sg pr.1, rfl, _, hD, ?_, Same.mut sm nD, ?_⟩
      · rw [List.length_map, List.length_map, List.length_take]
        exact small1000 (by omega)
      · rw [upd_same, List.take_succ_eq_append_getElem hi2, epr, List.map_append, List.map_append]
        rfl
    · obtain ⟨sm, hL⟩ := hP
      have hpl : ps.length = es.length := by rw [fps.len, List.length_map]
      rw [hpl, List.take_of_length_le (Nat.le_refl _)] at hL
      have hol2 : one.length ≤ sizeLine := Nat.le_of_lt (small1000 hol)
      have hsz : ∀ k, (⟨(one.take k).toArray⟩ : Str).length ≤ sizeLine := fun k => by
        show (one.take k).length ≤ sizeLine
        rw [List.length_take]
        omega
      have hln : ∀ k, k ≤ one.length → (⟨(one.take k).toArray⟩ : Str).length = k := fun k hk => by
        show (one.take k).length = k
        rw [List.length_take]
        omega
      -- the loop
      refine ⟨fun σ H' => ∃ (k : Nat) (y2 : Option V), σ = [some (tx one), some (.ref qa), y2, some (.ref D), some (tx (one.take k)), none, none] ∧ H' = H1 ∧ k = (eqPart one es).length, ?_, fun σ H' hM => ?_⟩
      · refine ⟨tx one, rfl, _, rfl, for_it walk_str (fun i σ H' => ∃ (y2 : Option V), σ = [some (tx one), some (.ref qa), y2, some (.ref D), some (tx (one.take i)), none, none] ∧ H' = H1 ∧ ∀ (j : Nat) (h : j < one.length), j < i → one[j] ∈ es.map fun p : Nat × Int => p.1)
          ⟨none, rfl, rfl, fun j h hj => absurd hj (Nat.not_lt_zero _)⟩ (fun i σ H' _ hP => trivial) (fun i x σ H3 H4 hi hP hY => ?_) (fun σ H3 hP => ?_)⟩
        · obtain ⟨y2, rfl, rfl, hin⟩ := hP
          obtain ⟨rfl, c, hc, rfl⟩ := hY
          have hi2 : i < one.length := by simpa using hi
          have hci : one[i] = c := by
            have : one[i]? = some c := by simpa using hc
            exact (List.getElem?_eq_some_iff.mp this).2
          refine ⟨tx (one.take i), rfl, tx one, rfl, tx (one.take i), rfl, _, rfl, hsz i, _, rfl, _, rfl, hol2, rfl, _, rfl, ?_⟩
          rw [hln i (Nat.le_of_lt hi2), cut_take]
          refine ite2 (fun z => ?_) (fun _ => ?_)
          · exact absurd z (by simp)
          refine ⟨sg c, rfl, .ref D, rfl, D, _, rfl, .inl (.inl (.inl hL)), rfl, flat_signs _, _, rfl, ?_⟩
          show (if (!inV (sg c) ((es.map (·.1)).map sg)) = true then _ else _)
          rw [inV_signs]
          refine ite2 (fun z => ?_) (fun z => ?_)
          · have hno : ¬ c ∈ es.map (·.1) := by simpa using z
            refine ⟨i, _, rfl, rfl, (take_while_at _ _ _ (Nat.le_of_lt hi2) (fun j h hj => decide_eq_true (hin j h hj)) (fun h => decide_eq_false ?_)).symm⟩
            rw [hci]
            exact hno
          · have hyes : c ∈ es.map (·.1) := by
              by_cases e : c ∈ es.map (·.1)
              · exact e
              · exact absurd (by rw [decide_eq_false e]; rfl) z
            refine ⟨tx (one.take i), rfl, sg c, rfl, _, _, rfl, rfl, ?_, some (sg c), ?_, rfl, fun j h hj => ?_⟩
            · show (one.take i).length + 1 ≤ sizeLine
              have := hsz i
              have h2 : (one.take i).length = i := by rw [List.length_take]; omega
              rw [h2]
              exact Nat.le_of_lt (small1000 (by omega))
            · have e1 : tx (one.take (i + 1)) = .str ((⟨(one.take i).toArray⟩ : Str) ++ (⟨[c].toArray⟩ : Str)) := by
                rw [app_txt, List.take_succ_eq_append_getElem hi2, hci]
              rw [e1]
              rfl
            · by_cases e3 : j = i
              · subst e3
                rw [hci]
                exact hyes
              · exact hin j h (by omega)
        · obtain ⟨y2, rfl, rfl, hin⟩ := hP
          have hn : (⟨one.toArray⟩ : Str).cps.size = one.length := by simp
          rw [hn] at hin ⊢
          have hw : (eqPart one es).length = one.length := take_while_at _ _ _ (Nat.le_refl _) (fun j h hj => decide_eq_true (hin j h hj)) (fun h => absurd h (Nat.lt_irrefl _))
          exact ⟨one.length, _, rfl, rfl, hw.symm⟩
      · obtain ⟨k, y2, rfl, rfl, hkk⟩ := hM
        have hk : k ≤ one.length := by
          rw [hkk]
          exact eqPart_le one es
        have htk : one.take k = eqPart one es := by rw [hkk]; exact (eqPart_take one es).symm
        refine ⟨tx one, rfl, tx (one.take k), rfl, _, rfl, hsz k, _, rfl, tx (one.take k), rfl, _, rfl, hsz k, _, 1, rfl, rfl, _, rfl, _, rfl, hol2, ?_⟩
        rw [hln k hk, cut_one one k hk]
        refine ⟨fun σ H2 => ∃ (y2 : Option V), σ = [some (tx one), some (.ref qa), y2, some (.ref D), some (tx (usedM one es rc)), some (tx ((one.drop k).take 1)), none] ∧ H2 = H', ?_, fun σ2 H2 hM => ?_⟩
        · cases rc with
          | none =>
            obtain rfl : y = .non := fy.isNon
            refine ⟨.ref qa, rfl, qa, [.ref ea, .non], 1, .non, rfl, rfl, .inl (.inl (sm _ _ hqa)), rfl, rfl, _, rfl, ite2 (fun z => ?_) (fun _ => ?_)⟩
            · exact absurd z (by simp)
            · refine ⟨y2, ?_, rfl⟩
              rw [htk]
              rfl
          | some t3 =>
            obtain ⟨c, lo, hi⟩ := t3
            obtain ⟨ra, zs, rfl, hra, fz⟩ := Fz.open (ds := [.str ⟨#[c]⟩, .int lo, .int hi]) fy
            obtain ⟨z1, z2, z3, rfl, g1, g2, g3⟩ := fz.three
            rw [g1.isStr, g2.isInt, g3.isInt] at hra
            refine ⟨.ref qa, rfl, qa, [.ref ea, .ref ra], 1, .ref ra, rfl, rfl, .inl (.inl (sm _ _ hqa)), rfl, rfl, _, rfl, ite2 (fun _ => ?_) (fun z => ?_)⟩
            · refine ⟨tx ((one.drop k).take 1), rfl, .ref qa, rfl, qa, [.ref ea, .ref ra], 1, .ref ra, rfl, rfl, .inl (.inl (sm _ _ hqa)), rfl, ra, _, 0, sg c, rfl, rfl, .inl (.inl (sm _ _ hra)), rfl, rfl, _, rfl, ite2 (fun z => ?_) (fun z => ?_)⟩
              · have z2 : (one.drop k).take 1 = [c] := tx_inj (of_decide_eq_true z)
                refine ⟨tx (one.take k), rfl, tx ((one.drop k).take 1), rfl, _, _, rfl, rfl, ?_, y2, ?_, rfl⟩
                · show (one.take k).length + ((one.drop k).take 1).length ≤ sizeLine
                  have e3 := congrArg List.length (List.take_add (l := one) (i := k) (j := 1))
                  rw [List.length_append] at e3
                  rw [← e3, List.length_take]
                  exact Nat.le_of_lt (small1000 (by omega))
                · have e2 : usedM one es (some (c, lo, hi)) = one.take k ++ (one.drop k).take 1 := by
                    show (if (one.drop (eqPart one es).length).take 1 = [c] then one.take ((eqPart one es).length + 1) else eqPart one es) = _
                    rw [← hkk, if_pos z2, List.take_add]
                  rw [app_txt, ← e2]
                  rfl
              · have z2 : ¬ (one.drop k).take 1 = [c] := fun z3 => z (decide_eq_true (by rw [z3]))
                have e2 : usedM one es (some (c, lo, hi)) = one.take k := by
                  show (if (one.drop (eqPart one es).length).take 1 = [c] then one.take ((eqPart one es).length + 1) else eqPart one es) = _
                  rw [← hkk, if_neg z2, htk]
                refine ⟨y2, ?_, rfl⟩
                rw [e2]
                rfl
            · exact absurd (by simp) z
        · obtain ⟨y2, rfl, rfl⟩ := hM
          exact ⟨_, rfl, q _ sm⟩

/-! ### _law_stretch -/
def spLstretch (K : PySem.W.Frag) : Sp := fun vs H Q _ => ∃ (tv : V) (cols : List Nat) (rows : List (List Int)) (one : List Nat) (qv : V) (es : List (Nat × Int)) (rc : Option (Nat × Int × Int)), vs = [tv, tx one, qv] ∧ Fz H tv (tabD cols rows) ∧ RowsOk cols.length rows ∧ rows.length ≤ 1000 ∧ one.length ≤ 1000 ∧ (∀ c ∈ one, c ∈ cols) ∧ QZ H qv es rc ∧ QOk cols es rc ∧ es.length ≤ 1000 ∧
  ∀ (p : Addr) (H' : Hp), Same H H' → H p = none → H' p = some (.tup [.int (aheadM cols rows one es rc : Nat), .int (behindM cols rows one es rc : Nat)]) → Q (.ref p) H'
theorem ok_lstretch (T : Tx K mg Z) : FnOk P w K mg base CX0 2 Z.f_l_stretch Z.d_l_stretch ["table", "one", "question"] (spLstretch K) := by
  have G_l_used : FnOk P w K mg base CX0 1 Z.f_l_used Z.d_l_used ["one", "question"] (spUsed K) := ok_lused T
  refine T.F_l_stretch.ok sc_l_stretch (fun vs H Q E h => ?_) (fun cdv A outer s H vs Q E hr h => ?_)
  · obtain ⟨tv, cols, rows, one, qv, es, rc, rfl, _⟩ := h
    rfl
  · obtain ⟨tv, cols, rows, one, qv, es, rc, rfl, fT, hrs, hrn, hol, hoc, fq, hok, hel, q⟩ := h
    obtain ⟨t, R, vs, rfl, ht, hRR, fvs⟩ := tab_open fT
    have hvl : vs.length = rows.length := by rw [fvs.len, List.length_map]
    have hndE : (es.map (·.1)).Nodup := hok.up.imp fun {a b} q => by
      have : a < b := q
      omega
    refine ⟨_, (pss_cons (ps_asg (pv 0) (pgT K (n := 2) (pgs_cons (pg_name (i := 3) sc_l_stretch.nd rfl (.inl rfl)) (pgs_cons (pg_name (i := 4) sc_l_stretch.nd rfl (.inl rfl)) pgs_nil))))
      (pss_cons (ps_set (i := 5) sc_l_stretch.nd rfl (.inl rfl) (pe_call G_l_used (hr.mono (by omega)) (by rfl) T.g_l_used T.F_l_used.kp T.b_l_used .nil pass0 (pa_cons (pv 1) (pa_cons (pv 2) pa_nil))))
      (pss_cons (ps_set (i := 6) sc_l_stretch.nd rfl (.inl rfl) (pe_callTy (cDictF K) (by rfl) T.m_dict (by decide +kernel) (pa_cons (pe_ix (ixT K) (pv 2) pe_int (fun _ _ => rfl)) pa_nil)))
      (pss_cons (ps_set (i := 7) sc_l_stretch.nd rfl (.inl rfl) pe_int)
      (pss_cons (ps_set (i := 8) sc_l_stretch.nd rfl (.inl rfl) pe_int)
      (pss_cons (ps_for PassesOwn.never rfl (piT K (pv 4)) (pg_name (i := 9) sc_l_stretch.nd rfl (.inl rfl)) (pss_cons (ps_set (i := 10) sc_l_stretch.nd rfl (.inl rfl) pe_int)
      (pss_cons (ps_for PassesOwn.never rfl (pi_str (pv 5)) (pg_name (i := 11) sc_l_stretch.nd rfl (.inl rfl)) (pss_cons (ps_set (i := 12) sc_l_stretch.nd rfl (.inl rfl) (pe_ix (ixT K) (pv 9) (bmK K PySem.F.plainAttrs_str PySem.F.slot_str_index PySem.F.type_str_index mt_sindex (pv 3) (pa_cons (pv 11) pa_nil)) (fun _ _ => rfl)))
      (pss_cons (ps_set (i := 13) sc_l_stretch.nd rfl (.inl rfl) (pe_dget2 (hu_of hr) (pv 6) (pv 11) pe_int ⟨rfl, rfl, rfl, rfl⟩))
      (pss_cons (ps_set (i := 14) sc_l_stretch.nd rfl (.inl rfl) (pv 13))
      (pss_mid (ps_if (pt_cmp (pc_dnotin (hu_of hr) (pv 11) (pv 6))) (pss_one (ps_asg (pe_slice (slTK K) (pe_ix (ixT K) (pv 2) pe_int (fun _ _ => rfl)) (po_some pe_int) po_none) (pgT K (n := 2) (pgs_cons (pg_name (i := 13) sc_l_stretch.nd rfl (.inl rfl)) (pgs_cons (pg_name (i := 14) sc_l_stretch.nd rfl (.inl rfl)) pgs_nil))))) pss_nil)
      (pss_one (ps_if (pt_cmpR op_eq (pv 10) pe_int (nomark _)) (pss_one (ps_set (i := 10) sc_l_stretch.nd rfl (.inl rfl) (pe_op op_sub (pe_callTy call_int1 (by rfl) T.m_int (by decide +kernel) (pa_cons (pe_cmpR op_gt (pv 12) (pv 14) (nomark _)) pa_nil)) (pe_callTy call_int1 (by rfl) T.m_int (by decide +kernel) (pa_cons (pe_cmpR op_lt (pv 12) (pv 13) (nomark _)) pa_nil))))) pss_nil)))))))
      (pss_cons (ps_set (i := 7) sc_l_stretch.nd rfl (.inl rfl) (pe_op op_add (pv 7) (pe_callTy call_int1 (by rfl) T.m_int (by decide +kernel) (pa_cons (pe_cmpR op_lt (pv 10) pe_int (nomark _)) pa_nil))))
      (pss_one (ps_set (i := 8) sc_l_stretch.nd rfl (.inl rfl) (pe_op op_add (pv 8) (pe_callTy call_int1 (by rfl) T.m_int (by decide +kernel) (pa_cons (pe_cmpR op_lt (pv 10) pe_int (nomark _)) pa_nil)))))))))
      (pss_one (ps_ret (pe_tup (pa_cons (pv 7) (pa_cons (pv 8) pa_nil))))))))))), ?_⟩
    refine ⟨.ref t, rfl, t, [tx cols, .ref R], rfl, .inl (.inl ht), rfl, tx cols, [.ref R], rfl, .ref R, [], rfl, rfl, ?_⟩
    refine ⟨tx one, rfl, qv, rfl, one, qv, es, rc, rfl, hol, fq, hel, fun H1 sm1 => ?_⟩
    have fq1 := fq.kT (Same.kT sm1)
    obtain ⟨qa, ev, y, rfl, hqa, fe, fy⟩ := fq1
    obtain ⟨ea, ob, ps, rfl, hob, hea, fps⟩ := fe
    obtain ⟨pa, rfl, hpp⟩ := pairs_of (K := K) fps
    refine ⟨.ref qa, rfl, qa, [.ref ea, y], 0, .ref ea, rfl, rfl, .inl (.inl hqa), rfl, ea, ob, pa, es.map kvI, rfl, hob, hea, hpp, fun d nd => ?_⟩
    rw [merge_es hndE]
    have sm2 : Same H (upd H1 d (.dK (es.map kvI))) := Same.new sm1 nd
    have hd2 : (upd H1 d (.dK (es.map kvI))) d = some (.dK (es.map kvI)) := upd_same
    have hqa2 : (upd H1 d (.dK (es.map kvI))) qa = some (.tup [.ref ea, y]) := keep_new hqa nd
    have fy2 : Fz (upd H1 d (.dK (es.map kvI))) y (rchD rc) := fy.kt (.new nd)
    generalize upd H1 d (.dK (es.map kvI)) = H2 at sm2 hd2 hqa2 fy2 ⊢
    generalize hu : usedM one es rc = u
    have huc : ∀ c ∈ u, c ∈ cols := fun c hc => hoc c (used_in (hu ▸ hc))
    have hur : ∀ c ∈ u, c ∉ es.map (·.1) → ∃ lo hi, rc = some (c, lo, hi) := fun c hc n => used_rc (hu ▸ hc) n
    have hR2 := sm2 _ _ hRR
    have fvs2 := fvs.kt (Same.kt sm2)
    refine ⟨.ref R, rfl, R, rfl, ⟨_, .inl (.inl hR2)⟩, for_it (walk_tup (xs := vs)) (fun i σ H' => ∃ (y9 y10 y11 y12 y13 y14 : Option V), σ = [some (.ref t), some (tx one), some (.ref qa), some (tx cols), some (.ref R), some (tx u), some (.ref d), some (.int (((rows.take i).filter fun row => decide (signM cols row es rc u < 0)).length : Nat)), some (.int (((rows.take i).filter fun row => decide (signM cols row es rc u < 1)).length : Nat)), y9, y10, y11, y12, y13, y14] ∧ Same H2 H')
      ⟨none, none, none, none, none, none, rfl, Same.refl H2⟩ (fun i σ H' _ hP => ?_) (fun i x σ H3 H4 hi hP hY => ?_) (fun σ H3 hP => ?_)⟩
    · obtain ⟨_, _, _, _, _, _, _, sm⟩ := hP
      exact .inl (.inl (sm _ _ hR2))
    · obtain ⟨y9, y10, y11, y12, y13, y14, rfl, sm3⟩ := hP
      obtain ⟨rfl, ex⟩ := hY
      obtain ⟨dd, hdd, fd⟩ := fvs2.getV ex
      rw [List.getElem?_map] at hdd
      obtain ⟨row, hrow, rfl⟩ := Option.map_eq_some_iff.mp hdd
      have hi2 : i < rows.length := (List.getElem?_eq_some_iff.mp hrow).1
      have erow : rows[i] = row := (List.getElem?_eq_some_iff.mp hrow).2
      have rok := hrs row (List.mem_of_getElem? hrow)
      obtain ⟨ra, rfl, hra⟩ := row_open fd
      -- the letters
      refine ⟨tx u, rfl, _, rfl, for_it walk_str (fun j σ H' => ∃ (y11 y12 y13 y14 : Option V), σ = [some (.ref t), some (tx one), some (.ref qa), some (tx cols), some (.ref R), some (tx u), some (.ref d), some (.int (((rows.take i).filter fun row => decide (signM cols row es rc u < 0)).length : Nat)), some (.int (((rows.take i).filter fun row => decide (signM cols row es rc u < 1)).length : Nat)), some (.ref ra), some (.int (signM cols row es rc (u.take j))), y11, y12, y13, y14] ∧ Same H2 H')
        ⟨y11, y12, y13, y14, rfl, sm3⟩ (fun j σ H' _ hP => trivial) (fun j x σ H5 H6 hj hP hY => ?_) (fun σ H5 hP => ?_)⟩
      · obtain ⟨y11', y12', y13', y14', rfl, sm5⟩ := hP
        obtain ⟨rfl, c, hc, rfl⟩ := hY
        have hj2 : j < u.length := by simpa using hj
        have hcj : u[j] = c := by
          have : u[j]? = some c := by simpa using hc
          exact (List.getElem?_eq_some_iff.mp this).2
        have hcu : c ∈ u := hcj ▸ List.getElem_mem hj2
        have hcc := huc c hcu
        obtain ⟨orest, hocc⟩ := ix_one hcc
        have hat := row_at rok.1 hcc
        have tk : ∀ s, signM cols row es rc (u.take j) = s → signM cols row es rc (u.take (j + 1)) = if s = 0 then sgn (rowAt cols row c) (spanOf es rc c).1 (spanOf es rc c).2 else s := fun s hs => by
          rw [List.take_succ_eq_append_getElem hj2, hcj]
          unfold signM signF at hs ⊢
          rw [List.foldl_append, hs]
          rfl
        refine ⟨.ref ra, rfl, tx cols, rfl, rfl, sg c, rfl, _, _, cols.idxOf c, orest, rfl, rfl, hocc, ra, _, _, _, rfl, rfl, .inl (.inl (sm5 _ _ hra)), atI_nat hat, ?_⟩
        refine ⟨.ref d, rfl, d, rfl, .inl ⟨_, .inl (sm5 _ _ hd2)⟩, sg c, rfl, _, DGet.k (k := Sum.inr (sS c)) (sm5 _ _ hd2), ?_⟩
        refine ⟨_, rfl, ?_⟩
        refine ⟨fun σ H' => ∃ (y11 : Option V), σ = [some (.ref t), some (tx one), some (.ref qa), some (tx cols), some (.ref R), some (tx u), some (.ref d), some (.int (((rows.take i).filter fun row => decide (signM cols row es rc u < 0)).length : Nat)), some (.int (((rows.take i).filter fun row => decide (signM cols row es rc u < 1)).length : Nat)), some (.ref ra), some (.int (signM cols row es rc (u.take j))), y11, some (.int (rowAt cols row c)), some (.int (spanOf es rc c).1), some (.int (spanOf es rc c).2)] ∧ Same H2 H', ?_, fun σ H7 hM => ?_⟩
        · refine ⟨sg c, rfl, .ref d, rfl, d, _, rfl, DGet.k (k := Sum.inr (sS c)) (sm5 _ _ hd2), _, rfl, ?_⟩
          rw [val_es]
          by_cases hm : c ∈ es.map (·.1)
          · obtain ⟨v, hv, hval⟩ := val_at c es hm
            rw [decide_eq_true hm]
            refine ite2 (fun z => absurd z (by decide)) (fun _ => ?_)
            refine ⟨some (sg c), ?_, sm5⟩
            rw [hval, span_eq hok hv]
            rfl
          · obtain ⟨lo, hi3, hrc⟩ := hur c hcu hm
            rw [decide_eq_false hm]
            refine ite2 (fun _ => ?_) (fun z => absurd rfl z)
            subst hrc
            obtain ⟨rr, zs, rfl, hrr, fz⟩ := Fz.open (ds := [.str ⟨#[c]⟩, .int lo, .int hi3]) fy2
            obtain ⟨z1, z2, z3, rfl, g1, g2, g3⟩ := fz.three
            rw [g1.isStr, g2.isInt, g3.isInt] at hrr
            refine ⟨.ref qa, rfl, qa, [.ref ea, .ref rr], 1, .ref rr, rfl, rfl, .inl (.inl (sm5 _ _ hqa2)), rfl, _, rfl, rr, _, rfl, .inl (.inl (sm5 _ _ hrr)), (by show ¬ (HT.sIx 3 0 (some 1) = 0 ∧ HT.sIx 3 3 none = 3); decide), fun p np => ?_⟩
            have ecut : cutV [V.str ⟨#[c]⟩, .int lo, .int hi3] (some 1) none = [.int lo, .int hi3] := rfl
            rw [ecut]
            refine ⟨p, [.int lo, .int hi3], rfl, .inl (.inl upd_same), rfl, .int lo, [.int hi3], rfl, .int hi3, [], rfl, rfl, some (sg c), ?_, Same.new sm5 np⟩
            rw [span_rc hok]
            rfl
        · obtain ⟨y11, rfl, sm7⟩ := hM
          refine ⟨.int (signM cols row es rc (u.take j)), rfl, rfl, _, rfl, ite2 (fun z => ?_) (fun z => ?_)⟩
          · have hs0 : signM cols row es rc (u.take j) = 0 := V.int.inj (of_decide_eq_true z)
            refine ⟨.int (rowAt cols row c), rfl, .int (spanOf es rc c).2, rfl, _, _, rfl, rfl, .inr ⟨_, rfl, .int (rowAt cols row c), rfl, .int (spanOf es rc c).1, rfl, _, _, rfl, rfl, .inr ⟨_, rfl, _, _, rfl, rfl, ?_⟩⟩⟩
            refine ⟨y11, some (.int (rowAt cols row c)), some (.int (spanOf es rc c).1), some (.int (spanOf es rc c).2), ?_, sm7⟩
            rw [tk _ hs0, if_pos rfl]
            rfl
          · have hs0 : ¬ signM cols row es rc (u.take j) = 0 := fun z2 => z (decide_eq_true (by rw [z2]))
            refine ⟨y11, some (.int (rowAt cols row c)), some (.int (spanOf es rc c).1), some (.int (spanOf es rc c).2), ?_, sm7⟩
            rw [tk _ rfl, if_neg hs0]
      · obtain ⟨y11', y12', y13', y14', rfl, sm5⟩ := hP
        have hn : (⟨u.toArray⟩ : Str).cps.size = u.length := by simp
        rw [hn, List.take_of_length_le (Nat.le_refl _)]
        refine ⟨_, rfl, .int (signM cols row es rc u), rfl, _, _, rfl, rfl, .inr ⟨_, rfl, _, _, rfl, rfl, ?_⟩⟩
        refine ⟨_, rfl, .int (signM cols row es rc u), rfl, _, _, rfl, rfl, .inr ⟨_, rfl, _, _, rfl, rfl, ?_⟩⟩
        refine ⟨some (.ref ra), some (.int (signM cols row es rc u)), y11', y12', y13', y14', ?_, sm5⟩
        have cnt : ∀ (p : List Int → Bool), (((rows.take (i + 1)).filter p).length : Int) = ((rows.take i).filter p).length + (if p row = true then 1 else 0) := fun p => by
          rw [List.take_succ_eq_append_getElem hi2, erow, List.filter_append, List.filter_cons, List.length_append, List.filter_nil]
          split <;> simp
        rw [cnt, cnt]
        rfl
    · obtain ⟨y9, y10, y11, y12, y13, y14, rfl, sm3⟩ := hP
      rw [hvl, List.take_of_length_le (Nat.le_refl _)]
      refine ⟨_, rfl, _, rfl, (by show 2 ≤ sizeLine; decide), fun p np => ?_⟩
      have sm03 : Same H H3 := Same.trans sm2 sm3
      refine q p _ (Same.new sm03 np) (Same.free sm03 np) ?_
      rw [upd_same, ahead_sign hok, behind_sign hok, hu]

/-! ### _law_fits -/
theorem fit_eq (cols : List Nat) (row : List Int) (p : Nat × Int) : spanFit cols row (p.1, p.2, p.2) = decide (rowAt cols row p.1 = p.2) := by
  unfold spanFit
  rw [Bool.eq_iff_iff, Bool.and_eq_true, decide_eq_true_eq, decide_eq_true_eq, decide_eq_true_eq]
  exact ⟨fun h => Int.le_antisymm h.2 h.1, fun h => ⟨Int.le_of_eq h.symm, Int.le_of_eq h⟩⟩
theorem ok_lfits (T : Tx K mg Z) : FnOk P w K mg base CX0 1 Z.f_l_fits Z.d_l_fits ["columns", "row", "question"] (spFits K) := by
  refine T.F_l_fits.ok sc_l_fits (fun vs H Q E h => ?_) (fun cdv A outer s H vs Q E hr h => ?_)
  · obtain ⟨cols, rv, row, qv, es, rc, rfl, _⟩ := h
    rfl
  · obtain ⟨cols, rv, row, qv, es, rc, rfl, fr, hrl, fq, hok, hel, q⟩ := h
    obtain ⟨ra, rfl, hra⟩ := row_open fr
    obtain ⟨qa, x, y, rfl, hqa, fx, fy⟩ := fq
    obtain ⟨ea, ob, ps, rfl, hob, hea, fps⟩ := fx
    have hpl : ps.length = es.length := by rw [fps.len, List.length_map]
    refine ⟨_, (pss_cons (ps_for PassesOwn.never rfl (piT K (pe_ix (ixT K) (pv 2) pe_int (fun _ _ => rfl))) (pgT K (n := 2) (pgs_cons (pg_name (i := 3) sc_l_fits.nd rfl (.inl rfl)) (pgs_cons (pg_name (i := 4) sc_l_fits.nd rfl (.inl rfl)) pgs_nil))) (pss_one (ps_if (pt_cmpR op_ne (pe_ix (ixT K) (pv 1) (bmK K PySem.F.plainAttrs_str PySem.F.slot_str_index PySem.F.type_str_index mt_sindex (pv 0) (pa_cons (pv 3) pa_nil)) (fun _ _ => rfl)) (pv 4) (nomark _)) (pss_one (ps_ret pe_bl)) pss_nil)))
      (pss_cons (ps_if (pt_cmpR op_isN (pe_ix (ixT K) (pv 2) pe_int (fun _ _ => rfl)) pe_non (nomark _)) (pss_one (ps_ret pe_bl)) pss_nil)
      (pss_cons (ps_asg (pe_ix (ixT K) (pv 2) pe_int (fun _ _ => rfl)) (pgT K (n := 3) (pgs_cons (pg_name (i := 3) sc_l_fits.nd rfl (.inl rfl)) (pgs_cons (pg_name (i := 5) sc_l_fits.nd rfl (.inl rfl)) (pgs_cons (pg_name (i := 6) sc_l_fits.nd rfl (.inl rfl)) pgs_nil)))))
      (pss_one (ps_ret (pe_chain op_le op_le (pv 5) (pe_ix (ixT K) (pv 1) (bmK K PySem.F.plainAttrs_str PySem.F.slot_str_index PySem.F.type_str_index mt_sindex (pv 0) (pa_cons (pv 3) pa_nil)) (fun _ _ => rfl)) (pv 6))))))), ?_⟩
    refine ⟨.ref qa, rfl, qa, [.ref ea, y], 0, .ref ea, rfl, rfl, .inl (.inl hqa), rfl, ea, rfl, ⟨_, .inl (.inr ⟨_, hea⟩)⟩, for_it (walk_tup (xs := ps)) (fun i σ H' => ∃ y3 y4 : Option V, σ = [some (tx cols), some (.ref ra), some (.ref qa), y3, y4, none, none] ∧ H' = H ∧ (es.take i).all (fun p => spanFit cols row (p.1, p.2, p.2)) = true)
      ⟨none, none, rfl, rfl, rfl⟩ (fun i σ H' _ hP => ?_) (fun i x σ H3 H4 hi hP hY => ?_) (fun σ H3 hP => ?_)⟩
    · obtain ⟨_, _, _, rfl, _⟩ := hP
      exact .inl (.inr ⟨_, hea⟩)
    · obtain ⟨y3, y4, rfl, rfl, hall⟩ := hP
      obtain ⟨rfl, hx⟩ := hY
      obtain ⟨dd, hdd, fd⟩ := fps.getV hx
      rw [List.getElem?_map] at hdd
      obtain ⟨pr, hpr, rfl⟩ := Option.map_eq_some_iff.mp hdd
      obtain ⟨pa, ys, rfl, hpa, fy2⟩ := fd.open
      obtain ⟨c, v, rfl, fc, fv⟩ := fy2.two
      rw [fc.isStr, fv.isInt] at hpa
      have hm : pr ∈ es := List.mem_of_getElem? hpr
      have hi2 : i < es.length := (List.getElem?_eq_some_iff.mp hpr).1
      have epr : es[i] = pr := (List.getElem?_eq_some_iff.mp hpr).2
      have hcc : pr.1 ∈ cols := (hok.ok pr hm).1
      obtain ⟨orest, hocc⟩ := ix_one hcc
      have hat := row_at hrl hcc
      refine ⟨pa, [sg pr.1, .int pr.2], rfl, .inl (.inl hpa), rfl, sg pr.1, [.int pr.2], rfl, .int pr.2, [], rfl, rfl, ?_⟩
      refine ⟨.ref ra, rfl, tx cols, rfl, rfl, sg pr.1, rfl, _, _, cols.idxOf pr.1, orest, rfl, rfl, hocc, ra, _, _, _, rfl, rfl, .inl (.inl hra), atI_nat hat, .int pr.2, rfl, rfl, _, rfl, ite2 (fun e => ?_) (fun e => ?_)⟩
      · have ne : rowAt cols row pr.1 ≠ pr.2 := fun z => by
          rw [z, decide_eq_true rfl] at e
          cases e
        have bad : fitsM cols row es rc = false := by
          unfold fitsM
          rw [List.all_eq_false]
          refine ⟨(pr.1, pr.2, pr.2), List.mem_append_left _ (List.mem_map_of_mem (f := fun p : Nat × Int => (p.1, p.2, p.2)) hm), ?_⟩
          rw [fit_eq, decide_eq_false ne]
          decide
        have := q _ (Same.refl _)
        rw [bad] at this
        exact this
      · have eq : rowAt cols row pr.1 = pr.2 := by
          by_cases z : rowAt cols row pr.1 = pr.2
          · exact z
          · refine absurd ?_ e
            rw [decide_eq_false (fun z2 => z (V.int.inj z2))]
            rfl
        refine ⟨_, _, rfl, rfl, ?_⟩
        rw [List.take_succ_eq_append_getElem hi2, epr, List.all_append, hall]
        unfold List.all
        show (true && (spanFit cols row (pr.1, pr.2, pr.2) && true)) = true
        rw [fit_eq, decide_eq_true eq]
        rfl
    · obtain ⟨y3, y4, rfl, rfl, hall⟩ := hP
      rw [hpl, List.take_of_length_le (Nat.le_refl _)] at hall
      have hfit : fitsM cols row es rc = rc.toList.all (spanFit cols row) := by
        unfold fitsM spanL
        rw [List.all_append, List.all_map]
        have : (es.all (spanFit cols row ∘ fun p => (p.1, p.2, p.2))) = true := hall
        rw [this, Bool.true_and]
      cases rc with
      | none =>
        obtain rfl : y = .non := fy.isNon
        refine ⟨.ref qa, rfl, qa, [.ref ea, .non], 1, .non, rfl, rfl, .inl (.inl hqa), rfl, rfl, _, rfl, ite2 (fun _ => ?_) (fun z => ?_)⟩
        · have := q _ (Same.refl _)
          rw [hfit] at this
          exact this
        · exact absurd (decide_eq_true rfl) z
      | some t3 =>
        obtain ⟨c, lo, hi⟩ := t3
        obtain ⟨rr, zs, rfl, hrr, fz⟩ := Fz.open (ds := [.str ⟨#[c]⟩, .int lo, .int hi]) fy
        obtain ⟨z1, z2, z3, rfl, g1, g2, g3⟩ := fz.three
        rw [g1.isStr, g2.isInt, g3.isInt] at hrr
        have hcc : c ∈ cols := (hok.rc c lo hi rfl).1
        obtain ⟨orest, hocc⟩ := ix_one hcc
        have hat := row_at hrl hcc
        have hq := q _ (Same.refl _)
        have hf2 : fitsM cols row es (some (c, lo, hi)) = (decide (lo ≤ rowAt cols row c) && decide (rowAt cols row c ≤ hi)) := by
          rw [hfit]
          show (spanFit cols row (c, lo, hi) && true) = _
          rw [Bool.and_true]
          rfl
        rw [hf2] at hq
        refine ⟨.ref qa, rfl, qa, [.ref ea, .ref rr], 1, .ref rr, rfl, rfl, .inl (.inl hqa), rfl, rfl, _, rfl, ite2 (fun z => ?_) (fun _ => ?_)⟩
        · exact absurd (of_decide_eq_true z) (fun z => nomatch z)
        · refine ⟨.ref qa, rfl, qa, [.ref ea, .ref rr], 1, .ref rr, rfl, rfl, .inl (.inl hqa), rfl, rr, [sg c, .int lo, .int hi], rfl, .inl (.inl hrr), rfl, sg c, [.int lo, .int hi], rfl, .int lo, [.int hi], rfl, .int hi, [], rfl, rfl, ?_⟩
          refine ⟨.int lo, rfl, .ref ra, rfl, tx cols, rfl, rfl, sg c, rfl, _, _, cols.idxOf c, orest, rfl, rfl, hocc, ra, _, _, _, rfl, rfl, .inl (.inl hra), atI_nat hat, lo, _, rfl, rfl, _, rfl, ite2 (fun e => ?_) (fun e => ?_)⟩
          · refine ⟨.int hi, rfl, _, hi, rfl, rfl, ?_⟩
            rw [decide_eq_true (of_decide_eq_true e), Bool.true_and] at hq
            exact hq
          · have e1 : ¬ lo ≤ rowAt cols row c := fun z => e (decide_eq_true z)
            rw [decide_eq_false e1, Bool.false_and] at hq
            exact hq

/-! ### Rows -/
abbrev rwF1 (cols : List Nat) : List (Str × V) := [("columns", tx cols)]
abbrev rwF2 (cols : List Nat) (td : Addr) : List (Str × V) := [("columns", tx cols), ("there", .ref td)]
abbrev rwF3 (cols : List Nat) (td : Addr) (n : Nat) : List (Str × V) := [("columns", tx cols), ("there", .ref td), ("coming", .int (n : Int))]
theorem rwF1_put (cols : List Nat) : putF "columns" (tx cols) ([] : List (Str × V)) = rwF1 cols := by kernel_rfl
theorem rwF2_put (cols : List Nat) (td : Addr) : putF "there" (.ref td) (rwF1 cols) = rwF2 cols td := by kernel_rfl
theorem rwF3_put (cols : List Nat) (td : Addr) (n : Nat) : putF "coming" (.int (n : Int)) (rwF2 cols td) = rwF3 cols td n := by kernel_rfl
theorem rwF3_columns (cols : List Nat) (td : Addr) (n : Nat) : (rwF3 cols td n).lookup ("columns" : Str) = some (tx cols) := by kernel_rfl
theorem rwF3_there (cols : List Nat) (td : Addr) (n : Nat) : (rwF3 cols td n).lookup ("there" : Str) = some (.ref td) := by kernel_rfl
theorem rwF3_coming (cols : List Nat) (td : Addr) (n : Nat) : (rwF3 cols td n).lookup ("coming" : Str) = some (.int (n : Int)) := by kernel_rfl
theorem rwF_put_coming (cols : List Nat) (td : Addr) (n : Nat) : putF "coming" (.int ((n : Int) + 1)) (rwF3 cols td n) = rwF3 cols td (n + 1) := by kernel_rfl
theorem rwF3_no_put (cols : List Nat) (td : Addr) (n : Nat) : (rwF3 cols td n).lookup ("put" : Str) = none := by kernel_rfl
theorem rwF3_no_take (cols : List Nat) (td : Addr) (n : Nat) : (rwF3 cols td n).lookup ("take" : Str) = none := by kernel_rfl
theorem rwF3_no_as_table (cols : List Nat) (td : Addr) (n : Nat) : (rwF3 cols td n).lookup ("as_table" : Str) = none := by kernel_rfl
/-- the rows th stand at r, in the dict td; n: the next number -/
def RowsAt (C : Addr) (H : Hp) (r td : Addr) (cols : List Nat) (th : Nmd) (n : Nat) : Prop := ∃ (dx : Addr) (kvs : List (Key × V)), H r = some (.ins C dx (rwF3 cols td n)) ∧ H td = some (.dK kvs) ∧ NmK H kvs th
/-- the same, walked or not -/
def RowsRd (C : Addr) (H : Hp) (r td : Addr) (cols : List Nat) (th : Nmd) (n : Nat) : Prop := ∃ (dx : Addr) (kvs : List (Key × V)), H r = some (.ins C dx (rwF3 cols td n)) ∧ Rd H td (.dK kvs) ∧ NmK H kvs th
theorem RowsAt.rd {C : Addr} {H : Hp} {r td : Addr} {cols : List Nat} {th : Nmd} {n : Nat} (h : RowsAt C H r td cols th n) : RowsRd C H r td cols th n := by
  obtain ⟨dx, kvs, h1, h2, h3⟩ := h
  exact ⟨dx, kvs, h1, .inl h2, h3⟩
theorem RowsAt.ne {C : Addr} {H : Hp} {r td : Addr} {cols : List Nat} {th : Nmd} {n : Nat} (h : RowsAt C H r td cols th n) : r ≠ td := by
  obtain ⟨dx, kvs, h1, h2, h3⟩ := h
  intro z
  rw [z, h2] at h1
  cases h1
theorem RowsAt.keep {C : Addr} {H H' : Hp} {r td : Addr} {cols : List Nat} {th : Nmd} {n : Nat} (h : RowsAt C H r td cols th n) (k1 : ∀ o, H r = some o → H' r = some o) (k2 : ∀ o, H td = some o → H' td = some o) (k : Kt H H') : RowsAt C H' r td cols th n := by
  obtain ⟨dx, kvs, h1, h2, h3⟩ := h
  exact ⟨dx, kvs, k1 _ h1, k2 _ h2, h3.kt k⟩
theorem RowsRd.keep {C : Addr} {H H' : Hp} {r td : Addr} {cols : List Nat} {th : Nmd} {n : Nat} (h : RowsRd C H r td cols th n) (k1 : ∀ o, H r = some o → H' r = some o) (k2 : ∀ o, H td = some o → H' td = some o) (k : Kt H H') : RowsRd C H' r td cols th n := by
  obtain ⟨dx, kvs, h1, h2, h3⟩ := h
  exact ⟨dx, kvs, k1 _ h1, h2.imp (k2 _) (fun ⟨o, e⟩ => ⟨o, k2 _ e⟩), h3.kt k⟩
theorem RowsRd.sx {C : Addr} {H H' : Hp} {r td : Addr} {cols : List Nat} {th : Nmd} {n : Nat} {L : List Addr} (h : RowsRd C H r td cols th n) (s : Sx L H H') (n1 : r ∉ L) (n2 : td ∉ L) (k : Kt H H') : RowsRd C H' r td cols th n := h.keep (fun o e => s _ _ n1 e) (fun o e => s _ _ n2 e) k
theorem RowsAt.sx {C : Addr} {H H' : Hp} {r td : Addr} {cols : List Nat} {th : Nmd} {n : Nat} {L : List Addr} (h : RowsAt C H r td cols th n) (s : Sx L H H') (n1 : r ∉ L) (n2 : td ∉ L) (k : Kt H H') : RowsAt C H' r td cols th n := h.keep (fun o e => s _ _ n1 e) (fun o e => s _ _ n2 e) k
def spRowsInit (K : PySem.W.Frag) (Z : Ad) : Sp := fun vs H Q _ => ∃ (p dx : Addr) (tv : V) (cols : List Nat) (rows : List (List Int)), vs = [.ref p, tv] ∧ H p = some (.ins Z.C_Rows dx []) ∧ Fz H tv (tabD cols rows) ∧ rows.length ≤ 1000 ∧
  ∀ (td : Addr) (H' : Hp), Kp p H H' → H td = none → RowsAt Z.C_Rows H' p td cols (thN 0 rows) rows.length → Q .non H'
theorem ok_rowsinit (T : Tx K mg Z) : FnOk P w K mg base CX0 1 Z.f_Rows___init__ Z.d_Rows___init__ ["self", "table"] (spRowsInit K Z) := by
  refine T.F_Rows___init__.ok sc_Rows___init__ (fun vs H Q E h => ?_) (fun cdv A outer s H vs Q E hr h => ?_)
  · obtain ⟨p, dx, tv, cols, rows, rfl, _⟩ := h
    rfl
  · obtain ⟨p, dx, tv, cols, rows, rfl, hp, fT, hrn, q⟩ := h
    obtain ⟨t, R, vs, rfl, ht, hRR, fvs⟩ := tab_open fT
    have hvl : vs.length = rows.length := by rw [fvs.len, List.length_map]
    refine ⟨_, (pss_cons (ps_asg (pv 1) (pgT K (n := 2) (pgs_cons (pg_name (i := 2) sc_Rows___init__.nd rfl (.inl rfl)) (pgs_cons (pg_name (i := 3) sc_Rows___init__.nd rfl (.inl rfl)) pgs_nil))))
      (pss_cons (ps_fld (pv 0) (pv 2) rfl)
      (pss_cons (ps_fld (pv 0) (pe_dictEnum K (by rfl) (pa_cons (pv 3) pa_nil) (by rfl) T.m_dict (by rfl) T.m_enumerate) rfl)
      (pss_one (ps_fld (pv 0) (pe_callB (cLenSq K) (by rfl) T.m_len (by decide +kernel) (pa_cons (pv 3) pa_nil)) rfl))))), ?_⟩
    have neR : R ≠ p := fun z => by
      rw [z, hp] at hRR
      cases hRR
    refine ⟨.ref t, rfl, t, [tx cols, .ref R], rfl, .inl (.inl ht), rfl, tx cols, [.ref R], rfl, .ref R, [], rfl, rfl, ?_⟩
    -- self.columns
    refine ⟨tx cols, rfl, .ref p, rfl, p, Z.C_Rows, dx, [], rfl, hp, T.cl_Rows, T.n_Rows_columns, (by show 0 < 1000; decide), ?_⟩
    rw [rwF1_put]
    have kp1 : Kp p H (upd H p (.ins Z.C_Rows dx (rwF1 cols))) := Kp.own Kp.rfl'
    have hp1 : (upd H p (.ins Z.C_Rows dx (rwF1 cols))) p = some (.ins Z.C_Rows dx (rwF1 cols)) := upd_same
    generalize upd H p (.ins Z.C_Rows dx (rwF1 cols)) = H1 at kp1 hp1 ⊢
    -- self.there
    refine ⟨.ref R, rfl, R, vs, rfl, .inl (.inl (kp1 _ _ neR hRR)), by omega, fun td ntd => ?_⟩
    have ntp : td ≠ p := fun z => by
      rw [z, hp1] at ntd
      cases ntd
    have kp2 : Kp p H (upd H1 td (.dK (enK 0 vs))) := kp1.new ntd
    have hp2 : (upd H1 td (.dK (enK 0 vs))) p = some (.ins Z.C_Rows dx (rwF1 cols)) := keep_new hp1 ntd
    have hd2 : (upd H1 td (.dK (enK 0 vs))) td = some (.dK (enK 0 vs)) := upd_same
    have nt0 : H td = none := Kp.none kp1 ntp ntd
    generalize upd H1 td (.dK (enK 0 vs)) = H2 at kp2 hp2 hd2 ⊢
    refine ⟨.ref p, rfl, p, Z.C_Rows, dx, _, rfl, hp2, T.cl_Rows, T.n_Rows_there, (by show 1 < 1000; decide), ?_⟩
    rw [rwF2_put]
    have kp3 : Kp p H (upd H2 p (.ins Z.C_Rows dx (rwF2 cols td))) := kp2.own
    have hp3 : (upd H2 p (.ins Z.C_Rows dx (rwF2 cols td))) p = some (.ins Z.C_Rows dx (rwF2 cols td)) := upd_same
    have hd3 : (upd H2 p (.ins Z.C_Rows dx (rwF2 cols td))) td = some (.dK (enK 0 vs)) := keep_ne hd2 ntp
    generalize upd H2 p (.ins Z.C_Rows dx (rwF2 cols td)) = H3 at kp3 hp3 hd3 ⊢
    -- self.coming
    refine ⟨.ref R, rfl, R, vs, rfl, .inr (.inl (.inl (kp3 _ _ neR hRR))), .ref p, rfl, p, Z.C_Rows, dx, _, rfl, hp3, T.cl_Rows, T.n_Rows_coming, (by show 2 < 1000; decide), ?_⟩
    rw [hvl, rwF3_put]
    have ktp : Kt H (upd H3 p (.ins Z.C_Rows dx (rwF3 cols td rows.length))) := fun b xs e => kp3.own _ _ (fun z => by rw [z, hp] at e; cases e) e
    refine q td _ kp3.own nt0 ⟨dx, enK 0 vs, upd_same, keep_ne hd3 ntp, (NmK.en 0 fvs).kt ktp⟩
def spRowsPut (K : PySem.W.Frag) (Z : Ad) : Sp := fun vs H Q E => ∃ (r td : Addr) (rv : V) (cols : List Nat) (th : Nmd) (n : Nat) (row : List Int), vs = [.ref r, rv] ∧ RowsAt Z.C_Rows H r td cols th n ∧ NmOk cols.length th n ∧ th.length ≤ 60 ∧ Fz H rv (rowD row) ∧ (¬ th.length < 60 → E (.ref (Z.xa "TooMany")) none H) ∧
  (th.length < 60 → ∀ (H' : Hp), Sx [r, td] H H' → Kt H H' → RowsAt Z.C_Rows H' r td cols (th ++ [(n, row)]) (n + 1) → Q (.int (n : Int)) H')
theorem ok_rowsput (T : Tx K mg Z) : FnOk P w K mg base (L2.CX P w) 1 Z.f_Rows_put Z.d_Rows_put ["self", "row"] (spRowsPut K Z) := by
  refine T.F_Rows_put.okX sc_Rows_put (fun vs H Q E h => ?_) (fun cdv A outer s H vs Q E hr h => ?_)
  · obtain ⟨r, td, rv, cols, th, n, row, rfl, _⟩ := h
    rfl
  · obtain ⟨r, td, rv, cols, th, n, row, rfl, hR, hok, hle, fr, qx, q0⟩ := h
    have nrt := hR.ne
    obtain ⟨dx, kvs, hr0, htd, nm⟩ := hR
    obtain ⟨ra, rfl, hra⟩ := row_open fr
    refine ⟨_, (pss_cons (ps_if (pt_cmpR op_ge (pe_callB call_lenD (by rfl) T.m_len (by decide +kernel) (pa_cons (fldK K (pv 0) rfl) pa_nil)) (pe_glob (v := .int 60) (by rfl) T.c_MOST_ROWS ⟨_, rfl⟩) (nomark _)) (pss_one (ps_raise rfl (takes_of rfl rfl rfl rfl) (pmk_own PySem.F.excBase_ValueError (T.xf.cls "TooMany" (by decide)).q T.gx_TooMany (T.xf.cls "TooMany" (by decide)).kp (raises_own (T.xf.cls "TooMany" (by decide)).bE (T.xf.cls "TooMany" (by decide)).tE) (by rfl)))) pss_nil)
      (PSs.nox (pss_cons (ps_set (i := 2) sc_Rows_put.nd rfl (.inl rfl) (fldK K (pv 0) rfl))
      (pss_cons (ps_dput (hu_of hr) (fldK K (pv 0) rfl) (pv 2) (pe_callTy (cTupSq K) (by rfl) T.m_tuple (by decide +kernel) (pa_cons (pv 1) pa_nil)) rfl)
      (pss_cons (ps_fldaug (pv 0) pe_int in_add)
      (pss_one (ps_ret (pv 2)))))))), ?_⟩
    have hkl := nm.len
    refine ⟨.ref r, rfl, r, Z.C_Rows, dx, _, _, rfl, hr0, T.cl_Rows, T.n_Rows_there, rwF3_there _ _ _, td, kvs, rfl, htd, _, _, rfl, rfl, _, rfl, ite2 (fun z => ?_) fun z => ?_⟩
    · refine qx ?_
      have := of_decide_eq_true z
      omega
    have hlt : th.length < 60 := by
      have : ¬ _ := fun y => z (decide_eq_true y)
      omega
    have q := q0 hlt
    refine ⟨.ref r, rfl, r, Z.C_Rows, dx, _, _, rfl, hr0, T.cl_Rows, T.n_Rows_coming, rwF3_coming _ _ _, ?_⟩
    -- self.there[number] = tuple(row)
    refine ⟨.ref ra, rfl, ra, _, rfl, .inr ⟨.inl (.inl hra), ?_⟩⟩
    refine ⟨.ref r, rfl, r, Z.C_Rows, dx, _, _, rfl, hr0, T.cl_Rows, T.n_Rows_there, rwF3_there _ _ _, _, rfl, td, _, rfl, .inl ⟨kvs, nKy n, htd, rfl, Nat.lt_of_le_of_lt (Nat.le_of_eq hkl) (small1000 (by omega)), rfl⟩, ?_⟩
    have hr1 : (upd H td (.dK (putK kvs (nKy n) (.ref ra)))) r = some (.ins Z.C_Rows dx (rwF3 cols td n)) := keep_ne hr0 nrt
    have ht1 : (upd H td (.dK (putK kvs (nKy n) (.ref ra)))) td = some (.dK (putK kvs (nKy n) (.ref ra))) := upd_same
    have sx1 : Sx [r, td] H (upd H td (.dK (putK kvs (nKy n) (.ref ra)))) := fun b o nb e => keep_ne e fun z => nb (by rw [z]; simp)
    generalize upd H td (.dK (putK kvs (nKy n) (.ref ra))) = H1 at hr1 ht1 sx1 ⊢
    -- self.coming += 1
    refine ⟨.ref r, rfl, r, Z.C_Rows, dx, _, _, rfl, hr1, T.cl_Rows, T.n_Rows_coming, rwF3_coming _ _ _, _, _, rfl, rfl, dx, _, hr1, (by show 3 < 1000; decide), ?_⟩
    rw [rwF_put_coming]
    have sx2 : Sx [r, td] H (upd H1 r (.ins Z.C_Rows dx (rwF3 cols td (n + 1)))) := fun b o nb e => keep_ne (sx1 _ _ nb e) fun z => nb (by rw [z]; simp)
    have kt2 : Kt H (upd H1 r (.ins Z.C_Rows dx (rwF3 cols td (n + 1)))) := fun b xs e => sx2 b _ (by
      simp only [List.mem_cons, List.not_mem_nil, or_false, not_or]
      exact ⟨fun z => (by rw [z, hr0] at e; cases e), fun z => (by rw [z, htd] at e; cases e)⟩) e
    exact ⟨_, rfl, q _ sx2 kt2 ⟨dx, _, upd_same, keep_ne ht1 (Ne.symm nrt), (nm.put fr hok.new).kt kt2⟩⟩
def spRowsTake (K : PySem.W.Frag) (Z : Ad) : Sp := fun vs H Q E => ∃ (r td : Addr) (cols : List Nat) (th : Nmd) (n : Nat) (g : Int), vs = [.ref r, .int g] ∧ RowsAt Z.C_Rows H r td cols th n ∧ NmOk cols.length th n ∧ ((∀ m ∈ th.map (·.1), g ≠ ((m : Nat) : Int)) → E (.ref (Z.xa "NoNumber")) none H) ∧
  (∀ m : Nat, m ∈ th.map (·.1) → g = (m : Int) → ∀ (H' : Hp), Sx [td] H H' → Kt H H' → RowsAt Z.C_Rows H' r td cols (outT th m) n → Q .non H')
theorem ok_rowstake (T : Tx K mg Z) : FnOk P w K mg base (L2.CX P w) 1 Z.f_Rows_take Z.d_Rows_take ["self", "number"] (spRowsTake K Z) := by
  refine T.F_Rows_take.okX sc_Rows_take (fun vs H Q E h => ?_) (fun cdv A outer s H vs Q E hr h => ?_)
  · obtain ⟨r, td, cols, th, n, g, rfl, _⟩ := h
    rfl
  · obtain ⟨r, td, cols, th, n, gi, rfl, hR, hok, qx, q0⟩ := h
    have nrt := hR.ne
    obtain ⟨dx, kvs, hr0, htd, nm⟩ := hR
    refine ⟨_, (pss_cons (ps_if (pt_cmp (pc_dnotin (hu_of hr) (pv 1) (fldK K (pv 0) rfl))) (pss_one (ps_raise rfl (takes_of rfl rfl rfl rfl) (pmk_own PySem.F.excBase_ValueError (T.xf.cls "NoNumber" (by decide)).q T.gx_NoNumber (T.xf.cls "NoNumber" (by decide)).kp (raises_own (T.xf.cls "NoNumber" (by decide)).bE (T.xf.cls "NoNumber" (by decide)).tE) (by rfl)))) pss_nil)
      (PSs.nox (pss_one (ps_ddel (fldK K (pv 0) rfl) (pv 1))))), ?_⟩
    by_cases hgi : ∃ g : Nat, g ∈ th.map (·.1) ∧ gi = (g : Int)
    rotate_left 1
    · have no : ∀ m ∈ th.map (·.1), gi ≠ ((m : Nat) : Int) := fun m hm e => hgi ⟨m, hm, e⟩
      have hv : valV kvs (Sum.inl gi) = none := valV_none fun z => by
        rw [nm.keys] at z
        obtain ⟨x, hx, e⟩ := List.mem_map.mp z
        exact no x.1 (List.mem_map.mpr ⟨x, hx, rfl⟩) (Sum.inl.inj e).symm
      exact ⟨_, rfl, .ref r, rfl, r, Z.C_Rows, dx, _, _, rfl, hr0, T.cl_Rows, T.n_Rows_there, rwF3_there _ _ _, td, none, rfl, .inl ⟨kvs, Sum.inl gi, .inl htd, rfl, hv.symm⟩, _, rfl, ite2 (fun _ => qx no) fun z => absurd rfl z⟩
    obtain ⟨g, hg, rfl⟩ := hgi
    have q := q0 g hg rfl
    obtain ⟨x, hx, ex⟩ := List.mem_map.mp hg
    obtain ⟨v, hv, _⟩ := nm.at' (n := g) (r := x.2) hok.nd (by rw [← ex]; exact hx)
    refine ⟨_, rfl, .ref r, rfl, r, Z.C_Rows, dx, _, _, rfl, hr0, T.cl_Rows, T.n_Rows_there, rwF3_there _ _ _, td, some v, rfl, .inl ⟨kvs, nKy g, .inl htd, rfl, hv.symm⟩, _, rfl, ite2 (fun z => absurd z (by simp)) fun _ => ?_⟩
    refine ⟨.ref r, rfl, r, Z.C_Rows, dx, _, _, rfl, hr0, T.cl_Rows, T.n_Rows_there, rwF3_there _ _ _, _, rfl, td, kvs, nKy g, rfl, htd, rfl, by rw [hv]; rfl, ?_⟩
    have sx1 : Sx [td] H (upd H td (.dK (dropK kvs (nKy g)))) := fun b o nb e => keep_ne e fun z => nb (by rw [z]; simp)
    have kt1 : Kt H (upd H td (.dK (dropK kvs (nKy g)))) := Kt.dct htd
    exact q _ sx1 kt1 ⟨dx, _, keep_ne hr0 nrt, upd_same, (nm.drop g).kt kt1⟩
def spAsTable (K : PySem.W.Frag) (Z : Ad) : Sp := fun vs H Q _ => ∃ (r td : Addr) (cols : List Nat) (th : Nmd) (n : Nat), vs = [.ref r] ∧ RowsAt Z.C_Rows H r td cols th n ∧
  ∀ (t : Addr) (H' : Hp), Same H H' → H t = none → Fz H' (.ref t) (tabD cols (th.map (·.2))) → Q (.ref t) H'
theorem ok_astable (T : Tx K mg Z) : FnOk P w K mg base CX0 1 Z.f_Rows_as_table Z.d_Rows_as_table ["self"] (spAsTable K Z) := by
  refine T.F_Rows_as_table.ok sc_Rows_as_table (fun vs H Q E h => ?_) (fun cdv A outer s H vs Q E hr h => ?_)
  · obtain ⟨r, td, cols, th, n, rfl, _⟩ := h
    rfl
  · obtain ⟨r, td, cols, th, n, rfl, hR, q⟩ := h
    obtain ⟨dx, kvs, hr0, htd, nm⟩ := hR
    refine ⟨_, (pss_one (ps_ret (pe_tup (pa_cons (fldK K (pv 0) rfl) (pa_cons (pe_tupVals (by rfl) (fldK K (pv 0) rfl) (by rfl) T.m_tuple) pa_nil))))), ?_⟩
    refine ⟨.ref r, rfl, r, Z.C_Rows, dx, _, _, rfl, hr0, T.cl_Rows, T.n_Rows_columns, rwF3_columns _ _ _, .ref r, rfl, r, Z.C_Rows, dx, _, _, rfl, hr0, T.cl_Rows, T.n_Rows_there, rwF3_there _ _ _, td, kvs, rfl, htd, fun R nR => ?_⟩
    refine ⟨(by show 2 ≤ sizeLine; decide), fun t nt => ?_⟩
    have sm : Same H (upd (upd H R (.tup (kvs.map (·.2)))) t (.tup [tx cols, .ref R])) := Same.new (Same.new (Same.refl H) nR) nt
    refine q t _ sm (Same.free (Same.new (Same.refl H) nR) nt) (.tup upd_same (.cons (.str _) (.cons (.tup (keep_new upd_same nt) (nm.vals.kt (Same.kt sm))) .nil)))

/-! ### Kept -/
abbrev kpF1 (r : Addr) : List (Str × V) := [("rows", .ref r)]
abbrev kpF2 (r : Addr) (od : Addr) : List (Str × V) := [("rows", .ref r), ("orders", .ref od)]
abbrev kpF3 (r : Addr) (od : Addr) (mv : Int) : List (Str × V) := [("rows", .ref r), ("orders", .ref od), ("moves", .int mv)]
theorem kpF1_put (r : Addr) : putF "rows" (.ref r) ([] : List (Str × V)) = kpF1 r := by kernel_rfl
theorem kpF2_put (r : Addr) (od : Addr) : putF "orders" (.ref od) (kpF1 r) = kpF2 r od := by kernel_rfl
theorem kpF3_put (r : Addr) (od : Addr) (mv : Int) : putF "moves" (.int mv) (kpF2 r od) = kpF3 r od mv := by kernel_rfl
theorem kpF3_again (r : Addr) (od : Addr) (mv mv' : Int) : putF "moves" (.int mv') (kpF3 r od mv) = kpF3 r od mv' := by kernel_rfl
theorem kpF1_rows (r : Addr) : (kpF1 r).lookup ("rows" : Str) = some (.ref r) := by kernel_rfl
theorem kpF2_rows (r : Addr) (od : Addr) : (kpF2 r od).lookup ("rows" : Str) = some (.ref r) := by kernel_rfl
theorem kpF2_orders (r : Addr) (od : Addr) : (kpF2 r od).lookup ("orders" : Str) = some (.ref od) := by kernel_rfl
theorem kpF3_rows (r : Addr) (od : Addr) (mv : Int) : (kpF3 r od mv).lookup ("rows" : Str) = some (.ref r) := by kernel_rfl
theorem kpF3_orders (r : Addr) (od : Addr) (mv : Int) : (kpF3 r od mv).lookup ("orders" : Str) = some (.ref od) := by kernel_rfl
theorem kpF3_moves (r : Addr) (od : Addr) (mv : Int) : (kpF3 r od mv).lookup ("moves" : Str) = some (.int mv) := by kernel_rfl
/-- what a method may lean on of the instance, while it is made and behind -/
structure KpF (r od : Addr) (fs : List (Str × V)) : Prop where
  rows : fs.lookup ("rows" : Str) = some (.ref r)
  orders : fs.lookup ("orders" : Str) = some (.ref od)
  key_by : fs.lookup ("key_by" : Str) = none
  enter : fs.lookup ("enter" : Str) = none
theorem kpF2_ok (r od : Addr) : KpF r od (kpF2 r od) := ⟨by kernel_rfl, by kernel_rfl, by kernel_rfl, by kernel_rfl⟩
theorem kpF3_ok (r od : Addr) (mv : Int) : KpF r od (kpF3 r od mv) := ⟨by kernel_rfl, by kernel_rfl, by kernel_rfl, by kernel_rfl⟩
/-- the dict of the lists of a choice -/
def ordK (ch : List (List Nat)) (ls : List Addr) : List (Key × V) := (ch.zip ls).map fun q => ((Sum.inr (txS q.1) : Key), V.ref q.2)
theorem ordK_val : ∀ {ch : List (List Nat)} {ls : List Addr} {i : Nat} {o : List Nat} {l : Addr}, ch.Nodup → ch[i]? = some o → ls[i]? = some l → valV (ordK ch ls) (Sum.inr (txS o)) = some (.ref l)
  | [], _, _, _, _, _, h, _ => nomatch h
  | _ :: _, [], _, _, _, _, _, h => nomatch h
  | c :: ch, a :: ls, 0, o, l, _, h, g => by
    cases h
    cases g
    exact valV_pos rfl
  | c :: ch, a :: ls, i + 1, o, l, nd, h, g => by
    obtain ⟨n1, n2⟩ := List.nodup_cons.mp nd
    have h' : ch[i]? = some o := h
    have ne : ¬ ((Sum.inr (txS c) : Key) = Sum.inr (txS o)) := fun z => n1 ((txS_inj (Sum.inr.inj z)) ▸ List.mem_of_getElem? h')
    exact (valV_neg ne).trans (ordK_val n2 h' g)
theorem ordK_keys : ∀ {ch : List (List Nat)} {ls : List Addr}, ls.length = ch.length → (ordK ch ls).map (fun kv => kV kv.1) = ch.map tx
  | [], [], _ => rfl
  | c :: ch, a :: ls, h => by
    have := ordK_keys (ch := ch) (ls := ls) (by simpa using h)
    exact congrArg (tx c :: ·) this
theorem ordK_len {ch : List (List Nat)} {ls : List Addr} (h : ls.length = ch.length) : (ordK ch ls).length = ch.length := by
  have := congrArg List.length (ordK_keys h)
  rw [List.length_map, List.length_map] at this
  exact this
/-- the lists at ls, each sorted as f tells of it -/
def OrdsTo (H : Hp) (cols : List Nat) (f : Nat → Nmd) (ch : List (List Nat)) (ls : List Addr) : Prop := ∀ (i : Nat) (o : List Nat) (l : Addr), ch[i]? = some o → ls[i]? = some l → ∃ ns : List Nat, H l = some (.lst (ns.map nV)) ∧ IsOrd cols (f i) o ns
theorem OrdsTo.keep {H H' : Hp} {cols : List Nat} {f : Nat → Nmd} {ch : List (List Nat)} {ls : List Addr} (h : OrdsTo H cols f ch ls) (k : ∀ b ∈ ls, ∀ o, H b = some o → H' b = some o) : OrdsTo H' cols f ch ls := fun i o l ho hl => by
  obtain ⟨ns, h1, h2⟩ := h i o l ho hl
  exact ⟨ns, k _ (List.mem_of_getElem? hl) _ h1, h2⟩
structure ChL (cols : List Nat) (ch : List (List Nat)) : Prop where
  nd : ch.Nodup
  ok : ∀ o ∈ ch, o.length ≤ 1000 ∧ ∀ c ∈ o, c ∈ cols
  len : ch.length ≤ 60
def spKeyBy (K : PySem.W.Frag) (Z : Ad) : Sp := fun vs H Q _ => ∃ (p dx r td od : Addr) (fs : List (Str × V)) (cols : List Nat) (th : Nmd) (n m : Nat) (row : List Int) (o : List Nat), vs = [.ref p, tx o, .int (m : Int)] ∧ TG Z.Ps H ∧ H p = some (.ins Z.C_Kept dx fs) ∧ KpF r od fs ∧ RowsRd Z.C_Rows H r td cols th n ∧ NmOk cols.length th n ∧ (m, row) ∈ th ∧ o.length ≤ 1000 ∧ (∀ c ∈ o, c ∈ cols) ∧
  ∀ (q : Addr) (H' : Hp), Sx Z.Ps H H' → TG Z.Ps H' → H q = none → H' q = some (.tup ((keyM cols row o).map V.int)) → Q (.ref q) H'
theorem ok_keyby (T : Tx K mg Z) (TB : Tb base mg Z) : FnOk P w K mg base CX0 2 Z.f_Kept_key_by Z.d_Kept_key_by ["self", "one", "number"] (spKeyBy K Z) := by
  have G_picked : FnOk P w K mg base CX0 1 Z.f_picked Z.d_picked ["columns", "row", "letters"] (spPicked K Z) := ok_picked T TB
  refine T.F_Kept_key_by.ok sc_Kept_key_by (fun vs H Q E h => ?_) (fun cdv A outer s H vs Q E hr h => ?_)
  · obtain ⟨p, dx, r, td, od, fs, cols, th, n, m, row, o, rfl, _⟩ := h
    rfl
  · obtain ⟨p, dx, r, td, od, fs, cols, th, n, m, row, o, rfl, tg, hp, hf, hR, hok, hm, hol, hoc, q⟩ := h
    obtain ⟨dr, kvs, hr0, hd, nm⟩ := hR
    refine ⟨_, (pss_one (ps_ret (pe_call G_picked (hr.mono (by omega)) (by rfl) T.g_picked T.F_picked.kp T.b_picked .nil pass0 (pa_cons (fldK K (fldK K (pv 0) rfl) rfl) (pa_cons (pe_dget (hu_of hr) (fldK K (fldK K (pv 0) rfl) rfl) (pv 2) (fun _ _ => rfl)) (pa_cons (pv 1) pa_nil)))))), ?_⟩
    obtain ⟨v, hv, fv⟩ := nm.at' hok.nd hm
    refine ⟨.ref p, rfl, p, Z.C_Kept, dx, _, _, rfl, hp, T.cl_Kept, T.n_Kept_rows, hf.rows, r, Z.C_Rows, dr, _, _, rfl, hr0, T.cl_Rows, T.n_Rows_columns, rwF3_columns _ _ _, ?_⟩
    refine ⟨.ref p, rfl, p, Z.C_Kept, dx, _, _, rfl, hp, T.cl_Kept, T.n_Kept_rows, hf.rows, r, Z.C_Rows, dr, _, _, rfl, hr0, T.cl_Rows, T.n_Rows_there, rwF3_there _ _ _, _, rfl, td, v, rfl, .inl ⟨kvs, nKy m, hd, rfl, hv.symm⟩, ?_⟩
    exact ⟨tx o, rfl, cols, v, row, o, rfl, tg, fv, (hok.row _ hm).1, hoc, hol, q⟩
def spEnter (K : PySem.W.Frag) (Z : Ad) : Sp := fun vs H Q _ => ∃ (p dx r td od : Addr) (fs : List (Str × V)) (cols : List Nat) (tha th : Nmd) (nn n : Nat) (row : List Int) (ch : List (List Nat)) (ls : List Addr), vs = [.ref p, .int (n : Int)] ∧ TG Z.Ps H ∧ H p = some (.ins Z.C_Kept dx fs) ∧ KpF r od fs ∧ RowsRd Z.C_Rows H r td cols tha nn ∧ NmOk cols.length tha nn ∧ (n, row) ∈ tha ∧ (∀ x ∈ th, x ∈ tha ∧ x.1 < n) ∧ th.length ≤ 100 ∧
  H od = some (.dK (ordK ch ls)) ∧ ls.length = ch.length ∧ ls.Nodup ∧ ChL cols ch ∧ OrdsTo H cols (fun _ => th) ch ls ∧
  ∀ (H' : Hp), Sx (ls ++ Z.Ps) H H' → TG Z.Ps H' → OrdsTo H' cols (fun _ => th ++ [(n, row)]) ch ls → Q .non H'
set_option maxHeartbeats 4000000 in
theorem ok_enter (T : Tx K mg Z) (TB : Tb base mg Z) : FnOk P w K mg base CX0 3 Z.f_Kept_enter Z.d_Kept_enter ["self", "number"] (spEnter K Z) := by
  have G_Kept_key_by : FnOk P w K mg base CX0 2 Z.f_Kept_key_by Z.d_Kept_key_by ["self", "one", "number"] (spKeyBy K Z) := ok_keyby T TB
  refine T.F_Kept_enter.ok sc_Kept_enter (fun vs H Q E h => ?_) (fun cdv A outer s H vs Q E hr h => ?_)
  · obtain ⟨p, dx, r, td, od, fs, cols, tha, th, nn, n, row, ch, ls, rfl, _⟩ := h
    rfl
  · obtain ⟨p, dx, r, td, od, fs, cols, tha, th, nn, n, row, ch, ls, rfl, tg, hp, hf, hR, hok, hn, hth, hthl, hod, hll, hlnd, hch, hor, q⟩ := h
    refine ⟨_, (pss_one (ps_for PassesOwn.never rfl (piL K (pe_callTy (call_list_dK rfl) (by rfl) T.m_list (by decide +kernel) (pa_cons (fldK K (pv 0) rfl) pa_nil))) (pg_name (i := 2) sc_Kept_enter.nd rfl (.inr rfl)) (pss_cons (ps_set (i := 3) sc_Kept_enter.nd rfl (.inl rfl) (pe_dget (hu_of hr) (fldK K (pv 0) rfl) (pv 2) (fun _ _ => rfl)))
      (pss_cons (ps_set (i := 4) sc_Kept_enter.nd rfl (.inr rfl) (pe_meth (pv 0) T.cl_Kept T.m_Kept_key_by G_Kept_key_by (hr.mono (by omega)) T.b_Kept_key_by .nil pass0 (pa_cons (pv 2) (pa_cons (pv 1) pa_nil))))
      (pss_cons (ps_setLc (i := 5) (own := [("other", 6)]) (tt := _) (by rfl) sc_Kept_enter.nd rfl rfl (sw_true rfl rfl rfl (by decide +kernel)) (piL K (pv 3)) (blkOk_by (own := [("other", 6)]) (by kernel_rfl)) (fun _ _ _ _ _ => (pg_name (i := 6) sc_Kept_enter.nd rfl (.inl rfl))) (fun _ _ _ _ _ => (pts_one (pt_cmpR (leTK K hr.units0) (pe_meth (pv 0) T.cl_Kept T.m_Kept_key_by G_Kept_key_by (hr.mono (by omega)) T.b_Kept_key_by .nil pass0 (pa_cons (pv 2) (pa_cons (pv 6) pa_nil))) (pv 4) (nomark _)))) (fun _ _ _ _ _ => (pv 6)))
      (pss_one (ps_expr (bmK K PySem.F.plainAttrs_list PySem.F.slot_list_insert PySem.F.type_list_insert mt_insert (pv 3) (pa_cons (pe_callB (cLenSq K) (by rfl) T.m_len (by decide +kernel) (pa_cons (pv 5) pa_nil)) (pa_cons (pv 1) pa_nil)))))))))), ?_⟩
    obtain ⟨dr, kvs, hr0, hd, nm⟩ := id hR
    have lsP : ∀ l ∈ ls, l ∉ Z.Ps := fun l hl => by
      obtain ⟨i, hi, e⟩ := List.getElem_of_mem hl
      obtain ⟨ns, h1, _⟩ := hor i _ l (List.getElem?_eq_getElem (by omega : i < ch.length)) (by rw [List.getElem?_eq_getElem hi, e])
      exact tg.not h1 fun q z => nomatch z
    have off : ∀ {b : Addr} {u : HO}, H b = some u → (∀ xs, u ≠ .lst xs) → (∀ q, u ≠ .tbl q) → b ∉ ls ++ Z.Ps := fun {b u} e n1 n2 z => by
      rcases List.mem_append.mp z with y | y
      · obtain ⟨i, hi, ei⟩ := List.getElem_of_mem y
        obtain ⟨ns, h1, _⟩ := hor i _ b (List.getElem?_eq_getElem (by omega : i < ch.length)) (by rw [List.getElem?_eq_getElem hi, ei])
        rw [e] at h1
        exact n1 _ (Option.some.inj h1)
      · exact tg.not e n2 y
    have hrL : r ∉ ls ++ Z.Ps := off hr0 (fun _ z => nomatch z) (fun _ z => nomatch z)
    have htL : td ∉ ls ++ Z.Ps := by
      rcases hd with h1 | ⟨f, h1⟩
      · exact off h1 (fun _ z => nomatch z) (fun _ z => nomatch z)
      · exact off h1 (fun _ z => nomatch z) (fun _ z => nomatch z)
    -- list(self.orders)
    refine ⟨.ref p, rfl, p, Z.C_Kept, dx, _, _, rfl, hp, T.cl_Kept, T.n_Kept_orders, hf.orders, od, ordK ch ls, rfl, hod, fun L nL => ?_⟩
    rw [ordK_keys hll]
    have hL1 : (upd H L (.lst (ch.map tx))) L = some (.lst (ch.map tx)) := upd_same
    have sm1 : Same H (upd H L (.lst (ch.map tx))) := Same.new (Same.refl H) nL
    have Lls : L ∉ ls ++ Z.Ps := fun z => by
      rcases List.mem_append.mp z with y | y
      · obtain ⟨i, hi, ei⟩ := List.getElem_of_mem y
        obtain ⟨ns, h1, _⟩ := hor i _ L (List.getElem?_eq_getElem (by omega : i < ch.length)) (by rw [List.getElem?_eq_getElem hi, ei])
        rw [nL] at h1
        cases h1
      · exact tg.free nL y
    generalize upd H L (.lst (ch.map tx)) = H1 at hL1 sm1 ⊢
    refine ⟨L, rfl, ⟨_, .inl (.inl hL1)⟩, for_it (walk_list (xs := ch.map tx)) (fun i σ H' => ∃ y2 y3 y4 y5 y6 : Option V, σ = [some (.ref p), some (.int (n : Int)), y2, y3, y4, y5, y6] ∧ Sx (ls ++ Z.Ps) H1 H' ∧ TG Z.Ps H' ∧ OrdsTo H' cols (fun j => if j < i then th ++ [(n, row)] else th) ch ls)
      ⟨_, _, _, _, _, rfl, Sx.rfl', tg.same sm1, hor.keep fun b _ o e => sm1 _ _ e⟩ (fun i σ H' _ hP => ?_) (fun i x σ H3 H2 hi hP hY => ?_) (fun σ H2 hP => ?_)⟩
    · obtain ⟨_, _, _, _, _, _, sx, _⟩ := hP
      exact .inl (.inl (sx _ _ Lls hL1))
    · obtain ⟨y2, y3, y4, y5, y6, rfl, sx2, tg2, or2⟩ := hP
      obtain ⟨rfl, hx⟩ := hY
      rw [List.getElem?_map] at hx
      obtain ⟨o, ho, rfl⟩ := Option.map_eq_some_iff.mp hx
      have hi2 : i < ch.length := (List.getElem?_eq_some_iff.mp ho).1
      obtain ⟨l, hl⟩ : ∃ l, ls[i]? = some l := ⟨ls[i]'(by omega), List.getElem?_eq_getElem (by omega)⟩
      obtain ⟨ns, hl2, ord⟩ := or2 i o l ho hl
      dsimp only at ord
      rw [if_neg (Nat.lt_irrefl i)] at ord
      obtain ⟨es, rfl, pm, srt⟩ := ord
      have hom := hch.ok o (List.mem_of_getElem? ho)
      have hesl : es.length ≤ 100 := by rw [pm.length_eq]; exact hthl
      have old : ∀ {b : Addr} {u : HO}, H b = some u → (∀ xs, u ≠ .lst xs) → (∀ q, u ≠ .tbl q) → H2 b = some u := fun e n1 n2 => sx2 _ _ (off e n1 n2) (sm1 _ _ e)
      have hp2 := old hp (fun _ z => nomatch z) (fun _ z => nomatch z)
      have hod2 := old hod (fun _ z => nomatch z) (fun _ z => nomatch z)
      have kt2 : Kt H H2 := fun b xs e => old e (fun _ z => nomatch z) (fun _ z => nomatch z)
      have hR2 : RowsRd Z.C_Rows H2 r td cols tha nn := hR.sx ((Same.sx sm1).trans sx2) hrL htL kt2
      -- order, key
      refine ⟨.ref p, rfl, p, Z.C_Kept, dx, _, _, rfl, hp2, T.cl_Kept, T.n_Kept_orders, hf.orders, tx o, rfl, od, .ref l, rfl, .inl ⟨ordK ch ls, Sum.inr (txS o), .inl hod2, rfl, (ordK_val hch.nd ho hl).symm⟩, ?_⟩
      refine ⟨.ref p, rfl, p, dx, _, rfl, hp2, hf.key_by, tx o, rfl, _, rfl, p, dx, r, td, od, fs, cols, tha, nn, n, row, o, rfl, tg2, hp2, hf, hR2, hok, hn, hom.1, hom.2, fun kq H4 sx4 tg4 nkq hkq => ?_⟩
      have kt4 := sx4.kt tg2
      have hl4 := sx4.lst tg2 hl2
      have hp4 := sx4 _ _ (tg2.not hp2 fun q z => nomatch z) hp2
      have hR4 : RowsRd Z.C_Rows H4 r td cols tha nn := hR2.sx sx4 (fun z => hrL (List.mem_append_right _ z)) (fun z => htL (List.mem_append_right _ z)) kt4
      -- ahead
      refine ⟨.ref l, rfl, l, rfl, ⟨_, .inl (.inl hl4)⟩, fun D nD => lc_it (walk_list (xs := (es.map (·.1)).map nV)) (fun k H' => Sx Z.Ps H4 H' ∧ TG Z.Ps H' ∧ H' D = some (.lst ((((es.take k).filter (notAbove cols o row)).map (·.1)).map nV)))
        ⟨Sx.new Sx.rfl' nD, tg4.new nD, upd_same⟩ (fun k H' _ hP => .inl (.inl (hP.1.lst tg4 hl4))) (fun k x H6 H5 hk hP hY => ?_) (fun H5 hP => ?_)⟩
      · obtain ⟨sx5, tg5, hD5⟩ := hP
        obtain ⟨rfl, hx⟩ := hY
        rw [List.getElem?_map, List.getElem?_map] at hx
        obtain ⟨e, he0, rfl⟩ := Option.map_eq_some_iff.mp hx
        obtain ⟨e, he, rfl⟩ := Option.map_eq_some_iff.mp he0
        obtain ⟨hk2, ek⟩ := List.getElem?_eq_some_iff.mp he
        have hem : e ∈ th := pm.mem_iff.mp (List.mem_of_getElem? he)
        have hp5 := sx5 _ _ (tg4.not hp4 fun q z => nomatch z) hp4
        have hR5 : RowsRd Z.C_Rows H5 r td cols tha nn := hR4.sx sx5 (fun z => hrL (List.mem_append_right _ z)) (fun z => htL (List.mem_append_right _ z)) (sx5.kt tg4)
        refine ⟨rfl, .ref p, rfl, p, dx, _, rfl, hp5, hf.key_by, tx o, rfl, _, rfl, p, dx, r, td, od, fs, cols, tha, nn, e.1, e.2, o, rfl, tg5, hp5, hf, hR5, hok, (hth e hem).1, hom.1, hom.2, fun kq2 H7 sx7 tg7 nkq2 hkq2 => ?_⟩
        refine ⟨.ref kq, rfl, kq2, kq, keyM cols e.2 o, keyM cols row o, rfl, rfl, .inl (.inl hkq2), .inl (.inl ((sx5.trans sx7).kt tg4 _ _ hkq)), _, rfl, ?_⟩
        have hD7 := sx7.lst tg5 hD5
        have eb : leK (keyM cols e.2 o) (keyM cols row o) = notAbove cols o row e := leK_le _ _
        show (if leK (keyM cols e.2 o) (keyM cols row o) = true then _ else _)
        rw [eb]
        refine ite2 (fun z => ?_) (fun z => ?_)
        · refine ⟨nV e.1, rfl, _, hD7, ?_, Sx.mut (sx5.trans sx7) nD, TG.put tg7 (tg4.free nD), ?_⟩
          · rw [List.length_map, List.length_map]
            have := List.length_filter_le (notAbove cols o row) (es.take k)
            rw [List.length_take] at this
            exact small1000 (by omega)
          · rw [upd_same, List.take_succ_eq_append_getElem hk2, ek, List.filter_append, List.filter_cons, if_pos z, List.map_append, List.map_append]
            rfl
        · refine ⟨sx5.trans sx7, tg7, ?_⟩
          rw [hD7, List.take_succ_eq_append_getElem hk2, ek, List.filter_append, List.filter_cons, if_neg z, List.filter_nil, List.append_nil]
      obtain ⟨sx5, tg5, hD5⟩ := hP
      rw [List.length_map, List.length_map, List.take_of_length_le (Nat.le_refl _)] at hD5
      have hl5 := sx5.lst tg4 hl4
      -- order.insert(len(ahead), number)
      refine ⟨.ref l, rfl, .inl ⟨rfl, _, .inl (.inl hl5)⟩, .ref D, rfl, D, _, rfl, .inl (.inl (.inl hD5)), _, rfl, l, _, _, _, rfl, rfl, hl5, ?_, ?_, ?_, ?_⟩
      · rw [List.length_map, List.length_map]
        exact small1000 (by omega)
      · omega
      · rw [List.length_map, List.length_map]
        have := List.length_filter_le (notAbove cols o row) es
        omega
      have hlP := lsP l (List.mem_of_getElem? hl)
      have sx6 : Sx (ls ++ Z.Ps) H1 (upd H5 l (.lst (((es.map (·.1)).map nV).take ((((((es.filter (notAbove cols o row)).map (·.1)).map nV).length : Nat) : Int).toNat) ++ [V.int (n : Int)] ++ ((es.map (·.1)).map nV).drop ((((((es.filter (notAbove cols o row)).map (·.1)).map nV).length : Nat) : Int).toNat)))) := fun b u nb e => keep_ne (sx5 b _ (fun z => nb (List.mem_append_right _ z)) (sx4 b _ (fun z => nb (List.mem_append_right _ z)) (sx2 b _ nb e))) fun z => nb (by rw [z]; exact List.mem_append_left _ (List.mem_of_getElem? hl))
      refine ⟨_, _, _, _, _, rfl, sx6, TG.put tg5 hlP, fun j o' l' ho' hl' => ?_⟩
      by_cases ej : j = i
      · subst ej
        rw [ho] at ho'
        cases ho'
        rw [hl] at hl'
        cases hl'
        dsimp only
        rw [if_pos (Nat.lt_succ_self j)]
        have ins := IsOrd.put (cols := cols) (one := o) (row := row) pm srt (n := n) fun x hx => (hth x hx).2
        refine ⟨_, ?_, ins⟩
        rw [upd_same, Int.toNat_natCast, List.length_map, List.length_map, List.map_append, List.map_append, List.map_take, List.map_drop]
        rfl
      · obtain ⟨ns', h1, h2⟩ := or2 j o' l' ho' hl'
        have ne : l' ≠ l := fun z => ej ((List.getElem?_inj (show j < ls.length by
          have := (List.getElem?_eq_some_iff.mp hl').1
          omega) hlnd).mp (by rw [hl', hl, z]))
        refine ⟨ns', keep_ne (sx5.lst tg4 (sx4.lst tg2 h1)) ne, ?_⟩
        have e1 : (if j < i + 1 then th ++ [(n, row)] else th) = if j < i then th ++ [(n, row)] else th := by
          by_cases hj : j < i
          · rw [if_pos hj, if_pos (by omega)]
          · rw [if_neg hj, if_neg (by omega)]
        dsimp only
        rw [e1]
        exact h2
    · obtain ⟨y2, y3, y4, y5, y6, rfl, sx2, tg2, or2⟩ := hP
      refine q H2 ((Same.sx sm1).trans sx2) tg2 fun i o l ho hl => ?_
      obtain ⟨ns, h1, h2⟩ := or2 i o l ho hl
      dsimp only at h2
      rw [List.length_map, if_pos ((List.getElem?_eq_some_iff.mp ho).1)] at h2
      exact ⟨ns, h1, h2⟩

/-! ### a keeper of lists, made; rows put and taken -/
theorem NmK.get {H : Hp} {kvs : List (Key × V)} {th : Nmd} (h : NmK H kvs th) : ∀ {i : Nat} {k : Key} {v : V}, kvs[i]? = some (k, v) → ∃ n r, th[i]? = some (n, r) ∧ k = nKy n := by
  induction h with
  | nil => intro i k v e; cases e
  | @cons n r v kvs th f _ ih =>
    intro i k v e
    cases i with
    | zero =>
      cases e
      exact ⟨n, r, rfl, rfl⟩
    | succ i => exact ih (i := i) e
theorem ordK_snoc {ch : List (List Nat)} {ls : List Addr} (h : ls.length = ch.length) (o : List Nat) (l : Addr) : ordK (ch ++ [o]) (ls ++ [l]) = ordK ch ls ++ [((Sum.inr (txS o) : Key), V.ref l)] := by
  unfold ordK
  rw [List.zip_append h.symm, List.map_append]
  rfl
theorem ordK_none {ch : List (List Nat)} {ls : List Addr} {o : List Nat} (h : o ∉ ch) : valV (ordK ch ls) (Sum.inr (txS o)) = none := by
  refine valV_none fun z => ?_
  unfold ordK at z
  rw [List.map_map] at z
  obtain ⟨q, hq, e⟩ := List.mem_map.mp z
  have e1 : txS q.1 = txS o := Sum.inr.inj e
  have := (List.of_mem_zip hq).1
  rw [txS_inj e1] at this
  exact h this
/-- the places of a keeper -/
structure KAd where
  p : Addr
  r : Addr
  td : Addr
  od : Addr
  ls : List Addr
abbrev KAd.F (k : KAd) : List Addr := k.p :: k.r :: k.td :: k.od :: k.ls
structure KeptAt (CK CR : Addr) (H : Hp) (k : KAd) (cols : List Nat) (th : Nmd) (n : Nat) (ch : List (List Nat)) (mv : Int) : Prop where
  self : ∃ dx, H k.p = some (.ins CK dx (kpF3 k.r k.od mv))
  rows : RowsAt CR H k.r k.td cols th n
  dict : H k.od = some (.dK (ordK ch k.ls))
  len : k.ls.length = ch.length
  nd : k.ls.Nodup
  ords : OrdsTo H cols (fun _ => th) ch k.ls
  npr : k.p ≠ k.r
  nto : k.td ≠ k.od
section
variable {CK CR : Addr} {H H' : Hp} {k : KAd} {cols : List Nat} {th : Nmd} {n : Nat} {ch : List (List Nat)} {mv : Int}
theorem KeptAt.keep (h : KeptAt CK CR H k cols th n ch mv) (s : ∀ b ∈ k.F, ∀ o, H b = some o → H' b = some o) (kt : Kt H H') : KeptAt CK CR H' k cols th n ch mv :=
  ⟨h.self.imp fun _ e => s _ (by simp) _ e, h.rows.keep (s _ (by simp)) (s _ (by simp)) kt, s _ (by simp) _ h.dict, h.len, h.nd, h.ords.keep fun b hb => s _ (by simp [hb]), h.npr, h.nto⟩
theorem KeptAt.at (h : KeptAt CK CR H k cols th n ch mv) {b : Addr} (hb : b ∈ k.F) : ∃ o, H b = some o ∧ ((∃ C dx fs, o = .ins C dx fs) ∨ (∃ kvs, o = .dK kvs) ∨ ∃ xs, o = .lst xs) := by
  obtain ⟨dx, hs⟩ := h.self
  obtain ⟨dr, kvs, hr, hd, _⟩ := h.rows
  simp only [KAd.F, List.mem_cons] at hb
  rcases hb with z | z | z | z | z
  · exact ⟨_, z ▸ hs, .inl ⟨_, _, _, rfl⟩⟩
  · exact ⟨_, z ▸ hr, .inl ⟨_, _, _, rfl⟩⟩
  · exact ⟨_, z ▸ hd, .inr (.inl ⟨_, rfl⟩)⟩
  · exact ⟨_, z ▸ h.dict, .inr (.inl ⟨_, rfl⟩)⟩
  · obtain ⟨i, hi, e⟩ := List.getElem_of_mem z
    obtain ⟨ns, h1, _⟩ := h.ords i _ b (List.getElem?_eq_getElem (by have := h.len; omega : i < ch.length)) (by rw [List.getElem?_eq_getElem hi, e])
    exact ⟨_, h1, .inr (.inr ⟨_, rfl⟩)⟩
theorem KeptAt.noTup (h : KeptAt CK CR H k cols th n ch mv) {b : Addr} {xs : List V} (e : H b = some (.tup xs)) : b ∉ k.F := fun hb => by
  obtain ⟨o, h1, h2⟩ := h.at hb
  rw [e] at h1
  cases h1
  rcases h2 with ⟨_, _, _, z⟩ | ⟨_, z⟩ | ⟨_, z⟩ <;> cases z
theorem KeptAt.noTbl {Ps : List Addr} (h : KeptAt CK CR H k cols th n ch mv) (t : TG Ps H) {b : Addr} (hb : b ∈ k.F) : b ∉ Ps := by
  obtain ⟨o, h1, h2⟩ := h.at hb
  refine t.not h1 fun q z => ?_
  rw [z] at h2
  rcases h2 with ⟨_, _, _, z⟩ | ⟨_, z⟩ | ⟨_, z⟩ <;> cases z
theorem KeptAt.kt {Ps : List Addr} (h : KeptAt CK CR H k cols th n ch mv) (t : TG Ps H) (s : Sx (k.F ++ Ps) H H') : Kt H H' := fun b xs e => s b _ (fun z => (List.mem_append.mp z).elim (h.noTup e) (t.not e fun q z => nomatch z)) e
theorem KeptAt.free {Ps : List Addr} (h : KeptAt CK CR H k cols th n ch mv) {b : Addr} (e : H b = none) : b ∉ k.F := fun hb => by
  obtain ⟨o, h1, _⟩ := h.at hb
  rw [e] at h1
  cases h1
end
def spKeptInit (K : PySem.W.Frag) (Z : Ad) : Sp := fun vs H Q _ => ∃ (p dx : Addr) (tv : V) (cols : List Nat) (rows : List (List Int)) (ca : Addr) (ch : List (List Nat)), vs = [.ref p, tv, .ref ca] ∧ TG Z.Ps H ∧ H p = some (.ins Z.C_Kept dx []) ∧ Fz H tv (tabD cols rows) ∧ RowsOk cols.length rows ∧ rows.length ≤ 60 ∧ H ca = some (.tup (ch.map tx)) ∧ ChL cols ch ∧
  ∀ (k : KAd) (H' : Hp), k.p = p → Sx (p :: Z.Ps) H H' → TG Z.Ps H' → (∀ b ∈ k.F, b ≠ p → H b = none) → KeptAt Z.C_Kept Z.C_Rows H' k cols (thN 0 rows) rows.length ch 0 → Q .non H'
set_option maxHeartbeats 4000000 in
theorem ok_keptinit (T : Tx K mg Z) (TB : Tb base mg Z) : FnOk P w K mg base CX0 4 Z.f_Kept___init__ Z.d_Kept___init__ ["self", "table", "choice"] (spKeptInit K Z) := by
  have G_Rows___init__ : FnOk P w K mg base CX0 1 Z.f_Rows___init__ Z.d_Rows___init__ ["self", "table"] (spRowsInit K Z) := ok_rowsinit T
  have G_Kept_enter : FnOk P w K mg base CX0 3 Z.f_Kept_enter Z.d_Kept_enter ["self", "number"] (spEnter K Z) := ok_enter T TB
  refine T.F_Kept___init__.ok sc_Kept___init__ (fun vs H Q E h => ?_) (fun cdv A outer s H vs Q E hr h => ?_)
  · obtain ⟨p, dx, tv, cols, rows, ca, ch, rfl, _⟩ := h
    rfl
  · obtain ⟨p, dx, tv, cols, rows, ca, ch, rfl, tg, hp, fT, hrs, hrn, hca, hch, q⟩ := h
    refine ⟨_, (pss_cons (ps_fld (pv 0) (pe_make T.mk_Rows G_Rows___init__ (hr.mono (by omega)) (by rfl) T.g_Rows T.b_Rows___init__ .nil pass0 (pa_cons (pv 1) pa_nil)) rfl)
      (pss_cons (ps_fld (pv 0) (pe_dc (own := [("one", 4)]) (tt := tYes) (by rfl) sc_Kept___init__.nd (piT K (pv 2)) (blkOk_by (own := [("one", 4)]) (by kernel_rfl)) (fun _ _ _ _ _ => (pg_name (i := 4) sc_Kept___init__.nd rfl (.inl rfl))) (fun _ _ _ _ _ => pts_nil) (fun _ _ _ _ _ => (pv 4)) (fun _ _ _ _ _ => (pe_lst pa_nil))) rfl)
      (pss_cons (ps_lock (ps_for PassesOwn.never rfl (pi_keys (fldK K (fldK K (pv 0) rfl) rfl)) (pg_name (i := 3) sc_Kept___init__.nd rfl (.inl rfl)) (pss_one (ps_expr (pe_meth (pv 0) T.cl_Kept T.m_Kept_enter G_Kept_enter (hr.mono (by omega)) T.b_Kept_enter .nil pass0 (pa_cons (pv 3) pa_nil))))))
      (pss_one (ps_fld (pv 0) pe_int rfl))))), ?_⟩
    have pP : p ∉ Z.Ps := tg.not hp fun q z => nomatch z
    have ncp : ca ≠ p := fun z => by
      rw [z, hp] at hca
      cases hca
    -- self.rows
    refine ⟨tv, rfl, fun r dx0 nr ndx nex => ?_⟩
    have sm1 : Same H (upd (upd H dx0 (.own r)) r (.ins Z.C_Rows dx0 [])) := fun b o e => by
      rw [upd_ne (ne_of_none e nr), upd_ne (ne_of_none e ndx)]
      exact e
    have hr1 : (upd (upd H dx0 (.own r)) r (.ins Z.C_Rows dx0 [])) r = some (.ins Z.C_Rows dx0 []) := upd_same
    generalize upd (upd H dx0 (.own r)) r (.ins Z.C_Rows dx0 []) = H1 at sm1 hr1 ⊢
    refine ⟨r, dx0, tv, cols, rows, rfl, hr1, fT.kt (Same.kt sm1), by omega, fun td H2 kp2 ntd1 hR2 => ⟨rfl, ?_⟩⟩
    have ntd : H td = none := Same.free sm1 ntd1
    have sm2 : Same H H2 := fun b o e => kp2 b o (ne_of_none e nr) (sm1 b o e)
    have npr : p ≠ r := ne_of_none hp nr
    have nptd : p ≠ td := ne_of_none hp ntd
    have hp2 := sm2 _ _ hp
    refine ⟨.ref p, rfl, p, Z.C_Kept, dx, [], rfl, hp2, T.cl_Kept, T.n_Kept_rows, (by show 0 < 1000; decide), ?_⟩
    rw [kpF1_put]
    have sx3 : Sx (p :: Z.Ps) H (upd H2 p (.ins Z.C_Kept dx (kpF1 r))) := fun b o nb e => keep_ne (sm2 b o e) fun z => nb (by rw [z]; exact List.mem_cons_self)
    have tg3 : TG Z.Ps (upd H2 p (.ins Z.C_Kept dx (kpF1 r))) := TG.put (tg.same sm2) pP
    have hp3 : (upd H2 p (.ins Z.C_Kept dx (kpF1 r))) p = some (.ins Z.C_Kept dx (kpF1 r)) := upd_same
    have kt23 : Kt H2 (upd H2 p (.ins Z.C_Kept dx (kpF1 r))) := fun b xs e => keep_ne e fun z => by
      rw [z, hp2] at e
      cases e
    have hR3 : RowsAt Z.C_Rows (upd H2 p (.ins Z.C_Kept dx (kpF1 r))) r td cols (thN 0 rows) rows.length := hR2.keep (fun o e => keep_ne e npr.symm) (fun o e => keep_ne e nptd.symm) kt23
    generalize upd H2 p (.ins Z.C_Kept dx (kpF1 r)) = H3 at sx3 tg3 hp3 hR3 ⊢
    have hca3 := sx3 _ _ (fun z => (List.mem_cons.mp z).elim ncp (tg.not hca fun q z => nomatch z)) hca
    -- self.orders
    refine ⟨.ref ca, rfl, ca, rfl, ⟨_, .inl (.inl hca3)⟩, fun D nD => dc_tup (xs := ch.map tx) (fun i H' => ∃ ls : List Addr, ls.length = i ∧ Same H3 H' ∧ H' D = some (.dK (ordK (ch.take i) ls)) ∧ ls.Nodup ∧ ∀ l ∈ ls, H' l = some (.lst []) ∧ H3 l = none ∧ l ≠ D)
      ⟨[], rfl, Same.new (Same.refl H3) nD, (by rw [upd_same, List.take_zero]; rfl), List.nodup_nil, (fun l h => nomatch h)⟩ (fun i H' _ hP => ?_) (fun i x H4 hx hP => ?_) (fun H4 hP => ?_)⟩
    · obtain ⟨_, _, sm, _⟩ := hP
      exact .inl (.inl (sm _ _ hca3))
    · obtain ⟨ls, hll, sm4, hD4, hnd, hls⟩ := hP
      rw [List.getElem?_map] at hx
      obtain ⟨o, ho, rfl⟩ := Option.map_eq_some_iff.mp hx
      obtain ⟨hi, ei⟩ := List.getElem?_eq_some_iff.mp ho
      have tkl : (ch.take i).length = i := by
        rw [List.length_take]
        omega
      have tk : ch.take (i + 1) = ch.take i ++ [o] := by rw [List.take_succ_eq_append_getElem hi, ei]
      have out : o ∉ ch.take i := fun z => by
        have nd2 : (ch.take (i + 1)).Nodup := hch.nd.sublist (List.take_sublist _ _)
        rw [tk] at nd2
        exact (List.nodup_append.mp nd2).2.2 o z o (by simp) rfl
      refine ⟨rfl, tx o, rfl, Nat.zero_le _, fun l nl => ?_⟩
      have hD5 : (upd H4 l (.lst [])) D = some (.dK (ordK (ch.take i) ls)) := keep_new hD4 nl
      have nlD : l ≠ D := (ne_of_none hD4 nl).symm
      refine ⟨_, Sum.inr (txS o), rfl, hD5, ?_, ls ++ [l], by rw [List.length_append, hll]; rfl, Same.mut (Same.new sm4 nl) nD, ?_, ?_, fun a ha => ?_⟩
      · rw [ordK_len (by rw [hll, tkl]), tkl]
        have := hch.len
        exact small1000 (by omega)
      · rw [upd_same, putK_new _ (ordK_none out), tk, ordK_snoc (by rw [hll, tkl])]
      · refine List.nodup_append.mpr ⟨hnd, by simp, fun a ha b hb z => ?_⟩
        rw [List.mem_singleton.mp hb] at z
        have := (hls a ha).1
        rw [z, nl] at this
        cases this
      · rcases List.mem_append.mp ha with z | z
        · obtain ⟨h1, h2, h3⟩ := hls a z
          exact ⟨keep_ne (keep_new h1 nl) h3, h2, h3⟩
        · rw [List.mem_singleton.mp z]
          exact ⟨keep_ne upd_same nlD, Same.free sm4 nl, nlD⟩
    obtain ⟨ls, hll, sm4, hD4, hnd, hls⟩ := hP
    rw [List.length_map] at hll hD4
    rw [List.take_of_length_le (Nat.le_refl _)] at hD4
    have nDp : D ≠ p := (ne_of_none hp3 nD).symm
    have hp4 := sm4 _ _ hp3
    refine ⟨.ref p, rfl, p, Z.C_Kept, dx, _, rfl, hp4, T.cl_Kept, T.n_Kept_orders, (by show 1 < 1000; decide), ?_⟩
    rw [kpF2_put]
    have sx5 : Sx (p :: Z.Ps) H (upd H4 p (.ins Z.C_Kept dx (kpF2 r D))) := fun b o nb e => keep_ne (sm4 _ _ (sx3 b o nb e)) fun z => nb (by rw [z]; exact List.mem_cons_self)
    have tg5 : TG Z.Ps (upd H4 p (.ins Z.C_Kept dx (kpF2 r D))) := TG.put (tg3.same sm4) pP
    have hp5 : (upd H4 p (.ins Z.C_Kept dx (kpF2 r D))) p = some (.ins Z.C_Kept dx (kpF2 r D)) := upd_same
    have kt45 : Kt H4 (upd H4 p (.ins Z.C_Kept dx (kpF2 r D))) := fun b xs e => keep_ne e fun z => by
      rw [z, hp4] at e
      cases e
    have hR5 : RowsAt Z.C_Rows (upd H4 p (.ins Z.C_Kept dx (kpF2 r D))) r td cols (thN 0 rows) rows.length := hR3.keep (fun o e => keep_ne (sm4 _ _ e) npr.symm) (fun o e => keep_ne (sm4 _ _ e) nptd.symm) ((Same.kt sm4).trans kt45)
    have hD5 : (upd H4 p (.ins Z.C_Kept dx (kpF2 r D))) D = some (.dK (ordK ch ls)) := keep_ne hD4 nDp
    have lsp : ∀ l ∈ ls, l ≠ p := fun l hl z => by
      have := (hls l hl).2.1
      rw [z, hp3] at this
      cases this
    have hl5 : ∀ l ∈ ls, (upd H4 p (.ins Z.C_Kept dx (kpF2 r D))) l = some (.lst []) := fun l hl => keep_ne (hls l hl).1 (lsp l hl)
    generalize upd H4 p (.ins Z.C_Kept dx (kpF2 r D)) = H5 at sx5 tg5 hp5 hR5 hD5 hl5 ⊢
    have hok := NmOk.start hrs
    obtain ⟨dr, kvs, hr5, ht5, nm5⟩ := id hR5
    have ntD : td ≠ D := fun z => by
      obtain ⟨_, _, _, h3, _⟩ := hR3
      rw [z, nD] at h3
      cases h3
    have free0 : ∀ {b : Addr}, H3 b = none → b ≠ p → H b = none := fun {b} e ne => by
      cases eb : H b with
      | none => rfl
      | some o =>
        by_cases hbP : b ∈ Z.Ps
        · exact absurd hbP (tg3.free e)
        · have := sx3 b o (fun z => (List.mem_cons.mp z).elim ne hbP) eb
          rw [e] at this
          cases this
    have ls0 : ∀ l ∈ ls, H l = none := fun l hl => free0 (hls l hl).2.1 (lsp l hl)
    have D0 : H D = none := free0 nD nDp
    -- for number in self.rows.there
    refine ⟨td, .dK kvs, ht5, trivial, fun od0 => ?_⟩
    have tL : (upd H5 td (.frz od0 (.dK kvs))) td = some (.frz od0 (.dK kvs)) := upd_same
    have kL : ∀ {b : Addr} {o : HO}, b ≠ td → H5 b = some o → (upd H5 td (.frz od0 (.dK kvs))) b = some o := fun ne e => keep_ne e ne
    have tgL : TG Z.Ps (upd H5 td (.frz od0 (.dK kvs))) := TG.put tg5 (tg5.not ht5 fun q z => nomatch z)
    have ktL : Kt H5 (upd H5 td (.frz od0 (.dK kvs))) := Kt.dct ht5
    generalize upd H5 td (.frz od0 (.dK kvs)) = HL at tL kL tgL ktL ⊢
    have hpL := kL nptd hp5
    have hrL := kL (fun z => by rw [z, ht5] at hr5; cases hr5) hr5
    have hDL := kL ntD.symm hD5
    have lst : ∀ l ∈ ls, l ≠ td := fun l hl z => by
      have := hl5 l hl
      rw [z, ht5] at this
      cases this
    have hRL : RowsRd Z.C_Rows HL r td cols (thN 0 rows) rows.length := ⟨dr, kvs, hrL, .inr ⟨od0, tL⟩, nm5.kt ktL⟩
    have lsP : ∀ l ∈ ls, l ∉ Z.Ps := fun l hl => tg5.not (hl5 l hl) fun q z => nomatch z
    have offs : ∀ {b : Addr} {u : HO}, HL b = some u → (∀ xs, u ≠ .lst xs) → (∀ q, u ≠ .tbl q) → b ∉ ls ++ Z.Ps := fun {b u} e n1 n2 z => by
      rcases List.mem_append.mp z with y | y
      · have := kL (lst b y) (hl5 b y)
        rw [e] at this
        exact n1 _ (Option.some.inj this)
      · exact tgL.not e n2 y
    have tln : (thN 0 rows).length = rows.length := thN_len rows 0
    refine ⟨.ref p, rfl, p, Z.C_Kept, dx, _, _, rfl, hpL, T.cl_Kept, T.n_Kept_rows, kpF2_rows _ _, r, Z.C_Rows, dr, _, _, rfl, hrL, T.cl_Rows, T.n_Rows_there, rwF3_there _ _ _, td, od0, rfl, .inl ⟨kvs, tL, for_it walk_keys (fun i σ H' => ∃ y3 y4 : Option V, σ = [some (.ref p), some tv, some (.ref ca), y3, y4] ∧ Sx (ls ++ Z.Ps) HL H' ∧ TG Z.Ps H' ∧ OrdsTo H' cols (fun _ => (thN 0 rows).take i) ch ls)
      ⟨_, _, rfl, Sx.rfl', tgL, fun i o l ho hl => ⟨[], kL (lst l (List.mem_of_getElem? hl)) (hl5 l (List.mem_of_getElem? hl)), by rw [List.take_zero]; exact IsOrd.nil⟩⟩ (fun i σ H' _ hP => ?_) (fun i x σ H7 H6 hi hP hY => ?_) (fun σ H6 hP => ?_)⟩⟩
    · obtain ⟨_, _, _, sx, _⟩ := hP
      exact sx _ _ (offs tL (fun _ z => nomatch z) (fun _ z => nomatch z)) tL
    · obtain ⟨y3, y4, rfl, sx6, tg6, or6⟩ := hP
      obtain ⟨rfl, kk, v, hkv, rfl⟩ := hY
      obtain ⟨m, row, hm, rfl⟩ := nm5.get hkv
      obtain ⟨him, eim⟩ := List.getElem?_eq_some_iff.mp hm
      have hp6 := sx6 _ _ (offs hpL (fun _ z => nomatch z) (fun _ z => nomatch z)) hpL
      have hD6 := sx6 _ _ (offs hDL (fun _ z => nomatch z) (fun _ z => nomatch z)) hDL
      have kt6 : Kt HL H6 := fun b xs e => sx6 _ _ (offs e (fun _ z => nomatch z) (fun _ z => nomatch z)) e
      have hR6 := hRL.sx sx6 (offs hrL (fun _ z => nomatch z) (fun _ z => nomatch z)) (offs tL (fun _ z => nomatch z) (fun _ z => nomatch z)) kt6
      refine ⟨.ref p, rfl, p, dx, _, rfl, hp6, (kpF2_ok r D).enter, _, rfl, p, dx, r, td, D, kpF2 r D, cols, thN 0 rows, (thN 0 rows).take i, rows.length, m, row, ch, ls, rfl, tg6, hp6, kpF2_ok r D, hR6, hok, List.mem_of_getElem? hm, fun x hx => ?_, ?_, hD6, hll, hnd, hch, or6, fun H8 sx8 tg8 or8 => ?_⟩
      · refine ⟨List.mem_of_mem_take hx, ?_⟩
        obtain ⟨j, hj, ej⟩ := List.getElem_of_mem hx
        rw [List.length_take] at hj
        rw [List.getElem_take] at ej
        have h1 := List.pairwise_iff_getElem.mp hok.up j i (by rw [List.length_map]; omega) (by rw [List.length_map]; omega) (by omega)
        rw [List.getElem_map, List.getElem_map, ej, eim] at h1
        exact h1
      · rw [List.length_take]
        omega
      · refine ⟨_, _, rfl, sx6.trans sx8, tg8, ?_⟩
        rw [List.take_succ_eq_append_getElem him, eim]
        exact or8
    · obtain ⟨y3, y4, rfl, sx6, tg6, or6⟩ := hP
      have hkl : kvs.length = (thN 0 rows).length := nm5.len
      rw [hkl, List.take_of_length_le (Nat.le_refl _)] at or6
      have tL6 := sx6 _ _ (offs tL (fun _ z => nomatch z) (fun _ z => nomatch z)) tL
      refine ⟨tL6, ?_⟩
      have hp6 := sx6 _ _ (offs hpL (fun _ z => nomatch z) (fun _ z => nomatch z)) hpL
      have hD6 := sx6 _ _ (offs hDL (fun _ z => nomatch z) (fun _ z => nomatch z)) hDL
      have hr6 := sx6 _ _ (offs hrL (fun _ z => nomatch z) (fun _ z => nomatch z)) hrL
      have kt6 : Kt HL H6 := fun b xs e => sx6 _ _ (offs e (fun _ z => nomatch z) (fun _ z => nomatch z)) e
      have nrt : r ≠ td := hR5.ne
      -- self.moves
      have hp7 : (upd H6 td (.dK kvs)) p = some (.ins Z.C_Kept dx (kpF2 r D)) := keep_ne hp6 nptd
      refine ⟨.ref p, rfl, p, Z.C_Kept, dx, _, rfl, hp7, T.cl_Kept, T.n_Kept_moves, (by show 2 < 1000; decide), ?_⟩
      rw [kpF3_put]
      have kt7 : Kt H6 (upd (upd H6 td (.dK kvs)) p (.ins Z.C_Kept dx (kpF3 r D 0))) := fun b xs e => keep_ne (keep_ne e fun z => by rw [z, tL6] at e; cases e) fun z => by
        rw [z, hp6] at e
        cases e
      refine q ⟨p, r, td, D, ls⟩ _ rfl (fun b o nb e => ?_) (TG.put (TG.put tg6 (tgL.not tL fun q z => nomatch z)) pP) (fun b hb ne => ?_) ⟨⟨dx, upd_same⟩, ⟨dr, kvs, keep_ne (keep_ne hr6 nrt) npr.symm, keep_ne upd_same nptd.symm, ((nm5.kt ktL).kt kt6).kt kt7⟩, keep_ne (keep_ne hD6 ntD.symm) nDp, hll, hnd, or6.keep fun b hb o e => keep_ne (keep_ne e (lst b hb)) (lsp b hb), npr, ntD⟩
      · have nbp : b ≠ p := fun z => nb (by rw [z]; exact List.mem_cons_self)
        have nbt : b ≠ td := ne_of_none e ntd
        have e5 := sx5 b o nb e
        refine keep_ne (keep_ne (sx6 b o (fun z => ?_) (kL nbt e5)) nbt) nbp
        rcases List.mem_append.mp z with y | y
        · rw [ls0 b y] at e
          cases e
        · exact nb (List.mem_cons_of_mem _ y)
      · simp only [KAd.F, List.mem_cons] at hb
        rcases hb with z | z | z | z | z
        · exact absurd z ne
        · rw [z]
          exact nr
        · rw [z]
          exact ntd
        · rw [z]
          exact D0
        · exact ls0 b z
def spKeptPut (K : PySem.W.Frag) (Z : Ad) : Sp := fun vs H Q E => ∃ (k : KAd) (rv : V) (cols : List Nat) (th : Nmd) (n : Nat) (ch : List (List Nat)) (mv : Int) (row : List Int), vs = [.ref k.p, rv] ∧ TG Z.Ps H ∧ KeptAt Z.C_Kept Z.C_Rows H k cols th n ch mv ∧ NmOk cols.length th n ∧ th.length ≤ 60 ∧ ChL cols ch ∧ Fz H rv (rowD row) ∧ RowOk cols.length row ∧ (¬ th.length < 60 → E (.ref (Z.xa "TooMany")) none H) ∧
  (th.length < 60 → ∀ (H' : Hp), Sx (k.F ++ Z.Ps) H H' → TG Z.Ps H' → KeptAt Z.C_Kept Z.C_Rows H' k cols (th ++ [(n, row)]) (n + 1) ch (mv + ch.length) → Q (.int (n : Int)) H')
set_option maxHeartbeats 4000000 in
theorem ok_keptput (T : Tx K mg Z) (TB : Tb base mg Z) : FnOk P w K mg base (L2.CX P w) 4 Z.f_Kept_put Z.d_Kept_put ["self", "row"] (spKeptPut K Z) := by
  have G_Rows_put : FnOk P w K mg base (L2.CX P w) 1 Z.f_Rows_put Z.d_Rows_put ["self", "row"] (spRowsPut K Z) := ok_rowsput T
  have G_Kept_enter : FnOk P w K mg base CX0 3 Z.f_Kept_enter Z.d_Kept_enter ["self", "number"] (spEnter K Z) := ok_enter T TB
  refine T.F_Kept_put.okX sc_Kept_put (fun vs H Q E h => ?_) (fun cdv A outer s H vs Q E hr h => ?_)
  · obtain ⟨k, rv, cols, th, n, ch, mv, row, rfl, _⟩ := h
    rfl
  · obtain ⟨k, rv, cols, th, n, ch, mv, row, rfl, tg, kp, hok, hle, hch, fr, hrow, qx, q0⟩ := h
    refine ⟨_, (pss_cons (ps_set (i := 2) sc_Kept_put.nd rfl (.inl rfl) (pe_methX (fldK K (pv 0) rfl) T.cl_Rows T.m_Rows_put G_Rows_put (hr.mono (by omega)) T.b_Rows_put (fun σ => passAt (takes_of rfl rfl rfl rfl) σ) (pa_cons (pv 1) pa_nil)))
      (PSs.nox (pss_cons (ps_expr (pe_meth (pv 0) T.cl_Kept T.m_Kept_enter G_Kept_enter (hr.mono (by omega)) T.b_Kept_enter .nil pass0 (pa_cons (pv 2) pa_nil)))
      (pss_cons (ps_fldaug (pv 0) (pe_callB call_lenD (by rfl) T.m_len (by decide +kernel) (pa_cons (fldK K (pv 0) rfl) pa_nil)) in_add)
      (pss_one (ps_ret (pv 2))))))), ?_⟩
    obtain ⟨dx, hp⟩ := kp.self
    obtain ⟨dr, kvs, hr0, htd, nm⟩ := id kp.rows
    have nptd : k.p ≠ k.td := fun z => by
      rw [z, htd] at hp
      cases hp
    have nrod : k.r ≠ k.od := fun z => by
      rw [z, kp.dict] at hr0
      cases hr0
    have npod : k.p ≠ k.od := fun z => by
      rw [z, kp.dict] at hp
      cases hp
    have lsn : ∀ l ∈ k.ls, l ≠ k.p ∧ l ≠ k.r ∧ l ≠ k.td ∧ l ≠ k.od := fun l hl => by
      obtain ⟨i, hi, e⟩ := List.getElem_of_mem hl
      obtain ⟨ns, h1, _⟩ := kp.ords i _ l (List.getElem?_eq_getElem (by have := kp.len; omega : i < ch.length)) (by rw [List.getElem?_eq_getElem hi, e])
      refine ⟨fun z => ?_, fun z => ?_, fun z => ?_, fun z => ?_⟩
      · rw [z, hp] at h1
        cases h1
      · rw [z, hr0] at h1
        cases h1
      · rw [z, htd] at h1
        cases h1
      · rw [z, kp.dict] at h1
        cases h1
    -- number = self.rows.put(row)
    refine ⟨.ref k.p, rfl, k.p, Z.C_Kept, dx, _, _, rfl, hp, T.cl_Kept, T.n_Kept_rows, kpF3_rows _ _ _, k.r, dr, _, rfl, hr0, rwF3_no_put _ _ _, rv, rfl, k.r, k.td, rv, cols, th, n, row, rfl, kp.rows, hok, hle, fr, qx, fun hlt H1 sx1 kt1 hR1 => ?_⟩
    have q := q0 hlt
    have n1 : ∀ {b : Addr}, b ≠ k.r → b ≠ k.td → b ∉ [k.r, k.td] := fun h1 h2 z => by
      simp only [List.mem_cons, List.not_mem_nil, or_false] at z
      exact z.elim h1 h2
    have hp1 := sx1 _ _ (n1 kp.npr nptd) hp
    have hod1 := sx1 _ _ (n1 nrod.symm kp.nto.symm) kp.dict
    have tg1 : TG Z.Ps H1 := fun b hb => by
      obtain ⟨ps, h1, h2⟩ := tg b hb
      exact ⟨ps, sx1 _ _ (n1 (fun z => kp.noTbl tg (b := k.r) (by simp) (z ▸ hb)) (fun z => kp.noTbl tg (b := k.td) (by simp) (z ▸ hb))) h1, h2⟩
    have or1 : OrdsTo H1 cols (fun _ => th) ch k.ls := kp.ords.keep fun b hb o e => sx1 _ _ (n1 (lsn b hb).2.1 (lsn b hb).2.2.1) e
    -- self.enter(number)
    refine ⟨.ref k.p, rfl, k.p, dx, _, rfl, hp1, (kpF3_ok _ _ _).enter, _, rfl, k.p, dx, k.r, k.td, k.od, _, cols, th ++ [(n, row)], th, n + 1, n, row, ch, k.ls, rfl, tg1, hp1, kpF3_ok _ _ _, hR1.rd, hok.put hrow, by simp, fun x hx => ⟨List.mem_append_left _ hx, hok.lt x hx⟩, by omega, hod1, kp.len, kp.nd, hch, or1, fun H2 sx2 tg2 or2 => ?_⟩
    have n2 : ∀ {b : Addr} {o : HO}, H1 b = some o → (∀ q, o ≠ .tbl q) → b ∉ k.ls → H2 b = some o := fun {b o} e h1 h2 => sx2 _ _ (fun z => (List.mem_append.mp z).elim h2 (tg1.not e h1)) e
    have hp2 := n2 hp1 (fun _ z => nomatch z) (fun z => (lsn _ z).1 rfl)
    have hod2 := n2 hod1 (fun _ z => nomatch z) (fun z => (lsn _ z).2.2.2 rfl)
    obtain ⟨dr1, kvs1, hr1, ht1, nm1⟩ := id hR1
    have hr2 := n2 hr1 (fun _ z => nomatch z) (fun z => (lsn _ z).2.1 rfl)
    have ht2 := n2 ht1 (fun _ z => nomatch z) (fun z => (lsn _ z).2.2.1 rfl)
    -- self.moves += len(self.orders)
    refine ⟨.ref k.p, rfl, k.p, Z.C_Kept, dx, _, _, rfl, hp2, T.cl_Kept, T.n_Kept_moves, kpF3_moves _ _ _, .ref k.p, rfl, k.p, Z.C_Kept, dx, _, _, rfl, hp2, T.cl_Kept, T.n_Kept_orders, kpF3_orders _ _ _, k.od, ordK ch k.ls, rfl, hod2, _, _, rfl, rfl, dx, _, hp2, (by show 3 < 1000; decide), ?_⟩
    rw [kpF3_again, ordK_len kp.len]
    have kt3 : Kt H (upd H2 k.p (.ins Z.C_Kept dx (kpF3 k.r k.od (mv + (ch.length : Nat))))) := fun b xs e => keep_ne (n2 (kt1 _ _ e) (fun _ z => nomatch z) (fun z => kp.noTup e (by simp [z]))) fun z => by
      rw [z, hp] at e
      cases e
    have sx3 : Sx (k.F ++ Z.Ps) H (upd H2 k.p (.ins Z.C_Kept dx (kpF3 k.r k.od (mv + (ch.length : Nat))))) := fun b o nb e => by
      have nF : b ∉ k.F := fun z => nb (List.mem_append_left _ z)
      have nP : b ∉ Z.Ps := fun z => nb (List.mem_append_right _ z)
      simp only [KAd.F, List.mem_cons, not_or] at nF
      exact keep_ne (sx2 _ _ (fun z => (List.mem_append.mp z).elim nF.2.2.2.2 nP) (sx1 _ _ (n1 nF.2.1 nF.2.2.1) e)) nF.1
    refine ⟨_, rfl, q _ sx3 (TG.put tg2 (kp.noTbl tg (by simp))) ⟨⟨dx, upd_same⟩, ⟨dr1, kvs1, keep_ne hr2 kp.npr.symm, keep_ne ht2 nptd.symm, nm1.kt fun b xs e => ?_⟩, keep_ne hod2 npod.symm, kp.len, kp.nd, or2.keep fun b hb o e => keep_ne e (lsn b hb).1, kp.npr, kp.nto⟩⟩
    refine keep_ne (n2 e (fun _ z => nomatch z) fun z => ?_) fun z => ?_
    · obtain ⟨i, hi, ei⟩ := List.getElem_of_mem z
      obtain ⟨ns, h1, _⟩ := or1 i _ b (List.getElem?_eq_getElem (by have := kp.len; omega : i < ch.length)) (by rw [List.getElem?_eq_getElem hi, ei])
      rw [e] at h1
      cases h1
    · rw [z, hp1] at e
      cases e
def spKeptTake (K : PySem.W.Frag) (Z : Ad) : Sp := fun vs H Q E => ∃ (k : KAd) (cols : List Nat) (th : Nmd) (n : Nat) (ch : List (List Nat)) (mv : Int) (gi : Int), vs = [.ref k.p, .int gi] ∧ TG Z.Ps H ∧ KeptAt Z.C_Kept Z.C_Rows H k cols th n ch mv ∧ NmOk cols.length th n ∧ ChL cols ch ∧ ((∀ m ∈ th.map (·.1), gi ≠ ((m : Nat) : Int)) → E (.ref (Z.xa "NoNumber")) none H) ∧
  (∀ g : Nat, g ∈ th.map (·.1) → gi = (g : Int) → ∀ (H' : Hp), Sx (k.F ++ Z.Ps) H H' → TG Z.Ps H' → KeptAt Z.C_Kept Z.C_Rows H' k cols (outT th g) n ch (mv + ch.length) → Q .non H')
set_option maxHeartbeats 4000000 in
theorem ok_kepttake (T : Tx K mg Z) (TB : Tb base mg Z) : FnOk P w K mg base (L2.CX P w) 4 Z.f_Kept_take Z.d_Kept_take ["self", "number"] (spKeptTake K Z) := by
  have G_Rows_take : FnOk P w K mg base (L2.CX P w) 1 Z.f_Rows_take Z.d_Rows_take ["self", "number"] (spRowsTake K Z) := ok_rowstake T
  refine T.F_Kept_take.okX sc_Kept_take (fun vs H Q E h => ?_) (fun cdv A outer s H vs Q E hr h => ?_)
  · obtain ⟨k, cols, th, n, ch, mv, g, rfl, _⟩ := h
    rfl
  · obtain ⟨k, cols, th, n, ch, mv, gi, rfl, tg, kp, hok, hch, qx, q0⟩ := h
    refine ⟨_, (pss_cons (ps_expr (pe_methX (fldK K (pv 0) rfl) T.cl_Rows T.m_Rows_take G_Rows_take (hr.mono (by omega)) T.b_Rows_take (fun σ => passAt (takes_of rfl rfl rfl rfl) σ) (pa_cons (pv 1) pa_nil)))
      (PSs.nox (pss_cons (ps_for PassesOwn.never rfl (piL K (pe_callTy (call_list_dK rfl) (by rfl) T.m_list (by decide +kernel) (pa_cons (fldK K (pv 0) rfl) pa_nil))) (pg_name (i := 2) sc_Kept_take.nd rfl (.inl rfl)) (PSs.nox (pss_one (ps_expr (bmK K PySem.F.plainAttrs_list PySem.F.slot_list_remove PySem.F.type_list_remove mt_remove (pe_dget (hu_of hr) (fldK K (pv 0) rfl) (pv 2) (fun _ _ => rfl)) (pa_cons (pv 1) pa_nil))))))
      (pss_one (ps_fldaug (pv 0) (pe_callB call_lenD (by rfl) T.m_len (by decide +kernel) (pa_cons (fldK K (pv 0) rfl) pa_nil)) in_add))))), ?_⟩
    obtain ⟨dx, hp⟩ := kp.self
    obtain ⟨dr, kvs, hr0, htd, nm⟩ := id kp.rows
    have nptd : k.p ≠ k.td := fun z => by
      rw [z, htd] at hp
      cases hp
    have npod : k.p ≠ k.od := fun z => by
      rw [z, kp.dict] at hp
      cases hp
    have lsn : ∀ l ∈ k.ls, l ≠ k.p ∧ l ≠ k.r ∧ l ≠ k.td ∧ l ≠ k.od := fun l hl => by
      obtain ⟨i, hi, e⟩ := List.getElem_of_mem hl
      obtain ⟨ns, h1, _⟩ := kp.ords i _ l (List.getElem?_eq_getElem (by have := kp.len; omega : i < ch.length)) (by rw [List.getElem?_eq_getElem hi, e])
      refine ⟨fun z => ?_, fun z => ?_, fun z => ?_, fun z => ?_⟩
      · rw [z, hp] at h1
        cases h1
      · rw [z, hr0] at h1
        cases h1
      · rw [z, htd] at h1
        cases h1
      · rw [z, kp.dict] at h1
        cases h1
    refine ⟨.ref k.p, rfl, k.p, Z.C_Kept, dx, _, _, rfl, hp, T.cl_Kept, T.n_Kept_rows, kpF3_rows _ _ _, k.r, dr, _, rfl, hr0, rwF3_no_take _ _ _, _, rfl, k.r, k.td, cols, th, n, gi, rfl, kp.rows, hok, qx, fun g hg eg H1 sx1 kt1 hR1 => ?_⟩
    have q := q0 g hg eg
    subst eg
    have n1 : ∀ {b : Addr}, b ≠ k.td → b ∉ [k.td] := fun h z => h (List.mem_singleton.mp z)
    have hp1 := sx1 _ _ (n1 nptd) hp
    have hod1 := sx1 _ _ (n1 kp.nto.symm) kp.dict
    have tg1 : TG Z.Ps H1 := fun b hb => by
      obtain ⟨ps, h1, h2⟩ := tg b hb
      exact ⟨ps, sx1 _ _ (n1 fun z => kp.noTbl tg (b := k.td) (by simp) (z ▸ hb)) h1, h2⟩
    have or1 : OrdsTo H1 cols (fun _ => th) ch k.ls := kp.ords.keep fun b hb o e => sx1 _ _ (n1 (lsn b hb).2.2.1) e
    -- list(self.orders)
    refine ⟨.ref k.p, rfl, k.p, Z.C_Kept, dx, _, _, rfl, hp1, T.cl_Kept, T.n_Kept_orders, kpF3_orders _ _ _, k.od, ordK ch k.ls, rfl, hod1, fun L nL => ?_⟩
    rw [ordK_keys kp.len]
    have hL2 : (upd H1 L (.lst (ch.map tx))) L = some (.lst (ch.map tx)) := upd_same
    have sm2 : Same H1 (upd H1 L (.lst (ch.map tx))) := Same.new (Same.refl H1) nL
    have Lls : L ∉ k.ls := fun z => by
      obtain ⟨i, hi, ei⟩ := List.getElem_of_mem z
      obtain ⟨ns, h1, _⟩ := or1 i _ L (List.getElem?_eq_getElem (by have := kp.len; omega : i < ch.length)) (by rw [List.getElem?_eq_getElem hi, ei])
      rw [nL] at h1
      cases h1
    generalize upd H1 L (.lst (ch.map tx)) = H2 at hL2 sm2 ⊢
    have hp2 := sm2 _ _ hp1
    have hod2 := sm2 _ _ hod1
    refine ⟨L, rfl, ⟨_, .inl (.inl hL2)⟩, for_it (walk_list (xs := ch.map tx)) (fun i σ H' => ∃ y2 : Option V, σ = [some (.ref k.p), some (.int (g : Int)), y2] ∧ Sx k.ls H2 H' ∧ OrdsTo H' cols (fun j => if j < i then outT th g else th) ch k.ls)
      ⟨_, rfl, Sx.rfl', or1.keep fun b _ o e => sm2 _ _ e⟩ (fun i σ H' _ hP => ?_) (fun i x σ H4 H3 hi hP hY => ?_) (fun σ H3 hP => ?_)⟩
    · obtain ⟨_, _, sx, _⟩ := hP
      exact .inl (.inl (sx _ _ Lls hL2))
    · obtain ⟨y2, rfl, sx3, or3⟩ := hP
      obtain ⟨rfl, hx⟩ := hY
      rw [List.getElem?_map] at hx
      obtain ⟨o, ho, rfl⟩ := Option.map_eq_some_iff.mp hx
      have hi2 : i < ch.length := (List.getElem?_eq_some_iff.mp ho).1
      obtain ⟨l, hl⟩ : ∃ l, k.ls[i]? = some l := ⟨k.ls[i]'(by have := kp.len; omega), List.getElem?_eq_getElem (by have := kp.len; omega)⟩
      obtain ⟨ns, hl3, ord⟩ := or3 i o l ho hl
      dsimp only at ord
      rw [if_neg (Nat.lt_irrefl i)] at ord
      have hp3 := sx3 _ _ (fun z => (lsn _ z).1 rfl) hp2
      have hod3 := sx3 _ _ (fun z => (lsn _ z).2.2.2 rfl) hod2
      have nsn : ns.Nodup := ord.perm.nodup_iff.mpr hok.nd
      have gin : g ∈ ns := ord.perm.mem_iff.mpr hg
      obtain ⟨j, hj, ej⟩ := List.getElem_of_mem gin
      have hjg : ns[j]? = some g := by rw [List.getElem?_eq_getElem hj, ej]
      have enV : ns.map nV = (ns.map fun x : Nat => (x : Int)).map V.int := by rw [List.map_map]; rfl
      rw [enV] at hl3
      refine ⟨.ref k.p, rfl, k.p, Z.C_Kept, dx, _, _, rfl, hp3, T.cl_Kept, T.n_Kept_orders, kpF3_orders _ _ _, tx o, rfl, k.od, .ref l, rfl, .inl ⟨ordK ch k.ls, Sum.inr (txS o), .inl hod3, rfl, (ordK_val hch.nd ho hl).symm⟩, ?_⟩
      refine ⟨.inl ⟨rfl, _, .inl (.inl hl3)⟩, _, rfl, l, _, (g : Int), j, rfl, rfl, hl3, by rw [List.getElem?_map, hjg]; rfl, fun m hm e => ?_, ?_⟩
      · rw [List.getElem?_map] at e
        obtain ⟨a, ha, ea⟩ := Option.map_eq_some_iff.mp e
        have : a = g := by omega
        rw [this] at ha
        have := (List.getElem?_inj (show m < ns.length by omega) nsn).mp (ha.trans hjg.symm)
        omega
      · refine ⟨_, rfl, fun b u nb e => keep_ne (sx3 b u nb e) fun z => nb (by rw [z]; exact List.mem_of_getElem? hl), fun j' o' l' ho' hl' => ?_⟩
        dsimp only
        by_cases ej' : j' = i
        · subst ej'
          rw [ho] at ho'
          cases ho'
          rw [hl] at hl'
          cases hl'
          rw [if_pos (Nat.lt_succ_self j')]
          refine ⟨_, ?_, ord.out g⟩
          rw [upd_same, ← erase_filter nsn hjg, erase_map, List.map_map]
          rfl
        · obtain ⟨ns', h1, h2⟩ := or3 j' o' l' ho' hl'
          have ne : l' ≠ l := fun z => ej' ((List.getElem?_inj (show j' < k.ls.length from (List.getElem?_eq_some_iff.mp hl').1) kp.nd).mp (by rw [hl', hl, z]))
          refine ⟨ns', keep_ne h1 ne, ?_⟩
          have e1 : (if j' < i + 1 then outT th g else th) = if j' < i then outT th g else th := by
            by_cases hj : j' < i
            · rw [if_pos hj, if_pos (by omega)]
            · rw [if_neg hj, if_neg (by omega)]
          rw [e1]
          exact h2
    · obtain ⟨y2, rfl, sx3, or3⟩ := hP
      have hp3 := sx3 _ _ (fun z => (lsn _ z).1 rfl) hp2
      have hod3 := sx3 _ _ (fun z => (lsn _ z).2.2.2 rfl) hod2
      obtain ⟨dr1, kvs1, hr1, ht1, nm1⟩ := id hR1
      have hr3 := sx3 _ _ (fun z => (lsn _ z).2.1 rfl) (sm2 _ _ hr1)
      have ht3 := sx3 _ _ (fun z => (lsn _ z).2.2.1 rfl) (sm2 _ _ ht1)
      have tg3 : TG Z.Ps H3 := fun b hb => by
        obtain ⟨ps, h1, h2⟩ := tg1 b hb
        exact ⟨ps, sx3 _ _ (fun z => kp.noTbl tg (b := b) (by simp [z]) hb) (sm2 _ _ h1), h2⟩
      refine ⟨.ref k.p, rfl, k.p, Z.C_Kept, dx, _, _, rfl, hp3, T.cl_Kept, T.n_Kept_moves, kpF3_moves _ _ _, .ref k.p, rfl, k.p, Z.C_Kept, dx, _, _, rfl, hp3, T.cl_Kept, T.n_Kept_orders, kpF3_orders _ _ _, k.od, ordK ch k.ls, rfl, hod3, _, _, rfl, rfl, dx, _, hp3, (by show 3 < 1000; decide), ?_⟩
      rw [kpF3_again, ordK_len kp.len]
      have sx4 : Sx (k.F ++ Z.Ps) H (upd H3 k.p (.ins Z.C_Kept dx (kpF3 k.r k.od (mv + (ch.length : Nat))))) := fun b o nb e => by
        have nF : b ∉ k.F := fun z => nb (List.mem_append_left _ z)
        simp only [KAd.F, List.mem_cons, not_or] at nF
        exact keep_ne (sx3 _ _ nF.2.2.2.2 (sm2 _ _ (sx1 _ _ (n1 nF.2.2.1) e))) nF.1
      refine q _ sx4 (TG.put tg3 (kp.noTbl tg (by simp))) ⟨⟨dx, upd_same⟩, ⟨dr1, kvs1, keep_ne hr3 kp.npr.symm, keep_ne ht3 nptd.symm, nm1.kt fun b xs e => ?_⟩, keep_ne hod3 npod.symm, kp.len, kp.nd, fun i o l ho hl => ?_, kp.npr, kp.nto⟩
      · refine keep_ne (sx3 _ _ (fun z => ?_) (sm2 _ _ e)) fun z => ?_
        · obtain ⟨i, hi, ei⟩ := List.getElem_of_mem z
          obtain ⟨ns, h1, _⟩ := or1 i _ b (List.getElem?_eq_getElem (by have := kp.len; omega : i < ch.length)) (by rw [List.getElem?_eq_getElem hi, ei])
          rw [e] at h1
          cases h1
        · rw [z, hp1] at e
          cases e
      · obtain ⟨ns, h1, h2⟩ := or3 i o l ho hl
        dsimp only at h2
        rw [List.length_map, if_pos ((List.getElem?_eq_some_iff.mp ho).1)] at h2
        exact ⟨ns, keep_ne h1 (lsn l (List.mem_of_getElem? hl)).1, h2⟩

/-! ### what the laws on keepers need -/
theorem kpF3_no_sorted_by (r od : Addr) (mv : Int) : (kpF3 r od mv).lookup ("sorted_by" : Str) = none := by kernel_rfl
theorem kpF3_no_ask (r od : Addr) (mv : Int) : (kpF3 r od mv).lookup ("ask" : Str) = none := by kernel_rfl
theorem kpF3_no_take (r od : Addr) (mv : Int) : (kpF3 r od mv).lookup ("take" : Str) = none := by kernel_rfl
theorem kpF3_no_put (r od : Addr) (mv : Int) : (kpF3 r od mv).lookup ("put" : Str) = none := by kernel_rfl
theorem kpF3_no_moved (r od : Addr) (mv : Int) : (kpF3 r od mv).lookup ("moved" : Str) = none := by kernel_rfl
theorem nV_map (l : List Nat) : l.map nV = (l.map fun x : Nat => (x : Int)).map V.int := by
  rw [List.map_map]
  rfl
theorem ints_up {a b : List Nat} (h : (a.map fun x : Nat => (x : Int)).Perm (b.map fun x : Nat => (x : Int))) (ha : a.Pairwise (· < ·)) (hb : b.Pairwise (· < ·)) : a = b := by
  have e := ints_one (l := a.map fun x : Nat => (x : Int)) (k := b.map fun x : Nat => (x : Int)) (List.pairwise_map.mpr (ha.imp fun {x y} z => by omega)) (List.pairwise_map.mpr (hb.imp fun {x y} z => by omega)) h
  have e2 := congrArg (List.map Int.toNat) e
  rw [List.map_map, List.map_map] at e2
  have id1 : ∀ l : List Nat, l.map (Int.toNat ∘ fun x : Nat => (x : Int)) = l := fun l => by
    conv => rhs; rw [← List.map_id l]
    exact List.map_congr_left fun x _ => Int.toNat_natCast x
  rwa [id1, id1] at e2
theorem num_at {th : Nmd} {i : Nat} (h : i < th.length) : (th.map (·.1))[i]? = some (numAt th i) := by
  rw [List.getElem?_map, List.getElem?_eq_getElem h]
  unfold numAt
  rw [getD_at h]
  rfl
theorem eqv_nums (a b : List Nat) : PyData.eqv (.list (a.map fun x : Nat => PyData.int x)) (.list (b.map fun x : Nat => PyData.int x)) = true ↔ a = b := by
  have key : ∀ a b : List Nat, PyData.eqvAll (a.map fun x : Nat => PyData.int x) (b.map fun x : Nat => PyData.int x) = true ↔ a = b := fun a => by
    induction a with
    | nil =>
      intro b
      cases b with
      | nil => exact ⟨fun _ => rfl, fun _ => rfl⟩
      | cons y b => exact ⟨fun z => (by cases z), fun z => (by cases z)⟩
    | cons x a ih =>
      intro b
      cases b with
      | nil => exact ⟨fun z => (by cases z), fun z => (by cases z)⟩
      | cons y b =>
        show (PyData.eqv (.int x) (.int y) && PyData.eqvAll (a.map fun x : Nat => PyData.int x) (b.map fun x : Nat => PyData.int x)) = true ↔ _
        rw [Bool.and_eq_true, ih b]
        show (((x : Int) == (y : Int)) = true ∧ _) ↔ _
        rw [beq_iff_eq]
        constructor
        · rintro ⟨h1, h2⟩
          rw [h2, show x = y by omega]
        · intro h
          cases h
          exact ⟨rfl, rfl⟩
  exact key a b
theorem dp_nums {K : PySem.W.Frag} {H : Hp} : ∀ l : List Nat, DpAll K H (l.map nV) (l.map fun x : Nat => PyData.int x)
  | [] => .nil
  | x :: l => .cons (.int _) (dp_nums l)
theorem shaped_nums (l : List Nat) : SeqAt.shaped (.list (l.map fun x : Nat => PyData.int x)) = true := by
  have e : (l.map fun x : Nat => PyData.int x) = (l.map fun x : Nat => (x : Int)).map PyData.int := by rw [List.map_map]; rfl
  rw [e]
  exact shaped_ints _
theorem tab_kp' {r P : Addr} {q : Str} {H H' : Hp} {xs : List V} (t : LamX.TabS H P q) (hr : H r = some (.lst xs)) (k : Kp r H H') : LamX.TabS H' P q := by
  obtain ⟨ps, h1, h2, h3⟩ := t
  refine ⟨ps, k _ _ (fun z => by rw [z, hr] at h1; cases h1) h1, h2, fun pos cv e => ?_⟩
  obtain ⟨c, e1, e2⟩ := h3 pos cv e
  exact ⟨c, e1, k _ _ (fun z => by
    rw [z, hr] at e2
    have e3 := Option.some.inj e2
    unfold LamX.CodeO at e3
    cases e3) e2⟩

/-! ### asked of the lists -/
theorem kpF3_no_numbers_read (r od : Addr) (mv : Int) : (kpF3 r od mv).lookup ("numbers_read" : Str) = none := by kernel_rfl
def spNumbersRead (K : PySem.W.Frag) (Z : Ad) : Sp := fun vs H Q _ => ∃ (k : KAd) (tv qv : V) (ov : Option (List Nat)) (cols : List Nat) (th : Nmd) (n : Nat) (ch : List (List Nat)) (mv : Int) (es : List (Nat × Int)) (rc : Option (Nat × Int × Int)), vs = [.ref k.p, tv, oV ov, qv] ∧ TG Z.Ps H ∧ KeptAt Z.C_Kept Z.C_Rows H k cols th n ch mv ∧ NmOk cols.length th n ∧ th.length ≤ 60 ∧ ChL cols ch ∧ Fz H tv (tabD cols (th.map (·.2))) ∧ (∀ o, ov = some o → o ∈ ch) ∧ QZ H qv es rc ∧ QOk cols es rc ∧ es.length ≤ 1000 ∧
  ∀ (L : Addr) (near : List Nat) (H' : Hp), Sx Z.Ps H H' → TG Z.Ps H' → H' L = some (.lst (near.map nV)) → (near.length : Int) = readN cols (th.map (·.2)) es rc ov → (∀ m ∈ near, m ∈ th.map (·.1)) → ((near.filter fun m => fitsM cols (rowT th m) es rc).Perm (fitT cols th es rc)) → Q (.ref L) H'
theorem ok_numbersread (T : Tx K mg Z) (TB : Tb base mg Z) : FnOk P w K mg base CX0 4 Z.f_Kept_numbers_read Z.d_Kept_numbers_read ["self", "table", "one", "question"] (spNumbersRead K Z) := by
  have G_stretch : FnOk P w K mg base CX0 3 Z.f_stretch Z.d_stretch ["table", "one", "question"] (spStretch K Z) := ok_stretch T TB
  refine T.F_Kept_numbers_read.ok sc_Kept_numbers_read (fun vs H Q E h => ?_) (fun cdv A outer s H vs Q E hr h => ?_)
  · obtain ⟨k, tv, qv, ov, cols, th, n, ch, mv, es, rc, rfl, _⟩ := h
    rfl
  · obtain ⟨k, tv, qv, ov, cols, th, n, ch, mv, es, rc, rfl, tg, kp, hok, htl, hch, fT, hov, fq, hqok, hel, q⟩ := h
    refine ⟨_, (pss_cons (ps_if (pt_cmpR op_isN (pv 2) pe_non (nomark _)) (pss_one (ps_ret (pe_callTy (call_list_dK rfl) (by rfl) T.m_list (by decide +kernel) (pa_cons (fldK K (fldK K (pv 0) rfl) rfl) pa_nil)))) pss_nil)
      (pss_cons (ps_asg (pe_call G_stretch (hr.mono (by omega)) (by rfl) T.g_stretch T.F_stretch.kp T.b_stretch .nil pass0 (pa_cons (pv 1) (pa_cons (pv 2) (pa_cons (pv 3) pa_nil)))) (pgT K (n := 2) (pgs_cons (pg_name (i := 4) sc_Kept_numbers_read.nd rfl (.inl rfl)) (pgs_cons (pg_name (i := 5) sc_Kept_numbers_read.nd rfl (.inl rfl)) pgs_nil))))
      (pss_one (ps_ret (pe_slice (slLK K) (pe_dget (hu_of hr) (fldK K (pv 0) rfl) (pv 2) (fun _ _ => rfl)) (po_some (pv 4)) (po_some (pv 5))))))), ?_⟩
    obtain ⟨dx, hp⟩ := kp.self
    obtain ⟨dr, kvs, hr0, htd, nm⟩ := id kp.rows
    cases ov with
    | none =>
      refine ⟨.non, rfl, rfl, _, rfl, ite2 (fun _ => ?_) (fun z => absurd rfl z)⟩
      refine ⟨.ref k.p, rfl, k.p, Z.C_Kept, dx, _, _, rfl, hp, T.cl_Kept, T.n_Kept_rows, kpF3_rows _ _ _, k.r, Z.C_Rows, dr, _, _, rfl, hr0, T.cl_Rows, T.n_Rows_there, rwF3_there _ _ _, k.td, kvs, rfl, htd, fun L nL => ?_⟩
      have ek : kvs.map (fun kv => kV kv.1) = (th.map (·.1)).map nV := by
        have := congrArg (List.map kV) nm.keys
        rw [List.map_map, List.map_map] at this
        rw [List.map_map]
        exact this
      rw [ek]
      refine q L (th.map (·.1)) _ (Sx.new Sx.rfl' nL) (tg.new nL) upd_same (by rw [List.length_map]; show _ = ((th.map (·.2)).length : Int); rw [List.length_map]) (fun m h => h) ?_
      rw [all_fits hok]
    | some o =>
      refine ⟨tx o, rfl, rfl, _, rfl, ite2 (fun z => absurd z (by simp)) (fun _ => ?_)⟩
      have ho := hov o rfl
      obtain ⟨hol, hoc⟩ := hch.ok o ho
      refine ⟨tv, rfl, tx o, rfl, qv, rfl, tv, cols, th.map (·.2), o, qv, es, rc, rfl, tg, fT, hok.rows, by rw [List.length_map]; omega, hol, hoc, fq, hqok, hel, fun sp H1 sx1 tg1 nsp hsp => ?_⟩
      refine ⟨sp, [.int (aheadM cols (th.map (·.2)) o es rc : Nat), .int (behindM cols (th.map (·.2)) o es rc : Nat)], rfl, .inl (.inl hsp), rfl, .int (aheadM cols (th.map (·.2)) o es rc : Nat), [.int (behindM cols (th.map (·.2)) o es rc : Nat)], rfl, .int (behindM cols (th.map (·.2)) o es rc : Nat), [], rfl, rfl, ?_⟩
      obtain ⟨i, hi, ei⟩ := List.getElem_of_mem ho
      have ho' : ch[i]? = some o := by rw [List.getElem?_eq_getElem hi, ei]
      obtain ⟨l, hl⟩ : ∃ l, k.ls[i]? = some l := ⟨k.ls[i]'(by have := kp.len; omega), List.getElem?_eq_getElem (by have := kp.len; omega)⟩
      obtain ⟨ns, h1, h2⟩ := kp.ords i o l ho' hl
      have hp1 := sx1 _ _ (kp.noTbl tg (by simp)) hp
      have hod1 := sx1.dct tg kp.dict
      have hl1 := sx1.lst tg h1
      refine ⟨.ref k.p, rfl, k.p, Z.C_Kept, dx, _, _, rfl, hp1, T.cl_Kept, T.n_Kept_orders, kpF3_orders _ _ _, tx o, rfl, k.od, .ref l, rfl, .inl ⟨ordK ch k.ls, Sum.inr (txS o), .inl hod1, rfl, (ordK_val hch.nd ho' hl).symm⟩, ?_⟩
      refine ⟨.int (aheadM cols (th.map (·.2)) o es rc : Nat), rfl, _, rfl, .int (behindM cols (th.map (·.2)) o es rc : Nat), rfl, _, rfl, l, _, rfl, .inl (.inl hl1), fun S nS => ?_⟩
      have hnl := h2.len
      have hbl := behind_le cols (th.map (·.2)) o es rc
      rw [List.length_map] at hbl
      rw [cutV_nat _ _ _ (ahead_le hqok) (by rw [List.length_map, hnl]; exact hbl), ← List.map_drop, ← List.map_take]
      refine q S _ _ (sx1.new nS) (tg1.new nS) upd_same (near_len h2 hqok) (fun m hm => ?_) (near_fits hok hqok h2)
      exact h2.perm.mem_iff.mp (List.mem_of_mem_drop (List.mem_of_mem_take hm))
/-- the first by which least is read, of those looked at -/
structure FirstOf (f : Option (List Nat) → Int) (opts : List (Option (List Nat))) (i : Nat) (ov : Option (List Nat)) : Prop where
  at' : ∃ j, j < i ∧ opts[j]? = some ov ∧ ∀ (m : Nat) (o : Option (List Nat)), m < j → opts[m]? = some o → f ov < f o
  le : ∀ (m : Nat) (o : Option (List Nat)), m < i → opts[m]? = some o → f ov ≤ f o
theorem FirstOf.start {f : Option (List Nat) → Int} {opts : List (Option (List Nat))} {ov : Option (List Nat)} (h : opts[0]? = some ov) : FirstOf f opts 1 ov := by
  refine ⟨⟨0, by omega, h, fun m o hm => by omega⟩, fun m o hm e => ?_⟩
  have : m = 0 := by omega
  rw [this, h] at e
  cases e
  exact Int.le_refl _
theorem FirstOf.stay {f : Option (List Nat) → Int} {opts : List (Option (List Nat))} {i : Nat} {ov x : Option (List Nat)} (h : FirstOf f opts i ov) (hx : opts[i]? = some x) (g : ¬ f x < f ov) : FirstOf f opts (i + 1) ov := by
  obtain ⟨j, hj, e, l⟩ := h.at'
  refine ⟨⟨j, by omega, e, l⟩, fun m o hm e' => ?_⟩
  by_cases z : m = i
  · rw [z, hx] at e'
    cases e'
    omega
  · exact h.le m o (by omega) e'
theorem FirstOf.go {f : Option (List Nat) → Int} {opts : List (Option (List Nat))} {i : Nat} {ov x : Option (List Nat)} (h : FirstOf f opts i ov) (hx : opts[i]? = some x) (g : f x < f ov) : FirstOf f opts (i + 1) x := by
  refine ⟨⟨i, by omega, hx, fun m o hm e => ?_⟩, fun m o hm e' => ?_⟩
  · have := h.le m o hm e
    omega
  · by_cases z : m = i
    · rw [z, hx] at e'
      cases e'
      exact Int.le_refl _
    · have := h.le m o (by omega) e'
      omega
theorem FirstOf.best {cols : List Nat} {rows : List (List Int)} {ch : List (List Nat)} {es : List (Nat × Int)} {rc : Option (Nat × Int × Int)} {ov : Option (List Nat)} (h : FirstOf (fun o => priceByM cols rows o es rc) (ch.map some ++ [none]) (ch.length + 1) ov) : BestOf cols rows ch es rc ov := by
  obtain ⟨j, hj, e, l⟩ := h.at'
  have at1 : ∀ {m : Nat} {o : List Nat}, ch[m]? = some o → (ch.map some ++ [none])[m]? = some (some o) := fun {m o} e => by
    have hm := (List.getElem?_eq_some_iff.mp e).1
    rw [List.getElem?_append_left (by rw [List.length_map]; exact hm), List.getElem?_map, e]
    rfl
  have last : (ch.map some ++ [none])[ch.length]? = some none := by
    rw [List.getElem?_append_right (by rw [List.length_map]; exact Nat.le_refl _), List.length_map, Nat.sub_self]
    rfl
  match ov, e, l, h.le with
  | none, e, l, le =>
    intro o ho
    obtain ⟨m, hm, em⟩ := List.getElem_of_mem ho
    have hmo : ch[m]? = some o := by rw [List.getElem?_eq_getElem hm, em]
    refine l m (some o) (Nat.lt_of_lt_of_le hm ?_) (at1 hmo)
    apply Nat.le_of_not_lt
    intro z
    rw [at1 (List.getElem?_eq_getElem z)] at e
    cases e
  | some o, e, l, le =>
    refine ⟨?_, fun o' ho' => ?_, le ch.length none (Nat.lt_succ_self _) last⟩
    · have := List.mem_of_getElem? e
      rcases List.mem_append.mp this with z | z
      · obtain ⟨a, ha, ea⟩ := List.mem_map.mp z
        cases ea
        exact ha
      · cases List.mem_singleton.mp z
    · obtain ⟨m, hm, em⟩ := List.getElem_of_mem ho'
      have hmo : ch[m]? = some o' := by rw [List.getElem?_eq_getElem hm, em]
      exact le m (some o') (by omega) (at1 hmo)
def spKeptAsk (K : PySem.W.Frag) (Z : Ad) : Sp := fun vs H Q _ => ∃ (k : KAd) (qv : V) (cols : List Nat) (th : Nmd) (n : Nat) (ch : List (List Nat)) (mv : Int) (es : List (Nat × Int)) (rc : Option (Nat × Int × Int)), vs = [.ref k.p, qv] ∧ TG Z.Ps H ∧ LamX.TabS H Z.P_Kept_ask (lamQ "Kept.ask") ∧ KeptAt Z.C_Kept Z.C_Rows H k cols th n ch mv ∧ NmOk cols.length th n ∧ th.length ≤ 60 ∧ ChL cols ch ∧ QZ H qv es rc ∧ QOk cols es rc ∧ es.length ≤ 1000 ∧
  ∀ (t an : Addr) (ov : Option (List Nat)) (H' : Hp), Sx (Z.P_Kept_ask :: Z.Ps) H H' → TG Z.Ps H' → LamX.TabS H' Z.P_Kept_ask (lamQ "Kept.ask") → H t = none → H an = none → H' t = some (.tup [.ref an, oV ov, .int (readN cols (th.map (·.2)) es rc ov)]) → H' an = some (.lst ((fitT cols th es rc).map nV)) → BestOf cols (th.map (·.2)) ch es rc ov → Q (.ref t) H'
set_option maxHeartbeats 4000000 in
theorem ok_keptask (T : Tx K mg Z) (TB : Tb base mg Z) : FnOk P w K mg base CX0 7 Z.f_Kept_ask Z.d_Kept_ask ["self", "question"] (spKeptAsk K Z) := by
  have G_Rows_as_table : FnOk P w K mg base CX0 1 Z.f_Rows_as_table Z.d_Rows_as_table ["self"] (spAsTable K Z) := ok_astable T
  have G_price_by : FnOk P w K mg base CX0 4 Z.f_price_by Z.d_price_by ["table", "one", "question"] (spPriceBy K Z) := ok_priceby T TB
  have G_Kept_numbers_read : FnOk P w K mg base CX0 4 Z.f_Kept_numbers_read Z.d_Kept_numbers_read ["self", "table", "one", "question"] (spNumbersRead K Z) := ok_numbersread T TB
  have G_fits : FnOk P w K mg base CX0 2 Z.f_fits Z.d_fits ["columns", "row", "question"] (spFits K) := ok_fits T
  refine T.C_Kept_ask.ok sc_Kept_ask (fun vs H Q E h => ?_) (fun A outer s H vs Q E hr h => ?_)
  · obtain ⟨k, qv, cols, th, n, ch, mv, es, rc, rfl, _⟩ := h
    rfl
  · obtain ⟨k, qv, cols, th, n, ch, mv, es, rc, rfl, tg, tab, kp, hok, htl, hch, fq, hqok, hel, q⟩ := h
    refine ⟨_, (pss_cons (ps_set (i := 5) sc_Kept_ask.nd rfl (.inr rfl) (pe_meth0 (fldK K (pv 0) rfl) T.cl_Rows T.m_Rows_as_table G_Rows_as_table (hr.mono (by omega)) T.b_Rows_as_table .nil pass0))
      (pss_cons (ps_set (i := 2) sc_Kept_ask.nd rfl (.inl rfl) (pe_minLam (N := ["other", "table", "question"]) (fr := ["table", "question"]) (js := [5, 1]) (k := 4) K (by rfl) (hr.mono (by omega)) (by rfl) T.m_min (TB.t_Kept_ask) rfl (lamT_by (by kernel_rfl) (by kernel_rfl) (by kernel_rfl) (by rfl) (fun _ _ _ _ => rfl)) rfl op_lt (pa_cons (pe_lst (paStarD (by rfl) (fldK K (pv 0) rfl) (pa_cons pe_non pa_nil))) pa_nil) (fun _ _ _ _ _ hr => (pe_call G_price_by (hr.mono (by omega)) (by rfl) T.g_price_by T.F_price_by.kp T.b_price_by .nil pass0 (pa_cons (pv 1) (pa_cons (pv 0) (pa_cons (pv 2) pa_nil)))))))
      (pss_cons (ps_set (i := 3) sc_Kept_ask.nd rfl (.inl rfl) (pe_meth (pv 0) T.cl_Kept T.m_Kept_numbers_read G_Kept_numbers_read (hr.mono (by omega)) T.b_Kept_numbers_read .nil pass0 (pa_cons (pv 5) (pa_cons (pv 2) (pa_cons (pv 1) pa_nil)))))
      (pss_cons (ps_setLc (i := 4) (own := [("number", 6)]) (tt := _) (by rfl) sc_Kept_ask.nd rfl rfl (sw_true rfl rfl rfl (by decide +kernel)) (piL K (pv 3)) (blkOk_by (own := [("number", 6)]) (by kernel_rfl)) (fun _ _ _ _ _ => (pg_name (i := 6) sc_Kept_ask.nd rfl (.inl rfl))) (fun _ _ _ _ _ => (pts_one (pt_val (pe_call G_fits (hr.mono (by omega)) (by rfl) T.g_fits T.F_fits.kp T.b_fits .nil pass0 (pa_cons (fldK K (fldK K (pv 0) rfl) rfl) (pa_cons (pe_dget (hu_of hr) (fldK K (fldK K (pv 0) rfl) rfl) (pv 6) (fun _ _ => rfl)) (pa_cons (pv 1) pa_nil))))))) (fun _ _ _ _ _ => (pv 6)))
      (pss_one (ps_ret (pe_tup (pa_cons (pe_callB cr_sortedI (by rfl) T.m_sorted (by decide +kernel) (pa_cons (pv 4) pa_nil)) (pa_cons (pv 2) (pa_cons (pe_callB (cLenSq K) (by rfl) T.m_len (by decide +kernel) (pa_cons (pv 3) pa_nil)) pa_nil)))))))))), ?_⟩
    obtain ⟨dx, hp⟩ := kp.self
    obtain ⟨dr, kvs, hr0, htd, nm⟩ := id kp.rows
    have tgP := tab_tg tab tg
    -- table
    refine ⟨.ref k.p, rfl, k.p, Z.C_Kept, dx, _, _, rfl, hp, T.cl_Kept, T.n_Kept_rows, kpF3_rows _ _ _, k.r, dr, _, rfl, hr0, rwF3_no_as_table _ _ _, k.r, k.td, cols, th, n, rfl, kp.rows, fun t H1 sm1 nt fT => ?_⟩
    have tg1 := tg.same sm1
    have tab1 := tab_same tab sm1
    have hp1 := sm1 _ _ hp
    have hod1 := sm1 _ _ kp.dict
    have fq1 := fq.kT (Same.kT sm1)
    -- one
    refine ⟨.ref k.p, rfl, k.p, Z.C_Kept, dx, _, _, rfl, hp1, T.cl_Kept, T.n_Kept_orders, kpF3_orders _ _ _, k.od, ordK ch k.ls, rfl, hod1, ?_⟩
    rw [ordK_keys kp.len]
    have hcl := hch.len
    refine ⟨?_, fun L nL => ?_⟩
    · rw [List.length_append, List.length_map]
      exact Nat.le_of_lt (small1000 (show ch.length + 1 ≤ 1000 by omega))
    have eopt : ch.map tx ++ [V.non] = (ch.map some ++ [none]).map oV := by
      rw [List.map_append, List.map_map]
      rfl
    show _ ∧ _
    rw [eopt]
    have hopl : (ch.map some ++ [none]).length = ch.length + 1 := by rw [List.length_append, List.length_map]; rfl
    have opin : ∀ ov ∈ ch.map some ++ [none], ∀ o, ov = some o → o ∈ ch := fun ov hov o e => by
      rcases List.mem_append.mp hov with z | z
      · obtain ⟨a, ha, ea⟩ := List.mem_map.mp z
        rw [← ea] at e
        cases e
        exact ha
      · rw [List.mem_singleton.mp z] at e
        cases e
    have opok : ∀ ov ∈ ch.map some ++ [none], ∀ o, ov = some o → o.length ≤ 1000 ∧ ∀ c ∈ o, c ∈ cols := fun ov hov o e => hch.ok o (opin ov hov o e)
    obtain ⟨o0, ho0⟩ : ∃ o0, (ch.map some ++ [none])[0]? = some o0 := ⟨_, List.getElem?_eq_getElem (by omega)⟩
    have smL := Same.new (o := .lst ((ch.map some ++ [none]).map oV)) sm1 nL
    have hLL : (upd H1 L (.lst ((ch.map some ++ [none]).map oV))) L = some (.lst ((ch.map some ++ [none]).map oV)) := upd_same
    have fTL : Fz (upd H1 L (.lst ((ch.map some ++ [none]).map oV))) (.ref t) (tabD cols (th.map (·.2))) := fT.kt (Kt.new nL)
    generalize hopt : ch.map some ++ [none] = opts at hopl opin opok ho0 smL hLL fTL ⊢
    generalize upd H1 L (.lst (opts.map oV)) = HL at smL hLL fTL ⊢
    have tgL := tg.same smL
    have tabL := tab_same tab smL
    refine ⟨tabL, L, opts.map oV, oV o0, rfl, .inl (.inl hLL), by rw [List.getElem?_map, ho0]; rfl, fun c' H2 sx2 tab2 hco => ?_⟩
    have tg2 : TG Z.Ps H2 := fun b hb => by
      obtain ⟨ps, h1, h2⟩ := tgL b hb
      exact ⟨ps, sx2 _ _ (fun z => T.l_Kept_ask (z ▸ hb)) h1, h2⟩
    have sxL2 : Sx (Z.P_Kept_ask :: Z.Ps) HL H2 := fun b o nb e => sx2 b o (fun z => nb (by rw [z]; exact List.mem_cons_self)) e
    have tgPL := tab_tg tabL tgL
    have ktL2 := sxL2.kT tgPL
    have hL2 := sxL2.lst tgPL hLL
    have fT2 := fTL.kt ktL2.1
    have fq2 := (fq.kT (Same.kT smL)).kT ktL2
    have hrows := hok.rows
    have hrl : (th.map (·.2)).length ≤ 1000 := by rw [List.length_map]; omega
    refine ⟨fun i b kk H3 => ∃ ov, b = oV ov ∧ kk = .int (priceByM cols (th.map (·.2)) ov es rc) ∧ FirstOf (fun o => priceByM cols (th.map (·.2)) o es rc) opts i ov ∧ Sx Z.Ps H2 H3 ∧ TG Z.Ps H3, fun i b kk H3 hW => ?_, .inl (.inl hL2), ?_, fun i x b kk H3 hx hW => ?_, fun b kk H3 hW => ?_⟩
    · obtain ⟨_, _, _, _, sx3, _⟩ := hW
      exact ⟨.inl (.inl (sx3.lst tg2 hL2)), sx3 _ _ (tg2.not hco fun q z => by unfold LamX.CodeO at z; cases z) hco⟩
    · exact ⟨.ref t, rfl, oV o0, rfl, qv, rfl, .ref t, cols, th.map (·.2), o0, qv, es, rc, rfl, tg2, fT2, hrows, hrl, opok o0 (List.mem_of_getElem? ho0), fq2, hqok, hel, fun H4 sx4 tg4 => ⟨o0, rfl, rfl, .start ho0, sx4, tg4⟩⟩
    · obtain ⟨ov, rfl, rfl, fo, sx3, tg3⟩ := hW
      rw [List.getElem?_map] at hx
      obtain ⟨ox, hox, rfl⟩ := Option.map_eq_some_iff.mp hx
      have kt3 := sx3.kT tg2
      refine ⟨.ref t, rfl, oV ox, rfl, qv, rfl, .ref t, cols, th.map (·.2), ox, qv, es, rc, rfl, tg3, fT2.kt kt3.1, hrows, hrl, opok ox (List.mem_of_getElem? hox), fq2.kT kt3, hqok, hel, fun H4 sx4 tg4 => ?_⟩
      refine ⟨_, _, rfl, rfl, _, rfl, ?_⟩
      by_cases e : priceByM cols (th.map (·.2)) ox es rc < priceByM cols (th.map (·.2)) ov es rc
      · rw [decide_eq_true e]
        exact ⟨ox, rfl, rfl, fo.go hox e, sx3.trans sx4, tg4⟩
      · rw [decide_eq_false e]
        exact ⟨ov, rfl, rfl, fo.stay hox e, sx3.trans sx4, tg4⟩
    obtain ⟨ov, rfl, rfl, fo, sx3, tg3⟩ := hW
    have ovin : ov ∈ opts := by
      obtain ⟨j, _, e, _⟩ := fo.at'
      exact List.mem_of_getElem? e
    have best : BestOf cols (th.map (·.2)) ch es rc ov := by
      rw [List.length_map, hopl, ← hopt] at fo
      exact fo.best
    have sxA : Sx (Z.P_Kept_ask :: Z.Ps) H H3 := fun b o nb e => sx3 b o (fun z => nb (List.mem_cons_of_mem _ z)) (sxL2 b o nb (smL b o e))
    have ktA := sxA.kT tgP
    have kpA := kp.keep (fun b hb o e => sxA b o (kp.noTbl tgP hb) e) ktA.1
    have tabA := tab_sx tab2 tg2 sx3 T.l_Kept_ask
    obtain ⟨dx', hpA⟩ := kpA.self
    -- near
    refine ⟨.ref k.p, rfl, k.p, dx', _, rfl, hpA, kpF3_no_numbers_read _ _ _, .ref t, rfl, oV ov, rfl, qv, rfl, k, .ref t, qv, ov, cols, th, n, ch, mv, es, rc, rfl, tg3, kpA, hok, htl, hch, fT2.kt (sx3.kt tg2), opin ov ovin, fq.kT ktA, hqok, hel, fun Ln near H5 sx5 tg5 hLn hnl hnm hnf => ?_⟩
    have kt5 := sx5.kT tg3
    have kp5 := kpA.keep (fun b hb o e => sx5 b o (kpA.noTbl tg3 hb) e) kt5.1
    have fq5 := (fq.kT ktA).kT kt5
    have hnl60 : near.length ≤ 60 := by
      have nb : readN cols (th.map (·.2)) es rc ov ≤ ((th.map (·.2)).length : Int) := by
        match ov, best with
        | none, _ => exact Int.le_refl _
        | some o, b =>
          have := b.2.2
          show priceM cols (th.map (·.2)) o es rc - 1 ≤ _
          omega
      rw [List.length_map] at nb
      omega
    obtain ⟨dx5, hp5⟩ := kp5.self
    obtain ⟨dr5, kvs5, hr5, ht5, nm5⟩ := id kp5.rows
    -- found
    refine ⟨.ref Ln, rfl, Ln, rfl, ⟨_, .inl (.inl hLn)⟩, fun D nD => lc_it (walk_list (xs := near.map nV)) (fun i H' => Same H5 H' ∧ H' D = some (.lst (((near.take i).filter fun m => fitsM cols (rowT th m) es rc).map nV)))
      ⟨Same.new (Same.refl H5) nD, upd_same⟩ (fun i H' _ hP => .inl (.inl (hP.1 _ _ hLn))) (fun i x H7 H6 hi hP hY => ?_) (fun H6 hP => ?_)⟩
    · obtain ⟨sm6, hD6⟩ := hP
      obtain ⟨rfl, hx⟩ := hY
      rw [List.getElem?_map] at hx
      obtain ⟨m, hm, rfl⟩ := Option.map_eq_some_iff.mp hx
      obtain ⟨hi2, ei⟩ := List.getElem?_eq_some_iff.mp hm
      have hmt := rowT_mem hok.nd (hnm m (List.mem_of_getElem? hm))
      obtain ⟨v, hv, fv⟩ := nm5.at' hok.nd hmt
      refine ⟨rfl, .ref k.p, rfl, k.p, Z.C_Kept, dx5, _, _, rfl, sm6 _ _ hp5, T.cl_Kept, T.n_Kept_rows, kpF3_rows _ _ _, k.r, Z.C_Rows, dr5, _, _, rfl, sm6 _ _ hr5, T.cl_Rows, T.n_Rows_columns, rwF3_columns _ _ _, ?_⟩
      refine ⟨.ref k.p, rfl, k.p, Z.C_Kept, dx5, _, _, rfl, sm6 _ _ hp5, T.cl_Kept, T.n_Kept_rows, kpF3_rows _ _ _, k.r, Z.C_Rows, dr5, _, _, rfl, sm6 _ _ hr5, T.cl_Rows, T.n_Rows_there, rwF3_there _ _ _, nV m, rfl, k.td, v, rfl, .inl ⟨kvs5, nKy m, .inl (sm6 _ _ ht5), rfl, hv.symm⟩, ?_⟩
      refine ⟨qv, rfl, cols, v, rowT th m, qv, es, rc, rfl, fv.kt (Same.kt sm6), (hok.row _ hmt).1, fq5.kT (Same.kT sm6), hqok, hel, fun H8 sm8 => ⟨_, rfl, ite2 (fun z => ?_) (fun z => ?_)⟩⟩
      · have hD8 := sm8 _ _ hD6
        refine ⟨nV m, rfl, _, hD8, ?_, Same.mut (Same.trans sm6 sm8) nD, ?_⟩
        · rw [List.length_map]
          have := List.length_filter_le (fun m => fitsM cols (rowT th m) es rc) (near.take i)
          rw [List.length_take] at this
          exact small1000 (by omega)
        · rw [upd_same, List.take_succ_eq_append_getElem hi2, ei, List.filter_append, List.filter_cons, if_pos z, List.map_append]
          rfl
      · refine ⟨Same.trans sm6 sm8, ?_⟩
        rw [sm8 _ _ hD6, List.take_succ_eq_append_getElem hi2, ei, List.filter_append, List.filter_cons, if_neg z, List.filter_nil, List.append_nil]
    obtain ⟨sm6, hD6⟩ := hP
    rw [List.length_map, List.take_of_length_le (Nat.le_refl _)] at hD6
    have enV : ∀ l : List Nat, l.map nV = (l.map fun x : Nat => (x : Int)).map V.int := fun l => by rw [List.map_map]; rfl
    rw [enV] at hD6
    refine ⟨.ref D, rfl, D, _, rfl, .inl (.inl hD6), fun ns' R hpm hso nR => ?_⟩
    have ens : ns' = (fitT cols th es rc).map fun x : Nat => (x : Int) := by
      refine ints_one hso ?_ (hpm.trans (hnf.map _))
      rw [List.pairwise_map]
      exact (fitT_up hok).imp fun {a b} z => by omega
    rw [ens, ← enV]
    have hLn7 := keep_new (o := .lst ((fitT cols th es rc).map nV)) (sm6 _ _ hLn) nR
    refine ⟨oV ov, rfl, .ref Ln, rfl, Ln, _, rfl, .inl (.inl (.inl hLn7)), (by show 3 ≤ sizeLine; decide), fun u nu => ?_⟩
    have sm8 : Same H5 (upd (upd H6 R (.lst ((fitT cols th es rc).map nV))) u (.tup [.ref R, oV ov, .int ((near.map nV).length : Nat)])) := Same.new (Same.new sm6 nR) nu
    have sxF := (sxA.trans (fun b o nb e => sx5 b o (fun z => nb (List.mem_cons_of_mem _ z)) e)).trans (Same.sx sm8)
    refine q u R ov _ sxF (tg5.same sm8) (tab_same (tab_sx tabA tg3 sx5 T.l_Kept_ask) sm8) ?_ ?_ ?_ (keep_new upd_same nu) best
    · exact Sx.free (tab_tg (tab_sx tabA tg3 sx5 T.l_Kept_ask) tg5) (sxA.trans (fun b o nb e => sx5 b o (fun z => nb (List.mem_cons_of_mem _ z)) e)) (Same.free (Same.new sm6 nR) nu)
    · exact Sx.free (tab_tg (tab_sx tabA tg3 sx5 T.l_Kept_ask) tg5) (sxA.trans (fun b o nb e => sx5 b o (fun z => nb (List.mem_cons_of_mem _ z)) e)) (Same.free sm6 nR)
    · rw [upd_same, List.length_map, hnl]

/-! ### Kept.sorted_by, Kept.moved -/
def spSortedBy (K : PySem.W.Frag) (Z : Ad) : Sp := fun vs H Q _ => ∃ (k : KAd) (cols : List Nat) (th : Nmd) (n : Nat) (ch : List (List Nat)) (mv : Int) (o : List Nat), vs = [.ref k.p, tx o] ∧ KeptAt Z.C_Kept Z.C_Rows H k cols th n ch mv ∧ ch.Nodup ∧ o ∈ ch ∧
  ∀ (L : Addr) (ns : List Nat) (H' : Hp), Same H H' → H L = none → H' L = some (.lst (ns.map nV)) → IsOrd cols th o ns → Q (.ref L) H'
theorem ok_sortedby (T : Tx K mg Z) : FnOk P w K mg base CX0 1 Z.f_Kept_sorted_by Z.d_Kept_sorted_by ["self", "one"] (spSortedBy K Z) := by
  refine T.F_Kept_sorted_by.ok sc_Kept_sorted_by (fun vs H Q E h => ?_) (fun cdv A outer s H vs Q E hr h => ?_)
  · obtain ⟨k, cols, th, n, ch, mv, o, rfl, _⟩ := h
    rfl
  · obtain ⟨k, cols, th, n, ch, mv, o, rfl, kp, hnd, ho, q⟩ := h
    refine ⟨_, (pss_one (ps_ret (pe_callTy (cListSq K) (by rfl) T.m_list (by decide +kernel) (pa_cons (pe_dget (hu_of hr) (fldK K (pv 0) rfl) (pv 1) (fun _ _ => rfl)) pa_nil)))), ?_⟩
    obtain ⟨dx, hp⟩ := kp.self
    obtain ⟨i, hi, ei⟩ := List.getElem_of_mem ho
    have ho' : ch[i]? = some o := by rw [List.getElem?_eq_getElem hi, ei]
    obtain ⟨l, hl⟩ : ∃ l, k.ls[i]? = some l := ⟨k.ls[i]'(by have := kp.len; omega), List.getElem?_eq_getElem (by have := kp.len; omega)⟩
    obtain ⟨ns, h1, h2⟩ := kp.ords i o l ho' hl
    refine ⟨.ref k.p, rfl, k.p, Z.C_Kept, dx, _, _, rfl, hp, T.cl_Kept, T.n_Kept_orders, kpF3_orders _ _ _, tx o, rfl, k.od, .ref l, rfl, .inl ⟨ordK ch k.ls, Sum.inr (txS o), .inl kp.dict, rfl, (ordK_val hnd ho' hl).symm⟩, ?_⟩
    exact ⟨l, _, rfl, .inl (.inl (.inl h1)), fun L nL => q L ns _ (Same.new (Same.refl H) nL) nL upd_same h2⟩
def spMoved (K : PySem.W.Frag) (Z : Ad) : Sp := fun vs H Q _ => ∃ (k : KAd) (cols : List Nat) (th : Nmd) (n : Nat) (ch : List (List Nat)) (mv : Int), vs = [.ref k.p] ∧ KeptAt Z.C_Kept Z.C_Rows H k cols th n ch mv ∧ Q (.int mv) H
theorem ok_moved (T : Tx K mg Z) : FnOk P w K mg base CX0 1 Z.f_Kept_moved Z.d_Kept_moved ["self"] (spMoved K Z) := by
  refine T.F_Kept_moved.ok sc_Kept_moved (fun vs H Q E h => ?_) (fun cdv A outer s H vs Q E hr h => ?_)
  · obtain ⟨k, cols, th, n, ch, mv, rfl, _⟩ := h
    rfl
  · obtain ⟨k, cols, th, n, ch, mv, rfl, kp, q⟩ := h
    refine ⟨_, (pss_one (ps_ret (fldK K (pv 0) rfl))), ?_⟩
    obtain ⟨dx, hp⟩ := kp.self
    exact ⟨.ref k.p, rfl, k.p, Z.C_Kept, dx, _, _, rfl, hp, T.cl_Kept, T.n_Kept_moves, kpF3_moves _ _ _, q⟩

/-! ### Kept.next_number -/
theorem kpF3_no_next_number (r od : Addr) (mv : Int) : (kpF3 r od mv).lookup ("next_number" : Str) = none := by kernel_rfl
def spNext (K : PySem.W.Frag) (Z : Ad) : Sp := fun vs H Q _ => ∃ (k : KAd) (cols : List Nat) (th : Nmd) (n : Nat) (ch : List (List Nat)) (mv : Int), vs = [.ref k.p] ∧ KeptAt Z.C_Kept Z.C_Rows H k cols th n ch mv ∧ Q (.int (n : Int)) H
theorem ok_next (T : Tx K mg Z) : FnOk P w K mg base CX0 1 Z.f_Kept_next_number Z.d_Kept_next_number ["self"] (spNext K Z) := by
  refine T.F_Kept_next_number.ok sc_Kept_next_number (fun vs H Q E h => ?_) (fun cdv A outer s H vs Q E hr h => ?_)
  · obtain ⟨k, cols, th, n, ch, mv, rfl, _⟩ := h
    rfl
  · obtain ⟨k, cols, th, n, ch, mv, rfl, kp, q⟩ := h
    refine ⟨_, (pss_one (ps_ret (fldK K (fldK K (pv 0) rfl) rfl))), ?_⟩
    obtain ⟨dx, hp⟩ := kp.self
    obtain ⟨dr, kvs, hr0, _, _⟩ := kp.rows
    exact ⟨.ref k.p, rfl, k.p, Z.C_Kept, dx, _, _, rfl, hp, T.cl_Kept, T.n_Kept_rows, kpF3_rows _ _ _, k.r, Z.C_Rows, dr, _, _, rfl, hr0, T.cl_Rows, T.n_Rows_coming, rwF3_coming _ _ _, q⟩

/-! ### one keeper, and what the law keeps of it -/
structure OneK (CK CR : Addr) (H : Hp) (k : KAd) (d : Addr) (cols : List Nat) (th : Nmd) (n : Nat) (ch : List (List Nat)) (mv : Int) : Prop where
  kp : KeptAt CK CR H k cols th n ch mv
  ok : NmOk cols.length th n
  dd : ∃ kvs, H d = some (.dK kvs) ∧ NmK H kvs th
  nd : d ∉ k.F
theorem OneK.keep {CK CR : Addr} {H H' : Hp} {k : KAd} {d : Addr} {cols : List Nat} {th : Nmd} {n : Nat} {ch : List (List Nat)} {mv : Int} (h : OneK CK CR H k d cols th n ch mv) (s : ∀ b ∈ d :: k.F, ∀ o, H b = some o → H' b = some o) (kt : Kt H H') : OneK CK CR H' k d cols th n ch mv :=
  ⟨h.kp.keep (fun b hb => s b (List.mem_cons_of_mem _ hb)) kt, h.ok, (by
    obtain ⟨kvs, h1, h2⟩ := h.dd
    exact ⟨kvs, s _ List.mem_cons_self _ h1, h2.kt kt⟩), h.nd⟩
theorem OneK.kind {CK CR : Addr} {H : Hp} {k : KAd} {d : Addr} {cols : List Nat} {th : Nmd} {n : Nat} {ch : List (List Nat)} {mv : Int} (h : OneK CK CR H k d cols th n ch mv) {b : Addr} (hb : b ∈ d :: k.F) : ∃ o, H b = some o ∧ ((∃ C dx fs, o = .ins C dx fs) ∨ (∃ kvs, o = .dK kvs) ∨ ∃ xs, o = .lst xs) := by
  rcases List.mem_cons.mp hb with z | z
  · obtain ⟨kvs, h1, _⟩ := h.dd
    exact ⟨_, z ▸ h1, .inr (.inl ⟨_, rfl⟩)⟩
  · exact h.kp.at z
/-! ### how a law on one keeper stands -/
structure StK (Z : Ad) (H0 : Hp) (r d ca : Addr) (k : KAd) (cols : List Nat) (ch : List (List Nat)) (H : Hp) (th : Nmd) (n : Nat) (mv : Int) : Prop where
  sx : Sx (Z.P_Kept_ask :: Z.Ps) H0 H
  tg : TG Z.Ps H
  tab : LamX.TabS H Z.P_Kept_ask (lamQ "Kept.ask")
  hr : ∃ rn, H r = some (.lst [.int rn])
  o : OneK Z.C_Kept Z.C_Rows H k d cols th n ch mv
  hca : H ca = some (.tup (ch.map tx))
  new : ∀ b ∈ r :: d :: k.F, H0 b = none
  nr : r ∉ d :: k.F
theorem mem_rdk {α : Type} {c r d : α} {F G : List α} : c ∈ r :: d :: (F ++ G) ↔ c ∈ r :: d :: F ∨ c ∈ G := by
  rw [List.mem_cons, List.mem_cons, List.mem_append, List.mem_cons, List.mem_cons, or_assoc, or_assoc]
section
variable {H0 : Hp} {r d ca : Addr} {k : KAd} {cols : List Nat} {ch : List (List Nat)} {H H' : Hp} {th th' : Nmd} {n n' : Nat} {mv mv' : Int}
theorem StK.kind (s : StK Z H0 r d ca k cols ch H th n mv) {b : Addr} (hb : b ∈ r :: d :: k.F) : ∃ o, H b = some o ∧ ((∃ C dx fs, o = .ins C dx fs) ∨ (∃ kvs, o = .dK kvs) ∨ ∃ xs, o = .lst xs) := by
  rcases List.mem_cons.mp hb with z | z
  · obtain ⟨rn, h⟩ := s.hr
    exact ⟨_, z ▸ h, .inr (.inr ⟨_, rfl⟩)⟩
  · exact s.o.kind z
theorem StK.off (s : StK Z H0 r d ca k cols ch H th n mv) {b : Addr} {o : HO} (e : H b = some o) (n1 : ∀ C dx fs, o ≠ .ins C dx fs) (n2 : ∀ kvs, o ≠ .dK kvs) (n3 : ∀ xs, o ≠ .lst xs) : b ∉ r :: d :: k.F := fun z => by
  obtain ⟨o', g1, g2⟩ := s.kind z
  rw [e] at g1
  cases g1
  rcases g2 with ⟨_, _, _, g⟩ | ⟨_, g⟩ | ⟨_, g⟩
  · exact n1 _ _ _ g
  · exact n2 _ g
  · exact n3 _ g
theorem StK.free (s : StK Z H0 r d ca k cols ch H th n mv) {b : Addr} (e : H b = none) : b ∉ r :: d :: k.F := fun z => by
  obtain ⟨o', g1, _⟩ := s.kind z
  rw [e] at g1
  cases g1
theorem StK.kT (s : StK Z H0 r d ca k cols ch H th n mv) (sx : Sx (r :: d :: (k.F ++ Z.P_Kept_ask :: Z.Ps)) H H') : KT H H' := by
  have tgP := tab_tg s.tab s.tg
  exact ⟨fun b xs e => sx b _ (fun z => (mem_rdk.mp z).elim (s.off e (fun _ _ _ z => nomatch z) (fun _ z => nomatch z) (fun _ z => nomatch z)) (tgP.not e fun q z => nomatch z)) e,
    fun b o xs e => sx b _ (fun z => (mem_rdk.mp z).elim (s.off e (fun _ _ _ z => nomatch z) (fun _ z => nomatch z) (fun _ z => nomatch z)) (tgP.not e fun q z => nomatch z)) e⟩
theorem StK.lst (s : StK Z H0 r d ca k cols ch H th n mv) (sx : Sx (r :: d :: (k.F ++ Z.P_Kept_ask :: Z.Ps)) H H') {b : Addr} {xs : List V} (nb : b ∉ r :: d :: k.F) (e : H b = some (.lst xs)) : H' b = some (.lst xs) :=
  sx b _ (fun z => (mem_rdk.mp z).elim nb ((tab_tg s.tab s.tg).not e fun q z => nomatch z)) e
theorem StK.tabx (s : StK Z H0 r d ca k cols ch H th n mv) (nP : Z.P_Kept_ask ∉ Z.Ps) (sx : Sx (r :: d :: (k.F ++ Z.Ps)) H H') : LamX.TabS H' Z.P_Kept_ask (lamQ "Kept.ask") := by
  obtain ⟨ps, h1, h2, h3⟩ := s.tab
  refine ⟨ps, sx _ _ (fun z => (mem_rdk.mp z).elim (s.off h1 (fun _ _ _ z => nomatch z) (fun _ z => nomatch z) (fun _ z => nomatch z)) nP) h1, h2, fun pos cv e => ?_⟩
  obtain ⟨c, e1, e2⟩ := h3 pos cv e
  exact ⟨c, e1, sx _ _ (fun z => (mem_rdk.mp z).elim (s.off e2 (fun _ _ _ z => by unfold LamX.CodeO at z; cases z) (fun _ z => by unfold LamX.CodeO at z; cases z) (fun _ z => by unfold LamX.CodeO at z; cases z)) (s.tg.not e2 fun q z => by unfold LamX.CodeO at z; cases z)) e2⟩
theorem StK.go (s : StK Z H0 r d ca k cols ch H th n mv) (sx : Sx (r :: d :: (k.F ++ Z.P_Kept_ask :: Z.Ps)) H H') (tg : TG Z.Ps H') (tab : LamX.TabS H' Z.P_Kept_ask (lamQ "Kept.ask")) (hr : ∃ rn, H' r = some (.lst [.int rn])) (o : OneK Z.C_Kept Z.C_Rows H' k d cols th' n' ch mv') : StK Z H0 r d ca k cols ch H' th' n' mv' :=
  ⟨fun c o nb e => sx c o (fun z => (mem_rdk.mp z).elim (fun z => by rw [s.new c z] at e; cases e) nb) (s.sx c o nb e), tg, tab, hr, o, (s.kT sx).1 _ _ s.hca, s.new, s.nr⟩
theorem StK.asked (s : StK Z H0 r d ca k cols ch H th n mv) (sx : Sx (Z.P_Kept_ask :: Z.Ps) H H') (tg : TG Z.Ps H') (tab : LamX.TabS H' Z.P_Kept_ask (lamQ "Kept.ask")) : StK Z H0 r d ca k cols ch H' th n mv := by
  have sx' : Sx (r :: d :: (k.F ++ Z.P_Kept_ask :: Z.Ps)) H H' := sx.more fun b h => mem_rdk.mpr (.inr h)
  have tgP := tab_tg s.tab s.tg
  have kk : ∀ b ∈ r :: d :: k.F, ∀ o, H b = some o → H' b = some o := fun b hb o e => sx b o (fun z => by
    obtain ⟨o', g1, g2⟩ := s.kind hb
    refine tgP.not g1 (fun q e => ?_) z
    rw [e] at g2
    rcases g2 with ⟨_, _, _, g⟩ | ⟨_, g⟩ | ⟨_, g⟩ <;> cases g) e
  obtain ⟨rn, hr⟩ := s.hr
  exact s.go sx' tg tab ⟨rn, kk _ List.mem_cons_self _ hr⟩ (s.o.keep (fun b hb => kk b (List.mem_cons_of_mem _ hb)) (s.kT sx').1)
theorem StK.same (s : StK Z H0 r d ca k cols ch H th n mv) (k' : Same H H') : StK Z H0 r d ca k cols ch H' th n mv := s.asked (Same.sx k') (s.tg.same k') (tab_same s.tab k')
theorem StK.kp (s : StK Z H0 r d ca k cols ch H th n mv) {rn : Int} (k' : Kp r H H') (hr : H' r = some (.lst [.int rn])) : StK Z H0 r d ca k cols ch H' th n mv := by
  obtain ⟨rn0, h0⟩ := s.hr
  exact s.go (fun c o nb e => k' c o (fun z => nb (by rw [z]; exact List.mem_cons_self)) e) (s.tg.kp h0 k') (tab_kp' s.tab h0 k') ⟨rn, hr⟩ (s.o.keep (fun b hb o e => k' b o (fun z => s.nr (z ▸ hb)) e) (k'.kt h0))
theorem StK.done (s : StK Z H0 r d ca k cols ch H th n mv) (nP : Z.P_Kept_ask ∉ Z.Ps) {n1 : Int} (sx : Sx (r :: d :: (k.F ++ Z.Ps)) H H') (tg : TG Z.Ps H') (hr : H' r = some (.lst [.int n1])) (o : OneK Z.C_Kept Z.C_Rows H' k d cols th' n' ch mv') : StK Z H0 r d ca k cols ch H' th' n' mv' :=
  s.go (sx.more fun b h => (mem_rdk.mp h).elim (fun z => mem_rdk.mpr (.inl z)) fun z => mem_rdk.mpr (.inr (List.mem_cons_of_mem _ z))) tg (s.tabx nP sx) ⟨n1, hr⟩ o
end

/-! ### _law_choice -/
def spKChoice (K : PySem.W.Frag) : Sp := fun vs H Q _ => ∃ (r : Addr) (n : Int) (cols : List Nat) (m : Nat), vs = [.ref r, tx cols, .int m] ∧ H r = some (.lst [.int n]) ∧ 0 < cols.length ∧ cols.length ≤ 26 ∧ cols.Nodup ∧ m ≤ 20 ∧
  ∀ (ch : List (List Nat)) (p : Addr) (n' : Int) (H' : Hp), Kp r H H' → H' r = some (.lst [.int n']) → H' p = some (.tup (ch.map tx)) → ChOk cols ch → ch.length ≤ m → Q (.ref p) H'
theorem ok_kchoice (T : Tx K mg Z) : FnOk P w K mg base CX0 3 Z.f_l_choice Z.d_l_choice ["reel", "columns", "many"] (spKChoice K) := by
  have G_l_pick : FnOk P w K mg base CX0 1 Z.f_l_pick Z.d_l_pick ["reel", "many"] (spPick K) := ok_pick T
  have G_l_one : FnOk P w K mg base CX0 2 Z.f_l_one Z.d_l_one ["reel", "columns"] (spOne K) := ok_one T
  refine T.F_l_choice.ok sc_l_choice (fun vs H Q E h => ?_) (fun cdv A outer s H vs Q E hr h => ?_)
  · obtain ⟨r, n, cols, m, rfl, _⟩ := h
    rfl
  · obtain ⟨r, n, cols, m, rfl, hR, hc0, hc1, hnd, hm, q⟩ := h
    refine ⟨_, (pss_cons (ps_set (i := 3) sc_l_choice.nd rfl (.inl rfl) (pe_callTy (cDictSq K) (by rfl) T.m_dict (by decide +kernel) (pa_cons (pe_lc (own := [("k", 4)]) (tt := tYes) (by rfl) sc_l_choice.nd (pi_range1 (by rfl) T.m_range (pa_cons (pe_call G_l_pick (hr.mono (by omega)) (by rfl) T.g_l_pick T.F_l_pick.kp T.b_l_pick .nil pass0 (pa_cons (pv 0) (pa_cons (pe_op op_add (pv 2) pe_int) pa_nil))) pa_nil)) (blkOk_by (own := [("k", 4)]) (by kernel_rfl)) (fun _ _ _ _ _ => (pg_name (i := 4) sc_l_choice.nd rfl (.inl rfl))) (fun _ _ _ _ _ => pts_nil) (fun _ _ _ _ _ => (pe_tup (pa_cons (pe_call G_l_one (hr.mono (by omega)) (by rfl) T.g_l_one T.F_l_one.kp T.b_l_one .nil pass0 (pa_cons (pv 0) (pa_cons (pv 1) pa_nil))) (pa_cons pe_bl pa_nil))))) pa_nil)))
      (pss_one (ps_ret (pe_callTy (cTupSq K) (by rfl) T.m_tuple (by decide +kernel) (pa_cons (pe_callB (call_sortedD rfl) (by rfl) T.m_sorted (by decide +kernel) (pa_cons (pv 3) pa_nil)) pa_nil))))), ?_⟩
    refine ⟨.ref r, rfl, .int m, rfl, m, 1, rfl, rfl, r, n, _, rfl, hR, by omega, by omega, fun d n1 d0 d1 => ?_⟩
    have hR1 : (upd H r (.lst [.int n1])) r = some (.lst [.int n1]) := upd_same
    have kp1 : Kp r H (upd H r (.lst [.int n1])) := Kp.own Kp.rfl'
    generalize upd H r (.lst [.int n1]) = H1 at hR1 kp1 ⊢
    refine ⟨d, rfl, by omega, by omega, fun D nD => lc_range (fun i H' => ∃ (n2 : Int) (vs : List V) (os : List (List Nat)), Kp r H1 H' ∧ H' r = some (.lst [.int n2]) ∧ H' D = some (.lst vs) ∧ FzA H' vs (os.map chD) ∧ os.length = i ∧ ∀ o ∈ os, OneOk cols o)
      ⟨n1, [], [], Kp.new Kp.rfl' nD, keep_new hR1 nD, upd_same, .nil, rfl, (fun o h => nomatch h)⟩ (fun i H2 hi hP => ?_) (fun H2 hP => ?_)⟩
    · obtain ⟨n2, vs, os, kp2, hR2, hD2, fA, hol, hoo⟩ := hP
      have nDr : D ≠ r := (ne_of_none hR1 nD).symm
      refine ⟨rfl, .ref r, rfl, tx cols, rfl, r, n2, cols, rfl, hR2, by omega, by omega, fun one rest n3 H3 kp3 hR3 hperm hone => ?_⟩
      refine ⟨(by show 2 ≤ sizeLine; decide), fun tp ntp => ?_⟩
      have hD3 : (upd H3 tp (.tup [tx one, .bl true])) D = some (.lst vs) := keep_new (kp3 _ _ nDr hD2) ntp
      have kt3 : Kt H2 (upd H3 tp (.tup [tx one, .bl true])) := (kp3.kt hR2).trans (Kt.new ntp)
      have ftp : Fz (upd H3 tp (.tup [tx one, .bl true])) (.ref tp) (chD one) := Fz.made ntp (.cons (.str _) (.cons (.bl _) .nil))
      refine ⟨vs, hD3, ?_, n3, vs ++ [.ref tp], os ++ [one], ((kp2.trans kp3).new ntp).mut nD, keep_ne (keep_new hR3 ntp) nDr.symm, upd_same, ?_, by rw [List.length_append, hol]; rfl, fun o ho => ?_⟩
      · have := fA.len
        rw [List.length_map] at this
        exact small1000 (by omega)
      · rw [List.map_append]
        exact (fA.kt (kt3.trans (Kt.lst hD3))).snoc (ftp.kt (Kt.lst hD3))
      · rcases List.mem_append.mp ho with z | z
        · exact hoo o z
        · rw [List.mem_singleton.mp z]
          exact one_ok hnd hperm hone
    obtain ⟨n2, vs, os, kp2, hR2, hD2, fA, hol, hoo⟩ := hP
    obtain ⟨pas, rfl, hpas⟩ := ch_pairs (K := K) fA
    refine ⟨D, pas, _, rfl, .inl (.inl hD2), hpas, fun e ne => ?_⟩
    obtain ⟨ks, hks, hksl, hkf⟩ := merge_choice hoo
    refine ⟨.ref e, rfl, e, _, ks, rfl, .inl upd_same, hks, by omega, fun ys p hyp hys np => ?_⟩
    obtain ⟨ch, rfl, hch, hchl⟩ := hkf ys hyp hys
    rw [ch_tx]
    refine ⟨p, _, rfl, .inl ⟨.inl (.inl upd_same), fun u nu => ?_⟩⟩
    exact q ch u n2 _ ((((kp1.trans kp2).new ne).new np).new nu) (keep_new (keep_new (keep_new hR2 ne) np) nu) upd_same hch (by omega)

/-! ### _law_right -/
/-- a dict by lists, the values ints -/
abbrev byK (f : List Nat → Int) (ch : List (List Nat)) : List (Key × V) := ch.map fun o => ((Sum.inr (txS o) : Key), V.int (f o))
theorem byK_val (f : List Nat → Int) : ∀ {ch : List (List Nat)} {o : List Nat}, o ∈ ch → valV (byK f ch) (Sum.inr (txS o)) = some (.int (f o))
  | [], _, h => nomatch h
  | c :: ch, o, h => by
    by_cases e : c = o
    · subst e
      exact valV_pos rfl
    · have h2 : o ∈ ch := (List.mem_cons.mp h).elim (fun z => absurd z.symm e) id
      exact (valV_neg fun z => e (txS_inj (Sum.inr.inj z))).trans (byK_val f h2)
theorem byK_none {f : List Nat → Int} {ch : List (List Nat)} {o : List Nat} (h : o ∉ ch) : valV (byK f ch) (Sum.inr (txS o)) = none := by
  refine valV_none fun z => ?_
  rw [List.map_map] at z
  obtain ⟨c, hc, e⟩ := List.mem_map.mp z
  rw [txS_inj (Sum.inr.inj e)] at hc
  exact h hc
theorem inV_falses : ∀ k : Nat, inV (.bl true) (List.replicate k (V.bl false)) = false
  | 0 => rfl
  | k + 1 => inV_falses k
theorem flat_falses : ∀ k : Nat, (List.replicate k (V.bl false)).all flatV = true
  | 0 => rfl
  | k + 1 => flat_falses k
def spKRight (K : PySem.W.Frag) : Sp := fun vs H Q _ => ∃ (f an d ca : Addr) (qv : V) (ov : Option (List Nat)) (cols : List Nat) (th : Nmd) (n : Nat) (ch : List (List Nat)) (es : List (Nat × Int)) (rc : Option (Nat × Int × Int)) (kvs : List (Key × V)), vs = [.ref f, tx cols, .ref d, .ref ca, qv] ∧
  H f = some (.tup [.ref an, oV ov, .int (readN cols (th.map (·.2)) es rc ov)]) ∧ H an = some (.lst ((fitT cols th es rc).map nV)) ∧ H d = some (.dK kvs) ∧ NmK H kvs th ∧ NmOk cols.length th n ∧ th.length ≤ 60 ∧ H ca = some (.tup (ch.map tx)) ∧ ChL cols ch ∧ cols.length ≤ 1000 ∧ QZ H qv es rc ∧ QOk cols es rc ∧ es.length ≤ 1000 ∧ BestOf cols (th.map (·.2)) ch es rc ov ∧
  ∀ (H' : Hp), Same H H' → Q (.bl true) H'
theorem ok_kright (T : Tx K mg Z) : FnOk P w K mg base CX0 3 Z.f_l_right Z.d_l_right ["found", "columns", "there", "choice", "question"] (spKRight K) := by
  have G_l_fits : FnOk P w K mg base CX0 1 Z.f_l_fits Z.d_l_fits ["columns", "row", "question"] (spFits K) := ok_lfits T
  have G_l_stretch : FnOk P w K mg base CX0 2 Z.f_l_stretch Z.d_l_stretch ["table", "one", "question"] (spLstretch K) := ok_lstretch T
  refine T.F_l_right.ok sc_l_right (fun vs H Q E h => ?_) (fun cdv A outer s H vs Q E hr h => ?_)
  · obtain ⟨f, an, d, ca, qv, ov, cols, th, n, ch, es, rc, kvs, rfl, _⟩ := h
    rfl
  · obtain ⟨f, an, d, ca, qv, ov, cols, th, n, ch, es, rc, kvs, rfl, hf, han, hd, nm, hok, htl, hca, hch, hcl, fq, hqok, hel, best, q⟩ := h
    refine ⟨_, (pss_cons (ps_if (PW.pt (pw_or (pt_not (pt_val (pe_callB (isiK K) (by rfl) T.m_isinstance (by decide +kernel) (pa_cons (pv 0) (pa_cons (pe_bltn (v := .ty "tuple") (by rfl) T.m_tuple (by decide +kernel) rfl) pa_nil))))) (pw_or (pt_cmpR op_ne (pe_callB (cLenSq K) (by rfl) T.m_len (by decide +kernel) (pa_cons (pv 0) pa_nil)) pe_int (nomark _)) (pw_or1 (pt_not (pt_val (pe_callB (isiK K) (by rfl) T.m_isinstance (by decide +kernel) (pa_cons (pe_ix (ixT K) (pv 0) pe_int (fun _ _ => rfl)) (pa_cons (pe_bltn (v := .ty "list") (by rfl) T.m_list (by decide +kernel) rfl) pa_nil))))))))) (pss_one (ps_ret pe_bl)) pss_nil)
      (pss_cons (ps_asg (pv 0) (pgT K (n := 3) (pgs_cons (pg_name (i := 5) sc_l_right.nd rfl (.inl rfl)) (pgs_cons (pg_name (i := 6) sc_l_right.nd rfl (.inl rfl)) (pgs_cons (pg_name (i := 7) sc_l_right.nd rfl (.inl rfl)) pgs_nil)))))
      (pss_cons (ps_setLc (i := 8) (own := [("number", 15)]) (tt := _) (by rfl) sc_l_right.nd rfl rfl (sw_true rfl rfl rfl (by decide +kernel)) (piL K (pe_callB (call_sortedDI rfl) (by rfl) T.m_sorted (by decide +kernel) (pa_cons (pv 2) pa_nil))) (blkOk_by (own := [("number", 15)]) (by kernel_rfl)) (fun _ _ _ _ _ => (pg_name (i := 15) sc_l_right.nd rfl (.inl rfl))) (fun _ _ _ _ _ => (pts_one (pt_val (pe_call G_l_fits (hr.mono (by omega)) (by rfl) T.g_l_fits T.F_l_fits.kp T.b_l_fits .nil pass0 (pa_cons (pv 1) (pa_cons (pe_dget (hu_of hr) (pv 2) (pv 15) (fun _ _ => rfl)) (pa_cons (pv 4) pa_nil))))))) (fun _ _ _ _ _ => (pv 15)))
      (pss_cons (ps_if (PW.pt (pw_or (pt_cmpR (neDK K hr.units) (pv 5) (pv 8) (nomark _)) (pw_or (pt_val (pe_callB (isiK K) (by rfl) T.m_isinstance (by decide +kernel) (pa_cons (pv 7) (pa_cons (pe_bltn (v := .ty "bool") (by rfl) T.m_bool (by decide +kernel) rfl) pa_nil)))) (pw_or1 (pt_cmpR (inSq K) pe_bl (pe_lc (own := [("number", 15)]) (tt := tYes) (by rfl) sc_l_right.nd (piL K (pv 5)) (blkOk_by (own := [("number", 15)]) (by kernel_rfl)) (fun _ _ _ _ _ => (pg_name (i := 15) sc_l_right.nd rfl (.inl rfl))) (fun _ _ _ _ _ => pts_nil) (fun _ _ _ _ _ => (pe_callB (isiK K) (by rfl) T.m_isinstance (by decide +kernel) (pa_cons (pv 15) (pa_cons (pe_bltn (v := .ty "bool") (by rfl) T.m_bool (by decide +kernel) rfl) pa_nil))))) (by rfl)))))) (pss_one (ps_ret pe_bl)) pss_nil)
      (pss_cons (ps_set (i := 9) sc_l_right.nd rfl (.inl rfl) (pe_tup (pa_cons (pv 1) (pa_cons (pe_callTy (cTupSq K) (by rfl) T.m_tuple (by decide +kernel) (pa_cons (pe_lc (own := [("number", 15)]) (tt := tYes) (by rfl) sc_l_right.nd (piL K (pe_callB (call_sortedDI rfl) (by rfl) T.m_sorted (by decide +kernel) (pa_cons (pv 2) pa_nil))) (blkOk_by (own := [("number", 15)]) (by kernel_rfl)) (fun _ _ _ _ _ => (pg_name (i := 15) sc_l_right.nd rfl (.inl rfl))) (fun _ _ _ _ _ => pts_nil) (fun _ _ _ _ _ => (pe_dget (hu_of hr) (pv 2) (pv 15) (fun _ _ => rfl)))) pa_nil)) pa_nil))))
      (pss_cons (ps_set (i := 10) sc_l_right.nd rfl (.inl rfl) pe_dnewK)
      (pss_cons (ps_for PassesOwn.never rfl (piT K (pv 3)) (pg_name (i := 11) sc_l_right.nd rfl (.inl rfl)) (pss_cons (ps_asg (pe_call G_l_stretch (hr.mono (by omega)) (by rfl) T.g_l_stretch T.F_l_stretch.kp T.b_l_stretch .nil pass0 (pa_cons (pv 9) (pa_cons (pv 11) (pa_cons (pv 4) pa_nil)))) (pgT K (n := 2) (pgs_cons (pg_name (i := 12) sc_l_right.nd rfl (.inl rfl)) (pgs_cons (pg_name (i := 13) sc_l_right.nd rfl (.inl rfl)) pgs_nil))))
      (pss_one (ps_dput (hu_of hr) (pv 10) (pv 11) (pe_op op_sub (pv 13) (pv 12)) rfl))))
      (pss_cons (ps_set (i := 14) sc_l_right.nd rfl (.inl rfl) (pe_op op_add (pe_minValsD (by rfl) (pv 10) (pe_callB call_lenD (by rfl) T.m_len (by decide +kernel) (pa_cons (pv 2) pa_nil)) (by rfl) T.m_min) pe_int))
      (pss_cons (ps_if (pt_cmpR op_isN (pv 6) pe_non (nomark _)) (pss_one (ps_ret (pe_and (pe_cmpR op_gt (pv 14) (pe_callB call_lenD (by rfl) T.m_len (by decide +kernel) (pa_cons (pv 2) pa_nil)) (nomark _)) (pe_one (pe_cmpR op_eq (pv 7) (pe_callB call_lenD (by rfl) T.m_len (by decide +kernel) (pa_cons (pv 2) pa_nil)) (nomark _)))))) pss_nil)
      (pss_one (ps_ret (pe_and (pe_callB (isiK K) (by rfl) T.m_isinstance (by decide +kernel) (pa_cons (pv 6) (pa_cons (pe_bltn (v := .ty "str") (by rfl) T.m_str (by decide +kernel) rfl) pa_nil))) (pe_and (pe_cmp (pc_din (hu_of hr) (pv 6) (pv 10)) rfl) (pe_and (pe_cmpR op_eq (pe_op op_add (pe_dget (hu_of hr) (pv 10) (pv 6) (fun _ _ => rfl)) pe_int) (pv 14) (nomark _)) (pe_and (pe_cmpR op_le (pv 14) (pe_callB call_lenD (by rfl) T.m_len (by decide +kernel) (pa_cons (pv 2) pa_nil)) (nomark _)) (pe_one (pe_cmpR op_eq (pv 7) (pe_dget (hu_of hr) (pv 10) (pv 6) (fun _ _ => rfl)) (nomark _)))))))))))))))))), ?_⟩
    have keyE : kvs.map (·.1) = ((th.map (·.1)).map fun x : Nat => (x : Int)).map Sum.inl := by
      rw [nm.keys, List.map_map, List.map_map]
      rfl
    have keyL : ((th.map (·.1)).map fun x : Nat => (x : Int)).length < 64 := by
      rw [List.length_map, List.length_map]
      omega
    have sortE : ∀ {ys : List Int}, ys.Perm ((th.map (·.1)).map fun x : Nat => (x : Int)) → ys.Pairwise (· ≤ ·) → ys = (th.map (·.1)).map fun x : Nat => (x : Int) := fun hperm hso => by
      refine ints_one hso ?_ hperm
      rw [List.pairwise_map]
      exact hok.up.imp fun {a b} z => by omega
    have nums_nd := hok.nd
    have hkl := nm.len
    -- the kinds
    refine ⟨.ref f, rfl, .ref f, .ty "tuple", _, _, true, rfl, .ty _, .base (.tup hf), kit_tp (.tuple []), _, rfl, ite2 (fun z => absurd z (by simp)) fun _ => ?_⟩
    refine ⟨.ref f, rfl, f, _, rfl, .inr (.inl (.inl hf)), rfl, _, rfl, ite2 (fun z => ?_) fun _ => ?_⟩
    · have : (!decide (V.int ((3 : Nat) : Int) = V.int 3)) = true := z
      simp at this
    refine ⟨.ref f, rfl, f, _, 0, .ref an, rfl, rfl, .inl (.inl hf), rfl, .ref an, .ty "list", _, _, true, rfl, .ty _, .base (.lst han), kit_ls (.list []), _, rfl, ite2 (fun z => absurd z (by simp)) fun _ => ?_⟩
    refine ⟨.ref f, rfl, f, [.ref an, oV ov, .int (readN cols (th.map (·.2)) es rc ov)], rfl, .inl (.inl hf), rfl, .ref an, [oV ov, .int (readN cols (th.map (·.2)) es rc ov)], rfl, oV ov, [.int (readN cols (th.map (·.2)) es rc ov)], rfl, .int (readN cols (th.map (·.2)) es rc ov), [], rfl, rfl, ?_⟩
    -- due
    refine ⟨.ref d, rfl, d, kvs, (th.map (·.1)).map fun x : Nat => (x : Int), rfl, .inl hd, keyE, keyL, fun ys N hperm hso nN => ?_⟩
    rw [sortE hperm hso, ← nV_map]
    have sm1 : Same H (upd H N (.lst ((th.map (·.1)).map nV))) := Same.new (Same.refl H) nN
    have hN1 : (upd H N (.lst ((th.map (·.1)).map nV))) N = some (.lst ((th.map (·.1)).map nV)) := upd_same
    generalize upd H N (.lst ((th.map (·.1)).map nV)) = H1 at sm1 hN1 ⊢
    have hd1 := sm1 _ _ hd
    have nm1 := nm.kt (Same.kt sm1)
    refine ⟨N, rfl, ⟨_, .inl (.inl hN1)⟩, fun D nD => lc_it (walk_list (xs := (th.map (·.1)).map nV)) (fun i H' => Same H1 H' ∧ H' D = some (.lst ((((th.take i).filter fun x => fitsM cols x.2 es rc).map (·.1)).map nV)))
      ⟨Same.new (Same.refl H1) nD, upd_same⟩ (fun i H' _ hP => .inl (.inl (hP.1 _ _ hN1))) (fun i x H3 H2 hi hP hY => ?_) (fun H2 hP => ?_)⟩
    · obtain ⟨sm2, hD2⟩ := hP
      obtain ⟨rfl, hx⟩ := hY
      rw [List.getElem?_map, List.getElem?_map] at hx
      obtain ⟨m0, hm0, rfl⟩ := Option.map_eq_some_iff.mp hx
      obtain ⟨e, he, rfl⟩ := Option.map_eq_some_iff.mp hm0
      obtain ⟨hi2, ei⟩ := List.getElem?_eq_some_iff.mp he
      have hem := List.mem_of_getElem? he
      obtain ⟨v, hv, fv⟩ := nm1.at' (n := e.1) (r := e.2) nums_nd hem
      refine ⟨rfl, tx cols, rfl, .ref d, rfl, nV e.1, rfl, d, v, rfl, .inl ⟨kvs, nKy e.1, .inl (sm2 _ _ hd1), rfl, hv.symm⟩, qv, rfl, cols, v, e.2, qv, es, rc, rfl, fv.kt (Same.kt sm2), (hok.row _ hem).1, fq.kT ((Same.kT sm1).trans (Same.kT sm2)), hqok, hel, fun H4 sm4 => ⟨_, rfl, ?_⟩⟩
      have hD4 := sm4 _ _ hD2
      have hfl := List.length_filter_le (fun x : Nat × List Int => fitsM cols x.2 es rc) (th.take i)
      rw [List.length_take] at hfl
      refine ite2 (fun z => ?_) (fun z => ?_)
      · refine ⟨nV e.1, rfl, _, hD4, ?_, Same.mut (Same.trans sm2 sm4) nD, ?_⟩
        · rw [List.length_map, List.length_map]
          exact small1000 (by omega)
        · rw [upd_same, List.take_succ_eq_append_getElem hi2, ei, List.filter_append, List.filter_cons, if_pos z, List.map_append, List.map_append]
          rfl
      · refine ⟨Same.trans sm2 sm4, ?_⟩
        rw [hD4, List.take_succ_eq_append_getElem hi2, ei, List.filter_append, List.filter_cons, if_neg z, List.filter_nil, List.append_nil]
    obtain ⟨sm2, hD2⟩ := hP
    rw [List.length_map, List.length_map, List.take_of_length_le (Nat.le_refl _)] at hD2
    have smA := Same.trans sm1 sm2
    -- as told
    refine ⟨.ref an, rfl, .ref D, rfl, _, _, .lst (.inl (.inl (smA _ _ han))) (dp_nums _), .lst (.inl (.inl hD2)) (dp_nums _), shaped_nums _, shaped_nums _, _, rfl, ite2 (fun z => ?_) fun _ => ?_⟩
    · have e1 := (eqv_nums (fitT cols th es rc) (fitT cols th es rc)).mpr rfl
      have z1 : (!PyData.eqv (.list ((fitT cols th es rc).map fun x : Nat => PyData.int x)) (.list ((fitT cols th es rc).map fun x : Nat => PyData.int x))) = true := z
      rw [e1] at z1
      cases z1
    refine ⟨_, rfl, _, .ty "bool", _, _, false, rfl, .ty _, .base (.int _), kit_bl (.int 0), _, rfl, ite2 (fun z => absurd z (by simp)) fun _ => ?_⟩
    refine ⟨.ref an, rfl, an, rfl, ⟨_, .inl (.inl (smA _ _ han))⟩, fun L nL => lc_it (walk_list (xs := (fitT cols th es rc).map nV)) (fun i H' => Same H2 H' ∧ H' L = some (.lst (List.replicate i (V.bl false))))
      ⟨Same.new (Same.refl H2) nL, upd_same⟩ (fun i H' _ hP => .inl (.inl (hP.1 _ _ (smA _ _ han)))) (fun i x H4 H3 hi hP hY => ?_) (fun H3 hP => ?_)⟩
    · obtain ⟨sm3, hL3⟩ := hP
      obtain ⟨rfl, hx⟩ := hY
      rw [List.getElem?_map] at hx
      obtain ⟨m0, hm0, rfl⟩ := Option.map_eq_some_iff.mp hx
      have hfl : (fitT cols th es rc).length ≤ th.length := fitT_len
      have hil : i < (fitT cols th es rc).length := (List.getElem?_eq_some_iff.mp hm0).1
      refine ⟨rfl, _, rfl, _, .ty "bool", _, _, false, rfl, .ty _, .base (.int _), kit_bl (.int 0), _, hL3, ?_, Same.mut sm3 nL, ?_⟩
      · rw [List.length_replicate]
        exact small1000 (by omega)
      · rw [upd_same, List.replicate_succ']
    obtain ⟨sm3, hL3⟩ := hP
    refine ⟨L, _, rfl, .inl (.inl (.inl hL3)), rfl, flat_falses _, _, rfl, ite2 (fun z => ?_) fun _ => ?_⟩
    · rw [if_neg (by decide), inV_falses] at z
      cases z
    have smB := Same.trans smA sm3
    clear sm1 sm2 sm3 hN1 hd1 nm1 hL3 hD2 smA
    -- table
    refine ⟨tx cols, rfl, .ref d, rfl, d, kvs, (th.map (·.1)).map fun x : Nat => (x : Int), rfl, .inl (smB _ _ hd), keyE, keyL, fun ys N2 hperm hso nN2 => ?_⟩
    rw [sortE hperm hso, ← nV_map]
    have sm4 : Same H (upd H3 N2 (.lst ((th.map (·.1)).map nV))) := Same.new smB nN2
    have hN4 : (upd H3 N2 (.lst ((th.map (·.1)).map nV))) N2 = some (.lst ((th.map (·.1)).map nV)) := upd_same
    generalize upd H3 N2 (.lst ((th.map (·.1)).map nV)) = H4 at sm4 hN4 ⊢
    have hd4 := sm4 _ _ hd
    have nm4 := nm.kt (Same.kt sm4)
    refine ⟨N2, rfl, ⟨_, .inl (.inl hN4)⟩, fun D2 nD2 => lc_it (walk_list (xs := (th.map (·.1)).map nV)) (fun i H' => Same H4 H' ∧ ∃ vs, H' D2 = some (.lst vs) ∧ FzA H' vs (((th.take i).map (·.2)).map rowD))
      ⟨Same.new (Same.refl H4) nD2, [], upd_same, (by rw [List.take_zero]; exact .nil)⟩ (fun i H' _ hP => .inl (.inl (hP.1 _ _ hN4))) (fun i x H6 H5 hi hP hY => ?_) (fun H5 hP => ?_)⟩
    · obtain ⟨sm5, vs, hD5, fA⟩ := hP
      obtain ⟨rfl, hx⟩ := hY
      rw [List.getElem?_map, List.getElem?_map] at hx
      obtain ⟨m0, hm0, rfl⟩ := Option.map_eq_some_iff.mp hx
      obtain ⟨e, he, rfl⟩ := Option.map_eq_some_iff.mp hm0
      obtain ⟨hi2, ei⟩ := List.getElem?_eq_some_iff.mp he
      obtain ⟨v, hv, fv⟩ := nm4.at' (n := e.1) (r := e.2) nums_nd (List.mem_of_getElem? he)
      refine ⟨rfl, .ref d, rfl, nV e.1, rfl, d, v, rfl, .inl ⟨kvs, nKy e.1, .inl (sm5 _ _ hd4), rfl, hv.symm⟩, _, hD5, ?_, Same.mut sm5 nD2, vs ++ [v], upd_same, ?_⟩
      · have := fA.len
        rw [List.length_map, List.length_map, List.length_take] at this
        exact small1000 (by omega)
      · rw [List.take_succ_eq_append_getElem hi2, ei, List.map_append, List.map_append]
        exact (fA.kt (Kt.lst hD5)).snoc ((fv.kt (Same.kt sm5)).kt (Kt.lst hD5))
    obtain ⟨sm5, vs, hD5, fA⟩ := hP
    rw [List.length_map, List.length_map, List.take_of_length_le (Nat.le_refl _)] at fA
    refine ⟨D2, vs, rfl, .inl ⟨.inl (.inl hD5), fun R nR => ⟨(by show 2 ≤ sizeLine; decide), fun t nt => ?_⟩⟩⟩
    have sm6 : Same H (upd (upd H5 R (.tup vs)) t (.tup [tx cols, .ref R])) := Same.new (Same.new (Same.trans sm4 sm5) nR) nt
    have fT : Fz (upd (upd H5 R (.tup vs)) t (.tup [tx cols, .ref R])) (.ref t) (tabD cols (th.map (·.2))) := .tup upd_same (.cons (.str _) (.cons (.tup (keep_new upd_same nt) (fA.kt ((Kt.new nR).trans (Kt.new nt)))) .nil))
    generalize upd (upd H5 R (.tup vs)) t (.tup [tx cols, .ref R]) = H6 at sm6 fT ⊢
    have hrows := hok.rows
    clear sm4 sm5 hN4 hd4 nm4 hD5 fA
    -- by
    refine fun B nB => ?_
    have sm7 : Same H (upd H6 B (.dK [])) := Same.new sm6 nB
    have fT7 := fT.kt (Kt.new (o := .dK []) nB)
    have hB7 : (upd H6 B (.dK [])) B = some (.dK []) := upd_same
    have nB0 : H B = none := by
      cases e : H B with
      | none => rfl
      | some o => rw [sm6 _ _ e] at nB; cases nB
    generalize upd H6 B (.dK []) = H7 at sm7 fT7 hB7 ⊢
    generalize hst : (fun o => (behindM cols (th.map (·.2)) o es rc : Int) - (aheadM cols (th.map (·.2)) o es rc : Int)) = st
    have hcl2 := hch.len
    refine ⟨.ref ca, rfl, ca, rfl, ⟨_, .inl (.inl (sm7 _ _ hca))⟩, for_it (walk_tup (xs := ch.map tx)) (fun i σ H' => ∃ y11 y12 y13 : Option V, σ = [some (.ref f), some (tx cols), some (.ref d), some (.ref ca), some qv, some (.ref an), some (oV ov), some (.int (readN cols (th.map (·.2)) es rc ov)), some (.ref D), some (.ref t), some (.ref B), y11, y12, y13, none, none] ∧ Same H H' ∧ Fz H' (.ref t) (tabD cols (th.map (·.2))) ∧ H' B = some (.dK (byK st (ch.take i))))
      ⟨_, _, _, rfl, sm7, fT7, hB7⟩ (fun i σ H' _ hP => ?_) (fun i x σ H9 H8 hi hP hY => ?_) (fun σ H8 hP => ?_)⟩
    · obtain ⟨_, _, _, _, sm8, _⟩ := hP
      exact .inl (.inl (sm8 _ _ hca))
    · obtain ⟨y11, y12, y13, rfl, sm8, fT8, hB8⟩ := hP
      obtain ⟨rfl, hx⟩ := hY
      rw [List.getElem?_map] at hx
      obtain ⟨o, ho, rfl⟩ := Option.map_eq_some_iff.mp hx
      obtain ⟨hi2, ei⟩ := List.getElem?_eq_some_iff.mp ho
      obtain ⟨ol, oc⟩ := hch.ok o (List.mem_of_getElem? ho)
      have tk : ch.take (i + 1) = ch.take i ++ [o] := by rw [List.take_succ_eq_append_getElem hi2, ei]
      have out : o ∉ ch.take i := fun z => by
        have nd2 : (ch.take (i + 1)).Nodup := hch.nd.sublist (List.take_sublist _ _)
        rw [tk] at nd2
        exact (List.nodup_append.mp nd2).2.2 o z o (by simp) rfl
      refine ⟨.ref t, rfl, tx o, rfl, qv, rfl, .ref t, cols, th.map (·.2), o, qv, es, rc, rfl, fT8, hrows, by rw [List.length_map]; omega, ol, oc, fq.kT (Same.kT sm8), hqok, hel, fun sp H10 sm10 nsp hsp => ?_⟩
      refine ⟨sp, [.int (aheadM cols (th.map (·.2)) o es rc : Nat), .int (behindM cols (th.map (·.2)) o es rc : Nat)], rfl, .inl (.inl hsp), rfl, .int (aheadM cols (th.map (·.2)) o es rc : Nat), [.int (behindM cols (th.map (·.2)) o es rc : Nat)], rfl, .int (behindM cols (th.map (·.2)) o es rc : Nat), [], rfl, rfl, ?_⟩
      have hB10 := sm10 _ _ hB8
      refine ⟨_, rfl, _, rfl, _, _, rfl, rfl, .ref B, rfl, tx o, rfl, B, _, rfl, .inl ⟨_, Sum.inr (txS o), hB10, rfl, ?_, rfl⟩, _, _, _, rfl, Same.mut (Same.trans sm8 sm10) nB0, (fT8.kt (Same.kt sm10)).kt (Kt.dct hB10), ?_⟩
      · rw [List.length_map, List.length_take]
        exact small1000 (by omega)
      · rw [upd_same, putK_new _ (byK_none out), tk]
        show _ = some (HO.dK ((ch.take i ++ [o]).map fun o => ((Sum.inr (txS o) : Key), V.int (st o))))
        rw [List.map_append, ← hst]
        rfl
    obtain ⟨y11, y12, y13, rfl, sm8, fT8, hB8⟩ := hP
    rw [List.length_map, List.take_of_length_le (Nat.le_refl _)] at hB8
    have hd8 := sm8 _ _ hd
    have hpr : ∀ o, priceM cols (th.map (·.2)) o es rc = st o + 1 := fun o => by rw [← hst]; rfl
    have hrl : ((th.map (·.2)).length : Int) = kvs.length := by rw [List.length_map, hkl]
    -- least
    refine ⟨.ref B, rfl, B, byK st ch, rfl, hB8, .ref d, rfl, d, kvs, rfl, hd8, byK st ch, ch.map st, hB8, ?_, fun z => ⟨_, 1, rfl, rfl, ?_⟩, fun ne m hm hle => ⟨m, 1, rfl, rfl, ?_⟩⟩
    · rw [List.map_map, List.map_map]
      rfl
    · have hm : (ch = [] ∧ (kvs.length : Int) = kvs.length) ∨ ∃ o ∈ ch, (kvs.length : Int) = st o ∧ ∀ o' ∈ ch, st o ≤ st o' := .inl ⟨List.map_eq_nil_iff.mp z, rfl⟩
      have hz : ∃ m : Int, m = ((kvs.length : Nat) : Int) := ⟨_, rfl⟩
      obtain ⟨m, em⟩ := hz
      rw [← em]
      have hm : (ch = [] ∧ m = kvs.length) ∨ ∃ o ∈ ch, m = st o ∧ ∀ o' ∈ ch, st o ≤ st o' := .inl ⟨List.map_eq_nil_iff.mp z, em⟩
      cases ov with
      | none =>
        have g1 : (kvs.length : Int) < m + 1 := by
          rcases hm with ⟨_, z⟩ | ⟨o, ho, e, _⟩
          · omega
          · have := best o ho
            rw [hpr, hrl] at this
            omega
        have g2 : readN cols (th.map (·.2)) es rc none = kvs.length := hrl
        refine ⟨.non, rfl, rfl, _, rfl, ite2 (fun _ => ?_) (fun z => absurd rfl z)⟩
        refine ⟨.int (m + 1), rfl, .ref d, rfl, d, kvs, rfl, hd8, _, _, rfl, rfl, _, rfl, ite2 (fun _ => ⟨_, rfl, .ref d, rfl, d, kvs, rfl, hd8, rfl, ?_⟩) (fun z => absurd (decide_eq_true g1) z)⟩
        rw [g2, decide_eq_true rfl]
        exact q _ sm8
      | some o =>
        obtain ⟨b1, b2, b3⟩ := best
        have g0 : m = st o := by
          rcases hm with ⟨z, _⟩ | ⟨o', ho', e, l⟩
          · rw [z] at b1
            cases b1
          · have h1 := l o b1
            have h2 := b2 o' ho'
            rw [hpr, hpr] at h2
            omega
        have g1 : m + 1 ≤ (kvs.length : Int) := by
          rw [hpr, hrl] at b3
          omega
        have g2 : readN cols (th.map (·.2)) es rc (some o) = st o := by
          show priceM cols (th.map (·.2)) o es rc - 1 = st o
          rw [hpr]
          omega
        have hval := byK_val st b1
        refine ⟨tx o, rfl, rfl, _, rfl, ite2 (fun z => absurd z (by simp)) fun _ => ?_⟩
        refine ⟨tx o, rfl, tx o, .ty "str", _, _, true, rfl, .ty _, .base (.str _), kit_st (.str (txS o)), _, rfl, ite2 (fun _ => ?_) (fun z => absurd rfl z)⟩
        refine ⟨tx o, rfl, .ref B, rfl, B, some (.int (st o)), rfl, .inl ⟨_, Sum.inr (txS o), .inl hB8, rfl, hval.symm⟩, _, rfl, ite2 (fun _ => ?_) (fun z => absurd rfl z)⟩
        refine ⟨.ref B, rfl, tx o, rfl, B, .int (st o), rfl, .inl ⟨_, Sum.inr (txS o), .inl hB8, rfl, hval.symm⟩, _, 1, rfl, rfl, .int (m + 1), rfl, rfl, _, rfl, ite2 (fun _ => ?_) (fun z => absurd (decide_eq_true (by rw [g0])) z)⟩
        refine ⟨.int (m + 1), rfl, .ref d, rfl, d, kvs, rfl, hd8, _, _, rfl, rfl, _, rfl, ite2 (fun _ => ?_) (fun z => absurd (decide_eq_true g1) z)⟩
        refine ⟨_, rfl, .ref B, rfl, tx o, rfl, B, .int (st o), rfl, .inl ⟨_, Sum.inr (txS o), .inl hB8, rfl, hval.symm⟩, rfl, ?_⟩
        rw [g2, decide_eq_true rfl]
        exact q _ sm8
    · have hm : (ch = [] ∧ m = kvs.length) ∨ ∃ o ∈ ch, m = st o ∧ ∀ o' ∈ ch, st o ≤ st o' := .inr (by
        obtain ⟨o, ho, e⟩ := List.mem_map.mp hm
        exact ⟨o, ho, e.symm, fun o' ho' => e ▸ hle _ (List.mem_map.mpr ⟨o', ho', rfl⟩)⟩)
      cases ov with
      | none =>
        have g1 : (kvs.length : Int) < m + 1 := by
          rcases hm with ⟨_, z⟩ | ⟨o, ho, e, _⟩
          · omega
          · have := best o ho
            rw [hpr, hrl] at this
            omega
        have g2 : readN cols (th.map (·.2)) es rc none = kvs.length := hrl
        refine ⟨.non, rfl, rfl, _, rfl, ite2 (fun _ => ?_) (fun z => absurd rfl z)⟩
        refine ⟨.int (m + 1), rfl, .ref d, rfl, d, kvs, rfl, hd8, _, _, rfl, rfl, _, rfl, ite2 (fun _ => ⟨_, rfl, .ref d, rfl, d, kvs, rfl, hd8, rfl, ?_⟩) (fun z => absurd (decide_eq_true g1) z)⟩
        rw [g2, decide_eq_true rfl]
        exact q _ sm8
      | some o =>
        obtain ⟨b1, b2, b3⟩ := best
        have g0 : m = st o := by
          rcases hm with ⟨z, _⟩ | ⟨o', ho', e, l⟩
          · rw [z] at b1
            cases b1
          · have h1 := l o b1
            have h2 := b2 o' ho'
            rw [hpr, hpr] at h2
            omega
        have g1 : m + 1 ≤ (kvs.length : Int) := by
          rw [hpr, hrl] at b3
          omega
        have g2 : readN cols (th.map (·.2)) es rc (some o) = st o := by
          show priceM cols (th.map (·.2)) o es rc - 1 = st o
          rw [hpr]
          omega
        have hval := byK_val st b1
        refine ⟨tx o, rfl, rfl, _, rfl, ite2 (fun z => absurd z (by simp)) fun _ => ?_⟩
        refine ⟨tx o, rfl, tx o, .ty "str", _, _, true, rfl, .ty _, .base (.str _), kit_st (.str (txS o)), _, rfl, ite2 (fun _ => ?_) (fun z => absurd rfl z)⟩
        refine ⟨tx o, rfl, .ref B, rfl, B, some (.int (st o)), rfl, .inl ⟨_, Sum.inr (txS o), .inl hB8, rfl, hval.symm⟩, _, rfl, ite2 (fun _ => ?_) (fun z => absurd rfl z)⟩
        refine ⟨.ref B, rfl, tx o, rfl, B, .int (st o), rfl, .inl ⟨_, Sum.inr (txS o), .inl hB8, rfl, hval.symm⟩, _, 1, rfl, rfl, .int (m + 1), rfl, rfl, _, rfl, ite2 (fun _ => ?_) (fun z => absurd (decide_eq_true (by rw [g0])) z)⟩
        refine ⟨.int (m + 1), rfl, .ref d, rfl, d, kvs, rfl, hd8, _, _, rfl, rfl, _, rfl, ite2 (fun _ => ?_) (fun z => absurd (decide_eq_true g1) z)⟩
        refine ⟨_, rfl, .ref B, rfl, tx o, rfl, B, .int (st o), rfl, .inl ⟨_, Sum.inr (txS o), .inl hB8, rfl, hval.symm⟩, rfl, ?_⟩
        rw [g2, decide_eq_true rfl]
        exact q _ sm8

/-! ### _law_word -/
def wordN (n : Str) : Str := if n = "TooMany" then "many" else "number"
def spWord (K : PySem.W.Frag) (Z : Ad) : Sp := fun vs H Q _ => ∃ (k : KAd) (v : V) (cols : List Nat) (th : Nmd) (n : Nat) (ch : List (List Nat)) (mv : Int), TG Z.Ps H ∧ KeptAt Z.C_Kept Z.C_Rows H k cols th n ch mv ∧ NmOk cols.length th n ∧ th.length ≤ 60 ∧ ChL cols ch ∧
  ((∃ row, vs = [.ref k.p, .int 0, v] ∧ Fz H v (rowD row) ∧ RowOk cols.length row ∧ (¬ th.length < 60 → ∀ H', Same H H' → Q (.str "many") H') ∧ (th.length < 60 → ∀ H', Sx (k.F ++ Z.Ps) H H' → TG Z.Ps H' → KeptAt Z.C_Kept Z.C_Rows H' k cols (th ++ [(n, row)]) (n + 1) ch (mv + ch.length) → Q (.str "") H')) ∨
   (∃ g : Int, vs = [.ref k.p, .int 1, .int g] ∧ ((∀ m ∈ th.map (·.1), g ≠ ((m : Nat) : Int)) → ∀ H', Same H H' → Q (.str "number") H') ∧ (∀ m : Nat, m ∈ th.map (·.1) → g = (m : Int) → ∀ H', Sx (k.F ++ Z.Ps) H H' → TG Z.Ps H' → KeptAt Z.C_Kept Z.C_Rows H' k cols (outT th m) n ch (mv + ch.length) → Q (.str "") H')))
set_option maxHeartbeats 4000000 in
theorem ok_word (T : Tx K mg Z) (TB : Tb base mg Z) : FnOk P w K mg base CX0 5 Z.f_l_word Z.d_l_word ["kept", "way", "thing"] (spWord K Z) := by
  have G_Kept_put : FnOk P w K mg base (L2.CX P w) 4 Z.f_Kept_put Z.d_Kept_put ["self", "row"] (spKeptPut K Z) := ok_keptput T TB
  have G_Kept_take : FnOk P w K mg base (L2.CX P w) 4 Z.f_Kept_take Z.d_Kept_take ["self", "number"] (spKeptTake K Z) := ok_kepttake T TB
  refine T.F_l_word.ok sc_l_word (fun vs H Q E h => ?_) (fun cdv A outer s H vs Q E hr h => ?_)
  · obtain ⟨k, v, cols, th, n, ch, mv, _, _, _, _, _, ⟨row, rfl, _⟩ | ⟨g, rfl, _⟩⟩ := h <;> rfl
  · obtain ⟨k, v, cols, th, n, ch, mv, tg, kp, hok, h60, hch, hh⟩ := h
    obtain ⟨way, v, rfl⟩ : ∃ (way : Int) (v : V), vs = [.ref k.p, .int way, v] := by
      rcases hh with ⟨row, rfl, _⟩ | ⟨g, rfl, _⟩ <;> exact ⟨_, _, rfl⟩
    refine ⟨_, (pss_cons (ps_set (i := 3) sc_l_word.nd rfl (.inl rfl) pe_non)
      (pss_mid (ps_try_note (i := 4) (j := 3) (c := .ref (Z.xa "ListError")) rfl rfl rfl sc_l_word.nd rfl rfl rfl rfl rfl ⟨rfl, by decide, .inl T.gx_ListError⟩ (by decide) (by decide) rfl fun W pn xe tk _ => (pss_one (ps_if (pt_cmpR op_eq (pv 1) pe_int (nomark _)) (pss_one (ps_expr (pe_methX (pv 0) T.cl_Kept T.m_Kept_put G_Kept_put (hr.mono (by omega)) T.b_Kept_put (fun σ => passAt tk σ) (pa_cons (pv 2) pa_nil)))) (pss_one (ps_expr (pe_methX (pv 0) T.cl_Kept T.m_Kept_take G_Kept_take (hr.mono (by omega)) T.b_Kept_take (fun σ => passAt tk σ) (pa_cons (pv 2) pa_nil)))))))
      (pss_cons (ps_if (pt_cmpR op_isN (pv 3) pe_non (nomark _)) (pss_one (ps_ret pe_str)) pss_nil)
      (pss_cons (ps_set (i := 5) sc_l_word.nd rfl (.inl rfl) (pe_lst (pa_cons (pe_callB (isN K) (by rfl) T.m_isinstance (by decide +kernel) (pa_cons (pv 3) (pa_cons (pe_glob (v := .ref (Z.xa "TooMany")) (by rfl) T.gx_TooMany rfl) pa_nil))) (pa_cons (pe_callB (isN K) (by rfl) T.m_isinstance (by decide +kernel) (pa_cons (pv 3) (pa_cons (pe_glob (v := .ref (Z.xa "NoNumber")) (by rfl) T.gx_NoNumber rfl) pa_nil))) pa_nil))))
      (pss_cons (ps_if (PW.pt (pw_or (pt_val (pe_callB (isN K) (by rfl) T.m_isinstance (by decide +kernel) (pa_cons (pv 3) (pa_cons (pe_tup (pa_cons (pe_glob (v := .ref (Z.xa "NoQuestion")) (by rfl) T.gx_NoQuestion rfl) (pa_cons (pe_glob (v := .ref (Z.xa "NoRow")) (by rfl) T.gx_NoRow rfl) (pa_cons (pe_glob (v := .ref (Z.xa "NoText")) (by rfl) T.gx_NoText rfl) pa_nil)))) pa_nil)))) (pw_or1 (pt_not (pt_val (pe_callB (isN K) (by rfl) T.m_isinstance (by decide +kernel) (pa_cons (pv 3) (pa_cons (pe_bltn (v := .ty "ValueError") (by rfl) T.m_ValueError (by decide +kernel) rfl) pa_nil)))))))) (pss_one (ps_ret pe_str)) pss_nil)
      (pss_one (ps_ret (pe_dgetS w hr.units (pe_dispS w hr.units (pps_cons (pe_tup (pa_cons pe_bl (pa_cons pe_bl pa_nil))) pe_str (pps_cons (pe_tup (pa_cons pe_bl (pa_cons pe_bl pa_nil))) pe_str pps_nil)) (by rfl) (by rfl) (fun z => by cases z) (by decide)) (pe_callTy (cTupSq K) (by rfl) T.m_tuple (by decide +kernel) (pa_cons (pv 5) pa_nil)) pe_str ⟨rfl, rfl, rfl, rfl⟩)))))))), ?_⟩
    refine ⟨fun σ G => (∃ (a : Addr) (N : Str), N ∈ [("TooMany" : Str), "NoNumber"] ∧ (∀ H', Same H H' → Q (.str (wordN N)) H') ∧ σ = [some (.ref k.p), some (.int way), some v, some (.ref a), none, none] ∧ H a = none ∧ G = upd H a (ExN (.ref (Z.xa N)) a)) ∨ (σ = [some (.ref k.p), some (.int way), some v, some .non, none, none] ∧ Q (.str "") G), ?_, fun σ G hM => ?_⟩
    · obtain ⟨dx, hp⟩ := kp.self
      rcases hh with ⟨row, e, fr, hrow, hx, hq⟩ | ⟨g, e, hx, hq⟩
      · injection e with _ e
        injection e with e1 e
        injection e1 with e1
        subst e1
        injection e with e2 _
        subst e2
        refine ⟨.int 0, rfl, rfl, _, rfl, ite2 (fun _ => ?_) (fun z => absurd (decide_eq_true rfl) z)⟩
        refine ⟨.ref k.p, rfl, k.p, dx, _, rfl, hp, kpF3_no_put _ _ _, v, rfl, k, v, cols, th, n, ch, mv, row, rfl, tg, kp, hok, h60, hch, fr, hrow, (fun no => ?_), fun lt H1 sx1 tg1 kp1 => ?_⟩
        · exact ⟨(T.xf.cls "TooMany" (by simp)).le, rfl, fun a na => .inl ⟨a, "TooMany", by simp, hx no, rfl, na, rfl⟩⟩
        · exact .inr ⟨rfl, hq lt H1 sx1 tg1 kp1⟩
      · injection e with _ e
        injection e with e1 e
        injection e1 with e1
        subst e1
        injection e with e2 _
        subst e2
        refine ⟨.int 1, rfl, rfl, _, rfl, ite2 (fun z => absurd (of_decide_eq_true z) (fun y => by injection y with y; exact absurd y (by decide))) (fun _ => ?_)⟩
        refine ⟨.ref k.p, rfl, k.p, dx, _, rfl, hp, kpF3_no_take _ _ _, .int g, rfl, k, cols, th, n, ch, mv, g, rfl, tg, kp, hok, hch, (fun no => ?_), fun m hm em H1 sx1 tg1 kp1 => ?_⟩
        · exact ⟨(T.xf.cls "NoNumber" (by simp)).le, rfl, fun a na => .inl ⟨a, "NoNumber", by simp, hx no, rfl, na, rfl⟩⟩
        · exact .inr ⟨rfl, hq m hm em H1 sx1 tg1 kp1⟩
    rcases hM with ⟨a, N, hN, hq, rfl, na, rfl⟩ | ⟨rfl, hq⟩
    · have X := T.xf.cls N hN
      have kt : ∀ {m : Str}, m ∈ [("TooMany" : Str), "NoNumber", "NoQuestion", "NoRow", "NoText"] → PySem.W.kitOne K (.ref (Z.xa N)) (.ref (Z.xa m)) = some (N == m) := fun {m} hm => T.xf.kit N hN m hm
      have kt1 : ∀ {m : Str}, m ∈ [("TooMany" : Str), "NoNumber", "NoQuestion", "NoRow", "NoText"] → ∃ cv : Value, (∀ u, RelV (.ref (Z.xa m)) u → u = cv) ∧ PySem.W.kitOne K (.ref (Z.xa N)) cv = some (N == m) := fun {m} hm => ⟨.ref (Z.xa m), fun u r => r, kt hm⟩
      have hG : (upd H a (ExN (.ref (Z.xa N)) a)) a = some (ExN (.ref (Z.xa N)) a) := upd_same
      have sm0 := Same.new (o := ExN (.ref (Z.xa N)) a) (Same.refl H) na
      generalize upd H a (ExN (.ref (Z.xa N)) a) = G at hG sm0 ⊢
      refine ⟨.ref a, rfl, rfl, _, rfl, ite2 (fun z => absurd (of_decide_eq_true z) (fun y => nomatch y)) (fun _ => ?_)⟩
      refine ⟨.ref a, rfl, a, Z.xa N, _, _, rfl, hG, X.ex, .inl (kt1 (by simp)), .ref a, rfl, a, Z.xa N, _, _, rfl, hG, X.ex, .inl (kt1 (by simp)), (by show 2 ≤ sizeLine; decide), fun l1 nl1 => ?_⟩
      have sm1 := Same.new (o := .lst [.bl (N == "TooMany"), .bl (N == "NoNumber")]) sm0 nl1
      have hG1 := keep_new (o := .lst [.bl (N == "TooMany"), .bl (N == "NoNumber")]) hG nl1
      have hl1 : (upd G l1 (.lst [.bl (N == "TooMany"), .bl (N == "NoNumber")])) l1 = some (.lst [.bl (N == "TooMany"), .bl (N == "NoNumber")]) := upd_same
      generalize upd G l1 (.lst [.bl (N == "TooMany"), .bl (N == "NoNumber")]) = G1 at sm1 hG1 hl1 ⊢
      refine ⟨.ref a, rfl, (by show 3 ≤ sizeLine; decide), fun t nt => ?_⟩
      have sm2 := Same.new (o := .tup [.ref (Z.xa "NoQuestion"), .ref (Z.xa "NoRow"), .ref (Z.xa "NoText")]) sm1 nt
      have hG2 := keep_new (o := .tup [.ref (Z.xa "NoQuestion"), .ref (Z.xa "NoRow"), .ref (Z.xa "NoText")]) hG1 nt
      have hl2 := keep_new (o := .tup [.ref (Z.xa "NoQuestion"), .ref (Z.xa "NoRow"), .ref (Z.xa "NoText")]) hl1 nt
      have ht2 : (upd G1 t (.tup [.ref (Z.xa "NoQuestion"), .ref (Z.xa "NoRow"), .ref (Z.xa "NoText")])) t = some (.tup [.ref (Z.xa "NoQuestion"), .ref (Z.xa "NoRow"), .ref (Z.xa "NoText")]) := upd_same
      generalize upd G1 t (.tup [.ref (Z.xa "NoQuestion"), .ref (Z.xa "NoRow"), .ref (Z.xa "NoText")]) = G2 at sm2 hG2 hl2 ht2 ⊢
      have hN2 : N = "TooMany" ∨ N = "NoNumber" := by simpa using hN
      have any : PySem.W.kitAny K (.ref (Z.xa N)) [.ref (Z.xa "NoQuestion"), .ref (Z.xa "NoRow"), .ref (Z.xa "NoText")] = some false := by
        unfold PySem.W.kitAny PySem.W.kitAny PySem.W.kitAny PySem.W.kitAny
        rw [kt (by simp), kt (by simp), kt (by simp)]
        rcases hN2 with rfl | rfl <;> rfl
      refine ⟨a, Z.xa N, .ref t, false, rfl, hG2, X.ex, .inr ⟨t, _, [.ref (Z.xa "NoQuestion"), .ref (Z.xa "NoRow"), .ref (Z.xa "NoText")], rfl, ht2, fun us r => ?_, any⟩, false, rfl, iteF ?_⟩
      · cases r with
        | cons r1 r2 => cases r2 with
          | cons r3 r4 => cases r4 with
            | cons r5 r6 =>
              cases r6
              cases r1
              cases r3
              cases r5
              rfl
      refine ⟨.ref a, rfl, a, Z.xa N, .ty "ValueError", true, rfl, hG2, X.ex, .inl ⟨.type "ValueError", fun u r => r, X.ve⟩, true, rfl, iteF ?_⟩
      refine fun p np => ⟨(by show 2 ≤ sizeLine; decide), fun t1 nt1 => ⟨(by show 2 ≤ sizeLine; decide), fun t2 nt2 => ?_⟩⟩
      have smP : Same G2 (upd G2 p (dicS w p [])) := Same.new (Same.refl G2) np
      have hp0 : (upd G2 p (dicS w p [])) p = some (dicS w p []) := upd_same
      have nT2 : t2 ≠ p := fun z => by
        rw [z, keep_new hp0 nt1] at nt2
        cases nt2
      have nT1 : t1 ≠ p := fun z => by
        rw [z, hp0] at nt1
        cases nt1
      have h1 : (upd (upd (upd G2 p (dicS w p [])) t1 (.tup [.bl true, .bl false])) t2 (.tup [.bl false, .bl true])) t1 = some (.tup ([true, false].map V.bl)) := keep_new upd_same nt2
      have h2 : (upd (upd (upd G2 p (dicS w p [])) t1 (.tup [.bl true, .bl false])) t2 (.tup [.bl false, .bl true])) t2 = some (.tup ([false, true].map V.bl)) := upd_same
      have h3 : (upd (upd (upd G2 p (dicS w p [])) t1 (.tup [.bl true, .bl false])) t2 (.tup [.bl false, .bl true])) p = some (dicS w p []) := keep_new (keep_new hp0 nt1) nt2
      have sm3 : Same G2 (upd (upd (upd G2 p (dicS w p [])) t1 (.tup [.bl true, .bl false])) t2 (.tup [.bl false, .bl true])) := Same.new (Same.new smP nt1) nt2
      generalize upd (upd (upd G2 p (dicS w p [])) t1 (.tup [.bl true, .bl false])) t2 (.tup [.bl false, .bl true]) = G3 at h1 h2 h3 sm3 ⊢
      refine ⟨h3, [true, false], [false, true], t1, t2, "many", "number", rfl, .inl h1, .inl h2, by decide, ?_⟩
      have hd4 : (upd G3 p (dicS w p [([true, false], t1, "many"), ([false, true], t2, "number")])) p = some (dicS w p [([true, false], t1, "many"), ([false, true], t2, "number")]) := upd_same
      have k1 := keep_ne (o := dicS w p [([true, false], t1, "many"), ([false, true], t2, "number")]) h1 nT1
      have k2 := keep_ne (o := dicS w p [([true, false], t1, "many"), ([false, true], t2, "number")]) h2 nT2
      have sm4 : Same G2 (upd G3 p (dicS w p [([true, false], t1, "many"), ([false, true], t2, "number")])) := Same.mut sm3 np
      generalize upd G3 p (dicS w p [([true, false], t1, "many"), ([false, true], t2, "number")]) = G4 at hd4 k1 k2 sm4 ⊢
      have ks : ∀ {G' : Hp}, Same G4 G' → KeysS G' [([true, false], t1, "many"), ([false, true], t2, "number")] := fun sm x hx => by
        simp only [List.mem_cons, List.not_mem_nil, or_false] at hx
        rcases hx with rfl | rfl
        · exact .inl (sm _ _ k1)
        · exact .inl (sm _ _ k2)
      refine ⟨p, _, rfl, hd4, ks (Same.refl _), .ref l1, rfl, l1, _, rfl, .inl ⟨.inl (.inl (sm4 _ _ hl2)), fun t5 nt5 => ?_⟩⟩
      have sm5 := Same.new (o := .tup [.bl (N == "TooMany"), .bl (N == "NoNumber")]) (Same.refl G4) nt5
      refine ⟨t5, _, [N == "TooMany", N == "NoNumber"], "odd", rfl, rfl, sm5 _ _ hd4, ks sm5, .inl upd_same, ?_⟩
      have ev : (valS [([true, false], t1, "many"), ([false, true], t2, "number")] [N == "TooMany", N == "NoNumber"]).getD "odd" = wordN N := by
        rcases hN2 with rfl | rfl <;> rfl
      rw [ev]
      exact hq _ (Same.trans sm2 (Same.trans sm4 sm5))
    · exact ⟨.non, rfl, rfl, _, rfl, ite2 (fun _ => hq) (fun z => absurd (decide_eq_true rfl) z)⟩

/-! ### _law_state -/
def numsD (l : List Nat) : PyData := .list (l.map fun x : Nat => .int (x : Int))
/-- what is told of some questions -/
inductive ExQ (cols : List Nat) (th : Nmd) (ch : List (List Nat)) : List Qn → List PyData → Prop
  | nil : ExQ cols th ch [] []
  | snoc {qs : List Qn} {ds : List PyData} {q : Qn} {ov : Option (List Nat)} : ExQ cols th ch qs ds → BestOf cols (th.map (·.2)) ch q.1 q.2 ov → ExQ cols th ch (qs ++ [q]) (ds ++ [numsD (fitT cols th q.1 q.2), .int (readN cols (th.map (·.2)) q.1 q.2 ov)])
theorem ExQ.one {cols : List Nat} {th : Nmd} {ch : List (List Nat)} {qs : List Qn} {ds : List PyData} (h : ExQ cols th ch qs ds) : ∀ {qs' : List Qn} {es : List PyData}, ExQ cols th ch qs' es → qs = qs' → ds = es := by
  induction h with
  | nil =>
    intro qs' es g e
    cases g with
    | nil => rfl
    | snoc _ _ => simp at e
  | snoc h b ih =>
    intro qs' es g e
    cases g with
    | nil => simp at e
    | snoc g c =>
      obtain ⟨e1, e2⟩ := List.append_inj' e rfl
      have e3 := List.singleton_inj.mp e2
      subst e3
      rw [ih g e1, (b.like c).2]
theorem ExQ.len {cols : List Nat} {th : Nmd} {ch : List (List Nat)} {qs : List Qn} {ds : List PyData} (h : ExQ cols th ch qs ds) : ds.length = 2 * qs.length := by
  induction h with
  | nil => rfl
  | snoc _ _ ih =>
    rw [List.length_append, List.length_append, ih]
    show _ + 2 = 2 * (_ + 1)
    omega
/-- how a keeper stands, told -/
def IsSt (cols : List Nat) (th : Nmd) (n : Nat) (ch : List (List Nat)) (mv : Int) (c0 : Nat) (x0 : Int) (dd : PyData) : Prop := ∃ (nss : List (List Nat)) (ds : List PyData), Paired (fun o ns => IsOrd cols th o ns) ch nss ∧ ExQ cols th ch [([], none), ([(c0, x0)], none)] ds ∧ dd = .list (nss.map numsD ++ [.int (n : Int), .int mv] ++ ds)
theorem ords_one {cols : List Nat} {th : Nmd} : ∀ {ch nss mss : List (List Nat)}, Paired (fun o ns => IsOrd cols th o ns) ch nss → Paired (fun o ns => IsOrd cols th o ns) ch mss → nss = mss
  | _, _, _, .nil, .nil => rfl
  | _, _, _, .cons a r, .cons b t => by rw [a.same b, ords_one r t]
theorem IsSt.one {cols : List Nat} {th : Nmd} {n : Nat} {ch : List (List Nat)} {mv : Int} {c0 : Nat} {x0 : Int} {dd ee : PyData} (h : IsSt cols th n ch mv c0 x0 dd) (g : IsSt cols th n ch mv c0 x0 ee) : dd = ee := by
  obtain ⟨nss, ds, h1, h2, rfl⟩ := h
  obtain ⟨mss, es, g1, g2, rfl⟩ := g
  rw [ords_one h1 g1, h2.one g2 rfl]
theorem nums_lay (l : List Nat) : PyData.canLay0 (numsD l) = true ∧ PyData.depth (numsD l) ≤ 1 := by
  have key : ∀ l : List Nat, PyData.canLayAll0 (l.map fun x : Nat => PyData.int (x : Int)) = true ∧ PyData.depthAll (l.map fun x : Nat => PyData.int (x : Int)) ≤ 0 := fun l => by
    induction l with
    | nil => exact ⟨rfl, Nat.le_refl _⟩
    | cons x l ih => exact ⟨ih.1, by show max 0 _ ≤ 0; omega⟩
  exact ⟨(key l).1, by show _ + 1 ≤ 1; have := (key l).2; omega⟩
theorem IsSt.shaped {cols : List Nat} {th : Nmd} {n : Nat} {ch : List (List Nat)} {mv : Int} {c0 : Nat} {x0 : Int} {dd : PyData} (h : IsSt cols th n ch mv c0 x0 dd) : SeqAt.shaped dd = true ∧ PyData.canLay0 dd = true := by
  obtain ⟨nss, ds, _, h2, rfl⟩ := h
  have kind : ∀ x ∈ nss.map numsD ++ [PyData.int (n : Int), .int mv] ++ ds, PyData.canLay0 x = true ∧ PyData.depth x ≤ 1 := fun x hx => by
    rcases List.mem_append.mp hx with hx | hx
    · rcases List.mem_append.mp hx with hx | hx
      · obtain ⟨l, _, rfl⟩ := List.mem_map.mp hx
        exact nums_lay l
      · simp only [List.mem_cons, List.not_mem_nil, or_false] at hx
        rcases hx with rfl | rfl
        · exact ⟨rfl, Nat.zero_le _⟩
        · exact ⟨rfl, Nat.zero_le _⟩
    · have key : ∀ {qs : List Qn} {ds : List PyData}, ExQ cols th ch qs ds → ∀ x ∈ ds, PyData.canLay0 x = true ∧ PyData.depth x ≤ 1 := fun {qs ds} h => by
        induction h with
        | nil => exact fun x hx => nomatch hx
        | snoc _ _ ih =>
          intro x hx
          rcases List.mem_append.mp hx with z | z
          · exact ih x z
          · simp only [List.mem_cons, List.not_mem_nil, or_false] at z
            rcases z with rfl | rfl
            · exact nums_lay _
            · exact ⟨rfl, Nat.zero_le _⟩
      exact key h2 x hx
  have all : ∀ xs : List PyData, (∀ x ∈ xs, PyData.canLay0 x = true ∧ PyData.depth x ≤ 1) → PyData.canLayAll0 xs = true ∧ PyData.depthAll xs ≤ 1 := fun xs => by
    induction xs with
    | nil => exact fun _ => ⟨rfl, Nat.zero_le _⟩
    | cons x xs ih =>
      intro h
      obtain ⟨h1, h2⟩ := h x List.mem_cons_self
      obtain ⟨g1, g2⟩ := ih fun y hy => h y (List.mem_cons_of_mem _ hy)
      exact ⟨by show (PyData.canLay0 x && PyData.canLayAll0 xs) = true; rw [h1, g1]; rfl, by show max _ _ ≤ 1; omega⟩
  obtain ⟨a1, a2⟩ := all _ kind
  refine ⟨?_, a1⟩
  unfold SeqAt.shaped
  rw [show PyData.canLay0 (.list (nss.map numsD ++ [PyData.int (n : Int), .int mv] ++ ds)) = true from a1, Bool.true_and]
  exact decide_eq_true (by show PyData.depthAll _ + 1 ≤ 64; omega)
/-- a keeper stands, with the choice that it was made of -/
structure KS (Z : Ad) (H : Hp) (ca : Addr) (k : KAd) (cols : List Nat) (ch : List (List Nat)) (th : Nmd) (n : Nat) (mv : Int) : Prop where
  tg : TG Z.Ps H
  tab : LamX.TabS H Z.P_Kept_ask (lamQ "Kept.ask")
  kp : KeptAt Z.C_Kept Z.C_Rows H k cols th n ch mv
  ok : NmOk cols.length th n
  hca : H ca = some (.tup (ch.map tx))
/-- the places of a keeper and the tables -/
abbrev LQ (Z : Ad) (k : KAd) : List Addr := k.F ++ Z.P_Kept_ask :: Z.Ps
section
variable {H H' : Hp} {ca : Addr} {k : KAd} {cols : List Nat} {ch : List (List Nat)} {th : Nmd} {n : Nat} {mv : Int}
theorem KS.out (s : KS Z H ca k cols ch th n mv) {b : Addr} (e : H b = none) : b ∉ LQ Z k := fun z => (List.mem_append.mp z).elim (s.kp.free (Ps := Z.Ps) e) fun y => by
  obtain ⟨ps, h1, _⟩ := tab_tg s.tab s.tg b y
  rw [e] at h1
  cases h1
theorem KS.offF (s : KS Z H ca k cols ch th n mv) {b : Addr} {o : HO} (e : H b = some o) (n1 : ∀ C dx fs, o ≠ .ins C dx fs) (n2 : ∀ kvs, o ≠ .dK kvs) (n3 : ∀ xs, o ≠ .lst xs) : b ∉ k.F := fun z => by
  obtain ⟨o', g1, g2⟩ := s.kp.at z
  rw [e] at g1
  cases g1
  rcases g2 with ⟨_, _, _, g⟩ | ⟨_, g⟩ | ⟨_, g⟩
  · exact n1 _ _ _ g
  · exact n2 _ g
  · exact n3 _ g
theorem KS.kT (s : KS Z H ca k cols ch th n mv) (sx : Sx (LQ Z k) H H') : KT H H' := by
  have tgP := tab_tg s.tab s.tg
  exact ⟨fun b xs e => sx b _ (fun z => (List.mem_append.mp z).elim (s.offF e (fun _ _ _ z => nomatch z) (fun _ z => nomatch z) (fun _ z => nomatch z)) (tgP.not e fun q z => nomatch z)) e,
    fun b o xs e => sx b _ (fun z => (List.mem_append.mp z).elim (s.offF e (fun _ _ _ z => nomatch z) (fun _ z => nomatch z) (fun _ z => nomatch z)) (tgP.not e fun q z => nomatch z)) e⟩
theorem KS.lst (s : KS Z H ca k cols ch th n mv) (sx : Sx (LQ Z k) H H') {b : Addr} {xs : List V} (nb : b ∉ k.F) (e : H b = some (.lst xs)) : H' b = some (.lst xs) :=
  sx b _ (fun z => (List.mem_append.mp z).elim nb ((tab_tg s.tab s.tg).not e fun q z => nomatch z)) e
theorem KS.asked (s : KS Z H ca k cols ch th n mv) (sx : Sx (Z.P_Kept_ask :: Z.Ps) H H') (tg : TG Z.Ps H') (tab : LamX.TabS H' Z.P_Kept_ask (lamQ "Kept.ask")) : KS Z H' ca k cols ch th n mv := by
  have tgP := tab_tg s.tab s.tg
  have kT := s.kT (sx.more fun b h => List.mem_append_right _ h)
  refine ⟨tg, tab, s.kp.keep (fun b hb o e => sx b o (fun z => ?_) e) kT.1, s.ok, kT.1 _ _ s.hca⟩
  obtain ⟨o', g1, g2⟩ := s.kp.at hb
  refine tgP.not g1 (fun q e => ?_) z
  rw [e] at g2
  rcases g2 with ⟨_, _, _, g⟩ | ⟨_, g⟩ | ⟨_, g⟩ <;> cases g
theorem KS.same (s : KS Z H ca k cols ch th n mv) (k' : Same H H') : KS Z H' ca k cols ch th n mv := s.asked (Same.sx k') (s.tg.same k') (tab_same s.tab k')
theorem StK.ks {H0 : Hp} {r d : Addr} (s : StK Z H0 r d ca k cols ch H th n mv) : KS Z H ca k cols ch th n mv := ⟨s.tg, s.tab, s.o.kp, s.o.ok, s.hca⟩
theorem StK.of {H0 : Hp} {r d : Addr} (s : StK Z H0 r d ca k cols ch H th n mv) (sx : Sx (Z.P_Kept_ask :: Z.Ps) H H') (g : KS Z H' ca k cols ch th n mv) : StK Z H0 r d ca k cols ch H' th n mv := s.asked sx g.tg g.tab
end
theorem sxQ {Z : Ad} {k : KAd} {H H' : Hp} (sx : Sx (Z.P_Kept_ask :: Z.Ps) H H') : Sx (LQ Z k) H H' := sx.more fun b h => List.mem_append_right _ h
theorem nums_fl {L : List Addr} {H : Hp} : ∀ l : List Nat, FlA L H (l.map nV) (l.map fun x : Nat => PyData.int (x : Int))
  | [] => .nil
  | _ :: l => .cons (.int _) (nums_fl l)
def spState41 (K : PySem.W.Frag) (Z : Ad) : Sp := fun vs H Q _ => ∃ (ca : Addr) (k : KAd) (cols : List Nat) (ch : List (List Nat)) (th : Nmd) (n : Nat) (mv : Int) (rv : V) (row : List Int) (c0 : Nat) (x0 : Int), vs = [.ref k.p, tx cols, .ref ca, rv] ∧ KS Z H ca k cols ch th n mv ∧ th.length ≤ 60 ∧ ChL cols ch ∧ Fz H rv (rowD row) ∧ RowOk cols.length row ∧ cols[0]? = some c0 ∧ row[0]? = some x0 ∧ cols.length ≤ 1000 ∧
  ∀ (t : Addr) (dd : PyData) (H' : Hp), KS Z H' ca k cols ch th n mv → Sx (Z.P_Kept_ask :: Z.Ps) H H' → H t = none → IsSt cols th n ch mv c0 x0 dd → Fl (LQ Z k) H' (.ref t) dd → Q (.ref t) H'
set_option maxHeartbeats 4000000 in
theorem ok_state41 (T : Tx K mg Z) (TB : Tb base mg Z) : FnOk P w K mg base CX0 8 Z.f_l_state Z.d_l_state ["kept", "columns", "choice", "row"] (spState41 K Z) := by
  have G_Kept_sorted_by : FnOk P w K mg base CX0 1 Z.f_Kept_sorted_by Z.d_Kept_sorted_by ["self", "one"] (spSortedBy K Z) := ok_sortedby T
  have G_Kept_moved : FnOk P w K mg base CX0 1 Z.f_Kept_moved Z.d_Kept_moved ["self"] (spMoved K Z) := ok_moved T
  have G_Kept_next_number : FnOk P w K mg base CX0 1 Z.f_Kept_next_number Z.d_Kept_next_number ["self"] (spNext K Z) := ok_next T
  have G_Kept_ask : FnOk P w K mg base CX0 7 Z.f_Kept_ask Z.d_Kept_ask ["self", "question"] (spKeptAsk K Z) := ok_keptask T TB
  refine T.F_l_state.ok sc_l_state (fun vs H Q E h => ?_) (fun cdv A outer s H vs Q E hr h => ?_)
  · obtain ⟨ca, k, cols, ch, th, n, mv, rv, row, c0, x0, rfl, _⟩ := h
    rfl
  · obtain ⟨ca, k, cols, ch, th, n, mv, rv, row, c0, x0, rfl, S, h60, hch, fr, hrow, hc0, hx0, hcn, q⟩ := h
    refine ⟨_, (pss_cons (ps_set (i := 4) sc_l_state.nd rfl (.inl rfl) (pe_op op_cat (pe_lc (own := [("one", 7)]) (tt := tYes) (by rfl) sc_l_state.nd (piT K (pv 2)) (blkOk_by (own := [("one", 7)]) (by kernel_rfl)) (fun _ _ _ _ _ => (pg_name (i := 7) sc_l_state.nd rfl (.inl rfl))) (fun _ _ _ _ _ => pts_nil) (fun _ _ _ _ _ => (pe_callTy (cListSq K) (by rfl) T.m_list (by decide +kernel) (pa_cons (pe_meth (pv 0) T.cl_Kept T.m_Kept_sorted_by G_Kept_sorted_by (hr.mono (by omega)) T.b_Kept_sorted_by .nil pass0 (pa_cons (pv 7) pa_nil)) pa_nil)))) (pe_lst (pa_cons (pe_meth0 (pv 0) T.cl_Kept T.m_Kept_next_number G_Kept_next_number (hr.mono (by omega)) T.b_Kept_next_number .nil pass0) (pa_cons (pe_meth0 (pv 0) T.cl_Kept T.m_Kept_moved G_Kept_moved (hr.mono (by omega)) T.b_Kept_moved .nil pass0) pa_nil)))))
      (pss_cons (ps_for PassesOwn.never rfl (piL K (pe_lst (pa_cons (pe_tup (pa_cons (pe_tupF pa_nil) (pa_cons pe_non pa_nil))) (pa_cons (pe_tup (pa_cons (pe_tupF (pa_cons (pe_tup (pa_cons (pe_ix ix_str (pv 1) pe_int (fun _ _ => rfl)) (pa_cons (pe_ix (ixT K) (pv 3) pe_int (fun _ _ => rfl)) pa_nil))) pa_nil)) (pa_cons pe_non pa_nil))) pa_nil)))) (pg_name (i := 5) sc_l_state.nd rfl (.inl rfl)) (pss_cons (ps_set (i := 6) sc_l_state.nd rfl (.inl rfl) (pe_meth (pv 0) T.cl_Kept T.m_Kept_ask G_Kept_ask (hr.mono (by omega)) T.b_Kept_ask .nil pass0 (pa_cons (pv 5) pa_nil)))
      (pss_one (ps_set (i := 4) sc_l_state.nd rfl (.inl rfl) (pe_op op_cat (pv 4) (pe_lst (pa_cons (pe_callTy (cListSq K) (by rfl) T.m_list (by decide +kernel) (pa_cons (pe_ix (ixT K) (pv 6) pe_int (fun _ _ => rfl)) pa_nil)) (pa_cons (pe_ix (ixT K) (pv 6) pe_int (fun _ _ => rfl)) pa_nil))))))))
      (pss_one (ps_ret (pv 4))))), ?_⟩
    obtain ⟨dx, hp⟩ := S.kp.self
    refine ⟨.ref ca, rfl, ca, rfl, ⟨_, .inl (.inl S.hca)⟩, fun D nD => lc_it (walk_tup (xs := ch.map tx)) (fun i H' => Same H H' ∧ ∃ (us : List V) (nss : List (List Nat)), H' D = some (.lst us) ∧ FlA (D :: LQ Z k) H' us (nss.map numsD) ∧ Paired (fun o ns => IsOrd cols th o ns) (ch.take i) nss)
      ⟨Same.new (Same.refl H) nD, [], [], upd_same, .nil, .nil⟩ (fun i H' _ hP => .inl (.inl (hP.1 _ _ S.hca))) (fun i x H3 H2 hi hP hY => ?_) (fun H1 hP => ?_)⟩
    · obtain ⟨sm, us, nss, hD, fl, pn⟩ := hP
      obtain ⟨rfl, hx⟩ := hY
      rw [List.getElem?_map] at hx
      obtain ⟨o, ho, rfl⟩ := Option.map_eq_some_iff.mp hx
      obtain ⟨hil, hie⟩ := List.getElem?_eq_some_iff.mp ho
      have S2 := S.same sm
      have ul := FtA.len fl
      have pl := Paired.length pn
      rw [List.length_map] at ul
      rw [List.length_take] at pl
      have cl := hch.len
      refine ⟨rfl, .ref k.p, rfl, k.p, dx, _, rfl, sm _ _ hp, kpF3_no_sorted_by _ _ _, tx o, rfl, k, cols, th, n, ch, mv, o, rfl, S2.kp, hch.nd, List.mem_of_getElem? ho, fun L0 ns H4 sm4 nL0 hL0 ord => ?_⟩
      refine ⟨L0, _, rfl, .inl (.inl (.inl hL0)), fun L nL => ?_⟩
      have sm5 := Same.new (o := .lst (ns.map nV)) sm4 nL
      have hD5 := sm5 _ _ hD
      have nLK : L ∉ D :: LQ Z k := fun z => (List.mem_cons.mp z).elim (fun z => by
        rw [z, sm4 _ _ hD] at nL
        cases nL) ((S2.same sm4).out nL)
      have f5 : Fl (D :: LQ Z k) (upd H4 L (.lst (ns.map nV))) (.ref L) (numsD ns) := Fl.newL nLK nL (nums_fl ns)
      have fl5 := fl.same sm5
      generalize upd H4 L (.lst (ns.map nV)) = H5 at sm5 hD5 f5 fl5 ⊢
      have nD0 := S.out nD
      refine ⟨us, hD5, small1000 (by omega), Same.mut (Same.trans sm sm5) nD, us ++ [.ref L], nss ++ [ns], upd_same, ?_, ?_⟩
      · rw [List.map_append]
        have kd : Kp D H5 (upd H5 D (.lst (us ++ [.ref L]))) := Kp.own Kp.rfl'
        exact FlA.app (fl5.kp kd List.mem_cons_self) (.cons (f5.kp kd List.mem_cons_self) .nil)
      · rw [List.take_succ_eq_append_getElem hil, hie]
        exact paired_snocP ord pn
    obtain ⟨sm1, us, nss, hD, fl1, pn⟩ := hP
    rw [List.length_map, List.take_of_length_le (Nat.le_refl _)] at pn
    have cl := hch.len
    have ul := FtA.len fl1
    have pl := Paired.length pn
    rw [List.length_map] at ul
    have S1 := S.same sm1
    have hp1 := sm1 _ _ hp
    refine ⟨.ref k.p, rfl, k.p, dx, _, rfl, hp1, kpF3_no_next_number _ _ _, k, cols, th, n, ch, mv, rfl, S1.kp, .ref k.p, rfl, k.p, dx, _, rfl, hp1, kpF3_no_moved _ _ _, k, cols, th, n, ch, mv, rfl, S1.kp, (by show 2 ≤ sizeLine; decide), fun M nM => ?_⟩
    have smM := Same.new (o := .lst [.int (n : Int), .int mv]) sm1 nM
    have smM1 := Same.new (o := .lst [.int (n : Int), .int mv]) (Same.refl H1) nM
    have hM : (upd H1 M (.lst [.int (n : Int), .int mv])) M = some (.lst [.int (n : Int), .int mv]) := upd_same
    have hD2 := smM1 _ _ hD
    have fl2 := fl1.same smM1
    generalize upd H1 M (.lst [.int (n : Int), .int mv]) = H2 at smM smM1 hM hD2 fl2 ⊢
    refine ⟨D, M, us, _, rfl, rfl, hD2, hM, ?_, fun N nN => ?_⟩
    · show us.length + 2 ≤ sizeLine
      exact Nat.le_of_lt (small1000 (by omega))
    have smN := Same.new (o := .lst (us ++ [.int (n : Int), .int mv])) smM nN
    have hN : (upd H2 N (.lst (us ++ [.int (n : Int), .int mv]))) N = some (.lst (us ++ [.int (n : Int), .int mv])) := upd_same
    have S2 := S.same smM
    have nNK := S2.out nN
    have fl3 : FlA (LQ Z k) (upd H2 N (.lst (us ++ [.int (n : Int), .int mv]))) (us ++ [.int (n : Int), .int mv]) (nss.map numsD ++ [.int (n : Int), .int mv]) := FlA.app ((fl2.sub fun b hb => List.mem_cons_of_mem _ hb).same (Same.new (Same.refl H2) nN)) (.cons (.int _) (.cons (.int _) .nil))
    have nN0 : H N = none := Same.free smM nN
    have S3 := S.same smN
    generalize upd H2 N (.lst (us ++ [.int (n : Int), .int mv])) = H3 at smN hN fl3 S3 ⊢
    clear fl1 fl2 hD hD2 hM smM smM1 S1 S2 sm1 nM
    obtain ⟨ra, rfl, hra⟩ := row_open fr
    have hra3 := smN _ _ hra
    have c0m : c0 ∈ cols := List.mem_of_getElem? hc0
    have x0m : x0 ∈ row := List.mem_of_getElem? hx0
    have cpos : 0 < cols.length := List.length_pos_of_mem c0m
    refine ⟨Nat.zero_le _, fun te ob nte hob => ⟨(by show 2 ≤ sizeLine; decide), fun v1 nv1 => ⟨tx cols, rfl, txS cols, 0, c0, rfl, rfl, ?_, ?_, .ref ra, rfl, ra, row.map V.int, 0, .int x0, rfl, rfl, ?_, ?_, (by show 2 ≤ sizeLine; decide), fun p np => ⟨(by show 1 ≤ sizeLine; decide), fun te2 ob2 nte2 hob2 => ⟨(by show 2 ≤ sizeLine; decide), fun v2 nv2 => ⟨(by show 2 ≤ sizeLine; decide), fun QL nQL => ?_⟩⟩⟩⟩⟩⟩
    · have : (txS cols).length = cols.length := by simp [Str.length]
      rw [this]
      exact Nat.le_of_lt (small1000 (by omega))
    · exact atI_nat (j := 0) (show (txS cols).cps.toList[0]? = some c0 by simpa using hc0)
    · exact .inl (.inl (keep_new (keep_new hra3 nte) nv1))
    · exact atI_nat (j := 0) (by rw [List.getElem?_map, hx0]; rfl)
    have f1 : EZ (upd H3 te (.frz ob (.tup []))) (.ref te) [] := EZ.made nte hob .nil
    have sm1 := Same.new (o := .frz ob (.tup [])) (Same.refl H3) nte
    generalize upd H3 te (.frz ob (.tup [])) = G1 at f1 sm1 nv1 np nte2 nv2 nQL ⊢
    have f2 : QZ (upd G1 v1 (.tup [.ref te, .non])) (.ref v1) [] none := QZ.made nv1 f1 .non
    have sm2 := Same.new (o := .tup [.ref te, .non]) sm1 nv1
    generalize upd G1 v1 (.tup [.ref te, .non]) = G2 at f2 sm2 np nte2 nv2 nQL ⊢
    have f3 : Fz (upd G2 p (.tup [sg c0, .int x0])) (.ref p) (eqD (c0, x0)) := Fz.made np (.cons (.str (sS c0)) (.cons (.int _) .nil))
    have sm3 := Same.new (o := .tup [sg c0, .int x0]) sm2 np
    have f2' := f2.kT (KT.new (o := .tup [sg c0, .int x0]) np)
    generalize upd G2 p (.tup [sg c0, .int x0]) = G3 at f3 sm3 f2' nte2 nv2 nQL ⊢
    have f4 : EZ (upd G3 te2 (.frz ob2 (.tup [.ref p]))) (.ref te2) [(c0, x0)] := EZ.made nte2 hob2 (.cons f3 .nil)
    have sm4 := Same.new (o := .frz ob2 (.tup [.ref p])) sm3 nte2
    have f2'' := f2'.kT (KT.new (o := .frz ob2 (.tup [.ref p])) nte2)
    generalize upd G3 te2 (.frz ob2 (.tup [.ref p])) = G4 at f4 sm4 f2'' nv2 nQL ⊢
    have f5 : QZ (upd G4 v2 (.tup [.ref te2, .non])) (.ref v2) [(c0, x0)] none := QZ.made nv2 f4 .non
    have sm5 := Same.new (o := .tup [.ref te2, .non]) sm4 nv2
    have f6 := f2''.kT (KT.new (o := .tup [.ref te2, .non]) nv2)
    generalize upd G4 v2 (.tup [.ref te2, .non]) = G5 at f5 sm5 f6 nQL ⊢
    have qa6 : QA (upd G5 QL (.lst [.ref v1, .ref v2])) [.ref v1, .ref v2] [([], none), ([(c0, x0)], none)] := .cons (f6.kT (KT.new nQL)) (.cons (f5.kT (KT.new nQL)) .nil)
    have sm6 := Same.new (o := .lst [.ref v1, .ref v2]) sm5 nQL
    have hQL : (upd G5 QL (.lst [.ref v1, .ref v2])) QL = some (.lst [.ref v1, .ref v2]) := upd_same
    have nQK : QL ∉ LQ Z k := (S3.same sm5).out nQL
    generalize upd G5 QL (.lst [.ref v1, .ref v2]) = G6 at qa6 sm6 hQL ⊢
    clear f1 f2 f2' f2'' f3 f4 f5 f6 sm1 sm2 sm3 sm4 sm5 nv1 np nte nte2 nv2 nQL hob hob2
    have S6 := S3.same sm6
    have fl6 := fl3.same sm6
    have hN6 := sm6 _ _ hN
    have qok : ∀ q ∈ ([([], none), ([(c0, x0)], none)] : List Qn), QOk cols q.1 q.2 ∧ q.1.length ≤ 1 := fun q hq => by
      simp only [List.mem_cons, List.not_mem_nil, or_false] at hq
      rcases hq with rfl | rfl
      · exact ⟨⟨.nil, (fun p h => nomatch h), Nat.zero_le _, fun _ _ _ z => nomatch z⟩, Nat.zero_le _⟩
      · refine ⟨⟨List.pairwise_singleton _ _, fun p hp => ?_, by show 1 ≤ cols.length; omega, fun _ _ _ z => nomatch z⟩, Nat.le_refl _⟩
        rw [List.mem_singleton.mp hp]
        exact ⟨c0m, hrow.2 x0 x0m⟩
    generalize hqq : ([([], none), ([(c0, x0)], none)] : List Qn) = qq at qa6 qok
    have qql : qq.length = 2 := by rw [← hqq]; rfl
    refine ⟨QL, rfl, ⟨_, .inl (.inl hQL)⟩, for_it (walk_list (xs := [.ref v1, .ref v2])) (fun i σ H' => ∃ (N' : Addr) (ws : List V) (es ds : List PyData) (y5 y6 : Option V), σ = [some (.ref k.p), some (tx cols), some (.ref ca), some (.ref ra), some (.ref N'), y5, y6, none] ∧ KS Z H' ca k cols ch th n mv ∧ Sx (Z.P_Kept_ask :: Z.Ps) H H' ∧ Sx (Z.P_Kept_ask :: Z.Ps) G6 H' ∧ H' N' = some (.lst ws) ∧ N' ∉ LQ Z k ∧ H N' = none ∧ FlA (LQ Z k) H' ws (nss.map numsD ++ [.int (n : Int), .int mv] ++ ds) ∧ ExQ cols th ch (qq.take i) ds)
      ⟨N, _, [], [], none, none, rfl, S6, Same.sx (Same.trans smN sm6), Sx.rfl', hN6, nNK, nN0, by rw [List.append_nil]; exact fl6, .nil⟩ (fun i σ H' _ hP => ?_) (fun i x σ H5 H4 hi hP hY => ?_) (fun σ H4 hP => ?_)⟩
    · obtain ⟨_, _, _, _, _, _, _, _, _, sx, _⟩ := hP
      exact .inl (.inl (sx _ _ (fun z => nQK (List.mem_append_right _ z)) hQL))
    · obtain ⟨N', ws, es, ds, y5, y6, rfl, S4, sx4, sxG, hN4, nN4, nNH, fl4, ex⟩ := hP
      obtain ⟨rfl, hx⟩ := hY
      obtain ⟨dx4, hp4⟩ := S4.kp.self
      have hiq : i < qq.length := by
        rw [qql]
        exact hi
      have kT6 := S6.kT (sxG.more fun b h => List.mem_append_right _ h)
      obtain ⟨v, hv, fq⟩ := (qa6.kT kT6).at (List.getElem?_eq_getElem hiq)
      obtain rfl : v = x := Option.some.inj (hv.symm.trans hx)
      obtain ⟨qk, ql⟩ := qok _ (List.getElem_mem hiq)
      have exl := ex.len
      have tk : (qq.take i).length ≤ 2 := by
        rw [List.length_take]
        omega
      have wl := FtA.len fl4
      rw [List.length_append, List.length_append, List.length_map] at wl
      have wl2 : ws.length ≤ 66 := by
        have : ([PyData.int (n : Int), .int mv] : List PyData).length = 2 := rfl
        omega
      refine ⟨.ref k.p, rfl, k.p, dx4, _, rfl, hp4, kpF3_no_ask _ _ _, v, rfl, k, v, cols, th, n, ch, mv, qq[i].1, qq[i].2, rfl, S4.tg, S4.tab, S4.kp, S4.ok, h60, hch, fq, qk, by omega, fun t an ov H7 sx7 tg7 tab7 nt nan ht han best => ?_⟩
      have S7 := S4.asked sx7 tg7 tab7
      have hN7 := S4.lst (sx7.more fun b h => List.mem_append_right _ h) (fun z => nN4 (List.mem_append_left _ z)) hN4
      have fl7 : FlA (LQ Z k) H7 ws (nss.map numsD ++ [.int (n : Int), .int mv] ++ ds) := fl4.sx sx7 fun b h => List.mem_append_right _ h
      refine ⟨.ref N', rfl, .ref t, rfl, t, _, 0, .ref an, rfl, rfl, .inl (.inl ht), rfl, an, _, rfl, .inl (.inl (.inl han)), fun L nL => ?_⟩
      have sm8 := Same.new (o := .lst ((fitT cols th qq[i].1 qq[i].2).map nV)) (Same.refl H7) nL
      have f8 : Fl (LQ Z k) (upd H7 L (.lst ((fitT cols th qq[i].1 qq[i].2).map nV))) (.ref L) (numsD (fitT cols th qq[i].1 qq[i].2)) := Fl.newL (S7.out nL) nL (nums_fl _)
      generalize upd H7 L (.lst ((fitT cols th qq[i].1 qq[i].2).map nV)) = H8 at sm8 f8 ⊢
      refine ⟨.ref t, rfl, t, _, 2, .int _, rfl, rfl, .inl (.inl (sm8 _ _ ht)), rfl, (by show 2 ≤ sizeLine; decide), fun M nM => ?_⟩
      have sm9 := Same.new (o := .lst [.ref L, .int (readN cols (th.map (·.2)) qq[i].1 qq[i].2 ov)]) sm8 nM
      have f9 := f8.same (Same.new (o := .lst [.ref L, .int (readN cols (th.map (·.2)) qq[i].1 qq[i].2 ov)]) (Same.refl H8) nM)
      have hM9 : (upd H8 M (.lst [.ref L, .int (readN cols (th.map (·.2)) qq[i].1 qq[i].2 ov)])) M = some (.lst [.ref L, .int (readN cols (th.map (·.2)) qq[i].1 qq[i].2 ov)]) := upd_same
      generalize upd H8 M (.lst [.ref L, .int (readN cols (th.map (·.2)) qq[i].1 qq[i].2 ov)]) = H9 at sm9 f9 hM9 ⊢
      refine ⟨N', M, ws, _, rfl, rfl, sm9 _ _ hN7, hM9, ?_, fun N2 nN2 => ?_⟩
      · show ws.length + 2 ≤ sizeLine
        exact Nat.le_of_lt (small1000 (by omega))
      have smA := Same.new (o := .lst (ws ++ [.ref L, .int (readN cols (th.map (·.2)) qq[i].1 qq[i].2 ov)])) sm9 nN2
      have sxA : Sx (Z.P_Kept_ask :: Z.Ps) H4 (upd H9 N2 (.lst (ws ++ [.ref L, .int (readN cols (th.map (·.2)) qq[i].1 qq[i].2 ov)]))) := sx7.trans (Same.sx smA)
      have nN2H : H N2 = none := by
        cases e : H N2 with
        | none => rfl
        | some o =>
          have nP : N2 ∉ LQ Z k := (S7.same sm9).out nN2
          have e4 := sx4 _ _ (fun z => nP (List.mem_append_right _ z)) e
          have e7 := sx7 _ _ (fun z => nP (List.mem_append_right _ z)) e4
          rw [sm9 _ _ e7] at nN2
          cases nN2
      refine ⟨N2, _, es, ds ++ [numsD (fitT cols th qq[i].1 qq[i].2), .int (readN cols (th.map (·.2)) qq[i].1 qq[i].2 ov)], _, _, rfl, S7.same smA, sx4.trans sxA, sxG.trans sxA, upd_same, (S7.same sm9).out nN2, nN2H, ?_, ?_⟩
      · rw [← List.append_assoc]
        exact FlA.app (fl7.same smA) (.cons (f9.same (Same.new (Same.refl H9) nN2)) (.cons (.int _) .nil))
      · rw [List.take_succ_eq_append_getElem hiq]
        exact ex.snoc best
    · obtain ⟨N', ws, es, ds, y5, y6, rfl, S4, sx4, sxG, hN4, nN4, nNH, fl4, ex⟩ := hP
      rw [show ([V.ref v1, .ref v2] : List V).length = qq.length by rw [qql]; rfl, List.take_of_length_le (Nat.le_refl _), ← hqq] at ex
      exact ⟨.ref N', rfl, q N' _ H4 S4 sx4 nNH ⟨nss, ds, pn, ex, rfl⟩ (Fl.lst nN4 hN4 fl4)⟩

/-! ### _law_listed -/
theorem fit_all (cols : List Nat) (th : Nmd) : fitT cols th [] none = th.map (·.1) := by
  have e : th.filter (fun x => fitsM cols x.2 [] none) = th := List.filter_eq_self.mpr fun x _ => rfl
  unfold fitT
  rw [e]
theorem best_none {cols : List Nat} {rows : List (List Int)} {ch : List (List Nat)} {ov : Option (List Nat)} (h : BestOf cols rows ch [] none ov) : ov = none := by
  cases ov with
  | none => rfl
  | some o =>
    obtain ⟨_, _, h3⟩ := h
    have ok : QOk cols [] none := ⟨.nil, (fun p h => nomatch h), Nat.zero_le _, fun _ _ _ z => nomatch z⟩
    have hu : usedM o [] none = [] := by
      cases o with
      | nil => rfl
      | cons c o => rfl
    rw [price_nil ok hu] at h3
    omega
theorem shT_ok (l : List Nat) (k : Int) : SeqAt.shaped (.tuple [numsD l, .none, .int k]) = true ∧ PyData.canLay0 (.tuple [numsD l, .none, .int k]) = true := by
  obtain ⟨h1, h2⟩ := nums_lay l
  have h3 : PyData.canLay0 (.tuple [numsD l, .none, .int k]) = true := by
    show (PyData.canLay0 (numsD l) && (true && (true && true))) = true
    rw [h1]
    rfl
  refine ⟨?_, h3⟩
  unfold SeqAt.shaped
  rw [h3, Bool.true_and]
  exact decide_eq_true (by show max (PyData.depth (numsD l)) (max 0 (max 0 0)) + 1 ≤ 64; omega)
/-- the places that a keeper, its reel and its row of rows take -/
abbrev LH0 (Z : Ad) (r d : Addr) (k : KAd) : List Addr := r :: d :: (k.F ++ Z.P_Kept_ask :: Z.Ps)
theorem StK.out {H0 H : Hp} {r d ca : Addr} {k : KAd} {cols : List Nat} {ch : List (List Nat)} {th : Nmd} {n : Nat} {mv : Int} (s : StK Z H0 r d ca k cols ch H th n mv) {b : Addr} (e : H b = none) : b ∉ LH0 Z r d k := fun z => (mem_rdk.mp z).elim (s.free e) fun y => by
  obtain ⟨ps, h1, _⟩ := tab_tg s.tab s.tg b y
  rw [e] at h1
  cases h1
theorem ints_fl {L : List Addr} {H : Hp} : ∀ l : List Int, FlA L H (l.map V.int) (l.map PyData.int)
  | [] => .nil
  | _ :: l => .cons (.int _) (ints_fl l)
def spListed (K : PySem.W.Frag) (Z : Ad) : Sp := fun vs H Q _ => ∃ (H0 : Hp) (r d ca : Addr) (k : KAd) (cols : List Nat) (ch : List (List Nat)) (th : Nmd) (n : Nat) (mv : Int), vs = [.ref k.p, tx cols, .ref d, .ref ca] ∧ StK Z H0 r d ca k cols ch H th n mv ∧ 0 < th.length ∧ th.length ≤ 60 ∧ ChL cols ch ∧ 1 ≤ cols.length ∧ cols.length ≤ 1000 ∧
  ∀ (H' : Hp), StK Z H0 r d ca k cols ch H' th n mv → Sx (Z.P_Kept_ask :: Z.Ps) H H' → Q (.bl true) H'
set_option maxHeartbeats 4000000 in
theorem ok_listed (T : Tx K mg Z) (TB : Tb base mg Z) : FnOk P w K mg base CX0 8 Z.f_l_listed Z.d_l_listed ["kept", "columns", "there", "choice"] (spListed K Z) := by
  have G_Kept_sorted_by : FnOk P w K mg base CX0 1 Z.f_Kept_sorted_by Z.d_Kept_sorted_by ["self", "one"] (spSortedBy K Z) := ok_sortedby T
  have G_Kept_ask : FnOk P w K mg base CX0 7 Z.f_Kept_ask Z.d_Kept_ask ["self", "question"] (spKeptAsk K Z) := ok_keptask T TB
  have G_l_right : FnOk P w K mg base CX0 3 Z.f_l_right Z.d_l_right ["found", "columns", "there", "choice", "question"] (spKRight K) := ok_kright T
  refine T.F_l_listed.ok sc_l_listed (fun vs H Q E h => ?_) (fun cdv A outer s H vs Q E hr h => ?_)
  · obtain ⟨H0, r, d, ca, k, cols, ch, th, n, mv, rfl, _⟩ := h
    rfl
  · obtain ⟨H0, r, d, ca, k, cols, ch, th, n, mv, rfl, S, h0, h60, hch, hc1, hcn, q⟩ := h
    refine ⟨_, (pss_cons (ps_if (pt_cmpR (neDK K hr.units) (pe_meth (pv 0) T.cl_Kept T.m_Kept_ask G_Kept_ask (hr.mono (by omega)) T.b_Kept_ask .nil pass0 (pa_cons (pe_tup (pa_cons (pe_tupF pa_nil) (pa_cons pe_non pa_nil))) pa_nil)) (pe_tup (pa_cons (pe_callB (call_sortedDI rfl) (by rfl) T.m_sorted (by decide +kernel) (pa_cons (pv 2) pa_nil)) (pa_cons pe_non (pa_cons (pe_callB call_lenD (by rfl) T.m_len (by decide +kernel) (pa_cons (pv 2) pa_nil)) pa_nil)))) (nomark _)) (pss_one (ps_ret pe_bl)) pss_nil)
      (pss_cons (ps_set (i := 4) sc_l_listed.nd rfl (.inl rfl) (pe_ix (ixT K) (pe_dget (hu_of hr) (pv 2) (pe_ix (ixL K) (pe_callB (call_sortedDI rfl) (by rfl) T.m_sorted (by decide +kernel) (pa_cons (pv 2) pa_nil)) (pe_op op_fdiv (pe_callB call_lenD (by rfl) T.m_len (by decide +kernel) (pa_cons (pv 2) pa_nil)) pe_int) (fun _ _ => rfl)) (fun _ _ => rfl)) pe_int (fun _ _ => rfl)))
      (pss_cons (ps_for PassesOwn.never rfl (piL K (pe_lst (pa_cons (pe_tup (pa_cons (pe_tupF (pa_cons (pe_tup (pa_cons (pe_ix ix_str (pv 1) pe_int (fun _ _ => rfl)) (pa_cons (pv 4) pa_nil))) pa_nil)) (pa_cons pe_non pa_nil))) (pa_cons (pe_tup (pa_cons (pe_tupF pa_nil) (pa_cons (pe_tup (pa_cons (pe_ix ix_str (pv 1) pe_int (fun _ _ => rfl)) (pa_cons pe_int (pa_cons (pv 4) pa_nil)))) pa_nil))) pa_nil)))) (pg_name (i := 5) sc_l_listed.nd rfl (.inl rfl)) (pss_one (ps_if (pt_not (pt_val (pe_call G_l_right (hr.mono (by omega)) (by rfl) T.g_l_right T.F_l_right.kp T.b_l_right .nil pass0 (pa_cons (pe_meth (pv 0) T.cl_Kept T.m_Kept_ask G_Kept_ask (hr.mono (by omega)) T.b_Kept_ask .nil pass0 (pa_cons (pv 5) pa_nil)) (pa_cons (pv 1) (pa_cons (pv 2) (pa_cons (pv 3) (pa_cons (pv 5) pa_nil)))))))) (pss_one (ps_ret pe_bl)) pss_nil)))
      (pss_cons (ps_for PassesOwn.never rfl (piT K (pv 3)) (pg_name (i := 6) sc_l_listed.nd rfl (.inr rfl)) (pss_cons (ps_lock (ps_setLc (i := 7) (own := [("number", 4)]) (tt := tYes) (by rfl) sc_l_listed.nd rfl rfl (sw_true rfl rfl rfl (by decide +kernel)) (pi_keys (pv 2)) (blkOk_by (own := [("number", 4)]) (by kernel_rfl)) (fun _ _ _ _ _ => (pg_name (i := 4) sc_l_listed.nd rfl (.inr rfl))) (fun _ _ _ _ _ => pts_nil) (fun _ _ _ _ _ => (pe_tup (pa_cons (pe_lc (own := [("letter", 9)]) (tt := tYes) (by rfl) sc_l_listed.nd (pi_str (pv 6)) (blkOk_by (own := [("letter", 9)]) (by kernel_rfl)) (fun _ _ _ _ _ => (pg_name (i := 9) sc_l_listed.nd rfl (.inl rfl))) (fun _ _ _ _ _ => pts_nil) (fun _ _ _ _ _ => (pe_ix (ixT K) (pe_dget (hu_of hr) (pv 2) (pv 4) (fun _ _ => rfl)) (bmK K PySem.F.plainAttrs_str PySem.F.slot_str_index PySem.F.type_str_index mt_sindex (pv 1) (pa_cons (pv 9) pa_nil)) (fun _ _ => rfl)))) (pa_cons (pv 4) pa_nil))))))
      (pss_one (ps_if (pt_cmpR (neDK K hr.units) (pe_meth (pv 0) T.cl_Kept T.m_Kept_sorted_by G_Kept_sorted_by (hr.mono (by omega)) T.b_Kept_sorted_by .nil pass0 (pa_cons (pv 6) pa_nil)) (pe_lc (own := [("key", 8), ("number", 4)]) (tt := tYes) (by rfl) sc_l_listed.nd (piL K (pe_callB (cSortKy K hr) (by rfl) T.m_sorted (by decide +kernel) (pa_cons (pv 7) pa_nil))) (blkOk_by (own := [("key", 8), ("number", 4)]) (by kernel_rfl)) (fun _ _ _ _ _ => (pgT K (n := 2) (pgs_cons (pg_name (i := 8) sc_l_listed.nd rfl (.inl rfl)) (pgs_cons (pg_name (i := 4) sc_l_listed.nd rfl (.inl rfl)) pgs_nil)))) (fun _ _ _ _ _ => pts_nil) (fun _ _ _ _ _ => (pv 4))) (nomark _)) (pss_one (ps_ret pe_bl)) pss_nil))))
      (pss_one (ps_ret pe_bl)))))), ?_⟩
    obtain ⟨c0, rest, ec⟩ : ∃ c0 rest, cols = c0 :: rest := List.exists_cons_of_length_pos hc1
    have c0m : c0 ∈ cols := by rw [ec]; exact List.mem_cons_self
    have hc0 : L2.atI (txS cols).cps.toList 0 = some c0 := by
      rw [ec]
      exact atI_nat (j := 0) (show (txS (c0 :: rest)).cps.toList[0]? = some c0 by simp)
    obtain ⟨dx, hp⟩ := S.o.kp.self
    have keyE : ∀ {kvs : List (Key × V)} {G : Hp}, NmK G kvs th → kvs.map (·.1) = ((th.map (·.1)).map fun x : Nat => (x : Int)).map Sum.inl := fun nm => by
      rw [nm.keys, List.map_map, List.map_map]
      rfl
    have keyL : ((th.map (·.1)).map fun x : Nat => (x : Int)).length < 64 := by
      rw [List.length_map, List.length_map]
      omega
    have hok := S.o.ok
    have sortE : ∀ {ys : List Int}, ys.Perm ((th.map (·.1)).map fun x : Nat => (x : Int)) → ys.Pairwise (· ≤ ·) → ys = (th.map (·.1)).map fun x : Nat => (x : Int) := fun hperm hso => by
      refine ints_one hso ?_ hperm
      rw [List.pairwise_map]
      exact hok.up.imp fun {a b} z => by omega
    -- all rows
    refine ⟨.ref k.p, rfl, k.p, dx, _, rfl, hp, kpF3_no_ask _ _ _, Nat.zero_le _, fun te ob nte hob => ⟨(by show 2 ≤ sizeLine; decide), fun v nv => ?_⟩⟩
    have f1 : EZ (upd H te (.frz ob (.tup []))) (.ref te) [] := EZ.made nte hob .nil
    have sm1 := Same.new (o := .frz ob (.tup [])) (Same.refl H) nte
    generalize upd H te (.frz ob (.tup [])) = G1 at f1 sm1 nv ⊢
    have f2 : QZ (upd G1 v (.tup [.ref te, .non])) (.ref v) [] none := QZ.made nv f1 .non
    have sm2 := Same.new (o := .tup [.ref te, .non]) sm1 nv
    generalize upd G1 v (.tup [.ref te, .non]) = G2 at f2 sm2 ⊢
    have S2 := S.same sm2
    have qok0 : QOk cols [] none := ⟨.nil, (fun p h => nomatch h), Nat.zero_le _, fun _ _ _ z => nomatch z⟩
    refine ⟨k, .ref v, cols, th, n, ch, mv, [], none, rfl, S2.tg, S2.tab, S2.o.kp, hok, h60, hch, f2, qok0, Nat.zero_le _, fun t an ov H3 sx3 tg3 tab3 nt nan ht han best => ?_⟩
    obtain rfl := best_none best
    rw [fit_all] at han
    have S3 := S2.asked sx3 tg3 tab3
    have sxA : Sx (Z.P_Kept_ask :: Z.Ps) H H3 := (Same.sx sm2).trans sx3
    obtain ⟨kvs, hd3, nm3⟩ := S3.o.dd
    have hkl := nm3.len
    refine ⟨.ref d, rfl, d, kvs, (th.map (·.1)).map fun x : Nat => (x : Int), rfl, .inl hd3, keyE nm3, keyL, fun ys N hperm hso nN => ?_⟩
    rw [sortE hperm hso, ← nV_map]
    have sm4 := Same.new (o := .lst ((th.map (·.1)).map nV)) (Same.refl H3) nN
    have hN4 : (upd H3 N (.lst ((th.map (·.1)).map nV))) N = some (.lst ((th.map (·.1)).map nV)) := upd_same
    generalize upd H3 N (.lst ((th.map (·.1)).map nV)) = H4 at sm4 hN4 ⊢
    refine ⟨.ref d, rfl, d, kvs, rfl, sm4 _ _ hd3, (by show 3 ≤ sizeLine; decide), fun t2 nt2 => ?_⟩
    have sm5 := Same.new (o := .tup [.ref N, .non, .int (kvs.length : Nat)]) (Same.refl H4) nt2
    have ht2 : (upd H4 t2 (.tup [.ref N, .non, .int (kvs.length : Nat)])) t2 = some (.tup [.ref N, .non, .int (kvs.length : Nat)]) := upd_same
    generalize upd H4 t2 (.tup [.ref N, .non, .int (kvs.length : Nat)]) = H5 at sm5 ht2 ⊢
    have sm35 := Same.trans sm4 sm5
    have readE : readN cols (th.map (·.2)) [] none none = (kvs.length : Nat) := by
      show (((th.map (·.2)).length : Nat) : Int) = _
      rw [List.length_map, hkl]
    refine ⟨.tuple [numsD (th.map (·.1)), .none, .int (kvs.length : Nat)], .tuple [numsD (th.map (·.1)), .none, .int (kvs.length : Nat)], .tup (.inl (.inl (sm35 _ _ ht))) (.cons (.lst (.inl (.inl (sm35 _ _ han))) (dp_nums _)) (.cons .non (.cons ?_ .nil))), .tup (.inl (.inl ht2)) (.cons (.lst (.inl (.inl (sm5 _ _ hN4))) (dp_nums _)) (.cons .non (.cons (.int _) .nil))), ?_, ?_, _, rfl, ite2 (fun z => ?_) fun _ => ?_⟩
    · rw [readE]
      exact .int _
    · exact (shT_ok _ _).1
    · exact (shT_ok _ _).1
    · rw [SeqAt.eqv_refl _ (shT_ok (th.map (·.1)) (kvs.length : Nat)).2] at z
      cases z
    have S5 := S3.same sm35
    have sxB := sxA.trans (Same.sx sm35)
    have hd5 := sm35 _ _ hd3
    have nm5 := nm3.kt (Same.kt sm35)
    clear f1 f2 sm1 sm2 nte nv S2 S3 sxA nt nan ht han tg3 tab3 sx3 sm4 hN4 nN sm5 ht2 nt2 sm35 hd3 nm3
    -- a number
    obtain ⟨m, row, hmid⟩ : ∃ m row, th[th.length / 2]? = some (m, row) := ⟨_, _, List.getElem?_eq_getElem (by omega)⟩
    have hmem := List.mem_of_getElem? hmid
    obtain ⟨rv, hrv, frv⟩ := nm5.at' hok.nd hmem
    obtain ⟨ra, rfl, hra⟩ := row_open frv
    have hrow := hok.row _ hmem
    have rl : row.length = cols.length := hrow.1
    obtain ⟨x0, xr, ex⟩ : ∃ x0 xr, row = x0 :: xr := List.exists_cons_of_length_pos (by omega)
    have x0m : x0 ∈ row := by rw [ex]; exact List.mem_cons_self
    refine ⟨.ref d, rfl, .ref d, rfl, d, kvs, (th.map (·.1)).map fun x : Nat => (x : Int), rfl, .inl hd5, keyE nm5, keyL, fun ys N hperm hso nN => ?_⟩
    rw [sortE hperm hso, ← nV_map]
    have sm6 := Same.new (o := .lst ((th.map (·.1)).map nV)) (Same.refl H5) nN
    have hN6 : (upd H5 N (.lst ((th.map (·.1)).map nV))) N = some (.lst ((th.map (·.1)).map nV)) := upd_same
    generalize upd H5 N (.lst ((th.map (·.1)).map nV)) = H6 at sm6 hN6 ⊢
    refine ⟨.ref d, rfl, d, kvs, rfl, sm6 _ _ hd5, _, _, rfl, rfl, ⟨by decide, by decide⟩, N, _, _, nV m, rfl, rfl, .inl (.inl hN6), ?_, d, .ref ra, rfl, .inl ⟨kvs, nKy m, .inl (sm6 _ _ hd5), rfl, hrv.symm⟩, ra, row.map V.int, 0, .int x0, rfl, rfl, .inl (.inl (sm6 _ _ hra)), by rw [ex]; exact atI_nat (j := 0) rfl, ?_⟩
    · have e : (((kvs.length : Nat) : Int) / 2) = ((th.length / 2 : Nat) : Int) := by
        rw [hkl]
        omega
      rw [e]
      exact atI_nat (by rw [List.getElem?_map, List.getElem?_map, hmid]; rfl)
    -- two questions
    have S6 := S5.same sm6
    have sxC := sxB.trans (Same.sx sm6)
    clear sxB hd5 hN6 nN sm6 nm5 hrv S5
    have cle : (txS cols).length ≤ sizeLine := by
      have : (txS cols).length = cols.length := by simp [Str.length]
      rw [this]
      exact Nat.le_of_lt (small1000 (by omega))
    refine ⟨tx cols, rfl, txS cols, 0, c0, rfl, rfl, cle, hc0, .int x0, rfl, (by show 2 ≤ sizeLine; decide), fun p np => ⟨(by show 1 ≤ sizeLine; decide), fun te ob nte hob => ⟨(by show 2 ≤ sizeLine; decide), fun v1 nv1 => ⟨Nat.zero_le _, fun te2 ob2 nte2 hob2 => ⟨tx cols, rfl, txS cols, 0, c0, rfl, rfl, cle, hc0, .int x0, rfl, (by show 3 ≤ sizeLine; decide), fun p2 np2 => ⟨(by show 2 ≤ sizeLine; decide), fun v2 nv2 => ⟨(by show 2 ≤ sizeLine; decide), fun QL nQL => ?_⟩⟩⟩⟩⟩⟩⟩
    have f3 : Fz (upd H6 p (.tup [sg c0, .int x0])) (.ref p) (eqD (c0, x0)) := Fz.made np (.cons (.str (sS c0)) (.cons (.int _) .nil))
    have sm1 := Same.new (o := .tup [sg c0, .int x0]) (Same.refl H6) np
    generalize upd H6 p (.tup [sg c0, .int x0]) = G1 at f3 sm1 nte nv1 nte2 np2 nv2 nQL ⊢
    have f4 : EZ (upd G1 te (.frz ob (.tup [.ref p]))) (.ref te) [(c0, x0)] := EZ.made nte hob (.cons f3 .nil)
    have sm2 := Same.new (o := .frz ob (.tup [.ref p])) sm1 nte
    generalize upd G1 te (.frz ob (.tup [.ref p])) = G2 at f4 sm2 nv1 nte2 np2 nv2 nQL ⊢
    have f5 : QZ (upd G2 v1 (.tup [.ref te, .non])) (.ref v1) [(c0, x0)] none := QZ.made nv1 f4 .non
    have sm3 := Same.new (o := .tup [.ref te, .non]) sm2 nv1
    generalize upd G2 v1 (.tup [.ref te, .non]) = G3 at f5 sm3 nte2 np2 nv2 nQL ⊢
    have g1 : EZ (upd G3 te2 (.frz ob2 (.tup []))) (.ref te2) [] := EZ.made nte2 hob2 .nil
    have sm4 := Same.new (o := .frz ob2 (.tup [])) sm3 nte2
    have f6 := f5.kT (KT.new (o := .frz ob2 (.tup [])) nte2)
    generalize upd G3 te2 (.frz ob2 (.tup [])) = G4 at g1 sm4 f6 np2 nv2 nQL ⊢
    have g2 : Fz (upd G4 p2 (.tup [sg c0, .int 0, .int x0])) (.ref p2) (rchD (some (c0, 0, x0))) := Fz.made np2 (.cons (.str (sS c0)) (.cons (.int _) (.cons (.int _) .nil)))
    have sm5 := Same.new (o := .tup [sg c0, .int 0, .int x0]) sm4 np2
    have f7 := f6.kT (KT.new (o := .tup [sg c0, .int 0, .int x0]) np2)
    have g3 := g1.kT (KT.new (o := .tup [sg c0, .int 0, .int x0]) np2)
    generalize upd G4 p2 (.tup [sg c0, .int 0, .int x0]) = G5 at g2 g3 sm5 f7 nv2 nQL ⊢
    have g4 : QZ (upd G5 v2 (.tup [.ref te2, .ref p2])) (.ref v2) [] (some (c0, 0, x0)) := QZ.made nv2 g3 g2
    have sm6 := Same.new (o := .tup [.ref te2, .ref p2]) sm5 nv2
    have f8 := f7.kT (KT.new (o := .tup [.ref te2, .ref p2]) nv2)
    generalize upd G5 v2 (.tup [.ref te2, .ref p2]) = G6 at g4 sm6 f8 nQL ⊢
    have qa : QA (upd G6 QL (.lst [.ref v1, .ref v2])) [.ref v1, .ref v2] [([(c0, x0)], none), ([], some (c0, 0, x0))] := .cons (f8.kT (KT.new nQL)) (.cons (g4.kT (KT.new nQL)) .nil)
    have sm7 := Same.new (o := .lst [.ref v1, .ref v2]) sm6 nQL
    have hQL : (upd G6 QL (.lst [.ref v1, .ref v2])) QL = some (.lst [.ref v1, .ref v2]) := upd_same
    have nQK : QL ∉ LH0 Z r d k := (S6.same sm6).out nQL
    generalize upd G6 QL (.lst [.ref v1, .ref v2]) = G7 at qa sm7 hQL ⊢
    clear f3 f4 f5 f6 f7 f8 g1 g2 g3 g4 sm1 sm2 sm3 sm4 sm5 sm6 np nte nv1 nte2 np2 nv2 nQL hob hob2
    have S7 := S6.same sm7
    have sxD := sxC.trans (Same.sx sm7)
    have qok : ∀ q ∈ ([([(c0, x0)], none), ([], some (c0, 0, x0))] : List Qn), QOk cols q.1 q.2 ∧ q.1.length ≤ 1 := fun q hq => by
      simp only [List.mem_cons, List.not_mem_nil, or_false] at hq
      have x0r := hrow.2 x0 x0m
      rcases hq with rfl | rfl
      · refine ⟨⟨List.pairwise_singleton _ _, fun p hp => ?_, hc1, fun _ _ _ z => nomatch z⟩, Nat.le_refl _⟩
        rw [List.mem_singleton.mp hp]
        exact ⟨c0m, x0r⟩
      · refine ⟨⟨.nil, (fun p h => nomatch h), Nat.zero_le _, fun c lo hi e => ?_⟩, Nat.zero_le _⟩
        injection e with e
        injection e with e1 e
        injection e with e2 e3
        subst e1
        subst e2
        subst e3
        exact ⟨c0m, (fun z => nomatch z), Int.le_refl _, x0r.1, x0r.2⟩
    generalize hqq : ([([(c0, x0)], none), ([], some (c0, 0, x0))] : List Qn) = qq at qa qok
    have qql : qq.length = 2 := by rw [← hqq]; rfl
    refine ⟨QL, rfl, ⟨_, .inl (.inl hQL)⟩, for_it (walk_list (xs := [.ref v1, .ref v2])) (fun i σ H' => ∃ (y5 : Option V), σ = [some (.ref k.p), some (tx cols), some (.ref d), some (.ref ca), some (.int x0), y5, none, none, none, none] ∧ StK Z H0 r d ca k cols ch H' th n mv ∧ Sx (Z.P_Kept_ask :: Z.Ps) H H' ∧ Sx (Z.P_Kept_ask :: Z.Ps) G7 H')
      ⟨none, rfl, S7, sxD, Sx.rfl'⟩ (fun i σ H' _ hP => ?_) (fun i x σ H5 H4 hi hP hY => ?_) (fun σ H4 hP => ?_)⟩
    · obtain ⟨_, _, _, _, sx⟩ := hP
      exact .inl (.inl (sx _ _ (fun z => nQK (mem_rdk.mpr (.inr z))) hQL))
    · obtain ⟨y5, rfl, S4, sx4, sxG⟩ := hP
      obtain ⟨rfl, hx⟩ := hY
      obtain ⟨dx4, hp4⟩ := S4.o.kp.self
      have hiq : i < qq.length := by
        rw [qql]
        exact hi
      have kT6 := S7.kT (sxG.more fun b h => mem_rdk.mpr (.inr h))
      obtain ⟨v, hv, fq⟩ := (qa.kT kT6).at (List.getElem?_eq_getElem hiq)
      obtain rfl : v = x := Option.some.inj (hv.symm.trans hx)
      obtain ⟨qk, ql⟩ := qok _ (List.getElem_mem hiq)
      refine ⟨.ref k.p, rfl, k.p, dx4, _, rfl, hp4, kpF3_no_ask _ _ _, v, rfl, k, v, cols, th, n, ch, mv, qq[i].1, qq[i].2, rfl, S4.tg, S4.tab, S4.o.kp, hok, h60, hch, fq, qk, by omega, fun t an ov H7 sx7 tg7 tab7 nt nan ht han best => ?_⟩
      have S8 := S4.asked sx7 tg7 tab7
      have fq7 := fq.kT (S4.kT (sx7.more fun b h => mem_rdk.mpr (.inr h)))
      obtain ⟨kvs8, hd8, nm8⟩ := S8.o.dd
      refine ⟨tx cols, rfl, .ref d, rfl, .ref ca, rfl, v, rfl, t, an, d, ca, v, ov, cols, th, n, ch, qq[i].1, qq[i].2, kvs8, rfl, ht, han, hd8, nm8, hok, h60, S8.hca, hch, hcn, fq7, qk, by omega, best, fun H9 sm9 => ⟨true, rfl, iteF ?_⟩⟩
      exact ⟨_, rfl, S8.same sm9, sx4.trans (sx7.trans (Same.sx sm9)), sxG.trans (sx7.trans (Same.sx sm9))⟩
    obtain ⟨y5, rfl, S4, sx4, _⟩ := hP
    clear S6 S7 sxC sxD sm7 qa
    -- each list
    refine ⟨.ref ca, rfl, ca, rfl, ⟨_, .inl (.inl S4.hca)⟩, for_it (walk_tup (xs := ch.map tx)) (fun i σ H' => ∃ (y4 y5 y6 y7 : Option V), σ = [some (.ref k.p), some (tx cols), some (.ref d), some (.ref ca), y4, y5, y6, y7, none, none] ∧ StK Z H0 r d ca k cols ch H' th n mv ∧ Sx (Z.P_Kept_ask :: Z.Ps) H H')
      ⟨_, _, none, none, rfl, S4, sx4⟩ (fun i σ H' _ hP => ?_) (fun i x σ H6 H5 hi hP hY => ?_) (fun σ H5 hP => ?_)⟩
    · obtain ⟨_, _, _, _, _, S, _⟩ := hP
      exact .inl (.inl S.hca)
    · obtain ⟨y4, y5, y6, y7, rfl, S5, sx5⟩ := hP
      obtain ⟨rfl, hx⟩ := hY
      rw [List.getElem?_map] at hx
      obtain ⟨o, ho, rfl⟩ := Option.map_eq_some_iff.mp hx
      have hom := List.mem_of_getElem? ho
      obtain ⟨ol, oc⟩ := hch.ok o hom
      obtain ⟨kvs, hd5, nm5⟩ := S5.o.dd
      have hkl := nm5.len
      refine ⟨d, .dK kvs, hd5, trivial, fun od => ?_⟩
      have lk := Lock.mk' (od := od) hd5
      generalize upd H5 d (.frz od (.dK kvs)) = HL at lk ⊢
      have nmL := nm5.kt lk.kt.1
      refine ⟨.ref d, rfl, d, od, rfl, .inl ⟨kvs, lk.at', fun M nM => lc_it walk_keys (fun j H' => Same HL H' ∧ ∃ bs : List (V × (Nat × List Int)), H' M = some (.lst (bs.map (·.1))) ∧ bs.map (·.2) = th.take j ∧ ∀ b ∈ bs, Fl [M, d] H' b.1 (kyD cols o b.2))
        ⟨Same.new (Same.refl HL) nM, [], upd_same, rfl, fun b hb => nomatch hb⟩ (fun j H' _ hP => hP.1 _ _ lk.at') (fun j x H7 H6 hj hP hY => ?_) (fun H6 hP => ?_)⟩⟩
      · obtain ⟨sm6, bs, hM6, ebs, fbs⟩ := hP
        obtain ⟨rfl, k0, v0, hkv, rfl⟩ := hY
        obtain ⟨m1, r1, hth, rfl⟩ := nmL.get hkv
        obtain ⟨hjl, hje⟩ := List.getElem?_eq_some_iff.mp hth
        have hmm := List.mem_of_getElem? hth
        obtain ⟨rv1, hrv1, frv1⟩ := nmL.at' hok.nd hmm
        obtain ⟨ra1, rfl, hra1⟩ := row_open frv1
        have hrow1 := hok.row _ hmm
        have bl := congrArg List.length ebs
        rw [List.length_map, List.length_take] at bl
        have nMd : M ≠ d := fun z => by
          rw [z, lk.at'] at nM
          cases nM
        refine ⟨rfl, tx o, rfl, _, rfl, fun L nL => lc_it walk_str (fun i H' => Same H6 H' ∧ H' L = some (.lst (((o.take i).map (rowAt cols r1)).map V.int)))
          ⟨Same.new (Same.refl H6) nL, upd_same⟩ (fun _ _ _ _ => trivial) (fun i x H9 H8 hi hP hY => ?_) (fun H8 hP => ?_)⟩
        · obtain ⟨sm8, hL8⟩ := hP
          obtain ⟨rfl, c, hc, rfl⟩ := hY
          have hc2 : o[i]? = some c := by simpa using hc
          obtain ⟨hil, hie⟩ := List.getElem?_eq_some_iff.mp hc2
          have hcc := oc c (List.mem_of_getElem? hc2)
          obtain ⟨orest, hocc⟩ := ix_one hcc
          have hat := row_at hrow1.1 hcc
          refine ⟨rfl, .ref d, rfl, nV m1, rfl, d, .ref ra1, rfl, .inl ⟨kvs, nKy m1, .inr ⟨od, sm8 _ _ (sm6 _ _ lk.at')⟩, rfl, hrv1.symm⟩, tx cols, rfl, rfl, sg c, rfl, _, _, cols.idxOf c, orest, rfl, rfl, hocc, ra1, _, _, _, rfl, rfl, .inl (.inl (sm8 _ _ (sm6 _ _ hra1))), atI_nat hat, _, hL8, ?_, Same.mut sm8 nL, ?_⟩
          · rw [List.length_map, List.length_map, List.length_take]
            exact small1000 (by omega)
          · rw [upd_same, List.take_succ_eq_append_getElem hil, hie, List.map_append, List.map_append]
            rfl
        obtain ⟨sm8, hL8⟩ := hP
        rw [show (⟨o.toArray⟩ : Str).cps.size = o.length by simp, List.take_of_length_le (Nat.le_refl _)] at hL8
        have nLM : L ∉ [M, d] := fun z => by
          simp only [List.mem_cons, List.not_mem_nil, or_false] at z
          rcases z with z | z
          · rw [z, hM6] at nL
            cases nL
          · rw [z, sm6 _ _ lk.at'] at nL
            cases nL
        have fL : Fl [M, d] H8 (.ref L) (lsD (keyM cols r1 o)) := Fl.lst nLM hL8 (ints_fl _)
        refine ⟨nV m1, rfl, (by show 2 ≤ sizeLine; decide), fun t nt => ?_⟩
        have nt6 : H6 t = none := Same.free sm8 nt
        have ntM : t ∉ [M, d] := fun z => by
          simp only [List.mem_cons, List.not_mem_nil, or_false] at z
          rcases z with z | z
          · rw [z, hM6] at nt6
            cases nt6
          · rw [z, sm6 _ _ lk.at'] at nt6
            cases nt6
        have sm9 := Same.new (o := .tup [.ref L, nV m1]) sm8 nt
        have ft : Fl [M, d] (upd H8 t (.tup [.ref L, nV m1])) (.ref t) (kyD cols o (m1, r1)) := Fl.newT ntM nt (.cons fL (.cons (.int _) .nil))
        generalize upd H8 t (.tup [.ref L, nV m1]) = H9 at sm9 ft ⊢
        have kM : Kp M H9 (upd H9 M (.lst (bs.map (·.1) ++ [.ref t]))) := Kp.own Kp.rfl'
        refine ⟨_, sm9 _ _ hM6, ?_, Same.mut (Same.trans sm6 sm9) nM, bs ++ [(.ref t, (m1, r1))], ?_, ?_, fun b hb => ?_⟩
        · rw [List.length_map]
          exact small1000 (by omega)
        · rw [upd_same, List.map_append]
          rfl
        · rw [List.map_append, ebs, List.take_succ_eq_append_getElem hjl, hje]
          rfl
        · rcases List.mem_append.mp hb with z | z
          · exact ((fbs b z).same sm9).kp kM List.mem_cons_self
          · rw [List.mem_singleton.mp z]
            exact ft.kp kM List.mem_cons_self
      obtain ⟨sm6, bs, hM6, ebs, fbs⟩ := hP
      rw [hkl, List.take_of_length_le (Nat.le_refl _)] at ebs
      refine ⟨sm6 _ _ lk.at', ?_⟩
      have back := lk.back sm6
      have nMd : M ≠ d := fun z => by
        rw [z, lk.at'] at nM
        cases nM
      have hM7 := keep_ne (o := .dK kvs) hM6 nMd
      have kd : Kp d H6 (upd H6 d (.dK kvs)) := Kp.own Kp.rfl'
      have fbs7 : ∀ b ∈ bs, Fl [M, d] (upd H6 d (.dK kvs)) b.1 (kyD cols o b.2) := fun b hb => (fbs b hb).kp kd (by simp)
      generalize upd H6 d (.dK kvs) = H7 at back hM7 fbs7 ⊢
      have S7 := S5.same back
      obtain ⟨dx7, hp7⟩ := S7.o.kp.self
      refine ⟨.ref k.p, rfl, k.p, dx7, _, rfl, hp7, kpF3_no_sorted_by _ _ _, tx o, rfl, k, cols, th, n, ch, mv, o, rfl, S7.o.kp, hch.nd, hom, fun L ns H8 sm8 nL hL ord => ?_⟩
      refine ⟨.ref M, rfl, cols, o, M, bs, rfl, .inl (.inl (sm8 _ _ hM7)), fun b hb => ((fbs7 b hb).same sm8).to.to, fun N nN => ?_⟩
      have perm := List.mergeSort_perm bs (W.dataLe false fun b : V × (Nat × List Int) => kyD cols o b.2)
      have ordB : IsOrd cols th o ((bs.mergeSort (W.dataLe false fun b => kyD cols o b.2)).map (·.2.1)) := ky_ord ebs hok.nd
      have fbs8 : ∀ b ∈ bs.mergeSort (W.dataLe false fun b : V × (Nat × List Int) => kyD cols o b.2), Fl [M, d] H8 b.1 (kyD cols o b.2) := fun b hb => (fbs7 b (perm.mem_iff.mp hb)).same sm8
      have cl : (bs.mergeSort (W.dataLe false fun b : V × (Nat × List Int) => kyD cols o b.2)).length ≤ 60 := by
        rw [perm.length_eq]
        have := congrArg List.length ebs
        rw [List.length_map] at this
        omega
      generalize bs.mergeSort (W.dataLe false fun b : V × (Nat × List Int) => kyD cols o b.2) = cs at ordB fbs8 cl
      have hN9 : (upd H8 N (.lst (cs.map (·.1)))) N = some (.lst (cs.map (·.1))) := upd_same
      have sm9 := Same.new (o := .lst (cs.map (·.1))) (Same.refl H8) nN
      have fbs9 : ∀ b ∈ cs, Fl [M, d] (upd H8 N (.lst (cs.map (·.1)))) b.1 (kyD cols o b.2) := fun b hb => (fbs8 b hb).same sm9
      generalize upd H8 N (.lst (cs.map (·.1))) = H9 at hN9 sm9 fbs9 ⊢
      refine ⟨N, rfl, ⟨_, .inl (.inl hN9)⟩, fun O nO => lc_it (walk_list (xs := cs.map (·.1))) (fun j H' => Same H9 H' ∧ H' O = some (.lst (((cs.take j).map (·.2.1)).map nV)))
        ⟨Same.new (Same.refl H9) nO, upd_same⟩ (fun j H' _ hP => .inl (.inl (hP.1 _ _ hN9))) (fun j x HB HA hj hP hY => ?_) (fun HA hP => ?_)⟩
      · obtain ⟨smA, hOA⟩ := hP
        obtain ⟨rfl, hx9⟩ := hY
        rw [List.getElem?_map] at hx9
        obtain ⟨b, hb, rfl⟩ := Option.map_eq_some_iff.mp hx9
        obtain ⟨hjl, hje⟩ := List.getElem?_eq_some_iff.mp hb
        obtain ⟨t, ys, et, _, ht, fys⟩ := ((fbs9 b (List.mem_of_getElem? hb)).same smA).openT
        obtain ⟨x, y, rfl, _, fy⟩ := fys.two
        obtain rfl : y = .int (b.2.1 : Int) := fy.isInt
        rw [et]
        refine ⟨t, _, rfl, .inl (.inl ht), rfl, x, _, rfl, .int (b.2.1 : Int), [], rfl, rfl, rfl, .int (b.2.1 : Int), rfl, _, hOA, ?_, Same.mut smA nO, ?_⟩
        · rw [List.length_map, List.length_map, List.length_take]
          exact small1000 (by omega)
        · rw [upd_same, List.take_succ_eq_append_getElem hjl, hje, List.map_append, List.map_append]
          rfl
      obtain ⟨smA, hOA⟩ := hP
      rw [List.length_map, List.take_of_length_le (Nat.le_refl _), ← ord.same ordB] at hOA
      have smB := Same.trans sm8 (Same.trans sm9 smA)
      refine ⟨_, _, .lst (.inl (.inl (smA _ _ (sm9 _ _ hL)))) (dp_nums _), .lst (.inl (.inl hOA)) (dp_nums _), shaped_nums _, shaped_nums _, _, rfl, ite2 (fun z => ?_) fun _ => ?_⟩
      · have e1 := (eqv_nums ns ns).mpr rfl
        have z1 : (!PyData.eqv (.list (ns.map fun x : Nat => PyData.int x)) (.list (ns.map fun x : Nat => PyData.int x))) = true := z
        rw [e1] at z1
        cases z1
      · exact ⟨_, _, _, _, rfl, S7.same smB, sx5.trans (Same.sx (Same.trans back smB))⟩
    · obtain ⟨y4, y5, y6, y7, rfl, S5, sx5⟩ := hP
      exact q H5 S5 sx5

/-! ### _law_all_refused -/
def spAllRef (K : PySem.W.Frag) (Z : Ad) : Sp := fun vs H Q _ => ∃ (ca xa : Addr) (k : KAd) (cols : List Nat) (ch : List (List Nat)) (th : Nmd) (n : Nat) (mv : Int) (rv : V) (row : List Int) (c0 : Nat) (x0 : Int) (gs : List Int), vs = [.ref k.p, tx cols, .ref ca, rv, .ref xa] ∧ KS Z H ca k cols ch th n mv ∧ th.length ≤ 60 ∧ ChL cols ch ∧ Fz H rv (rowD row) ∧ RowOk cols.length row ∧ cols[0]? = some c0 ∧ row[0]? = some x0 ∧ cols.length ≤ 1000 ∧ H xa = some (.lst (gs.map V.int)) ∧ xa ∉ k.F ∧ (∀ g ∈ gs, ∀ m ∈ th.map (·.1), g ≠ ((m : Nat) : Int)) ∧
  ∀ (H' : Hp), KS Z H' ca k cols ch th n mv → Sx (Z.P_Kept_ask :: Z.Ps) H H' → Q (.bl true) H'
set_option maxHeartbeats 4000000 in
theorem ok_allref (T : Tx K mg Z) (TB : Tb base mg Z) : FnOk P w K mg base CX0 9 Z.f_l_all_refused Z.d_l_all_refused ["kept", "columns", "choice", "row", "things"] (spAllRef K Z) := by
  have G_l_word : FnOk P w K mg base CX0 5 Z.f_l_word Z.d_l_word ["kept", "way", "thing"] (spWord K Z) := ok_word T TB
  have G_l_state : FnOk P w K mg base CX0 8 Z.f_l_state Z.d_l_state ["kept", "columns", "choice", "row"] (spState41 K Z) := ok_state41 T TB
  refine T.F_l_all_refused.ok sc_l_all_refused (fun vs H Q E h => ?_) (fun cdv A outer s H vs Q E hr h => ?_)
  · obtain ⟨ca, xa, k, cols, ch, th, n, mv, rv, row, c0, x0, gs, rfl, _⟩ := h
    rfl
  · obtain ⟨ca, xa, k, cols, ch, th, n, mv, rv, row, c0, x0, gs, rfl, S, h60, hch, fr, hrow, hc0, hx0, hcn, hxa, nxa, hgs, q⟩ := h
    refine ⟨_, (pss_cons (ps_set (i := 5) sc_l_all_refused.nd rfl (.inl rfl) (pe_call G_l_state (hr.mono (by omega)) (by rfl) T.g_l_state T.F_l_state.kp T.b_l_state .nil pass0 (pa_cons (pv 0) (pa_cons (pv 1) (pa_cons (pv 2) (pa_cons (pv 3) pa_nil))))))
      (pss_cons (ps_for PassesOwn.never rfl (piL K (pv 4)) (pg_name (i := 6) sc_l_all_refused.nd rfl (.inl rfl)) (pss_one (ps_if (PW.pt (pw_or (pt_cmpR op_ne (pe_call G_l_word (hr.mono (by omega)) (by rfl) T.g_l_word T.F_l_word.kp T.b_l_word .nil pass0 (pa_cons (pv 0) (pa_cons pe_int (pa_cons (pv 6) pa_nil)))) pe_str (nomark _)) (pw_or1 (pt_cmpR (neDK K hr.units) (pe_call G_l_state (hr.mono (by omega)) (by rfl) T.g_l_state T.F_l_state.kp T.b_l_state .nil pass0 (pa_cons (pv 0) (pa_cons (pv 1) (pa_cons (pv 2) (pa_cons (pv 3) pa_nil))))) (pv 5) (nomark _))))) (pss_one (ps_ret pe_bl)) pss_nil)))
      (pss_one (ps_ret pe_bl)))), ?_⟩
    refine ⟨.ref k.p, rfl, tx cols, rfl, .ref ca, rfl, rv, rfl, ca, k, cols, ch, th, n, mv, rv, row, c0, x0, rfl, S, h60, hch, fr, hrow, hc0, hx0, hcn, fun t dd H1 S1 sx1 nt isd fd => ?_⟩
    have hxa1 := S.lst (sxQ sx1) nxa hxa
    have kT1 := S.kT (sxQ sx1)
    obtain ⟨sh, ly⟩ := isd.shaped
    have fr1 := fr.kt kT1.1
    refine ⟨.ref xa, rfl, xa, rfl, ⟨_, .inl (.inl hxa1)⟩, for_it (walk_list (xs := gs.map V.int)) (fun i σ H' => ∃ y6 : Option V, σ = [some (.ref k.p), some (tx cols), some (.ref ca), some rv, some (.ref xa), some (.ref t), y6] ∧ KS Z H' ca k cols ch th n mv ∧ Sx (Z.P_Kept_ask :: Z.Ps) H1 H')
      ⟨none, rfl, S1, Sx.rfl'⟩ (fun i σ H' _ hP => ?_) (fun i x σ H3 H2 hi hP hY => ?_) (fun σ H2 hP => ?_)⟩
    · obtain ⟨_, _, _, sx⟩ := hP
      exact .inl (.inl (S1.lst (sxQ sx) nxa hxa1))
    · obtain ⟨y6, rfl, S2, sx2⟩ := hP
      obtain ⟨rfl, hx⟩ := hY
      rw [List.getElem?_map] at hx
      obtain ⟨g, hg, rfl⟩ := Option.map_eq_some_iff.mp hx
      have no := hgs g (List.mem_of_getElem? hg)
      refine ⟨.ref k.p, rfl, .int g, rfl, k, .int g, cols, th, n, ch, mv, S2.tg, S2.kp, S2.ok, h60, hch, .inr ⟨g, rfl, fun _ H4 sm4 => ?_, fun m hm e => absurd e (no m hm)⟩⟩
      refine ⟨rfl, _, rfl, iteF ?_⟩
      have S4 := S2.same sm4
      refine ⟨.ref k.p, rfl, tx cols, rfl, .ref ca, rfl, rv, rfl, ca, k, cols, ch, th, n, mv, rv, row, c0, x0, rfl, S4, h60, hch, (fr1.kt (S1.kT (sxQ sx2)).1).kt (Same.kt sm4), hrow, hc0, hx0, hcn, fun t2 dd2 H5 S5 sx5 nt2 isd2 fd2 => ?_⟩
      obtain rfl := isd.one isd2
      have sxA : Sx (Z.P_Kept_ask :: Z.Ps) H1 H5 := sx2.trans ((Same.sx sm4).trans sx5)
      have fd5 : Fl (LQ Z k) H5 (.ref t) dd := fd.sx sxA fun b h => List.mem_append_right _ h
      refine ⟨.ref t, rfl, dd, dd, fd2.to.to, fd5.to.to, sh, sh, _, rfl, ite2 (fun z => ?_) fun _ => ?_⟩
      · rw [SeqAt.eqv_refl _ ly] at z
        cases z
      · exact ⟨_, rfl, S5, sxA⟩
    · obtain ⟨y6, rfl, S2, sx2⟩ := hP
      exact q H2 S2 (sx1.trans sx2)

/-! ### _law_full_at_once -/
def rowF (m a : Nat) : List Int := (List.range m).map fun s : Nat => (7 * (a : Int) + (s : Int)) % 1000
theorem rowF_ok (m a : Nat) : RowOk m (rowF m a) := by
  refine ⟨by unfold rowF; rw [List.length_map, List.length_range], fun x hx => ?_⟩
  obtain ⟨s, _, rfl⟩ := List.mem_map.mp hx
  omega
def spFull41 (K : PySem.W.Frag) (Z : Ad) : Sp := fun vs H Q _ => ∃ (ca : Addr) (cols : List Nat) (ch : List (List Nat)) (c0 : Nat), vs = [tx cols, .ref ca] ∧ TG Z.Ps H ∧ LamX.TabS H Z.P_Kept_ask (lamQ "Kept.ask") ∧ H ca = some (.tup (ch.map tx)) ∧ ChL cols ch ∧ cols[0]? = some c0 ∧ cols.length ≤ 1000 ∧
  ∀ (H' : Hp), Sx (Z.P_Kept_ask :: Z.Ps) H H' → TG Z.Ps H' → LamX.TabS H' Z.P_Kept_ask (lamQ "Kept.ask") → Q (.bl true) H'
set_option maxHeartbeats 4000000 in
theorem ok_full41 (T : Tx K mg Z) (TB : Tb base mg Z) : FnOk P w K mg base CX0 9 Z.f_l_full_at_once Z.d_l_full_at_once ["columns", "choice"] (spFull41 K Z) := by
  have G_l_word : FnOk P w K mg base CX0 5 Z.f_l_word Z.d_l_word ["kept", "way", "thing"] (spWord K Z) := ok_word T TB
  have G_l_state : FnOk P w K mg base CX0 8 Z.f_l_state Z.d_l_state ["kept", "columns", "choice", "row"] (spState41 K Z) := ok_state41 T TB
  have G_Kept___init__ : FnOk P w K mg base CX0 4 Z.f_Kept___init__ Z.d_Kept___init__ ["self", "table", "choice"] (spKeptInit K Z) := ok_keptinit T TB
  refine T.F_l_full_at_once.ok sc_l_full_at_once (fun vs H Q E h => ?_) (fun cdv A outer s H vs Q E hr h => ?_)
  · obtain ⟨ca, cols, ch, c0, rfl, _⟩ := h
    rfl
  · obtain ⟨ca, cols, ch, c0, rfl, tg, tab, hca, hch, hc0, hcn, q⟩ := h
    refine ⟨_, (pss_cons (ps_set (i := 2) sc_l_full_at_once.nd rfl (.inl rfl) (pe_callTy (cTupSq K) (by rfl) T.m_tuple (by decide +kernel) (pa_cons (pe_lc (own := [("at", 5)]) (tt := tYes) (by rfl) sc_l_full_at_once.nd (pi_range1 (by rfl) T.m_range (pa_cons pe_int pa_nil)) (blkOk_by (own := [("at", 5)]) (by kernel_rfl)) (fun _ _ _ _ _ => (pg_name (i := 5) sc_l_full_at_once.nd rfl (.inr rfl))) (fun _ _ _ _ _ => pts_nil) (fun _ _ _ _ _ => (pe_callTy (cTupSq K) (by rfl) T.m_tuple (by decide +kernel) (pa_cons (pe_lc (own := [("spot", 6)]) (tt := tYes) (by rfl) sc_l_full_at_once.nd (pi_range1 (by rfl) T.m_range (pa_cons (pe_callB call_len_str (by rfl) T.m_len (by decide +kernel) (pa_cons (pv 0) pa_nil)) pa_nil)) (blkOk_by (own := [("spot", 6)]) (by kernel_rfl)) (fun _ _ _ _ _ => (pg_name (i := 6) sc_l_full_at_once.nd rfl (.inl rfl))) (fun _ _ _ _ _ => pts_nil) (fun _ _ _ _ _ => (pe_op op_mod (pe_op op_add (pe_op op_mul pe_int (pv 5)) (pv 6)) pe_int))) pa_nil)))) pa_nil)))
      (pss_cons (ps_set (i := 3) sc_l_full_at_once.nd rfl (.inl rfl) (pe_make T.mk_Kept G_Kept___init__ (hr.mono (by omega)) (by rfl) T.g_Kept T.b_Kept___init__ .nil pass0 (pa_cons (pe_tup (pa_cons (pv 0) (pa_cons (pv 2) pa_nil))) (pa_cons (pv 1) pa_nil))))
      (pss_cons (ps_set (i := 4) sc_l_full_at_once.nd rfl (.inl rfl) (pe_call G_l_state (hr.mono (by omega)) (by rfl) T.g_l_state T.F_l_state.kp T.b_l_state .nil pass0 (pa_cons (pv 3) (pa_cons (pv 0) (pa_cons (pv 1) (pa_cons (pe_ix (ixT K) (pv 2) pe_int (fun _ _ => rfl)) pa_nil))))))
      (pss_one (ps_ret (pe_and (pe_cmpR op_eq (pe_call G_l_word (hr.mono (by omega)) (by rfl) T.g_l_word T.F_l_word.kp T.b_l_word .nil pass0 (pa_cons (pv 3) (pa_cons pe_int (pa_cons (pe_ix (ixT K) (pv 2) pe_int (fun _ _ => rfl)) pa_nil)))) pe_str (nomark _)) (pe_one (pe_cmpR (eqDK K hr.units) (pe_call G_l_state (hr.mono (by omega)) (by rfl) T.g_l_state T.F_l_state.kp T.b_l_state .nil pass0 (pa_cons (pv 3) (pa_cons (pv 0) (pa_cons (pv 1) (pa_cons (pe_ix (ixT K) (pv 2) pe_int (fun _ _ => rfl)) pa_nil))))) (pv 4) (nomark _))))))))), ?_⟩
    have cpos : 0 < cols.length := List.length_pos_of_mem (List.mem_of_getElem? hc0)
    have tcl : (txS cols).length = cols.length := by simp [Str.length]
    refine ⟨60, rfl, by decide, by decide, fun D nD => lc_range (fun i H' => Same H H' ∧ ∃ us : List V, H' D = some (.lst us) ∧ FzA H' us (((List.range i).map (rowF cols.length)).map rowD))
      ⟨Same.new (Same.refl H) nD, [], upd_same, .nil⟩ (fun i H2 hi hP => ?_) (fun H1 hP => ?_)⟩
    · obtain ⟨sm2, us, hD2, fus⟩ := hP
      have hi60 : i < 60 := hi
      have ul := fus.len
      rw [List.length_map, List.length_map, List.length_range] at ul
      refine ⟨rfl, tx cols, rfl, txS cols, rfl, by rw [tcl]; exact Nat.le_of_lt (small1000 (by omega)), (cols.length : Nat), ?_, by omega, by omega, fun R nR => lc_range (fun j H' => Same H2 H' ∧ H' R = some (.lst (((List.range j).map fun s : Nat => (7 * (i : Int) + (s : Int)) % 1000).map V.int)))
        ⟨Same.new (Same.refl H2) nR, upd_same⟩ (fun j H3 hj hP => ?_) (fun H3 hP => ?_)⟩
      · show [V.int ((txS cols).length : Nat)] = [.int (cols.length : Nat)]
        rw [tcl]
      · obtain ⟨sm3, hR3⟩ := hP
        have hjm : j < cols.length := hj
        refine ⟨rfl, .int (0 + (i : Int)), rfl, 7, _, rfl, rfl, .inl ⟨by omega, by omega⟩, .int (0 + (j : Int)), rfl, _, _, rfl, rfl, _, _, rfl, rfl, (by show (0 : Int) < 1000; decide), _, hR3, ?_, Same.mut sm3 nR, ?_⟩
        · rw [List.length_map, List.length_map, List.length_range]
          exact small1000 (by omega)
        · rw [upd_same, List.range_succ, List.map_append, List.map_append]
          show some (HO.lst (_ ++ [V.int ((7 * (0 + (i : Int)) + (0 + (j : Int))) % 1000)])) = some (HO.lst (_ ++ [V.int ((7 * (i : Int) + (j : Int)) % 1000)]))
          rw [Int.zero_add, Int.zero_add]
      · obtain ⟨sm3, hR3⟩ := hP
        have hR4 : H3 R = some (.lst ((rowF cols.length i).map V.int)) := hR3
        refine ⟨R, _, rfl, .inl ⟨.inl (.inl hR4), fun r nr => ?_⟩⟩
        have hD3 : (upd H3 r (.tup ((rowF cols.length i).map V.int))) D = some (.lst us) := keep_new (sm3 _ _ hD2) nr
        refine ⟨us, hD3, small1000 (by omega), Same.mut (Same.trans sm2 (Same.new sm3 nr)) nD, us ++ [.ref r], upd_same, ?_⟩
        rw [List.range_succ, List.map_append, List.map_append]
        exact (FzA.snoc ((fus.kt (Same.kt sm3)).kt (.new nr)) (row_made nr)).kt (.lst hD3)
    · obtain ⟨sm1, us, hD1, fus⟩ := hP
      have e60 : (60 : Int).toNat = 60 := by decide
      rw [e60] at fus
      have ul := fus.len
      rw [List.length_map, List.length_map, List.length_range] at ul
      refine ⟨D, us, rfl, .inl ⟨.inl (.inl hD1), fun R nR => ?_⟩⟩
      have fR : Fz (upd H1 R (.tup us)) (.ref R) (rowsD ((List.range 60).map (rowF cols.length))) := Fz.made nR fus
      have fus2 := fus.kt (Kt.new (o := .tup us) nR)
      have sm2 := Same.new (o := .tup us) sm1 nR
      have hR2 : (upd H1 R (.tup us)) R = some (.tup us) := upd_same
      generalize upd H1 R (.tup us) = H2 at fR fus2 sm2 hR2 ⊢
      refine ⟨tx cols, rfl, .ref R, rfl, (by show 2 ≤ sizeLine; decide), fun t nt => ?_⟩
      have fT : Fz (upd H2 t (.tup [tx cols, .ref R])) (.ref t) (tabD cols ((List.range 60).map (rowF cols.length))) := Fz.made nt (.cons (.str _) (.cons fR .nil))
      have sm3 := Same.new (o := .tup [tx cols, .ref R]) sm2 nt
      have fus3 := fus2.kt (Kt.new (o := .tup [tx cols, .ref R]) nt)
      have hR3 := keep_new (o := .tup [tx cols, .ref R]) hR2 nt
      generalize upd H2 t (.tup [tx cols, .ref R]) = H3 at fT sm3 fus3 hR3 ⊢
      refine ⟨.ref ca, rfl, fun p dx np ndx nex => ?_⟩
      have sm5 : Same H3 (upd (upd H3 dx (.own p)) p (.ins Z.C_Kept dx [])) := fun b o e => by
        rw [upd_ne (ne_of_none e np), upd_ne (ne_of_none e ndx)]
        exact e
      have hp5 : (upd (upd H3 dx (.own p)) p (.ins Z.C_Kept dx [])) p = some (.ins Z.C_Kept dx []) := upd_same
      generalize upd (upd H3 dx (.own p)) p (.ins Z.C_Kept dx []) = H5 at sm5 hp5 ⊢
      have rok : RowsOk cols.length ((List.range 60).map (rowF cols.length)) := fun x hx => by
        obtain ⟨a, _, rfl⟩ := List.mem_map.mp hx
        exact rowF_ok _ a
      have tg3 := tg.same sm3
      have tab3 := tab_same tab sm3
      refine ⟨p, dx, .ref t, cols, _, ca, ch, rfl, tg3.same sm5, hp5, fT.kt (Same.kt sm5), rok, ?_, sm5 _ _ (sm3 _ _ hca), hch, fun k H6 ek sx6 tg6 hfree kp6 => ⟨rfl, ?_⟩⟩
      · rw [List.length_map, List.length_range]
        exact Nat.le_refl _
      have sx36 : Sx Z.Ps H3 H6 := fun b o nb e => sx6 b o (fun z => (List.mem_cons.mp z).elim (ne_of_none e np) nb) (sm5 b o e)
      have kt6 := sx36.kt tg3
      have tab6 := tab_sx tab3 tg3 sx36 T.l_Kept_ask
      have S6 : KS Z H6 ca k cols ch (thN 0 ((List.range 60).map (rowF cols.length))) ((List.range 60).map (rowF cols.length)).length 0 := ⟨tg6, tab6, kp6, NmOk.start rok, kt6 _ _ (sm3 _ _ hca)⟩
      have hl60 : (thN 0 ((List.range 60).map (rowF cols.length))).length = 60 := by rw [thN_len, List.length_map, List.length_range]
      have sxH6 : Sx (Z.P_Kept_ask :: Z.Ps) H H6 := ((Same.sx sm3).trans sx36).cons _
      have hR6 := kt6 _ _ hR3
      have fus6 := fus3.kt kt6
      have row_of : ∀ a : Nat, a < 60 → ∃ rv : V, us[a]? = some rv ∧ Fz H6 rv (rowD (rowF cols.length a)) := fun a ha => by
        refine fus6.get (i := a) ?_
        rw [List.getElem?_map, List.getElem?_map, List.getElem?_range ha]
        rfl
      obtain ⟨rv0, hu0, fr0⟩ := row_of 0 (by decide)
      obtain ⟨rv5, hu5, fr5⟩ := row_of 5 (by decide)
      obtain ⟨x0, hx0⟩ : ∃ x0, (rowF cols.length 0)[0]? = some x0 := ⟨_, List.getElem?_eq_getElem (by rw [(rowF_ok cols.length 0).1]; exact cpos)⟩
      subst ek
      refine ⟨.ref k.p, rfl, tx cols, rfl, .ref ca, rfl, .ref R, rfl, R, us, 0, rv0, rfl, rfl, .inl (.inl hR6), atI_nat (j := 0) hu0, ca, k, cols, ch, _, _, 0, rv0, _, c0, x0, rfl, S6, by omega, hch, fr0, rowF_ok _ 0, hc0, hx0, hcn, fun t1 dd H7 S7 sx7 nt1 isd fd => ?_⟩
      have kT7 := S6.kT (sxQ sx7)
      obtain ⟨sh, ly⟩ := isd.shaped
      have hR7 := kT7.1 _ _ hR6
      refine ⟨.ref k.p, rfl, .ref R, rfl, R, us, 5, rv5, rfl, rfl, .inl (.inl hR7), atI_nat (j := 5) hu5, k, rv5, cols, _, _, ch, 0, S7.tg, S7.kp, S7.ok, by omega, hch, .inl ⟨_, rfl, fr5.kt kT7.1, rowF_ok _ 5, fun _ H8 sm8 => ?_, fun z => absurd z (by omega)⟩⟩
      have S8 := S7.same sm8
      have hR8 := sm8 _ _ hR7
      refine ⟨rfl, true, rfl, ?_⟩
      refine ⟨.ref k.p, rfl, tx cols, rfl, .ref ca, rfl, .ref R, rfl, R, us, 0, rv0, rfl, rfl, .inl (.inl hR8), atI_nat (j := 0) hu0, ca, k, cols, ch, _, _, 0, rv0, _, c0, x0, rfl, S8, by omega, hch, (fr0.kt kT7.1).kt (Same.kt sm8), rowF_ok _ 0, hc0, hx0, hcn, fun t2 dd2 H9 S9 sx9 nt2 isd2 fd2 => ?_⟩
      obtain rfl := isd.one isd2
      have sxA : Sx (Z.P_Kept_ask :: Z.Ps) H7 H9 := (Same.sx sm8).trans sx9
      have fd9 : Fl (LQ Z k) H9 (.ref t1) dd := fd.sx sxA fun b h => List.mem_append_right _ h
      refine ⟨.ref t1, rfl, dd, dd, fd2.to.to, fd9.to.to, sh, sh, ?_⟩
      rw [SeqAt.eqv_refl _ ly]
      exact q H9 (sxH6.trans (sx7.trans sxA)) S9.tg S9.tab

/-! ### _law_filled -/
theorem sxR {Z : Ad} {k : KAd} {r d : Addr} {H H' : Hp} (sx : Sx (d :: (k.F ++ Z.Ps)) H H') : Sx (r :: d :: (k.F ++ Z.P_Kept_ask :: Z.Ps)) H H' := sx.more fun b h => (List.mem_cons.mp h).elim (fun z => by rw [z]; exact List.mem_cons_of_mem _ List.mem_cons_self) fun z => mem_rdk.mpr ((List.mem_append.mp z).elim (fun z => .inl (List.mem_cons_of_mem _ (List.mem_cons_of_mem _ z))) fun z => .inr (List.mem_cons_of_mem _ z))
def spFilled (K : PySem.W.Frag) (Z : Ad) : Sp := fun vs H Q _ => ∃ (H0 : Hp) (r d ca : Addr) (k : KAd) (cols : List Nat) (ch : List (List Nat)) (th : Nmd) (n : Nat) (mv : Int) (rv : V) (row : List Int), vs = [.ref k.p, .ref d, rv] ∧ StK Z H0 r d ca k cols ch H th n mv ∧ th.length ≤ 60 ∧ ChL cols ch ∧ Fz H rv (rowD row) ∧ RowOk cols.length row ∧ Z.P_Kept_ask ∉ Z.Ps ∧
  ∀ (th' : Nmd) (n' : Nat) (mv' : Int) (H' : Hp), StK Z H0 r d ca k cols ch H' th' n' mv' → Sx (d :: (k.F ++ Z.Ps)) H H' → th'.length = 60 → (∀ x ∈ th', x ∈ th ∨ n ≤ x.1) → n ≤ n' → n' ≤ n + 60 → Q (.bl true) H'
set_option maxHeartbeats 4000000 in
theorem ok_filled (T : Tx K mg Z) (TB : Tb base mg Z) : FnOk P w K mg base CX0 6 Z.f_l_filled Z.d_l_filled ["kept", "there", "row"] (spFilled K Z) := by
  have G_l_word : FnOk P w K mg base CX0 5 Z.f_l_word Z.d_l_word ["kept", "way", "thing"] (spWord K Z) := ok_word T TB
  have G_Kept_next_number : FnOk P w K mg base CX0 1 Z.f_Kept_next_number Z.d_Kept_next_number ["self"] (spNext K Z) := ok_next T
  refine T.F_l_filled.ok sc_l_filled (fun vs H Q E h => ?_) (fun cdv A outer s H vs Q E hr h => ?_)
  · obtain ⟨H0, r, d, ca, k, cols, ch, th, n, mv, rv, row, rfl, _⟩ := h
    rfl
  · obtain ⟨H0, r, d, ca, k, cols, ch, th, n, mv, rv, row, rfl, S, h60, hch, fr, hrow, nP, q⟩ := h
    refine ⟨_, (pss_cons (ps_while PassesOwn.never (pt_cmpR op_lt (pe_callB call_lenD (by rfl) T.m_len (by decide +kernel) (pa_cons (pv 1) pa_nil)) pe_int (nomark _)) (pss_cons (ps_dput (hu_of hr) (pv 1) (pe_meth0 (pv 0) T.cl_Kept T.m_Kept_next_number G_Kept_next_number (hr.mono (by omega)) T.b_Kept_next_number .nil pass0) (pv 2) rfl)
      (pss_one (ps_if (pt_cmpR op_ne (pe_call G_l_word (hr.mono (by omega)) (by rfl) T.g_l_word T.F_l_word.kp T.b_l_word .nil pass0 (pa_cons (pv 0) (pa_cons pe_int (pa_cons (pv 2) pa_nil)))) pe_str (nomark _)) (pss_one (ps_ret pe_bl)) pss_nil))))
      (pss_one (ps_ret pe_bl))), ?_⟩
    refine ⟨fun m σ H' => ∃ (th' : Nmd) (n' : Nat) (mv' : Int), m = 60 - th'.length ∧ σ = [some (.ref k.p), some (.ref d), some rv] ∧ StK Z H0 r d ca k cols ch H' th' n' mv' ∧ Sx (d :: (k.F ++ Z.Ps)) H H' ∧ th'.length ≤ 60 ∧ (∀ x ∈ th', x ∈ th ∨ n ≤ x.1) ∧ th.length ≤ th'.length ∧ n' = n + (th'.length - th.length),
      ⟨_, th, n, mv, rfl, rfl, S, Sx.rfl', h60, fun x h => .inl h, Nat.le_refl _, by omega⟩, fun m σ H1 hW => ?_⟩
    obtain ⟨th1, n1, mv1, rfl, rfl, S1, sx1, hl1, hx1, hle1, en1⟩ := hW
    obtain ⟨kvs, hd, nm⟩ := S1.o.dd
    have hkl := nm.len
    refine ⟨.ref d, rfl, d, kvs, rfl, hd, _, _, rfl, rfl, _, rfl, ite2 (fun e => ?_) (fun e => ?_)⟩
    rotate_left 1
    · have : 60 ≤ th1.length := Nat.le_of_not_lt fun z => e (decide_eq_true (by omega))
      exact q th1 n1 mv1 H1 S1 sx1 (by omega) hx1 (by omega) (by omega)
    have hlt : th1.length < 60 := by
      have := of_decide_eq_true e
      omega
    refine ⟨fun σ' H' => σ' = [some (.ref k.p), some (.ref d), some rv] ∧ ∃ (mv2 : Int), StK Z H0 r d ca k cols ch H' (th1 ++ [(n1, row)]) (n1 + 1) mv2 ∧ Sx (d :: (k.F ++ Z.Ps)) H H', fun σ' H' hN => ?_, ?_⟩
    · obtain ⟨rfl, mv2, S2, sx2⟩ := hN
      have hl2 : (th1 ++ [(n1, row)]).length = th1.length + 1 := by rw [List.length_append]; rfl
      refine ⟨60 - (th1 ++ [(n1, row)]).length, by omega, _, n1 + 1, mv2, rfl, rfl, S2, sx2, by omega, fun x hx => ?_, by omega, by omega⟩
      rcases List.mem_append.mp hx with z | z
      · exact hx1 x z
      · rw [List.mem_singleton.mp z]
        exact .inr (by show n ≤ n1; omega)
    obtain ⟨dx, hp⟩ := S1.o.kp.self
    have fr1 := fr.kt (S.kT (sxR sx1)).1
    refine ⟨rv, rfl, .ref d, rfl, .ref k.p, rfl, k.p, dx, _, rfl, hp, kpF3_no_next_number _ _ _, k, cols, th1, n1, ch, mv1, rfl, S1.o.kp, d, _, rfl, .inl ⟨kvs, nKy n1, hd, rfl, Nat.lt_of_le_of_lt (Nat.le_of_eq hkl) (small1000 (by omega)), rfl⟩, ?_⟩
    have kt4 : Kt H1 (upd H1 d (.dK (putK kvs (nKy n1) rv))) := Kt.dct hd
    have tg4 : TG Z.Ps (upd H1 d (.dK (putK kvs (nKy n1) rv))) := S1.tg.put (S1.tg.not hd fun q z => nomatch z)
    have kp4 : KeptAt Z.C_Kept Z.C_Rows (upd H1 d (.dK (putK kvs (nKy n1) rv))) k cols th1 n1 ch mv1 := S1.o.kp.keep (fun c hc o h => keep_ne h fun z => S1.o.nd (z ▸ hc)) kt4
    have hd4 : (upd H1 d (.dK (putK kvs (nKy n1) rv))) d = some (.dK (putK kvs (nKy n1) rv)) := upd_same
    have nm4 := (nm.put fr1 S1.o.ok.new).kt kt4
    have sx4 : Sx (d :: (k.F ++ Z.Ps)) H1 (upd H1 d (.dK (putK kvs (nKy n1) rv))) := Sx.rfl'.updM List.mem_cons_self
    obtain ⟨rn, hR⟩ := S1.hr
    have nrd : r ≠ d := fun z => S1.nr (z ▸ List.mem_cons_self)
    have nrF : r ∉ k.F := fun z => S1.nr (List.mem_cons_of_mem _ z)
    have hR4 : (upd H1 d (.dK (putK kvs (nKy n1) rv))) r = some (.lst [.int rn]) := keep_ne hR nrd
    have fr4 := fr1.kt kt4
    generalize upd H1 d (.dK (putK kvs (nKy n1) rv)) = H4 at kt4 tg4 kp4 hd4 nm4 sx4 hR4 fr4 ⊢
    refine ⟨.ref k.p, rfl, rv, rfl, k, rv, cols, th1, n1, ch, mv1, tg4, kp4, S1.o.ok, hl1, hch, .inl ⟨row, rfl, fr4, hrow, fun z => absurd hlt z, fun _ H5 sx5 tg5 kp5 => ?_⟩⟩
    have kt5 := kp4.kt tg4 sx5
    have hd5 := sx5 _ _ (fun z => (List.mem_append.mp z).elim S1.o.nd (tg4.not hd4 fun q z => nomatch z)) hd4
    have hR5 := sx5 _ _ (fun z => (List.mem_append.mp z).elim nrF (tg4.not hR4 fun q z => nomatch z)) hR4
    refine ⟨rfl, _, rfl, iteF ?_⟩
    have sx15 : Sx (d :: (k.F ++ Z.Ps)) H1 H5 := sx4.trans (sx5.more fun b h => List.mem_cons_of_mem _ h)
    exact ⟨rfl, _, S1.done nP (sx15.more fun b h => List.mem_cons_of_mem _ h) tg5 hR5 ⟨kp5, S1.o.ok.put hrow, ⟨_, hd5, nm4.kt kt5⟩, S1.o.nd⟩, sx1.trans sx15⟩

/-! ### _law_by_turns -/
theorem out_len : ∀ {th : Nmd} {g : Nat}, (th.map (·.1)).Nodup → g ∈ th.map (·.1) → (outT th g).length + 1 = th.length
  | [], _, _, h => nomatch h
  | x :: th, g, nd, h => by
    obtain ⟨n1, n2⟩ := List.nodup_cons.mp nd
    unfold outT
    rw [List.filter_cons]
    by_cases e : x.1 = g
    · rw [if_neg (by simpa using e)]
      have : th.filter (fun y => decide (y.1 ≠ g)) = th := List.filter_eq_self.mpr fun y hy => decide_eq_true fun z => n1 (List.mem_map.mpr ⟨y, hy, z.trans e.symm⟩)
      rw [this]
      rfl
    · rw [if_pos (by simpa using e)]
      have hm : g ∈ th.map (·.1) := (List.mem_cons.mp h).elim (fun z => absurd z.symm e) id
      have := out_len n2 hm
      unfold outT at this
      rw [List.length_cons, List.length_cons, this]
theorem at_last {us : List V} (h : 0 < us.length) : L2.atI us (-1) = us[us.length - 1]? := by
  unfold L2.atI L2.ixN
  rw [if_neg (by decide), if_pos (by omega)]
  show us[((us.length : Int) + -1).toNat]? = _
  congr 1
  omega
def spTurns (K : PySem.W.Frag) (Z : Ad) : Sp := fun vs H Q _ => ∃ (H0 : Hp) (r d ca : Addr) (k : KAd) (cols : List Nat) (ch : List (List Nat)) (th : Nmd) (n : Nat) (mv : Int) (rv : V) (row : List Int) (most : Nat), vs = [.ref r, .ref k.p, .ref d, rv, .int (most : Int)] ∧ StK Z H0 r d ca k cols ch H th n mv ∧ th.length = 60 ∧ ChL cols ch ∧ Fz H rv (rowD row) ∧ RowOk cols.length row ∧ Z.P_Kept_ask ∉ Z.Ps ∧ most ≤ 50 ∧
  ∀ (th' : Nmd) (mv' : Int) (gs : List Nat) (ga : Addr) (H' : Hp), StK Z H0 r d ca k cols ch H' th' (n + most) mv' → Sx (r :: d :: (k.F ++ Z.Ps)) H H' → H ga = none → ga ∉ r :: d :: k.F → H' ga = some (.lst (gs.map nV)) → (∀ g ∈ gs, g ∉ th'.map (·.1)) → gs.length = most → th'.length = 60 → (∀ x ∈ th', x ∈ th ∨ n ≤ x.1) → Q (.ref ga) H'
set_option maxHeartbeats 8000000 in
theorem ok_turns (T : Tx K mg Z) (TB : Tb base mg Z) : FnOk P w K mg base CX0 6 Z.f_l_by_turns Z.d_l_by_turns ["reel", "kept", "there", "row", "most"] (spTurns K Z) := by
  have G_l_pick : FnOk P w K mg base CX0 1 Z.f_l_pick Z.d_l_pick ["reel", "many"] (spPick K) := ok_pick T
  have G_l_word : FnOk P w K mg base CX0 5 Z.f_l_word Z.d_l_word ["kept", "way", "thing"] (spWord K Z) := ok_word T TB
  have G_Kept_put : FnOk P w K mg base (L2.CX P w) 4 Z.f_Kept_put Z.d_Kept_put ["self", "row"] (spKeptPut K Z) := ok_keptput T TB
  have G_Kept_next_number : FnOk P w K mg base CX0 1 Z.f_Kept_next_number Z.d_Kept_next_number ["self"] (spNext K Z) := ok_next T
  refine T.F_l_by_turns.ok sc_l_by_turns (fun vs H Q E h => ?_) (fun cdv A outer s H vs Q E hr h => ?_)
  · obtain ⟨H0, r, d, ca, k, cols, ch, th, n, mv, rv, row, most, rfl, _⟩ := h
    rfl
  · obtain ⟨H0, r, d, ca, k, cols, ch, th, n, mv, rv, row, most, rfl, S, h60, hch, fr, hrow, nP, hmost, q⟩ := h
    refine ⟨_, (pss_cons (ps_set (i := 5) sc_l_by_turns.nd rfl (.inl rfl) (pe_lst pa_nil))
      (pss_cons (ps_for PassesOwn.never rfl (pi_range1 (by rfl) T.m_range (pa_cons (pv 4) pa_nil)) (pg_name (i := 6) sc_l_by_turns.nd rfl (.inl rfl)) (pss_cons (ps_expr (bmK K PySem.F.plainAttrs_list PySem.F.slot_list_append PySem.F.type_list_append mt_append (pv 5) (pa_cons (pe_ix (ixL K) (pe_callB (call_sortedDI rfl) (by rfl) T.m_sorted (by decide +kernel) (pa_cons (pv 2) pa_nil)) (pe_call G_l_pick (hr.mono (by omega)) (by rfl) T.g_l_pick T.F_l_pick.kp T.b_l_pick .nil pass0 (pa_cons (pv 0) (pa_cons (pe_callB call_lenD (by rfl) T.m_len (by decide +kernel) (pa_cons (pv 2) pa_nil)) pa_nil))) (fun _ _ => rfl)) pa_nil)))
      (pss_cons (ps_set (i := 7) sc_l_by_turns.nd rfl (.inl rfl) (pe_meth0 (pv 1) T.cl_Kept T.m_Kept_next_number G_Kept_next_number (hr.mono (by omega)) T.b_Kept_next_number .nil pass0))
      (pss_cons (ps_if (PW.pt (pw_or (pt_cmpR op_ne (pe_call G_l_word (hr.mono (by omega)) (by rfl) T.g_l_word T.F_l_word.kp T.b_l_word .nil pass0 (pa_cons (pv 1) (pa_cons pe_int (pa_cons (pe_ix (ixL K) (pv 5) (pe_un un_neg pe_int) (fun _ _ => rfl)) pa_nil)))) pe_str (nomark _)) (pw_or1 (pt_cmpR op_ne (pe_methX (pv 1) T.cl_Kept T.m_Kept_put G_Kept_put (hr.mono (by omega)) T.b_Kept_put (fun σ => passNo σ) (pa_cons (pv 3) pa_nil)) (pv 7) (nomark _))))) (pss_one (ps_ret pe_non)) pss_nil)
      (pss_cons (ps_expr (pe_dpop1 (pv 2) (pe_ix (ixL K) (pv 5) (pe_un un_neg pe_int) (fun _ _ => rfl)) ⟨rfl, rfl, rfl, rfl⟩))
      (pss_one (ps_dput (hu_of hr) (pv 2) (pv 7) (pv 3) rfl)))))))
      (pss_one (ps_ret (pv 5))))), ?_⟩
    refine ⟨Nat.zero_le _, fun ga nga => ?_⟩
    have gaN := S.free nga
    refine ⟨_, rfl, most, rfl, by omega, by omega, for_range (fun i σ H' => ∃ (y6 y7 : Option V) (th' : Nmd) (mv' : Int) (gs : List Nat), σ = [some (.ref r), some (.ref k.p), some (.ref d), some rv, some (.int (most : Int)), some (.ref ga), y6, y7] ∧ StK Z H0 r d ca k cols ch H' th' (n + i) mv' ∧ Sx (r :: d :: (k.F ++ Z.Ps)) H H' ∧ H' ga = some (.lst (gs.map nV)) ∧ (∀ g ∈ gs, g ∉ th'.map (·.1) ∧ g < n + i) ∧ gs.length = i ∧ th'.length = 60 ∧ ∀ x ∈ th', x ∈ th ∨ n ≤ x.1)
      ⟨none, none, th, mv, [], rfl, S.same (Same.new (Same.refl H) nga), Sx.rfl'.new nga, upd_same, (fun g h => nomatch h), rfl, h60, fun x h => .inl h⟩ (fun i σ H1 hi hP => ?_) (fun σ H1 hP => ?_)⟩
    · obtain ⟨y6, y7, th1, mv1, gs, rfl, S1, sx1, hga1, hgs, hgl, hl1, hx1⟩ := hP
      obtain ⟨rn1, hR1⟩ := S1.hr
      obtain ⟨kvs, hd, nm⟩ := S1.o.dd
      have hkl := nm.len
      have nrd : r ≠ d := fun z => S1.nr (z ▸ List.mem_cons_self)
      have nrF : r ∉ k.F := fun z => S1.nr (List.mem_cons_of_mem _ z)
      refine ⟨.ref ga, rfl, .inl ⟨rfl, _, .inl (.inl hga1)⟩, .ref d, rfl, d, kvs, (th1.map (·.1)).map fun x : Nat => (x : Int), rfl, .inl hd, ?_, ?_, fun ys N hperm hso nN => ?_⟩
      · rw [nm.keys, List.map_map, List.map_map]
        rfl
      · rw [List.length_map, List.length_map]
        omega
      have eys : ys = (th1.map (·.1)).map fun x : Nat => (x : Int) := by
        refine ints_one hso ?_ hperm
        rw [List.pairwise_map]
        exact S1.o.ok.up.imp fun {a b} z => by omega
      rw [eys, ← nV_map]
      have sm3 := Same.new (o := .lst ((th1.map (·.1)).map nV)) (Same.refl H1) nN
      have hN3 : (upd H1 N (.lst ((th1.map (·.1)).map nV))) N = some (.lst ((th1.map (·.1)).map nV)) := upd_same
      have nNr : N ≠ r := (ne_of_none hR1 nN).symm
      have sx3 : Sx (r :: d :: (k.F ++ Z.Ps)) H (upd H1 N (.lst ((th1.map (·.1)).map nV))) := sx1.new nN
      have hga3 := sm3 _ _ hga1
      generalize upd H1 N (.lst ((th1.map (·.1)).map nV)) = H3 at sm3 hN3 sx3 hga3 ⊢
      have S3 := S1.same sm3
      have hR3 := sm3 _ _ hR1
      have hd3 := sm3 _ _ hd
      refine ⟨.ref r, rfl, .ref d, rfl, d, kvs, rfl, hd3, r, rn1, kvs.length, rfl, hR3, by omega, by omega, fun g rn4 g0 g1 => ?_⟩
      have gar : ga ≠ r := fun z => gaN (z ▸ List.mem_cons_self)
      have kpr : Kp r H3 (upd H3 r (.lst [.int rn4])) := Kp.own Kp.rfl'
      have S4 : StK Z H0 r d ca k cols ch (upd H3 r (.lst [.int rn4])) th1 (n + i) mv1 := S3.kp kpr upd_same
      have sx4 : Sx (r :: d :: (k.F ++ Z.Ps)) H (upd H3 r (.lst [.int rn4])) := Sx.updL sx3
      have hR4 : (upd H3 r (.lst [.int rn4])) r = some (.lst [.int rn4]) := upd_same
      have hN4 := kpr _ _ nNr hN3
      have hga4 := kpr _ _ gar hga3
      generalize upd H3 r (.lst [.int rn4]) = H4 at S4 sx4 hR4 hN4 hga4 ⊢
      clear kpr sm3 S3 sx3 hga3 hN3 hR3 hd3
      obtain ⟨gi, rfl⟩ : ∃ gi : Nat, g = gi := ⟨g.toNat, by omega⟩
      have hgl4 : gi < th1.length := by omega
      refine ⟨N, (th1.map (·.1)).map nV, _, nV (numAt th1 gi), rfl, rfl, .inl (.inl hN4), atI_nat (by rw [List.getElem?_map, num_at hgl4]; rfl), ?_⟩
      have hm : numAt th1 gi ∈ th1.map (·.1) := List.mem_of_getElem? (num_at hgl4)
      generalize numAt th1 gi = gn at hm ⊢
      refine ⟨ga, gs.map nV, nV gn, rfl, rfl, hga4, by rw [List.length_map]; exact small1000 (by omega), ?_⟩
      obtain ⟨kvs4, hd4, nm4⟩ := S4.o.dd
      have gad : ga ≠ d := fun z => gaN (by rw [z]; exact List.mem_cons_of_mem _ List.mem_cons_self)
      have gaF : ga ∉ k.F := fun z => gaN (List.mem_cons_of_mem _ (List.mem_cons_of_mem _ z))
      have sx5 : Sx (r :: d :: (k.F ++ Z.Ps)) H (upd H4 ga (.lst (gs.map nV ++ [nV gn]))) := sx4.mut nga
      have kt45 : Kt H4 (upd H4 ga (.lst (gs.map nV ++ [nV gn]))) := Kt.lst hga4
      have tg5 : TG Z.Ps (upd H4 ga (.lst (gs.map nV ++ [nV gn]))) := S4.tg.put (S4.tg.not hga4 fun q z => nomatch z)
      have kp5 : KeptAt Z.C_Kept Z.C_Rows (upd H4 ga (.lst (gs.map nV ++ [nV gn]))) k cols th1 (n + i) ch mv1 := S4.o.kp.keep (fun c hc o h => keep_ne h fun z => gaF (z ▸ hc)) kt45
      have hd5 : (upd H4 ga (.lst (gs.map nV ++ [nV gn]))) d = some (.dK kvs4) := keep_ne hd4 gad.symm
      have hR5 : (upd H4 ga (.lst (gs.map nV ++ [nV gn]))) r = some (.lst [.int rn4]) := keep_ne hR4 gar.symm
      have hga5 : (upd H4 ga (.lst (gs.map nV ++ [nV gn]))) ga = some (.lst ((gs ++ [gn]).map nV)) := by
        rw [upd_same, List.map_append]
        rfl
      have nm5 := nm4.kt kt45
      generalize upd H4 ga (.lst (gs.map nV ++ [nV gn])) = H5 at sx5 tg5 kp5 hd5 hR5 hga5 nm5 kt45 ⊢
      have ok1 := S1.o.ok
      have hat5 : atI ((gs ++ [gn]).map nV) (-1) = some (nV gn) := by
        have hl : ((gs ++ [gn]).map nV).length = gs.length + 1 := by rw [List.length_map, List.length_append]; rfl
        rw [at_last (by omega), hl, List.map_append, show gs.length + 1 - 1 = (gs.map nV).length by rw [List.length_map]; rfl]
        exact List.getElem?_concat_length
      obtain ⟨dx, hp⟩ := kp5.self
      refine ⟨.ref k.p, rfl, k.p, dx, _, rfl, hp, kpF3_no_next_number _ _ _, k, cols, th1, n + i, ch, mv1, rfl, kp5, ?_⟩
      refine ⟨.ref k.p, rfl, .ref ga, rfl, 1, rfl, ga, _, -1, nV gn, rfl, rfl, .inl (.inl hga5), hat5, k, nV gn, cols, th1, n + i, ch, mv1, tg5, kp5, ok1, by omega, hch, .inr ⟨gn, rfl, fun no => absurd rfl (no gn hm), fun m _ em H6 sx6 tg6 kp6 => ?_⟩⟩
      obtain rfl : gn = m := by omega
      have ok6 := ok1.out gn
      have ol := out_len ok1.nd hm
      obtain ⟨dx6, hp6⟩ := kp6.self
      have kt6 := kp5.kt tg5 sx6
      have fr6 := (fr.kt (S.kT (sx5.more fun b h => (mem_rdk.mp h).elim (fun z => mem_rdk.mpr (.inl z)) fun z => mem_rdk.mpr (.inr (List.mem_cons_of_mem _ z)))).1).kt kt6
      refine ⟨rfl, false, rfl, ?_⟩
      refine ⟨.ref k.p, rfl, k.p, dx6, _, rfl, hp6, kpF3_no_put _ _ _, rv, rfl, k, rv, cols, outT th1 gn, n + i, ch, mv1 + ch.length, row, rfl, tg6, kp6, ok6, by omega, hch, fr6, hrow, (fun z => absurd z (by omega)), fun _ H7 sx7 tg7 kp7 => ?_⟩
      have kt7 := kp6.kt tg6 sx7
      have nd : d ∉ k.F := S1.o.nd
      have hd6 := sx6 _ _ (fun z => (List.mem_append.mp z).elim nd (tg5.not hd5 fun q z => nomatch z)) hd5
      have hR6 := sx6 _ _ (fun z => (List.mem_append.mp z).elim nrF (tg5.not hR5 fun q z => nomatch z)) hR5
      have hga6 := sx6 _ _ (fun z => (List.mem_append.mp z).elim gaF (tg5.not hga5 fun q z => nomatch z)) hga5
      have hd7 := sx7 _ _ (fun z => (List.mem_append.mp z).elim nd (tg6.not hd6 fun q z => nomatch z)) hd6
      have hR7 := sx7 _ _ (fun z => (List.mem_append.mp z).elim nrF (tg6.not hR6 fun q z => nomatch z)) hR6
      have hga7 := sx7 _ _ (fun z => (List.mem_append.mp z).elim gaF (tg6.not hga6 fun q z => nomatch z)) hga6
      have sx27 : Sx (r :: d :: (k.F ++ Z.Ps)) H H7 := sx5.trans ((sx6.trans sx7).more fun b h => List.mem_cons_of_mem _ (List.mem_cons_of_mem _ h))
      have nm7 := (nm5.kt kt6).kt kt7
      have fr7 := fr6.kt kt7
      clear hd6 hR6 hga6
      refine ⟨_, rfl, rfl, _, rfl, ite2 (fun z => ?_) fun _ => ?_⟩
      · rw [decide_eq_true rfl] at z
        cases z
      obtain ⟨v, hv, _⟩ := nm7.at' ok1.nd (rowT_mem ok1.nd hm)
      refine ⟨.ref d, rfl, d, rfl, .inl ⟨kvs4, .inl hd7⟩, .ref ga, rfl, 1, rfl, ga, _, -1, nV gn, rfl, rfl, .inl (.inl hga7), hat5, kvs4, nKy gn, v, hd7, rfl, hv, ?_⟩
      have kt78 : Kt H7 (upd H7 d (.dK (dropK kvs4 (nKy gn)))) := Kt.dct hd7
      have sx8 : Sx (r :: d :: (k.F ++ Z.Ps)) H (upd H7 d (.dK (dropK kvs4 (nKy gn)))) := sx27.updM (List.mem_cons_of_mem _ List.mem_cons_self)
      have tg8 : TG Z.Ps (upd H7 d (.dK (dropK kvs4 (nKy gn)))) := tg7.put (tg7.not hd7 fun q z => nomatch z)
      have kp8 : KeptAt Z.C_Kept Z.C_Rows (upd H7 d (.dK (dropK kvs4 (nKy gn)))) k cols (outT th1 gn ++ [(n + i, row)]) (n + i + 1) ch (mv1 + ch.length + ch.length) := kp7.keep (fun c hc o h => keep_ne h fun z => nd (z ▸ hc)) kt78
      have hd8 : (upd H7 d (.dK (dropK kvs4 (nKy gn)))) d = some (.dK (dropK kvs4 (nKy gn))) := upd_same
      have hR8 : (upd H7 d (.dK (dropK kvs4 (nKy gn)))) r = some (.lst [.int rn4]) := keep_ne hR7 nrd
      have hga8 : (upd H7 d (.dK (dropK kvs4 (nKy gn)))) ga = some (.lst ((gs ++ [gn]).map nV)) := keep_ne hga7 gad
      have nm8 := (nm7.drop gn).kt kt78
      have fr8 := fr7.kt kt78
      generalize upd H7 d (.dK (dropK kvs4 (nKy gn))) = H8 at kt78 sx8 tg8 kp8 hd8 hR8 hga8 nm8 fr8 ⊢
      generalize dropK kvs4 (nKy gn) = kvs8 at hd8 nm8 ⊢
      have hk8 := nm8.len
      refine ⟨rv, rfl, .ref d, rfl, _, rfl, d, _, rfl, .inl ⟨kvs8, nKy (n + i), hd8, rfl, Nat.lt_of_le_of_lt (Nat.le_of_eq hk8) (small1000 (by omega)), rfl⟩, ?_⟩
      have kt89 : Kt H8 (upd H8 d (.dK (putK kvs8 (nKy (n + i)) rv))) := Kt.dct hd8
      have sx9 : Sx (r :: d :: (k.F ++ Z.Ps)) H (upd H8 d (.dK (putK kvs8 (nKy (n + i)) rv))) := sx8.updM (List.mem_cons_of_mem _ List.mem_cons_self)
      have tg9 : TG Z.Ps (upd H8 d (.dK (putK kvs8 (nKy (n + i)) rv))) := tg8.put (tg8.not hd8 fun q z => nomatch z)
      have kp9 := kp8.keep (H' := upd H8 d (.dK (putK kvs8 (nKy (n + i)) rv))) (fun c hc o h => keep_ne h fun z => nd (z ▸ hc)) kt89
      have nm9 := (nm8.put fr8 ok6.new).kt kt89
      refine ⟨_, _, outT th1 gn ++ [(n + i, row)], mv1 + ch.length + ch.length, gs ++ [gn], rfl, S.done nP sx9 tg9 (keep_ne hR8 nrd) ⟨kp9, ok6.put hrow, ⟨_, upd_same, nm9⟩, nd⟩, sx9, keep_ne hga8 gad, fun g hg => ?_, ?_, ?_, fun x hx => ?_⟩
      · have hn : g ∉ (outT th1 gn).map (·.1) ∧ g < n + i := by
          rcases List.mem_append.mp hg with z | z
          · obtain ⟨h1, h2⟩ := hgs g z
            exact ⟨fun y => by
              obtain ⟨x, hx, e⟩ := List.mem_map.mp y
              exact h1 (List.mem_map.mpr ⟨x, (List.mem_filter.mp hx).1, e⟩), h2⟩
          · rw [List.mem_singleton.mp z]
            refine ⟨fun y => ?_, ?_⟩
            · obtain ⟨x, hx, e⟩ := List.mem_map.mp y
              exact absurd e (of_decide_eq_true (List.mem_filter.mp hx).2)
            · obtain ⟨x, hx, e⟩ := List.mem_map.mp hm
              have := ok1.lt x hx
              omega
        refine ⟨fun y => ?_, by omega⟩
        rw [List.map_append] at y
        rcases List.mem_append.mp y with y | y
        · exact hn.1 y
        · have : g = n + i := List.mem_singleton.mp y
          omega
      · rw [List.length_append, hgl]
        rfl
      · rw [List.length_append]
        show (outT th1 gn).length + 1 = 60
        omega
      · rcases List.mem_append.mp hx with z | z
        · exact hx1 x (List.mem_filter.mp z).1
        · rw [List.mem_singleton.mp z]
          exact .inr (Nat.le_add_right _ _)
    · obtain ⟨y6, y7, th1, mv1, gs, rfl, S1, sx1, hga1, hgs, hgl, hl1, hx1⟩ := hP
      refine ⟨.ref ga, rfl, ?_⟩
      exact q th1 mv1 gs ga H1 S1 sx1 nga gaN hga1 (fun g h => (hgs g h).1) hgl hl1 hx1

/-! ### _law_begun -/
def oddsM (e m : Int) : List Int := [m + e, -1, 10 ^ 40, -2, 2000, 0 - 10 ^ 30, 5000, 10 ^ 9, 10 ^ 59, m]
def spBegun (K : PySem.W.Frag) (Z : Ad) : Sp := fun vs H Q _ => ∃ (r : Addr) (n0 : Int) (i : Nat), vs = [.ref r, .int (i : Int)] ∧ H r = some (.lst [.int n0]) ∧ TG Z.Ps H ∧ LamX.TabS H Z.P_Kept_ask (lamQ "Kept.ask") ∧
  ∀ (cols : List Nat) (rows : List (List Int)) (ch : List (List Nat)) (k : KAd) (t ca d xa : Addr) (e : Int) (H' : Hp), H' t = some (.tup [tx cols, .ref ca, .ref d, .ref k.p, .ref xa]) → Cols cols → 1 ≤ cols.length → cols.length ≤ 3 → ChL cols ch → rows.length ≤ 60 → RowsOk cols.length rows → Sx (r :: Z.Ps) H H' → KS Z H' ca k cols ch (thN 0 rows) rows.length 0 → (∃ n1 : Int, H' r = some (.lst [.int n1])) → (∃ kvs, H' d = some (.dK kvs) ∧ NmK H' kvs (thN 0 rows)) → d ∉ k.F → (∀ b ∈ xa :: d :: k.F, H b = none) → xa ∉ d :: k.F → H' xa = some (.lst ((oddsM e rows.length).map V.int)) → 0 ≤ e → Q (.ref t) H'
set_option maxHeartbeats 8000000 in
theorem ok_begun (T : Tx K mg Z) (TB : Tb base mg Z) : FnOk P w K mg base CX0 6 Z.f_l_begun Z.d_l_begun ["reel", "k"] (spBegun K Z) := by
  have G_l_pick : FnOk P w K mg base CX0 1 Z.f_l_pick Z.d_l_pick ["reel", "many"] (spPick K) := ok_pick T
  have G_l_columns : FnOk P w K mg base CX0 2 Z.f_l_columns Z.d_l_columns ["reel", "many"] (spColumns K) := ok_columns T
  have G_l_choice : FnOk P w K mg base CX0 3 Z.f_l_choice Z.d_l_choice ["reel", "columns", "many"] (spKChoice K) := ok_kchoice T
  have G_Kept___init__ : FnOk P w K mg base CX0 4 Z.f_Kept___init__ Z.d_Kept___init__ ["self", "table", "choice"] (spKeptInit K Z) := ok_keptinit T TB
  refine T.F_l_begun.ok sc_l_begun (fun vs H Q E h => ?_) (fun cdv A outer s H vs Q E hr h => ?_)
  · obtain ⟨r, n0, i, rfl, _⟩ := h
    rfl
  · obtain ⟨r, n0, i, rfl, hR, tg, tab, q⟩ := h
    refine ⟨_, (pss_cons (ps_set (i := 2) sc_l_begun.nd rfl (.inr rfl) (pe_call G_l_columns (hr.mono (by omega)) (by rfl) T.g_l_columns T.F_l_columns.kp T.b_l_columns .nil pass0 (pa_cons (pv 0) (pa_cons (pe_op op_add pe_int (pe_call G_l_pick (hr.mono (by omega)) (by rfl) T.g_l_pick T.F_l_pick.kp T.b_l_pick .nil pass0 (pa_cons (pv 0) (pa_cons pe_int pa_nil)))) pa_nil))))
      (pss_cons (ps_set (i := 3) sc_l_begun.nd rfl (.inl rfl) (pe_ix (ixL K) (pe_lst (pa_cons (pe_op op_add pe_int (pe_call G_l_pick (hr.mono (by omega)) (by rfl) T.g_l_pick T.F_l_pick.kp T.b_l_pick .nil pass0 (pa_cons (pv 0) (pa_cons pe_int pa_nil)))) (pa_cons (pe_call G_l_pick (hr.mono (by omega)) (by rfl) T.g_l_pick T.F_l_pick.kp T.b_l_pick .nil pass0 (pa_cons (pv 0) (pa_cons pe_int pa_nil))) pa_nil))) (pe_callB (call_min2 rfl) (by rfl) T.m_min (by decide +kernel) (pa_cons (pv 1) (pa_cons pe_int pa_nil))) (fun _ _ => rfl)))
      (pss_cons (ps_set (i := 4) sc_l_begun.nd rfl (.inl rfl) (pe_callTy (cTupSq K) (by rfl) T.m_tuple (by decide +kernel) (pa_cons (pe_lc (own := [("turn", 7)]) (tt := tYes) (by rfl) sc_l_begun.nd (pi_range1 (by rfl) T.m_range (pa_cons (pv 3) pa_nil)) (blkOk_by (own := [("turn", 7)]) (by kernel_rfl)) (fun _ _ _ _ _ => (pg_name (i := 7) sc_l_begun.nd rfl (.inl rfl))) (fun _ _ _ _ _ => pts_nil) (fun _ _ _ _ _ => (pe_callTy (cTupSq K) (by rfl) T.m_tuple (by decide +kernel) (pa_cons (pe_lc (own := [("letter", 8)]) (tt := tYes) (by rfl) sc_l_begun.nd (pi_str (pv 2)) (blkOk_by (own := [("letter", 8)]) (by kernel_rfl)) (fun _ _ _ _ _ => (pg_name (i := 8) sc_l_begun.nd rfl (.inl rfl))) (fun _ _ _ _ _ => pts_nil) (fun _ _ _ _ _ => (pe_call G_l_pick (hr.mono (by omega)) (by rfl) T.g_l_pick T.F_l_pick.kp T.b_l_pick .nil pass0 (pa_cons (pv 0) (pa_cons pe_int pa_nil))))) pa_nil)))) pa_nil)))
      (pss_cons (ps_set (i := 5) sc_l_begun.nd rfl (.inl rfl) (pe_call G_l_choice (hr.mono (by omega)) (by rfl) T.g_l_choice T.F_l_choice.kp T.b_l_choice .nil pass0 (pa_cons (pv 0) (pa_cons (pv 2) (pa_cons pe_int pa_nil)))))
      (pss_cons (ps_set (i := 6) sc_l_begun.nd rfl (.inl rfl) (pe_lst (pa_cons (pe_op op_add (pv 3) (pe_call G_l_pick (hr.mono (by omega)) (by rfl) T.g_l_pick T.F_l_pick.kp T.b_l_pick .nil pass0 (pa_cons (pv 0) (pa_cons pe_int pa_nil)))) (pa_cons (pe_un un_neg pe_int) (pa_cons (pe_op op_pow pe_int pe_int) (pa_cons (pe_un un_neg pe_int) (pa_cons pe_int (pa_cons (pe_op op_sub pe_int (pe_op op_pow pe_int pe_int)) (pa_cons pe_int (pa_cons (pe_op op_pow pe_int pe_int) (pa_cons (pe_op op_pow pe_int pe_int) (pa_cons (pv 3) pa_nil))))))))))))
      (pss_one (ps_ret (pe_tup (pa_cons (pv 2) (pa_cons (pv 5) (pa_cons (pe_dictEnum K (by rfl) (pa_cons (pv 4) pa_nil) (by rfl) T.m_dict (by rfl) T.m_enumerate) (pa_cons (pe_make T.mk_Kept G_Kept___init__ (hr.mono (by omega)) (by rfl) T.g_Kept T.b_Kept___init__ .nil pass0 (pa_cons (pe_tup (pa_cons (pv 2) (pa_cons (pv 4) pa_nil))) (pa_cons (pv 5) pa_nil))) (pa_cons (pv 6) pa_nil))))))))))))), ?_⟩
    -- columns
    refine ⟨.ref r, rfl, .ref r, rfl, r, n0, 3, rfl, hR, by decide, by decide, fun a n1 a0 a1 => ?_⟩
    obtain ⟨ai, rfl⟩ : ∃ ai : Nat, a = ai := ⟨a.toNat, by omega⟩
    have kp1 : Kp r H (upd H r (.lst [.int n1])) := Kp.own Kp.rfl'
    have hR1 : (upd H r (.lst [.int n1])) r = some (.lst [.int n1]) := upd_same
    generalize upd H r (.lst [.int n1]) = H1 at kp1 hR1 ⊢
    refine ⟨_, _, rfl, rfl, r, n1, 1 + ai, ?_, hR1, by omega, fun cols n2 H2 kp2 hR2 hc hcl => ?_⟩
    · show [V.ref r, V.int (1 + (ai : Int))] = [V.ref r, .int ((1 + ai : Nat) : Int)]
      rw [Int.natCast_add]
      rfl
    have kpA : Kp r H H2 := kp1.trans kp2
    clear kp1 kp2 hR1
    -- many
    refine ⟨.ref r, rfl, r, n2, 6, rfl, hR2, by decide, by decide, fun b n3 b0 b1 => ?_⟩
    have kp3 : Kp r H (upd H2 r (.lst [.int n3])) := kpA.own
    have hR3 : (upd H2 r (.lst [.int n3])) r = some (.lst [.int n3]) := upd_same
    generalize upd H2 r (.lst [.int n3]) = H3 at kp3 hR3 ⊢
    refine ⟨_, _, rfl, rfl, .ref r, rfl, r, n3, 11, rfl, hR3, by decide, by decide, fun c n4 c0 c1 => ?_⟩
    have kp4 : Kp r H (upd H3 r (.lst [.int n4])) := kp3.own
    have hR4 : (upd H3 r (.lst [.int n4])) r = some (.lst [.int n4]) := upd_same
    generalize upd H3 r (.lst [.int n4]) = H4 at kp4 hR4 ⊢
    clear kp3 hR3 kpA hR2
    refine ⟨(by show 2 ≤ sizeLine; decide), fun L nL => ?_⟩
    have kp5 := kp4.new (o := .lst [.int (55 + b), .int c]) nL
    have hR5 := keep_new (o := .lst [.int (55 + b), .int c]) hR4 nL
    have hL5 : (upd H4 L (.lst [.int (55 + b), .int c])) L = some (.lst [.int (55 + b), .int c]) := upd_same
    generalize upd H4 L (.lst [.int (55 + b), .int c]) = H5 at kp5 hR5 hL5 ⊢
    obtain ⟨m, hm60, hat⟩ : ∃ m : Nat, m ≤ 60 ∧ atI [V.int (55 + b), .int c] (if (1 : Int) < (i : Nat) then 1 else (i : Nat)) = some (.int m) := by
      rcases Nat.eq_zero_or_pos i with z | z
      · subst z
        refine ⟨(55 + b).toNat, by omega, ?_⟩
        show some (V.int (55 + b)) = _
        rw [show (55 + b) = ((55 + b).toNat : Int) by omega]
        rfl
      · refine ⟨c.toNat, by omega, ?_⟩
        have : (if (1 : Int) < (i : Nat) then (1 : Int) else (i : Nat)) = 1 := by split <;> omega
        rw [this]
        show some (V.int c) = _
        rw [show c = (c.toNat : Int) by omega]
        rfl
    refine ⟨_, rfl, _, 1, rfl, L, _, _, .int m, rfl, rfl, .inl (.inl hL5), hat, ?_⟩
    clear hat hL5 kp4 hR4
    -- rows
    refine ⟨_, rfl, m, rfl, by omega, by omega, fun D nD => lc_range (fun j H' => ∃ (rows : List (List Int)) (us : List V) (n5 : Int), Kp r H H' ∧ H' r = some (.lst [.int n5]) ∧ H' D = some (.lst us) ∧ FzA H' us (rows.map rowD) ∧ RowsOk cols.length rows ∧ rows.length = j)
      ⟨[], [], _, kp5.new nD, keep_new hR5 nD, upd_same, .nil, (fun _ h => nomatch h), rfl⟩ (fun j H6 hj hP => ?_) (fun H6 hP => ?_)⟩
    · obtain ⟨rows, us, n5, kp6, hR6, hD6, fus, hok, hln⟩ := hP
      have hjm : j < m := by omega
      have nDr : D ≠ r := (ne_of_none hR5 nD).symm
      have nDH : H D = none := Kp.none kp5 nDr nD
      refine ⟨rfl, tx cols, rfl, _, rfl, fun D2 nD2 => lc_it walk_str (fun j H' => ∃ (row : List Int) (n6 : Int), Kp r H6 H' ∧ H' r = some (.lst [.int n6]) ∧ H' D2 = some (.lst (row.map V.int)) ∧ row.length = j ∧ ∀ z ∈ row, 0 ≤ z ∧ z < 1000)
        ⟨[], _, Kp.rfl'.new nD2, keep_new hR6 nD2, upd_same, rfl, fun t ht => nomatch ht⟩ (fun _ _ _ _ => trivial) (fun j x' H8 H7 hj hP hY => ?_) (fun H7 hP => ?_)⟩
      · obtain ⟨row, n6, kp7, hR7, hD7, hl7, hz7⟩ := hP
        obtain ⟨rfl, c, hc7, rfl⟩ := hY
        have hj2 : j < cols.length := hj
        have nD2r : D2 ≠ r := (ne_of_none hR6 nD2).symm
        refine ⟨rfl, .ref r, rfl, r, n6, 1000, rfl, hR7, by decide, by decide, fun z n7 z0 z1 => ?_⟩
        refine ⟨row.map V.int, keep_ne hD7 nD2r, ?_, row ++ [z], n7, (kp7.own).mut nD2, keep_ne upd_same (Ne.symm nD2r), by rw [upd_same, List.map_append]; rfl, by rw [List.length_append, hl7]; rfl, fun u hu => ?_⟩
        · rw [List.length_map, hl7]
          exact small1000 (by omega)
        · rcases List.mem_append.mp hu with hu | hu
          · exact hz7 u hu
          · rw [List.mem_singleton.mp hu]
            omega
      · obtain ⟨row, n6, kp7, hR7, hD7, hl7, hz7⟩ := hP
        have hlr : row.length = cols.length := hl7
        refine ⟨D2, row.map V.int, rfl, .inl ⟨.inl (.inl hD7), fun rp nrp => ?_⟩⟩
        have hD8 : H7 D = some (.lst us) := kp7 _ _ nDr hD6
        have hD9 : (upd H7 rp (.tup (row.map V.int))) D = some (.lst us) := keep_new hD8 nrp
        have kt : Kt H6 H7 := kp7.kt hR6
        have ul := fus.len
        rw [List.length_map] at ul
        refine ⟨us, hD9, small1000 (by omega), rows ++ [row], us ++ [.ref rp], n6, ((kp6.trans kp7).new nrp).mut nDH, keep_ne (keep_new hR7 nrp) nDr.symm, upd_same, ?_, fun x hx => ?_, by rw [List.length_append, hln]; rfl⟩
        · rw [List.map_append]
          exact (FzA.snoc ((fus.kt kt).kt (.new nrp)) (row_made nrp)).kt (.lst hD9)
        · rcases List.mem_append.mp hx with z | z
          · exact hok x z
          · rw [List.mem_singleton.mp z]
            exact ⟨hlr, hz7⟩
    obtain ⟨rows, us, n5, kp6, hR6, hD6, fus, hok, hln⟩ := hP
    have hrm : rows.length = m := hln
    clear hln
    subst hrm
    have ul := fus.len
    rw [List.length_map] at ul
    refine ⟨D, us, rfl, .inl ⟨.inl (.inl hD6), fun R nR => ?_⟩⟩
    have kp7 := kp6.new (o := .tup us) nR
    have hR7 := keep_new (o := .tup us) hR6 nR
    have hRR7 : (upd H6 R (.tup us)) R = some (.tup us) := upd_same
    have fR7 : Fz (upd H6 R (.tup us)) (.ref R) (rowsD rows) := Fz.made nR fus
    have fus7 := fus.kt (Kt.new (o := .tup us) nR)
    generalize upd H6 R (.tup us) = H7 at kp7 hR7 hRR7 fR7 fus7 ⊢
    clear kp6 hR6 hD6 fus nR nD kp5 hR5
    -- choice
    refine ⟨.ref r, rfl, tx cols, rfl, r, n5, cols, 2, rfl, hR7, by omega, by omega, hc.nd, by omega, fun ch ca n8 H8 kp8 hR8 hca8 okc hch2 => ?_⟩
    have hch : ChL cols ch := ⟨okc.nd, fun o ho => ⟨Nat.le_trans (okc.ok o ho).len (by omega), (okc.ok o ho).sub⟩, by omega⟩
    have kt8 := kp8.kt hR7
    have hRR8 := kt8 _ _ hRR7
    have fR8 := fR7.kt kt8
    have fus8 := fus7.kt kt8
    have kpA := kp7.trans kp8
    clear kp7 kp8 hRR7 fR7 fus7
    -- odd
    refine ⟨_, rfl, .ref r, rfl, r, n8, 9, rfl, hR8, by decide, by decide, fun e n9 e0 e1 => ?_⟩
    have kt9 : Kt H8 (upd H8 r (.lst [.int n9])) := Kt.lst hR8
    have kp9 : Kp r H (upd H8 r (.lst [.int n9])) := kpA.own
    have hR9 : (upd H8 r (.lst [.int n9])) r = some (.lst [.int n9]) := upd_same
    have hca9 := kt9 _ _ hca8
    have hRR9 := kt9 _ _ hRR8
    have fR9 := fR8.kt kt9
    have fus9 := fus8.kt kt9
    generalize upd H8 r (.lst [.int n9]) = H9 at kt9 kp9 hR9 hca9 hRR9 fR9 fus9 ⊢
    clear hca8 hRR8 fR8 fus8 kpA hR8
    have tg9 : TG Z.Ps H9 := tg.kp hR kp9
    have tab9 : LamX.TabS H9 Z.P_Kept_ask (lamQ "Kept.ask") := tab_kp' tab hR kp9
    refine ⟨_, _, rfl, rfl, 1, rfl, _, _, rfl, rfl, ⟨by decide, by decide, by decide⟩, 2, rfl, _, _, rfl, rfl, ⟨by decide, by decide, by decide⟩, _, _, rfl, rfl, _, _, rfl, rfl, ⟨by decide, by decide, by decide⟩, _, _, rfl, rfl, ⟨by decide, by decide, by decide⟩, _, rfl, (by show 10 ≤ sizeLine; decide), fun xa nxa => ?_⟩
    show gName 6 (.ref xa) _ (upd H9 xa (.lst ((oddsM e rows.length).map V.int))) _
    have nxaH : H xa = none := Kp.none kp9 (ne_of_none hR9 nxa).symm nxa
    have sm10 : Same H9 (upd H9 xa (.lst ((oddsM e rows.length).map V.int))) := Same.new (Same.refl H9) nxa
    have hxa10 : (upd H9 xa (.lst ((oddsM e rows.length).map V.int))) xa = some (.lst ((oddsM e rows.length).map V.int)) := upd_same
    generalize upd H9 xa (.lst ((oddsM e rows.length).map V.int)) = H10 at sm10 hxa10 ⊢
    -- there
    refine ⟨tx cols, rfl, .ref ca, rfl, .ref R, rfl, R, us, rfl, .inl (.inl (sm10 _ _ hRR9)), by omega, fun d nd => ?_⟩
    have nd9 : H9 d = none := Same.free sm10 nd
    have ndH : H d = none := Kp.none kp9 (ne_of_none hR9 nd9).symm nd9
    have nxd : xa ≠ d := ne_of_none hxa10 nd
    have sm11 : Same H9 (upd H10 d (.dK (enK 0 us))) := Same.new sm10 nd
    have hd11 : (upd H10 d (.dK (enK 0 us))) d = some (.dK (enK 0 us)) := upd_same
    have hxa11 := keep_new (o := .dK (enK 0 us)) hxa10 nd
    have nm11 := (NmK.en 0 fus9).kt (Same.kt sm11)
    generalize upd H10 d (.dK (enK 0 us)) = H11 at sm11 hd11 hxa11 nm11 ⊢
    clear sm10 hxa10 nd
    -- kept
    refine ⟨tx cols, rfl, .ref R, rfl, (by show 2 ≤ sizeLine; decide), fun t2 nt2 => ?_⟩
    have fT : Fz (upd H11 t2 (.tup [tx cols, .ref R])) (.ref t2) (tabD cols rows) := Fz.made nt2 (.cons (.str _) (.cons (fR9.kt (Same.kt sm11)) .nil))
    have sm12 := Same.new (o := .tup [tx cols, .ref R]) sm11 nt2
    have sm112 := Same.new (o := .tup [tx cols, .ref R]) (Same.refl H11) nt2
    generalize upd H11 t2 (.tup [tx cols, .ref R]) = H12 at fT sm12 sm112 ⊢
    refine ⟨.ref ca, rfl, fun p dx np ndx nex => ?_⟩
    have sm13 : Same H12 (upd (upd H12 dx (.own p)) p (.ins Z.C_Kept dx [])) := fun b o e => by
      rw [upd_ne (ne_of_none e np), upd_ne (ne_of_none e ndx)]
      exact e
    have hp13 : (upd (upd H12 dx (.own p)) p (.ins Z.C_Kept dx [])) p = some (.ins Z.C_Kept dx []) := upd_same
    generalize upd (upd H12 dx (.own p)) p (.ins Z.C_Kept dx []) = H13 at sm13 hp13 ⊢
    have tg12 := tg9.same sm12
    have tab12 := tab_same tab9 sm12
    refine ⟨p, dx, .ref t2, cols, _, ca, ch, rfl, tg12.same sm13, hp13, fT.kt (Same.kt sm13), hok, hm60, sm13 _ _ (sm12 _ _ hca9), hch, fun k H14 ek sx14 tg14 hfree kp14 => ⟨rfl, ?_⟩⟩
    have sxB : Sx Z.Ps H12 H14 := fun b o nb e => sx14 b o (fun z => (List.mem_cons.mp z).elim (ne_of_none e np) nb) (sm13 b o e)
    have kt14 := sxB.kt tg12
    have tab14 := tab_sx tab12 tg12 sxB T.l_Kept_ask
    have free12 : ∀ b ∈ k.F, H12 b = none := fun b hb => by
      by_cases e : b = p
      · rw [e]
        exact np
      · cases e7 : H12 b with
        | none => rfl
        | some o =>
          have := hfree b hb e
          rw [sm13 _ _ e7] at this
          cases this
    have hd12 := sm112 _ _ hd11
    have hxa12 := sm112 _ _ hxa11
    have nm12 := nm11.kt (Same.kt sm112)
    have hd14 := sxB.dct tg12 hd12
    have hxa14 := sxB.lst tg12 hxa12
    have hR14 := sxB.lst tg12 (sm12 _ _ hR9)
    have dnF : d ∉ k.F := fun z => by
      rw [free12 d z] at hd12
      cases hd12
    have xnF : xa ∉ k.F := fun z => by
      rw [free12 xa z] at hxa12
      cases hxa12
    refine ⟨.ref xa, rfl, (by show 5 ≤ sizeLine; decide), fun t nt => ?_⟩
    have smE := Same.new (o := .tup [tx cols, .ref ca, .ref d, .ref p, .ref xa]) (Same.refl H14) nt
    have S14 : KS Z H14 ca k cols ch (thN 0 rows) rows.length 0 := ⟨tg14, tab14, kp14, NmOk.start hok, kt14 _ _ (sm12 _ _ hca9)⟩
    subst ek
    refine q cols rows ch k t ca d xa e _ upd_same hc (by omega) (by omega) hch hm60 hok (fun b o nb eb => ?_) (S14.same smE) ⟨_, smE _ _ hR14⟩ ⟨_, smE _ _ hd14, (nm12.kt kt14).kt (Same.kt smE)⟩ dnF (fun b hb => ?_) (fun z => (List.mem_cons.mp z).elim nxd xnF) (smE _ _ hxa14) e0
    · have nbr : b ≠ r := fun z => nb (by rw [z]; exact List.mem_cons_self)
      exact smE _ _ (sxB _ _ (fun z => nb (List.mem_cons_of_mem _ z)) (sm12 _ _ (kp9 _ _ nbr eb)))
    · rcases List.mem_cons.mp hb with z | hb
      · rw [z]
        exact nxaH
      rcases List.mem_cons.mp hb with z | hb
      · rw [z]
        exact ndH
      cases eb : H b with
      | none => rfl
      | some o =>
        have f12 := free12 b hb
        by_cases nbr : b = r
        · rw [nbr, sm12 _ _ hR9] at f12
          cases f12
        · rw [sm12 _ _ (kp9 _ _ nbr eb)] at f12
          cases f12

/-! ### _law_far_on -/
theorem KS.moved {Z : Ad} {H H' : Hp} {ca : Addr} {k : KAd} {cols : List Nat} {ch : List (List Nat)} {th th' : Nmd} {n n' : Nat} {mv mv' : Int} (s : KS Z H ca k cols ch th n mv) (nP : Z.P_Kept_ask ∉ Z.Ps) (sx : Sx (k.F ++ Z.Ps) H H') (tg : TG Z.Ps H') (kp : KeptAt Z.C_Kept Z.C_Rows H' k cols th' n' ch mv') (ok : NmOk cols.length th' n') : KS Z H' ca k cols ch th' n' mv' := by
  refine ⟨tg, ?_, kp, ok, s.kp.kt s.tg sx _ _ s.hca⟩
  obtain ⟨ps, h1, h2, h3⟩ := s.tab
  refine ⟨ps, sx _ _ (fun z => (List.mem_append.mp z).elim (s.offF h1 (fun _ _ _ z => nomatch z) (fun _ z => nomatch z) (fun _ z => nomatch z)) nP) h1, h2, fun pos cv e => ?_⟩
  obtain ⟨c, e1, e2⟩ := h3 pos cv e
  exact ⟨c, e1, sx _ _ (fun z => (List.mem_append.mp z).elim (s.offF e2 (fun _ _ _ z => by unfold LamX.CodeO at z; cases z) (fun _ z => by unfold LamX.CodeO at z; cases z) (fun _ z => by unfold LamX.CodeO at z; cases z)) (s.tg.not e2 fun q z => by unfold LamX.CodeO at z; cases z)) e2⟩
theorem noNe {x y : V} {p : Prop} (e : x = y) (z : (!decide (x = y)) = true) : p := by
  rw [decide_eq_true e] at z
  cases z
def thF : Nmd := [(0, [3, 5])]
def thG : Nmd := [(0, [3, 5]), (1101, [2, 5])]
theorem ordG1 : IsOrd [97, 98] thG [97] [1101, 0] := ⟨[(1101, [2, 5]), (0, [3, 5])], rfl, .swap .., by
  refine List.pairwise_cons.mpr ⟨fun b hb => ?_, List.pairwise_singleton _ _⟩
  rw [List.mem_singleton.mp hb]
  exact .inl (by decide)⟩
theorem ordG2 : IsOrd [97, 98] thG [98, 97] [1101, 0] := ⟨[(1101, [2, 5]), (0, [3, 5])], rfl, .swap .., by
  refine List.pairwise_cons.mpr ⟨fun b hb => ?_, List.pairwise_singleton _ _⟩
  rw [List.mem_singleton.mp hb]
  exact .inl (by decide)⟩
def spFarOn (K : PySem.W.Frag) (Z : Ad) : Sp := fun vs H Q _ => vs = [] ∧ TG Z.Ps H ∧ LamX.TabS H Z.P_Kept_ask (lamQ "Kept.ask") ∧ ∀ (H' : Hp), Q (.bl true) H'
set_option maxHeartbeats 8000000 in
theorem ok_faron (T : Tx K mg Z) (TB : Tb base mg Z) : FnOk P w K mg base CX0 9 Z.f_l_far_on Z.d_l_far_on [] (spFarOn K Z) := by
  have G_l_word : FnOk P w K mg base CX0 5 Z.f_l_word Z.d_l_word ["kept", "way", "thing"] (spWord K Z) := ok_word T TB
  have G_Kept___init__ : FnOk P w K mg base CX0 4 Z.f_Kept___init__ Z.d_Kept___init__ ["self", "table", "choice"] (spKeptInit K Z) := ok_keptinit T TB
  have G_Kept_put : FnOk P w K mg base (L2.CX P w) 4 Z.f_Kept_put Z.d_Kept_put ["self", "row"] (spKeptPut K Z) := ok_keptput T TB
  have G_Kept_take : FnOk P w K mg base (L2.CX P w) 4 Z.f_Kept_take Z.d_Kept_take ["self", "number"] (spKeptTake K Z) := ok_kepttake T TB
  have G_Kept_sorted_by : FnOk P w K mg base CX0 1 Z.f_Kept_sorted_by Z.d_Kept_sorted_by ["self", "one"] (spSortedBy K Z) := ok_sortedby T
  have G_Kept_moved : FnOk P w K mg base CX0 1 Z.f_Kept_moved Z.d_Kept_moved ["self"] (spMoved K Z) := ok_moved T
  have G_Kept_next_number : FnOk P w K mg base CX0 1 Z.f_Kept_next_number Z.d_Kept_next_number ["self"] (spNext K Z) := ok_next T
  have G_Kept_ask : FnOk P w K mg base CX0 7 Z.f_Kept_ask Z.d_Kept_ask ["self", "question"] (spKeptAsk K Z) := ok_keptask T TB
  refine T.F_l_far_on.ok sc_l_far_on (fun vs H Q E h => ?_) (fun cdv A outer s H vs Q E hr h => ?_)
  · obtain ⟨rfl, _⟩ := h
    rfl
  · obtain ⟨rfl, tg, tab, q⟩ := h
    refine ⟨_, (pss_cons (ps_set (i := 0) sc_l_far_on.nd rfl (.inl rfl) (pe_make T.mk_Kept G_Kept___init__ (hr.mono (by omega)) (by rfl) T.g_Kept T.b_Kept___init__ .nil pass0 (pa_cons (pe_tup (pa_cons pe_str (pa_cons (pe_tup (pa_cons (pe_tup (pa_cons pe_int (pa_cons pe_int pa_nil))) pa_nil)) pa_nil))) (pa_cons (pe_tup (pa_cons pe_str (pa_cons pe_str pa_nil))) pa_nil))))
      (pss_cons (ps_for PassesOwn.never rfl (pi_range1 (by rfl) T.m_range (pa_cons pe_int pa_nil)) (pg_name (i := 1) sc_l_far_on.nd rfl (.inl rfl)) (pss_one (ps_if (PW.pt (pw_or (pt_cmpR op_ne (pe_methX (pv 0) T.cl_Kept T.m_Kept_put G_Kept_put (hr.mono (by omega)) T.b_Kept_put (fun σ => passNo σ) (pa_cons (pe_tup (pa_cons pe_int (pa_cons pe_int pa_nil))) pa_nil)) (pe_op op_add (pv 1) pe_int) (nomark _)) (pw_or1 (pt_cmpR op_notN (pe_methX (pv 0) T.cl_Kept T.m_Kept_take G_Kept_take (hr.mono (by omega)) T.b_Kept_take (fun σ => passNo σ) (pa_cons (pe_op op_add (pv 1) pe_int) pa_nil)) pe_non (nomark _))))) (pss_one (ps_ret pe_bl)) pss_nil)))
      (pss_cons (ps_if (PW.pt (pw_or (pt_cmpR op_ne (pe_meth0 (pv 0) T.cl_Kept T.m_Kept_next_number G_Kept_next_number (hr.mono (by omega)) T.b_Kept_next_number .nil pass0) pe_int (nomark _)) (pw_or (pt_cmpR op_ne (pe_meth0 (pv 0) T.cl_Kept T.m_Kept_moved G_Kept_moved (hr.mono (by omega)) T.b_Kept_moved .nil pass0) pe_int (nomark _)) (pw_or1 (pt_cmpR op_ne (pe_methX (pv 0) T.cl_Kept T.m_Kept_put G_Kept_put (hr.mono (by omega)) T.b_Kept_put (fun σ => passNo σ) (pa_cons (pe_tup (pa_cons pe_int (pa_cons pe_int pa_nil))) pa_nil)) pe_int (nomark _)))))) (pss_one (ps_ret pe_bl)) pss_nil)
      (pss_cons (ps_if (PW.pt (pw_or (pt_cmpR (neDK K hr.units) (pe_meth (pv 0) T.cl_Kept T.m_Kept_sorted_by G_Kept_sorted_by (hr.mono (by omega)) T.b_Kept_sorted_by .nil pass0 (pa_cons pe_str pa_nil)) (pe_lst (pa_cons pe_int (pa_cons pe_int pa_nil))) (nomark _)) (pw_or1 (pt_cmpR (neDK K hr.units) (pe_meth (pv 0) T.cl_Kept T.m_Kept_sorted_by G_Kept_sorted_by (hr.mono (by omega)) T.b_Kept_sorted_by .nil pass0 (pa_cons pe_str pa_nil)) (pe_lst (pa_cons pe_int (pa_cons pe_int pa_nil))) (nomark _))))) (pss_one (ps_ret pe_bl)) pss_nil)
      (pss_cons (ps_if (PW.pt (pw_or (pt_cmpR (neDK K hr.units) (pe_ix (ixT K) (pe_meth (pv 0) T.cl_Kept T.m_Kept_ask G_Kept_ask (hr.mono (by omega)) T.b_Kept_ask .nil pass0 (pa_cons (pe_tup (pa_cons (pe_tupF pa_nil) (pa_cons pe_non pa_nil))) pa_nil)) pe_int (fun _ _ => rfl)) (pe_lst (pa_cons pe_int (pa_cons pe_int pa_nil))) (nomark _)) (pw_or1 (pt_cmpR op_ne (pe_call G_l_word (hr.mono (by omega)) (by rfl) T.g_l_word T.F_l_word.kp T.b_l_word .nil pass0 (pa_cons (pv 0) (pa_cons pe_int (pa_cons pe_int pa_nil)))) pe_str (nomark _))))) (pss_one (ps_ret pe_bl)) pss_nil)
      (pss_one (ps_ret (pe_and (pe_cmpR op_isN (pe_methX (pv 0) T.cl_Kept T.m_Kept_take G_Kept_take (hr.mono (by omega)) T.b_Kept_take (fun σ => passNo σ) (pa_cons pe_int pa_nil)) pe_non (nomark _)) (pe_and (pe_cmpR op_eq (pe_meth0 (pv 0) T.cl_Kept T.m_Kept_next_number G_Kept_next_number (hr.mono (by omega)) T.b_Kept_next_number .nil pass0) pe_int (nomark _)) (pe_one (pe_cmpR op_eq (pe_meth0 (pv 0) T.cl_Kept T.m_Kept_moved G_Kept_moved (hr.mono (by omega)) T.b_Kept_moved .nil pass0) pe_int (nomark _)))))))))))), ?_⟩
    rw [show (V.str (Str.ofString "ab") : V) = tx [97, 98] by kernel_rfl, show (V.str (Str.ofString "a") : V) = tx [97] by kernel_rfl, show (V.str (Str.ofString "ba") : V) = tx [98, 97] by kernel_rfl]
    have nP : Z.P_Kept_ask ∉ Z.Ps := T.l_Kept_ask
    have hch : ChL [97, 98] [[97], [98, 97]] := ⟨by decide, by decide, by decide⟩
    have hr35 : RowOk 2 [3, 5] := ⟨rfl, by decide⟩
    have hr45 : RowOk 2 [4, 5] := ⟨rfl, by decide⟩
    have hr25 : RowOk 2 [2, 5] := ⟨rfl, by decide⟩
    refine ⟨(by show 2 ≤ sizeLine; decide), fun t1 nt1 => ⟨(by show 1 ≤ sizeLine; decide), fun t2 nt2 => ⟨(by show 2 ≤ sizeLine; decide), fun t3 nt3 => ⟨(by show 2 ≤ sizeLine; decide), fun ca nca => fun p dx np ndx nex => ?_⟩⟩⟩⟩
    have f1 : Fz (upd H t1 (.tup [V.int 3, V.int 5])) (.ref t1) (rowD [3, 5]) := row_made (row := [3, 5]) nt1
    have sm1 := Same.new (o := .tup [V.int 3, V.int 5]) (Same.refl H) nt1
    generalize upd H t1 (.tup [V.int 3, V.int 5]) = H1 at f1 sm1 nt2 nt3 nca np ndx ⊢
    have f2 : Fz (upd H1 t2 (.tup [.ref t1])) (.ref t2) (rowsD [[3, 5]]) := Fz.made nt2 (.cons f1 .nil)
    have sm2 := Same.new (o := .tup [.ref t1]) sm1 nt2
    generalize upd H1 t2 (.tup [.ref t1]) = H2 at f2 sm2 nt3 nca np ndx ⊢
    have f3 : Fz (upd H2 t3 (.tup [tx [97, 98], .ref t2])) (.ref t3) (tabD [97, 98] [[3, 5]]) := Fz.made nt3 (.cons (.str _) (.cons f2 .nil))
    have sm3 := Same.new (o := .tup [tx [97, 98], .ref t2]) sm2 nt3
    generalize upd H2 t3 (.tup [tx [97, 98], .ref t2]) = H3 at f3 sm3 nca np ndx ⊢
    have f4 := f3.kt (Kt.new (o := .tup [tx [97], tx [98, 97]]) nca)
    have sm4 := Same.new (o := .tup [tx [97], tx [98, 97]]) sm3 nca
    have hca4 : (upd H3 ca (.tup [tx [97], tx [98, 97]])) ca = some (.tup [tx [97], tx [98, 97]]) := upd_same
    generalize upd H3 ca (.tup [tx [97], tx [98, 97]]) = H4 at f4 sm4 hca4 np ndx ⊢
    clear f1 f2 f3 sm1 sm2 sm3
    have sm5 : Same H4 (upd (upd H4 dx (.own p)) p (.ins Z.C_Kept dx [])) := fun b o e => by
      rw [upd_ne (ne_of_none e np), upd_ne (ne_of_none e ndx)]
      exact e
    have hp5 : (upd (upd H4 dx (.own p)) p (.ins Z.C_Kept dx [])) p = some (.ins Z.C_Kept dx []) := upd_same
    generalize upd (upd H4 dx (.own p)) p (.ins Z.C_Kept dx []) = H5 at sm5 hp5 ⊢
    have tg4 := tg.same sm4
    have tab4 := tab_same tab sm4
    have rok : RowsOk 2 [[3, 5]] := fun x hx => by
      rw [List.mem_singleton.mp hx]
      exact hr35
    refine ⟨p, dx, .ref t3, [97, 98], _, ca, [[97], [98, 97]], rfl, tg4.same sm5, hp5, f4.kt (Same.kt sm5), rok, (by decide), sm5 _ _ hca4, hch, fun k H6 ek sx6 tg6 hfree kp6 => ⟨rfl, ?_⟩⟩
    have sxB : Sx Z.Ps H4 H6 := fun b o nb e => sx6 b o (fun z => (List.mem_cons.mp z).elim (ne_of_none e np) nb) (sm5 b o e)
    have kt6 := sxB.kt tg4
    have tab6 := tab_sx tab4 tg4 sxB T.l_Kept_ask
    have S6 : KS Z H6 ca k [97, 98] [[97], [98, 97]] thF 1 0 := ⟨tg6, tab6, kp6, NmOk.start rok, kt6 _ _ hca4⟩
    subst ek
    clear sx6 hfree kp6 f4 sm4 hca4 sm5 hp5 tg4 tab4 rok sxB kt6 tab6 tg6 np ndx nex nca nt1 nt2 nt3
    refine ⟨1100, rfl, by decide, by decide, for_range (fun i σ H' => ∃ y1 : Option V, σ = [some (.ref k.p), y1] ∧ KS Z H' ca k [97, 98] [[97], [98, 97]] thF (i + 1) (4 * (i : Int)))
      ⟨none, rfl, by rw [Nat.zero_add, show (4 * ((0 : Nat) : Int)) = 0 by rfl]; exact S6⟩ (fun i σ H1 hi hP => ?_) (fun σ H1 hP => ?_)⟩
    · obtain ⟨y1, rfl, S1⟩ := hP
      obtain ⟨dx1, hp1⟩ := S1.kp.self
      refine ⟨.ref k.p, rfl, k.p, dx1, _, rfl, hp1, kpF3_no_put _ _ _, (by show 2 ≤ sizeLine; decide), fun t nt => ?_⟩
      have f1 : Fz (upd H1 t (.tup [V.int 4, V.int 5])) (.ref t) (rowD [4, 5]) := row_made (row := [4, 5]) nt
      have S2 := S1.same (Same.new (o := .tup [V.int 4, V.int 5]) (Same.refl H1) nt)
      generalize upd H1 t (.tup [V.int 4, V.int 5]) = H2 at f1 S2 ⊢
      refine ⟨k, .ref t, [97, 98], thF, i + 1, [[97], [98, 97]], _, [4, 5], rfl, S2.tg, S2.kp, S2.ok, (by decide), hch, f1, hr45, (fun z => absurd (by decide) z), fun _ H3 sx3 tg3 kp3 => ?_⟩
      have S3 := S2.moved nP sx3 tg3 kp3 (S2.ok.put hr45)
      refine ⟨_, rfl, _, _, rfl, rfl, rfl, _, rfl, ite2 (fun z => ?_) fun _ => ?_⟩
      · have e : V.int ((i + 1 : Nat) : Int) = V.int (0 + (i : Int) + 1) := congrArg V.int (by omega)
        rw [e, decide_eq_true rfl] at z
        cases z
      obtain ⟨dx3, hp3⟩ := S3.kp.self
      refine ⟨.ref k.p, rfl, k.p, dx3, _, rfl, hp3, kpF3_no_take _ _ _, _, rfl, _, _, rfl, rfl, k, [97, 98], thF ++ [(i + 1, [4, 5])], i + 1 + 1, [[97], [98, 97]], _, _, rfl, S3.tg, S3.kp, S3.ok, hch, (fun no => absurd (show (0 + (i : Int) + 1) = ((i + 1 : Nat) : Int) by omega) (no _ (by simp))), fun g hg eg H4 sx4 tg4 kp4 => ?_⟩
      obtain rfl : g = i + 1 := by omega
      have eo : outT (thF ++ [(i + 1, [4, 5])]) (i + 1) = thF := by
        simp [outT, thF]
      have ok4 := S3.ok.out (i + 1)
      rw [eo] at kp4 ok4
      have S4 := S3.moved nP sx4 tg4 kp4 ok4
      refine ⟨rfl, _, rfl, iteF ⟨_, rfl, ?_⟩⟩
      have em : 4 * (i : Int) + (([[97], [98, 97]] : List (List Nat)).length : Nat) + (([[97], [98, 97]] : List (List Nat)).length : Nat) = 4 * ((i + 1 : Nat) : Int) := by
        show 4 * (i : Int) + 2 + 2 = _
        omega
      rw [← em]
      exact S4
    obtain ⟨y1, rfl, S1⟩ := hP
    have S2 : KS Z H1 ca k [97, 98] [[97], [98, 97]] thF 1101 4400 := by
      rw [show (1100 : Int).toNat = 1100 from rfl] at S1
      exact S1
    clear S1
    obtain ⟨dx1, hp1⟩ := S2.kp.self
    refine ⟨.ref k.p, rfl, k.p, dx1, _, rfl, hp1, kpF3_no_next_number _ _ _, k, _, _, 1101, _, _, rfl, S2.kp, rfl, _, rfl, ite2 (fun z => noNe rfl z) fun _ => ?_⟩
    refine ⟨.ref k.p, rfl, k.p, dx1, _, rfl, hp1, kpF3_no_moved _ _ _, k, _, _, 1101, _, 4400, rfl, S2.kp, rfl, _, rfl, ite2 (fun z => noNe rfl z) fun _ => ?_⟩
    refine ⟨.ref k.p, rfl, k.p, dx1, _, rfl, hp1, kpF3_no_put _ _ _, (by show 2 ≤ sizeLine; decide), fun t nt => ?_⟩
    have f1 : Fz (upd H1 t (.tup [V.int 2, V.int 5])) (.ref t) (rowD [2, 5]) := row_made (row := [2, 5]) nt
    have S3 := S2.same (Same.new (o := .tup [V.int 2, V.int 5]) (Same.refl H1) nt)
    generalize upd H1 t (.tup [V.int 2, V.int 5]) = H2 at f1 S3 ⊢
    clear S2 hp1
    refine ⟨k, .ref t, [97, 98], thF, 1101, [[97], [98, 97]], _, [2, 5], rfl, S3.tg, S3.kp, S3.ok, (by decide), hch, f1, hr25, (fun z => absurd (by decide) z), fun _ H3 sx3 tg3 kp3 => ?_⟩
    have S4 : KS Z H3 ca k [97, 98] [[97], [98, 97]] thG 1102 4402 := S3.moved nP sx3 tg3 kp3 (S3.ok.put hr25)
    clear S3 f1 sx3 tg3 kp3
    refine ⟨rfl, _, rfl, ite2 (fun z => noNe rfl z) fun _ => ?_⟩
    -- sorted_by
    obtain ⟨dx4, hp4⟩ := S4.kp.self
    refine ⟨.ref k.p, rfl, k.p, dx4, _, rfl, hp4, kpF3_no_sorted_by _ _ _, k, _, thG, 1102, [[97], [98, 97]], 4402, [97], rfl, S4.kp, by decide, by decide, fun L1 ns1 H5 sm5 nL1 hL1 ord1 => ?_⟩
    obtain rfl := ord1.same ordG1
    refine ⟨(by show 2 ≤ sizeLine; decide), fun L2 nL2 => ?_⟩
    have sm6 := Same.new (o := .lst [V.int 1101, .int 0]) sm5 nL2
    have hL1' := keep_new (o := .lst [V.int 1101, .int 0]) hL1 nL2
    have hL2 : (upd H5 L2 (.lst [V.int 1101, .int 0])) L2 = some (.lst (([1101, 0] : List Nat).map nV)) := upd_same
    generalize upd H5 L2 (.lst [V.int 1101, .int 0]) = H6 at sm6 hL1' hL2 ⊢
    refine ⟨_, _, .lst (.inl (.inl hL1')) (dp_nums _), .lst (.inl (.inl hL2)) (dp_nums _), shaped_nums _, shaped_nums _, _, rfl, ite2 (fun z => ?_) fun _ => ?_⟩
    · have z1 : (!PyData.eqv (.list (([1101, 0] : List Nat).map fun x : Nat => PyData.int x)) (.list (([1101, 0] : List Nat).map fun x : Nat => PyData.int x))) = true := z
      rw [(eqv_nums _ _).mpr rfl] at z1
      cases z1
    have S6 := S4.same sm6
    clear S4 hp4 sm5 nL1 hL1 ord1 nL2 sm6 hL1' hL2
    obtain ⟨dx6, hp6⟩ := S6.kp.self
    refine ⟨.ref k.p, rfl, k.p, dx6, _, rfl, hp6, kpF3_no_sorted_by _ _ _, k, _, thG, 1102, [[97], [98, 97]], 4402, [98, 97], rfl, S6.kp, by decide, by decide, fun L1 ns1 H7 sm7 nL1 hL1 ord1 => ?_⟩
    obtain rfl := ord1.same ordG2
    refine ⟨(by show 2 ≤ sizeLine; decide), fun L2 nL2 => ?_⟩
    have sm8 := Same.new (o := .lst [V.int 1101, .int 0]) sm7 nL2
    have hL1' := keep_new (o := .lst [V.int 1101, .int 0]) hL1 nL2
    have hL2 : (upd H7 L2 (.lst [V.int 1101, .int 0])) L2 = some (.lst (([1101, 0] : List Nat).map nV)) := upd_same
    generalize upd H7 L2 (.lst [V.int 1101, .int 0]) = H8 at sm8 hL1' hL2 ⊢
    refine ⟨_, _, .lst (.inl (.inl hL1')) (dp_nums _), .lst (.inl (.inl hL2)) (dp_nums _), shaped_nums _, shaped_nums _, _, rfl, ite2 (fun z => ?_) fun _ => ?_⟩
    · have z1 : (!PyData.eqv (.list (([1101, 0] : List Nat).map fun x : Nat => PyData.int x)) (.list (([1101, 0] : List Nat).map fun x : Nat => PyData.int x))) = true := z
      rw [(eqv_nums _ _).mpr rfl] at z1
      cases z1
    have S8 := S6.same sm8
    clear S6 hp6 sm7 nL1 hL1 ord1 nL2 sm8 hL1' hL2
    -- ask
    obtain ⟨dx8, hp8⟩ := S8.kp.self
    refine ⟨.ref k.p, rfl, k.p, dx8, _, rfl, hp8, kpF3_no_ask _ _ _, Nat.zero_le _, fun te ob nte hob => ⟨(by show 2 ≤ sizeLine; decide), fun v nv => ?_⟩⟩
    have g1 : EZ (upd H8 te (.frz ob (.tup []))) (.ref te) [] := EZ.made nte hob .nil
    have sm1 := Same.new (o := .frz ob (.tup [])) (Same.refl H8) nte
    generalize upd H8 te (.frz ob (.tup [])) = G1 at g1 sm1 nv ⊢
    have g2 : QZ (upd G1 v (.tup [.ref te, .non])) (.ref v) [] none := QZ.made nv g1 .non
    have sm2 := Same.new (o := .tup [.ref te, .non]) sm1 nv
    generalize upd G1 v (.tup [.ref te, .non]) = G2 at g2 sm2 ⊢
    have S9 := S8.same sm2
    clear S8 hp8 sm1 sm2 g1 nte nv
    have qok0 : QOk [97, 98] [] none := ⟨.nil, (fun p h => nomatch h), Nat.zero_le _, fun _ _ _ z => nomatch z⟩
    refine ⟨k, .ref v, _, thG, 1102, _, 4402, [], none, rfl, S9.tg, S9.tab, S9.kp, S9.ok, (by decide), hch, g2, qok0, Nat.zero_le _, fun t an ov H9 sx9 tg9 tab9 nt nan ht han best => ?_⟩
    rw [fit_all] at han
    have S10 := S9.asked sx9 tg9 tab9
    refine ⟨t, _, 0, .ref an, rfl, rfl, .inl (.inl ht), rfl, (by show 2 ≤ sizeLine; decide), fun L2 nL2 => ?_⟩
    have sm10 := Same.new (o := .lst [V.int 0, .int 1101]) (Same.refl H9) nL2
    have han' := keep_new (o := .lst [V.int 0, .int 1101]) han nL2
    have hL2 : (upd H9 L2 (.lst [V.int 0, .int 1101])) L2 = some (.lst (([0, 1101] : List Nat).map nV)) := upd_same
    generalize upd H9 L2 (.lst [V.int 0, .int 1101]) = H10 at sm10 han' hL2 ⊢
    refine ⟨_, _, .lst (.inl (.inl han')) (dp_nums _), .lst (.inl (.inl hL2)) (dp_nums _), shaped_nums _, shaped_nums _, _, rfl, ite2 (fun z => ?_) fun _ => ?_⟩
    · have z1 : (!PyData.eqv (.list (([0, 1101] : List Nat).map fun x : Nat => PyData.int x)) (.list (([0, 1101] : List Nat).map fun x : Nat => PyData.int x))) = true := z
      rw [(eqv_nums _ _).mpr rfl] at z1
      cases z1
    have S11 := S10.same sm10
    clear S9 S10 sx9 tg9 tab9 nt nan ht han best nL2 sm10 han' hL2 g2
    have nums : ∀ m ∈ thG.map (·.1), m = 0 ∨ m = 1101 := by decide
    refine ⟨.ref k.p, rfl, k, .int 1100, _, thG, 1102, _, 4402, S11.tg, S11.kp, S11.ok, (by decide), hch, .inr ⟨1100, rfl, fun _ H12 sm12 => ?_, fun m hm em => ?_⟩⟩
    rotate_left 1
    · rcases nums m hm with z | z <;> omega
    have S12 := S11.same sm12
    clear S11 sm12
    refine ⟨rfl, _, rfl, ite2 (fun z => noNe rfl z) fun _ => ?_⟩
    obtain ⟨dx, hp⟩ := S12.kp.self
    refine ⟨.ref k.p, rfl, k.p, dx, _, rfl, hp, kpF3_no_take _ _ _, k, [97, 98], thG, 1102, [[97], [98, 97]], 4402, 1101, rfl, S12.tg, S12.kp, S12.ok, hch, (fun no => absurd rfl (no 1101 (by decide))), fun g hg eg H4 sx4 tg4 kp4 => ?_⟩
    obtain rfl : g = 1101 := by omega
    have S13 : KS Z H4 ca k [97, 98] [[97], [98, 97]] thF 1102 4404 := S12.moved nP sx4 tg4 kp4 (S12.ok.out 1101)
    obtain ⟨dxE, hpE⟩ := S13.kp.self
    refine ⟨rfl, true, rfl, ?_⟩
    refine ⟨.ref k.p, rfl, k.p, dxE, _, rfl, hpE, kpF3_no_next_number _ _ _, k, _, _, 1102, _, _, rfl, S13.kp, rfl, true, rfl, ?_⟩
    refine ⟨.ref k.p, rfl, k.p, dxE, _, rfl, hpE, kpF3_no_moved _ _ _, k, _, _, 1102, _, 4404, rfl, S13.kp, rfl, ?_⟩
    exact q _

/-! ### the law -/
theorem cut_some (xs : List V) (i : Int) : ∃ j, cutV xs (some i) none = xs.drop j := by
  unfold cutV
  rw [HT.sIx_none]
  exact ⟨_, List.take_of_length_le (by rw [List.length_drop]; exact Nat.le_refl _)⟩
theorem cut_from' (xs : List V) (a : Nat) (h : a ≤ xs.length) : cutV xs (some (a : Int)) none = xs.drop a := by
  unfold cutV
  rw [HT.sIx_nat, HT.sIx_none, Nat.min_eq_left h]
  exact List.take_of_length_le (by rw [List.length_drop]; omega)
def fix8 : List Int := [-1, 10 ^ 40, -2, 2000, 0 - 10 ^ 30, 5000, 10 ^ 9, 10 ^ 59]
theorem fix8_out : ∀ g ∈ fix8, ∀ m : Nat, m < 2000 → g ≠ (m : Int) := by
  intro g hg m hm e
  subst e
  have : ∀ g ∈ fix8, g < 0 ∨ 2000 ≤ g := by decide
  rcases this _ hg with z | z <;> omega
theorem odds_out {e : Int} {n : Nat} (he : 0 ≤ e) (hn : n ≤ 60) : ∀ g ∈ oddsM e n, ∀ m : Nat, m < n → g ≠ (m : Int) := by
  intro g hg m hm
  have hx : g = n + e ∨ g ∈ fix8 ∨ g = n := by
    unfold oddsM at hg
    unfold fix8
    simp only [List.mem_cons, List.not_mem_nil, or_false] at hg ⊢
    rcases hg with h | h | h | h | h | h | h | h | h | h <;> simp [h]
  rcases hx with z | z | z
  · omega
  · exact fix8_out g z m (by omega)
  · omega
theorem StK.mutX {Z : Ad} {H0 : Hp} {r d ca : Addr} {k : KAd} {cols : List Nat} {ch : List (List Nat)} {H : Hp} {th : Nmd} {n : Nat} {mv : Int} (s : StK Z H0 r d ca k cols ch H th n mv) {b : Addr} {xs ys : List V} (nb : b ∉ r :: d :: k.F) (n0 : H0 b = none) (e : H b = some (.lst xs)) : StK Z H0 r d ca k cols ch (upd H b (.lst ys)) th n mv := by
  obtain ⟨rn, hr⟩ := s.hr
  exact ⟨s.sx.mut n0, s.tg.put (s.tg.not e fun q z => nomatch z), tab_kp' s.tab e (Kp.own Kp.rfl'), ⟨rn, keep_ne hr fun z => nb (z ▸ List.mem_cons_self)⟩, s.o.keep (fun c hc o h => keep_ne h fun z => nb (List.mem_cons_of_mem _ (z ▸ hc))) (Kt.lst e), (Kt.lst e) _ _ s.hca, s.new, s.nr⟩
theorem odds_len (e : Int) (n : Int) : (oddsM e n).length = 10 := rfl
theorem thN_mem : ∀ {rows : List (List Int)} {n g : Nat}, g < rows.length → n + g ∈ (thN n rows).map (·.1) := fun {rows n g} h => by
  rw [thN_nums]
  exact List.mem_range'_1.mpr (by omega)
def spLaw (K : PySem.W.Frag) (Z : Ad) : Sp := fun vs H Q _ => ∃ (a : Addr) (ns : List Int), vs = [.ref a] ∧ SqL K H a (ns.map V.int) ∧ ns.length ≤ 63 ∧ (∀ P ∈ Z.Ps, GxR.TabG H P) ∧ LamX.TabS H Z.P_Kept_ask (lamQ "Kept.ask") ∧ ∀ H', Q (.bl true) H'
set_option maxHeartbeats 16000000 in
theorem ok_law (T : Tx K mg Z) (TB : Tb base mg Z) : FnOk P w K mg base CX0 10 Z.f_law Z.d_law ["script"] (spLaw K Z) := by
  have G_l_reel : FnOk P w K mg base CX0 1 Z.f_l_reel Z.d_l_reel ["script", "k"] (spReel K) := ok_reel T
  have G_l_pick : FnOk P w K mg base CX0 1 Z.f_l_pick Z.d_l_pick ["reel", "many"] (spPick K) := ok_pick T
  have G_l_begun : FnOk P w K mg base CX0 6 Z.f_l_begun Z.d_l_begun ["reel", "k"] (spBegun K Z) := ok_begun T TB
  have G_l_word : FnOk P w K mg base CX0 5 Z.f_l_word Z.d_l_word ["kept", "way", "thing"] (spWord K Z) := ok_word T TB
  have G_l_state : FnOk P w K mg base CX0 8 Z.f_l_state Z.d_l_state ["kept", "columns", "choice", "row"] (spState41 K Z) := ok_state41 T TB
  have G_l_all_refused : FnOk P w K mg base CX0 9 Z.f_l_all_refused Z.d_l_all_refused ["kept", "columns", "choice", "row", "things"] (spAllRef K Z) := ok_allref T TB
  have G_l_filled : FnOk P w K mg base CX0 6 Z.f_l_filled Z.d_l_filled ["kept", "there", "row"] (spFilled K Z) := ok_filled T TB
  have G_l_listed : FnOk P w K mg base CX0 8 Z.f_l_listed Z.d_l_listed ["kept", "columns", "there", "choice"] (spListed K Z) := ok_listed T TB
  have G_l_by_turns : FnOk P w K mg base CX0 6 Z.f_l_by_turns Z.d_l_by_turns ["reel", "kept", "there", "row", "most"] (spTurns K Z) := ok_turns T TB
  have G_l_full_at_once : FnOk P w K mg base CX0 9 Z.f_l_full_at_once Z.d_l_full_at_once ["columns", "choice"] (spFull41 K Z) := ok_full41 T TB
  have G_l_far_on : FnOk P w K mg base CX0 9 Z.f_l_far_on Z.d_l_far_on [] (spFarOn K Z) := ok_faron T TB
  have G_Kept_next_number : FnOk P w K mg base CX0 1 Z.f_Kept_next_number Z.d_Kept_next_number ["self"] (spNext K Z) := ok_next T
  refine T.F_law.ok sc_law (fun vs H Q E h => ?_) (fun cdv A outer s H vs Q E hr h => ?_)
  · obtain ⟨a, ns, rfl, _⟩ := h
    rfl
  · obtain ⟨a, ns, rfl, hS, hlen, tgA, tabA, q⟩ := h
    have tg : TG Z.Ps H := tgA
    refine ⟨_, (pss_cons (ps_for PassesOwn.never rfl (pi_range1 (by rfl) T.m_range (pa_cons (pe_callB (call_max2 rfl) (by rfl) T.m_max (by decide +kernel) (pa_cons pe_int (pa_cons (pe_callB (call_min2 rfl) (by rfl) T.m_min (by decide +kernel) (pa_cons pe_int (pa_cons (pe_callB (cLenSq K) (by rfl) T.m_len (by decide +kernel) (pa_cons (pv 0) pa_nil)) pa_nil))) pa_nil))) pa_nil)) (pg_name (i := 1) sc_law.nd rfl (.inl rfl)) (pss_cons (ps_set (i := 2) sc_law.nd rfl (.inr rfl) (pe_call G_l_reel (hr.mono (by omega)) (by rfl) T.g_l_reel T.F_l_reel.kp T.b_l_reel .nil pass0 (pa_cons (pv 0) (pa_cons (pv 1) pa_nil))))
      (pss_cons (ps_asg (pe_call G_l_begun (hr.mono (by omega)) (by rfl) T.g_l_begun T.F_l_begun.kp T.b_l_begun .nil pass0 (pa_cons (pv 2) (pa_cons (pv 1) pa_nil))) (pgT K (n := 5) (pgs_cons (pg_name (i := 3) sc_law.nd rfl (.inl rfl)) (pgs_cons (pg_name (i := 4) sc_law.nd rfl (.inl rfl)) (pgs_cons (pg_name (i := 5) sc_law.nd rfl (.inl rfl)) (pgs_cons (pg_name (i := 6) sc_law.nd rfl (.inl rfl)) (pgs_cons (pg_name (i := 7) sc_law.nd rfl (.inl rfl)) pgs_nil)))))))
      (pss_cons (ps_set (i := 8) sc_law.nd rfl (.inl rfl) (pe_callTy (cTupSq K) (by rfl) T.m_tuple (by decide +kernel) (pa_cons (pe_lc (own := [("letter", 12)]) (tt := tYes) (by rfl) sc_law.nd (pi_str (pv 3)) (blkOk_by (own := [("letter", 12)]) (by kernel_rfl)) (fun _ _ _ _ _ => (pg_name (i := 12) sc_law.nd rfl (.inl rfl))) (fun _ _ _ _ _ => pts_nil) (fun _ _ _ _ _ => (pe_call G_l_pick (hr.mono (by omega)) (by rfl) T.g_l_pick T.F_l_pick.kp T.b_l_pick .nil pass0 (pa_cons (pv 2) (pa_cons pe_int pa_nil))))) pa_nil)))
      (pss_mid (ps_if (pt_cmpR (neD0 hr.units) (pv 5) pe_dnewK (nomark _)) (pss_cons (ps_expr (bmK K PySem.F.plainAttrs_list PySem.F.slot_list_append PySem.F.type_list_append mt_append (pv 7) (pa_cons (pe_call G_l_pick (hr.mono (by omega)) (by rfl) T.g_l_pick T.F_l_pick.kp T.b_l_pick .nil pass0 (pa_cons (pv 2) (pa_cons (pe_callB call_lenD (by rfl) T.m_len (by decide +kernel) (pa_cons (pv 5) pa_nil)) pa_nil))) pa_nil)))
      (pss_cons (ps_expr (pe_dpop1 (pv 5) (pe_ix (ixL K) (pv 7) (pe_un un_neg pe_int) (fun _ _ => rfl)) ⟨rfl, rfl, rfl, rfl⟩))
      (pss_one (ps_if (pt_cmpR op_ne (pe_call G_l_word (hr.mono (by omega)) (by rfl) T.g_l_word T.F_l_word.kp T.b_l_word .nil pass0 (pa_cons (pv 6) (pa_cons pe_int (pa_cons (pe_ix (ixL K) (pv 7) (pe_un un_neg pe_int) (fun _ _ => rfl)) pa_nil)))) pe_str (nomark _)) (pss_one (ps_ret pe_bl)) pss_nil)))) pss_nil)
      (pss_cons (ps_if (pt_not (pt_val (pe_call G_l_all_refused (hr.mono (by omega)) (by rfl) T.g_l_all_refused T.F_l_all_refused.kp T.b_l_all_refused .nil pass0 (pa_cons (pv 6) (pa_cons (pv 3) (pa_cons (pv 4) (pa_cons (pv 8) (pa_cons (pe_slice (slLK K) (pv 7) (po_some (pe_call G_l_pick (hr.mono (by omega)) (by rfl) T.g_l_pick T.F_l_pick.kp T.b_l_pick .nil pass0 (pa_cons (pv 2) (pa_cons pe_int pa_nil)))) po_none) pa_nil)))))))) (pss_one (ps_ret pe_bl)) pss_nil)
      (pss_cons (ps_if (pt_not (pt_val (pe_call G_l_filled (hr.mono (by omega)) (by rfl) T.g_l_filled T.F_l_filled.kp T.b_l_filled .nil pass0 (pa_cons (pv 6) (pa_cons (pv 5) (pa_cons (pv 8) pa_nil)))))) (pss_one (ps_ret pe_bl)) pss_nil)
      (pss_cons (ps_set (i := 9) sc_law.nd rfl (.inl rfl) (pe_call G_l_state (hr.mono (by omega)) (by rfl) T.g_l_state T.F_l_state.kp T.b_l_state .nil pass0 (pa_cons (pv 6) (pa_cons (pv 3) (pa_cons (pv 4) (pa_cons (pv 8) pa_nil))))))
      (pss_cons (ps_for PassesOwn.never rfl (pi_range1 (by rfl) T.m_range (pa_cons pe_int pa_nil)) (pg_name (i := 10) sc_law.nd rfl (.inl rfl)) (pss_one (ps_if (PW.pt (pw_or (pt_cmpR op_ne (pe_call G_l_word (hr.mono (by omega)) (by rfl) T.g_l_word T.F_l_word.kp T.b_l_word .nil pass0 (pa_cons (pv 6) (pa_cons pe_int (pa_cons (pv 8) pa_nil)))) pe_str (nomark _)) (pw_or1 (pt_cmpR (neDK K hr.units) (pe_call G_l_state (hr.mono (by omega)) (by rfl) T.g_l_state T.F_l_state.kp T.b_l_state .nil pass0 (pa_cons (pv 6) (pa_cons (pv 3) (pa_cons (pv 4) (pa_cons (pv 8) pa_nil))))) (pv 9) (nomark _))))) (pss_one (ps_ret pe_bl)) pss_nil)))
      (pss_cons (ps_set (i := 7) sc_law.nd rfl (.inl rfl) (pe_op op_cat (pe_slice (slLK K) (pv 7) (po_some pe_int) (po_some pe_int)) (pe_slice (slLK K) (pv 7) (po_some pe_int) po_none)))
      (pss_cons (ps_if (pt_not (pt_val (pe_call G_l_listed (hr.mono (by omega)) (by rfl) T.g_l_listed T.F_l_listed.kp T.b_l_listed .nil pass0 (pa_cons (pv 6) (pa_cons (pv 3) (pa_cons (pv 5) (pa_cons (pv 4) pa_nil))))))) (pss_one (ps_ret pe_bl)) pss_nil)
      (pss_cons (ps_set (i := 11) sc_law.nd rfl (.inl rfl) (pe_call G_l_by_turns (hr.mono (by omega)) (by rfl) T.g_l_by_turns T.F_l_by_turns.kp T.b_l_by_turns .nil pass0 (pa_cons (pv 2) (pa_cons (pv 6) (pa_cons (pv 5) (pa_cons (pv 8) (pa_cons (pe_call G_l_pick (hr.mono (by omega)) (by rfl) T.g_l_pick T.F_l_pick.kp T.b_l_pick .nil pass0 (pa_cons (pv 2) (pa_cons pe_int pa_nil))) pa_nil)))))))
      (pss_cons (ps_if (PW.pt (pw_or (pt_cmpR op_isN (pv 11) pe_non (nomark _)) (pw_or1 (pt_not (pt_val (pe_call G_l_listed (hr.mono (by omega)) (by rfl) T.g_l_listed T.F_l_listed.kp T.b_l_listed .nil pass0 (pa_cons (pv 6) (pa_cons (pv 3) (pa_cons (pv 5) (pa_cons (pv 4) pa_nil)))))))))) (pss_one (ps_ret pe_bl)) pss_nil)
      (pss_cons (ps_set (i := 7) sc_law.nd rfl (.inl rfl) (pe_op op_cat (pe_op op_cat (pv 7) (pe_slice (slLK K) (pv 11) (po_some (pe_un un_neg pe_int)) po_none)) (pe_lst (pa_cons (pe_meth0 (pv 6) T.cl_Kept T.m_Kept_next_number G_Kept_next_number (hr.mono (by omega)) T.b_Kept_next_number .nil pass0) pa_nil))))
      (pss_cons (ps_if (pt_not (pt_val (pe_call G_l_all_refused (hr.mono (by omega)) (by rfl) T.g_l_all_refused T.F_l_all_refused.kp T.b_l_all_refused .nil pass0 (pa_cons (pv 6) (pa_cons (pv 3) (pa_cons (pv 4) (pa_cons (pv 8) (pa_cons (pv 7) pa_nil)))))))) (pss_one (ps_ret pe_bl)) pss_nil)
      (pss_one (ps_if (PW.pt (pw_or (pt_cmpR op_ne (pe_call G_l_word (hr.mono (by omega)) (by rfl) T.g_l_word T.F_l_word.kp T.b_l_word .nil pass0 (pa_cons (pv 6) (pa_cons pe_int (pa_cons (pv 8) pa_nil)))) pe_str (nomark _)) (pw_or1 (pt_not (pt_val (pe_call G_l_full_at_once (hr.mono (by omega)) (by rfl) T.g_l_full_at_once T.F_l_full_at_once.kp T.b_l_full_at_once .nil pass0 (pa_cons (pv 3) (pa_cons (pv 4) pa_nil)))))))) (pss_one (ps_ret pe_bl)) pss_nil)))))))))))))))))
      (pss_one (ps_ret (pe_or (pe_cmpR op_ne (pe_op op_mod (pe_callB (cLenSq K) (by rfl) T.m_len (by decide +kernel) (pa_cons (pv 0) pa_nil)) pe_int) pe_int (nomark _)) (pe_one (pe_call0 G_l_far_on (hr.mono (by omega)) (by rfl) T.g_l_far_on T.F_l_far_on.kp T.b_l_far_on .nil pass0)))))), ?_⟩
    refine ⟨.ref a, rfl, a, _, rfl, .inl hS, 3, _, rfl, 2, _, rfl, _, rfl, ?_, ?_, ?_⟩
    · split <;> (try split) <;> omega
    · split <;> (try split) <;> omega
    generalize hN : (if (if ((ns.map V.int).length : Int) < 3 then ((ns.map V.int).length : Int) else 3) > 2 then (if ((ns.map V.int).length : Int) < 3 then ((ns.map V.int).length : Int) else 3) else 2).toNat = N
    have hN8 : N ≤ 3 := by
      rw [← hN]
      split <;> (try split) <;> omega
    refine for_range (fun i σ H' => ∃ y1 y2 y3 y4 y5 y6 y7 y8 y9 y10 y11 y12 : Option V, σ = [some (.ref a), y1, y2, y3, y4, y5, y6, y7, y8, y9, y10, y11, y12] ∧ SqL K H' a (ns.map V.int) ∧ TG Z.Ps H' ∧ LamX.TabS H' Z.P_Kept_ask (lamQ "Kept.ask")) ⟨none, none, none, none, none, none, none, none, none, none, none, none, rfl, hS, tg, tabA⟩ (fun i σ H0 hi hP => ?_) (fun σ HE hP => ?_)
    rotate_left 1
    · obtain ⟨y1, y2, y3, y4, y5, y6, y7, y8, y9, y10, y11, y12, rfl, hSE, tgE, tabE⟩ := hP
      refine ⟨.ref a, rfl, a, _, rfl, .inl hSE, _, 8, rfl, rfl, (by show (0 : Int) < 8; decide), rfl, _, rfl, ?_⟩
      split
      · exact q HE
      · exact ⟨rfl, tgE, tabE, fun H' => q H'⟩
    obtain ⟨y1, y2, y3, y4, y5, y6, y7, y8, y9, y10, y11, y12, rfl, hS0, tg0, tab0⟩ := hP
    -- reel
    refine ⟨.ref a, rfl, _, rfl, a, ns, i, by rw [Int.zero_add]; rfl, hS0, by omega, fun n0 r nr => ?_⟩
    have sm1 : Same H0 (upd H0 r (.lst [.int n0])) := Same.new (Same.refl H0) nr
    have hR1 : (upd H0 r (.lst [.int n0])) r = some (.lst [.int n0]) := upd_same
    generalize upd H0 r (.lst [.int n0]) = H1 at sm1 hR1 ⊢
    have tg1 := tg0.same sm1
    -- begun
    refine ⟨.ref r, rfl, _, rfl, r, n0, i, by rw [Int.zero_add]; rfl, hR1, tg1, tab_same tab0 sm1, fun cols rows ch k t ca d xa e H2 ht hc hc1 hc3 hch hrl hrs sx2 S2 hR2 hd2 dnF hfree xnF hxa2 he => ?_⟩
    obtain ⟨n2, hR2⟩ := hR2
    have n0' : ∀ b, H1 b = none → H0 b = none := fun b h => by
      cases e : H0 b with
      | none => rfl
      | some o => rw [sm1 _ _ e] at h; cases h
    have xar : xa ≠ r := fun z => by
      have := hfree xa (by simp)
      rw [z, hR1] at this
      cases this
    have st2 : StK Z H0 r d ca k cols ch H2 (thN 0 rows) rows.length 0 := by
      refine ⟨fun c o nb ec => sx2 c o (fun z => ?_) (sm1 _ _ ec), S2.tg, S2.tab, ⟨_, hR2⟩, ⟨S2.kp, S2.ok, hd2, dnF⟩, S2.hca, fun b hb => ?_, fun z => ?_⟩
      · rcases List.mem_cons.mp z with z | z
        · rw [z, nr] at ec
          cases ec
        · exact nb (List.mem_cons_of_mem _ z)
      · rcases List.mem_cons.mp hb with z | z
        · rw [z]
          exact nr
        · exact n0' _ (hfree b (List.mem_cons_of_mem _ z))
      · have := hfree r (List.mem_cons_of_mem _ z)
        rw [hR1] at this
        cases this
    have nxa : xa ∉ r :: d :: k.F := fun z => (List.mem_cons.mp z).elim xar xnF
    -- row
    refine ⟨t, _, rfl, .inl (.inl ht), rfl, _, _, rfl, _, _, rfl, _, _, rfl, _, _, rfl, _, _, rfl, rfl, tx cols, rfl, _, rfl, fun D2 nD2 => lc_it walk_str (fun j H' => ∃ (row : List Int) (n6 : Int), Kp r H2 H' ∧ H' r = some (.lst [.int n6]) ∧ H' D2 = some (.lst (row.map V.int)) ∧ row.length = j ∧ ∀ z ∈ row, 0 ≤ z ∧ z < 1000)
      ⟨[], _, Kp.rfl'.new nD2, keep_new hR2 nD2, upd_same, rfl, fun t ht => nomatch ht⟩ (fun _ _ _ _ => trivial) (fun j x' H8 H7 hj hP hY => ?_) (fun H7 hP => ?_)⟩
    · obtain ⟨row, n6, kp7, hR7, hD7, hl7, hz7⟩ := hP
      obtain ⟨rfl, c, hc7, rfl⟩ := hY
      have hj2 : j < cols.length := hj
      have nD2r : D2 ≠ r := (ne_of_none hR2 nD2).symm
      refine ⟨rfl, .ref r, rfl, r, n6, 1000, rfl, hR7, by decide, by decide, fun z n7 z0 z1 => ?_⟩
      refine ⟨row.map V.int, keep_ne hD7 nD2r, ?_, row ++ [z], n7, (kp7.own).mut nD2, keep_ne upd_same (Ne.symm nD2r), by rw [upd_same, List.map_append]; rfl, by rw [List.length_append, hl7]; rfl, fun u hu => ?_⟩
      · rw [List.length_map, hl7]
        exact small1000 (by omega)
      · rcases List.mem_append.mp hu with hu | hu
        · exact hz7 u hu
        · rw [List.mem_singleton.mp hu]
          omega
    obtain ⟨row, n6, kp7, hR7, hD7, hl7, hz7⟩ := hP
    have hlr : row.length = cols.length := hl7
    have hrow : RowOk cols.length row := ⟨hlr, hz7⟩
    refine ⟨D2, row.map V.int, rfl, .inl ⟨.inl (.inl hD7), fun ra nra => ?_⟩⟩
    have kp3 := kp7.new (o := .tup (row.map V.int)) nra
    have fr3 : Fz (upd H7 ra (.tup (row.map V.int))) (.ref ra) (rowD row) := row_made nra
    have hR3 := keep_new (o := .tup (row.map V.int)) hR7 nra
    generalize upd H7 ra (.tup (row.map V.int)) = H3 at kp3 fr3 hR3 ⊢
    have st3 := st2.kp kp3 hR3
    have hxa3 := kp3 _ _ xar hxa2
    clear kp7 hR7 hD7 hl7 nD2 nra S2 hd2 hR2 sm1 hR1 tg1 ht sx2 kp3 hR3 st2 hxa2
    have c0 : ∃ c0, cols[0]? = some c0 := ⟨_, List.getElem?_eq_getElem (by omega)⟩
    obtain ⟨c0, hc0⟩ := c0
    obtain ⟨x0, hx0⟩ : ∃ x0, row[0]? = some x0 := ⟨_, List.getElem?_eq_getElem (by omega)⟩
    have n0l : (thN 0 rows).length = rows.length := thN_len rows 0
    have nlt : ∀ m ∈ (thN 0 rows).map (·.1), m < rows.length := fun m hm => by
      obtain ⟨x, hx, rfl⟩ := List.mem_map.mp hm
      exact st3.o.ok.lt x hx
    -- one taken
    refine ⟨fun σ G => ∃ (th : Nmd) (mv : Int) (tl : List Int), σ = [some (.ref a), some (.int (0 + (i : Nat))), some (.ref r), some (tx cols), some (.ref ca), some (.ref d), some (.ref k.p), some (.ref xa), some (.ref ra), y9, y10, y11, y12] ∧ StK Z H0 r d ca k cols ch G th rows.length mv ∧ G xa = some (.lst ((oddsM e rows.length ++ tl).map V.int)) ∧ Fz G (.ref ra) (rowD row) ∧ th.length ≤ 60 ∧ tl.length ≤ 1 ∧ ∀ g ∈ tl, g < rows.length ∧ ∀ m ∈ th.map (·.1), g ≠ ((m : Nat) : Int), ?_, fun σ H4 hM => ?_⟩
    · have nr' : r ≠ d := fun z => st3.nr (z ▸ List.mem_cons_self)
      have nrF : r ∉ k.F := fun z => st3.nr (List.mem_cons_of_mem _ z)
      have xa0 : H0 xa = none := n0' _ (hfree xa List.mem_cons_self)
      refine ⟨_, rfl, fun e1 ne1 => ?_⟩
      have st4 := st3.same (H' := upd H3 e1 (.dK [])) (Same.new (Same.refl H3) ne1)
      have hxa4 := keep_new (o := .dK []) hxa3 ne1
      have fr4 := fr3.kt (Kt.new (o := .dK []) ne1)
      have he4 : (upd H3 e1 (.dK [])) e1 = some (.dK []) := upd_same
      generalize upd H3 e1 (.dK []) = H4 at st4 hxa4 fr4 he4 ⊢
      obtain ⟨kvs, hd4, nm4⟩ := st4.o.dd
      have hkl := nm4.len
      refine ⟨d, e1, kvs, rfl, rfl, hd4, he4, _, rfl, ite2 (fun c1 => ?_) (fun _ => ?_)⟩
      rotate_left 1
      · exact ⟨_, _, [], rfl, st4, by rw [List.append_nil]; exact hxa4, fr4, by omega, Nat.zero_le _, fun g h => nomatch h⟩
      have hkp : 0 < kvs.length := by
        cases kvs with
        | nil => cases c1
        | cons p q => exact Nat.succ_pos _
      clear c1 he4
      obtain ⟨rn4, hR4⟩ := st4.hr
      refine ⟨.ref xa, rfl, .inl ⟨rfl, _, .inl (.inl hxa4)⟩, .ref r, rfl, .ref d, rfl, d, kvs, rfl, hd4, r, rn4, kvs.length, rfl, hR4, by omega, by omega, fun g rn5 g0 g1 => ?_⟩
      have kp5 : Kp r H4 (upd H4 r (.lst [.int rn5])) := Kp.own Kp.rfl'
      have st5 := st4.kp kp5 upd_same
      have hxa5 := kp5 _ _ xar hxa4
      have fr5 := fr4.kt (kp5.kt hR4)
      generalize upd H4 r (.lst [.int rn5]) = H5 at st5 hxa5 fr5 ⊢
      clear kp5 hR4 hxa4 fr4 st4 hd4 nm4
      obtain ⟨gi, rfl⟩ : ∃ gi : Nat, g = gi := ⟨g.toNat, by omega⟩
      have hgi : gi < rows.length := by omega
      refine ⟨xa, _, .int (gi : Int), rfl, rfl, hxa5, by rw [List.length_map, odds_len]; decide, ?_⟩
      have st6 := st5.mutX (ys := (oddsM e rows.length).map V.int ++ [.int (gi : Int)]) nxa xa0 hxa5
      have hxa6 : (upd H5 xa (.lst ((oddsM e rows.length).map V.int ++ [.int (gi : Int)]))) xa = some (.lst ((oddsM e rows.length ++ [(gi : Int)]).map V.int)) := by
        rw [upd_same, List.map_append]
        rfl
      have fr6 := fr5.kt (Kt.lst (o := .lst ((oddsM e rows.length).map V.int ++ [.int (gi : Int)])) hxa5)
      generalize upd H5 xa (.lst ((oddsM e rows.length).map V.int ++ [.int (gi : Int)])) = H6 at st6 hxa6 fr6 ⊢
      clear hxa5 fr5 st5
      obtain ⟨kvs6, hd6, nm6⟩ := st6.o.dd
      have hm : gi ∈ (thN 0 rows).map (·.1) := by
        have := thN_mem (rows := rows) (n := 0) hgi
        rwa [Nat.zero_add] at this
      obtain ⟨v, hv, _⟩ := nm6.at' st6.o.ok.nd (rowT_mem st6.o.ok.nd hm)
      have hat6 : atI ((oddsM e rows.length ++ [(gi : Int)]).map V.int) (-1) = some (.int (gi : Int)) := by
        rw [List.map_append, at_last (by rw [List.length_append]; exact Nat.succ_pos _), List.length_append]
        exact List.getElem?_concat_length
      refine ⟨.ref d, rfl, d, rfl, .inl ⟨kvs6, .inl hd6⟩, .ref xa, rfl, 1, rfl, xa, _, -1, .int (gi : Int), rfl, rfl, .inl (.inl hxa6), hat6, kvs6, nKy gi, v, hd6, rfl, hv, ?_⟩
      have xad : xa ≠ d := fun z => nxa (by rw [z]; exact List.mem_cons_of_mem _ List.mem_cons_self)
      have xaF : xa ∉ k.F := fun z => nxa (List.mem_cons_of_mem _ (List.mem_cons_of_mem _ z))
      have nd : d ∉ k.F := st6.o.nd
      obtain ⟨rn6, hR6⟩ := st6.hr
      have kt67 : Kt H6 (upd H6 d (.dK (dropK kvs6 (nKy gi)))) := Kt.dct hd6
      have sx7 : Sx (r :: d :: (k.F ++ Z.Ps)) H6 (upd H6 d (.dK (dropK kvs6 (nKy gi)))) := Sx.rfl'.updM (List.mem_cons_of_mem _ List.mem_cons_self)
      have tg7 : TG Z.Ps (upd H6 d (.dK (dropK kvs6 (nKy gi)))) := st6.tg.put (st6.tg.not hd6 fun q z => nomatch z)
      have kp7 : KeptAt Z.C_Kept Z.C_Rows (upd H6 d (.dK (dropK kvs6 (nKy gi)))) k cols (thN 0 rows) rows.length ch 0 := st6.o.kp.keep (fun c hc o h => keep_ne h fun z => nd (z ▸ hc)) kt67
      have hd7 : (upd H6 d (.dK (dropK kvs6 (nKy gi)))) d = some (.dK (dropK kvs6 (nKy gi))) := upd_same
      have hR7 : (upd H6 d (.dK (dropK kvs6 (nKy gi)))) r = some (.lst [.int rn6]) := keep_ne hR6 nr'
      have hxa7 : (upd H6 d (.dK (dropK kvs6 (nKy gi)))) xa = some (.lst ((oddsM e rows.length ++ [(gi : Int)]).map V.int)) := keep_ne hxa6 xad
      have nm7 := (nm6.drop gi).kt kt67
      have fr7 := fr6.kt kt67
      generalize upd H6 d (.dK (dropK kvs6 (nKy gi))) = H7 at kt67 sx7 tg7 kp7 hd7 hR7 hxa7 nm7 fr7 ⊢
      generalize dropK kvs6 (nKy gi) = kvs7 at hd7 nm7 ⊢
      refine ⟨.ref k.p, rfl, .ref xa, rfl, 1, rfl, xa, _, -1, .int (gi : Int), rfl, rfl, .inl (.inl hxa7), hat6, k, .int (gi : Int), cols, thN 0 rows, rows.length, ch, 0, tg7, kp7, st6.o.ok, by omega, hch, .inr ⟨gi, rfl, fun no => absurd rfl (no gi hm), fun m _ em H8 sx8 tg8 kp8 => ?_⟩⟩
      obtain rfl : gi = m := by omega
      have kt8 := kp7.kt tg7 sx8
      have hd8 := sx8 _ _ (fun z => (List.mem_append.mp z).elim nd (tg7.not hd7 fun q z => nomatch z)) hd7
      have hR8 := sx8 _ _ (fun z => (List.mem_append.mp z).elim nrF (tg7.not hR7 fun q z => nomatch z)) hR7
      have hxa8 := sx8 _ _ (fun z => (List.mem_append.mp z).elim xaF (tg7.not hxa7 fun q z => nomatch z)) hxa7
      refine ⟨rfl, _, rfl, iteF ?_⟩
      refine ⟨outT (thN 0 rows) gi, _, [(gi : Int)], rfl, st6.done T.l_Kept_ask (sx7.trans (sx8.more fun b h => List.mem_cons_of_mem _ (List.mem_cons_of_mem _ h))) tg8 hR8 ⟨kp8, st6.o.ok.out gi, ⟨_, hd8, nm7.kt kt8⟩, nd⟩, hxa8, fr7.kt kt8, ?_, Nat.le_refl _, fun g hg => ?_⟩
      · exact Nat.le_trans (List.length_filter_le _ _) (by omega)
      · rw [List.mem_singleton.mp hg]
        refine ⟨by omega, fun m hm2 em => ?_⟩
        obtain ⟨x, hx, rfl⟩ := List.mem_map.mp hm2
        have := of_decide_eq_true (List.mem_filter.mp hx).2
        exact this (by omega)
    obtain ⟨th4, mv4, tl, rfl, st4, hxa4, fr4, hl4, tll, htl⟩ := hM
    clear st3 hxa3 fr3 n0l nlt
    have xa0 : H0 xa = none := n0' _ (hfree xa List.mem_cons_self)
    have hcn : cols.length ≤ 1000 := by omega
    have nlt : ∀ m ∈ th4.map (·.1), m < rows.length := fun m hm => by
      obtain ⟨x, hx, rfl⟩ := List.mem_map.mp hm
      exact st4.o.ok.lt x hx
    -- all refused
    obtain ⟨rn4, hR4⟩ := st4.hr
    refine ⟨.ref k.p, rfl, tx cols, rfl, .ref ca, rfl, .ref ra, rfl, .ref xa, rfl, .ref r, rfl, r, rn4, 3, rfl, hR4, by decide, by decide, fun j rn5 j0 j1 => ?_⟩
    have kp5 : Kp r H4 (upd H4 r (.lst [.int rn5])) := Kp.own Kp.rfl'
    have st5 := st4.kp kp5 upd_same
    have hxa5 := kp5 _ _ xar hxa4
    have fr5 := fr4.kt (kp5.kt hR4)
    generalize upd H4 r (.lst [.int rn5]) = H5 at st5 hxa5 fr5 ⊢
    clear kp5 hR4 hxa4 fr4 st4
    refine ⟨_, rfl, xa, _, rfl, .inl (.inl hxa5), fun S nS => ?_⟩
    obtain ⟨j', ej⟩ := cut_some ((oddsM e rows.length ++ tl).map V.int) j
    rw [ej, ← List.map_drop]
    have st6 := st5.same (H' := upd H5 S (.lst (((oddsM e rows.length ++ tl).drop j').map V.int))) (Same.new (Same.refl H5) nS)
    have hxa6 := keep_new (o := .lst (((oddsM e rows.length ++ tl).drop j').map V.int)) hxa5 nS
    have fr6 := fr5.kt (Kt.new (o := .lst (((oddsM e rows.length ++ tl).drop j').map V.int)) nS)
    have hS6 : (upd H5 S (.lst (((oddsM e rows.length ++ tl).drop j').map V.int))) S = some (.lst (((oddsM e rows.length ++ tl).drop j').map V.int)) := upd_same
    have nSF := st5.free nS
    generalize upd H5 S (.lst (((oddsM e rows.length ++ tl).drop j').map V.int)) = H6 at st6 hxa6 fr6 hS6 ⊢
    have outs : ∀ g ∈ (oddsM e rows.length ++ tl).drop j', ∀ m ∈ th4.map (·.1), g ≠ ((m : Nat) : Int) := fun g hg m hm => by
      rcases List.mem_append.mp (List.mem_of_mem_drop hg) with z | z
      · exact odds_out he hrl g z m (nlt m hm)
      · exact (htl g z).2 m hm
    refine ⟨ca, S, k, cols, ch, th4, rows.length, mv4, .ref ra, row, c0, x0, _, rfl, st6.ks, hl4, hch, fr6, hrow, hc0, hx0, hcn, hS6, (fun z => nSF (List.mem_cons_of_mem _ (List.mem_cons_of_mem _ z))), outs, fun H7 S7 sx7 => ⟨true, rfl, iteF ?_⟩⟩
    have st7 := st6.of sx7 S7
    have sxL : Sx (r :: d :: (k.F ++ Z.P_Kept_ask :: Z.Ps)) H6 H7 := sx7.more fun b h => mem_rdk.mpr (.inr h)
    have hxa7 := st6.lst sxL nxa hxa6
    have fr7 := fr6.kt (st6.kT sxL).1
    clear sxL sx7 S7 outs st6 hxa6 fr6 hS6 nSF ej nS hxa5 fr5 st5 nlt
    -- filled
    refine ⟨.ref k.p, rfl, .ref d, rfl, .ref ra, rfl, H0, r, d, ca, k, cols, ch, th4, rows.length, mv4, .ref ra, row, rfl, st7, hl4, hch, fr7, hrow, T.l_Kept_ask, fun th8 n8 mv8 H8 st8 sx8 hl8 hx8 hn8 hn8' => ⟨true, rfl, iteF ?_⟩⟩
    have hxa8 := st7.lst (sxR sx8) nxa hxa7
    have fr8 := fr7.kt (st7.kT (sxR sx8)).1
    have htl8 : ∀ g ∈ tl, g < rows.length ∧ ∀ m ∈ th8.map (·.1), g ≠ ((m : Nat) : Int) := fun g hg => by
      obtain ⟨h1, h2⟩ := htl g hg
      refine ⟨h1, fun m hm em => ?_⟩
      obtain ⟨x, hx, rfl⟩ := List.mem_map.mp hm
      rcases hx8 x hx with z | z
      · exact h2 _ (List.mem_map.mpr ⟨x, z, rfl⟩) em
      · omega
    clear sx8 hxa7 fr7 st7 htl hx8 hl4
    have hn120 : n8 ≤ 120 := by omega
    have hl8' : th8.length ≤ 60 := by omega
    -- state
    refine ⟨.ref k.p, rfl, tx cols, rfl, .ref ca, rfl, .ref ra, rfl, ca, k, cols, ch, th8, n8, mv8, .ref ra, row, c0, x0, rfl, st8.ks, hl8', hch, fr8, hrow, hc0, hx0, hcn, fun ts dd H9 S9 sx9 nts isd fd => ?_⟩
    obtain ⟨sh, ly⟩ := isd.shaped
    have sxL9 : Sx (r :: d :: (k.F ++ Z.P_Kept_ask :: Z.Ps)) H8 H9 := sx9.more fun b h => mem_rdk.mpr (.inr h)
    have st9 := st8.of sx9 S9
    have hxa9 := st8.lst sxL9 nxa hxa8
    have fr9 := fr8.kt (st8.kT sxL9).1
    clear sxL9 sx9 S9 hxa8 fr8 st8
    refine ⟨2, rfl, by decide, by decide, for_range (fun j σ H' => ∃ y10 : Option V, σ = [some (.ref a), some (.int (0 + (i : Nat))), some (.ref r), some (tx cols), some (.ref ca), some (.ref d), some (.ref k.p), some (.ref xa), some (.ref ra), some (.ref ts), y10, y11, y12] ∧ StK Z H0 r d ca k cols ch H' th8 n8 mv8 ∧ Sx (Z.P_Kept_ask :: Z.Ps) H9 H')
      ⟨_, rfl, st9, Sx.rfl'⟩ (fun j σ H10 hj hP => ?_) (fun σ H10 hP => ?_)⟩
    · obtain ⟨y10, rfl, st10, sx10⟩ := hP
      have sxL : Sx (r :: d :: (k.F ++ Z.P_Kept_ask :: Z.Ps)) H9 H10 := sx10.more fun b h => mem_rdk.mpr (.inr h)
      have fr10 := fr9.kt (st9.kT sxL).1
      refine ⟨.ref k.p, rfl, .ref ra, rfl, k, .ref ra, cols, th8, n8, ch, mv8, st10.tg, st10.o.kp, st10.o.ok, hl8', hch, .inl ⟨row, rfl, fr10, hrow, fun _ H11 sm11 => ?_, fun z => absurd z (by omega)⟩⟩
      have st11 := st10.same sm11
      refine ⟨rfl, _, rfl, ite2 (fun z => noNe rfl z) fun _ => ?_⟩
      refine ⟨.ref k.p, rfl, tx cols, rfl, .ref ca, rfl, .ref ra, rfl, ca, k, cols, ch, th8, n8, mv8, .ref ra, row, c0, x0, rfl, st11.ks, hl8', hch, fr10.kt (Same.kt sm11), hrow, hc0, hx0, hcn, fun t2 dd2 H12 S12 sx12 nt2 isd2 fd2 => ?_⟩
      obtain rfl := isd.one isd2
      have sxA : Sx (Z.P_Kept_ask :: Z.Ps) H9 H12 := sx10.trans ((Same.sx sm11).trans sx12)
      have fd12 : Fl (LQ Z k) H12 (.ref ts) dd := fd.sx sxA fun b h => List.mem_append_right _ h
      refine ⟨.ref ts, rfl, dd, dd, fd2.to.to, fd12.to.to, sh, sh, _, rfl, ite2 (fun z => ?_) fun _ => ?_⟩
      · rw [SeqAt.eqv_refl _ ly] at z
        cases z
      · exact ⟨_, rfl, st11.of sx12 S12, sxA⟩
    obtain ⟨y10', rfl, st10, sx10⟩ := hP
    have sxL10 : Sx (r :: d :: (k.F ++ Z.P_Kept_ask :: Z.Ps)) H9 H10 := sx10.more fun b h => mem_rdk.mpr (.inr h)
    have fr10 := fr9.kt (st9.kT sxL10).1
    have hxa10 := st9.lst sxL10 nxa hxa9
    clear sxL10 sx10 hxa9 fr9 st9 isd fd sh ly
    -- odd
    have c19 : cutV ((oddsM e rows.length ++ tl).map V.int) (some (1 : Int)) (some (9 : Int)) = fix8.map V.int := (cutV_nat _ 1 9 (by decide) (by rw [List.length_map, List.length_append, odds_len]; omega)).trans rfl
    have c10 : cutV ((oddsM e rows.length ++ tl).map V.int) (some (10 : Int)) none = tl.map V.int := (cut_from' _ 10 (by rw [List.length_map, List.length_append, odds_len]; omega)).trans rfl
    refine ⟨.ref xa, rfl, _, rfl, _, rfl, xa, _, rfl, .inl (.inl hxa10), fun S1 nS1 => ?_⟩
    rw [c19]
    have st11 := st10.same (H' := upd H10 S1 (.lst (fix8.map V.int))) (Same.new (Same.refl H10) nS1)
    have hxa11 := keep_new (o := .lst (fix8.map V.int)) hxa10 nS1
    have fr11 := fr10.kt (Kt.new (o := .lst (fix8.map V.int)) nS1)
    have hS1 : (upd H10 S1 (.lst (fix8.map V.int))) S1 = some (.lst (fix8.map V.int)) := upd_same
    generalize upd H10 S1 (.lst (fix8.map V.int)) = H11 at st11 hxa11 fr11 hS1 ⊢
    refine ⟨.ref xa, rfl, _, rfl, xa, _, rfl, .inl (.inl hxa11), fun S2 nS2 => ?_⟩
    rw [c10]
    have st12 := st11.same (H' := upd H11 S2 (.lst (tl.map V.int))) (Same.new (Same.refl H11) nS2)
    have fr12 := fr11.kt (Kt.new (o := .lst (tl.map V.int)) nS2)
    have hS1 := keep_new (o := .lst (tl.map V.int)) hS1 nS2
    have hS2 : (upd H11 S2 (.lst (tl.map V.int))) S2 = some (.lst (tl.map V.int)) := upd_same
    generalize upd H11 S2 (.lst (tl.map V.int)) = H12 at st12 fr12 hS1 hS2 ⊢
    refine ⟨S1, S2, _, _, rfl, rfl, hS1, hS2, ?_, fun X nX => ?_⟩
    · rw [List.length_map, List.length_map]
      exact Nat.le_of_lt (small1000 (by show 8 + tl.length ≤ 1000; omega))
    rw [← List.map_append]
    have st13 := st12.same (H' := upd H12 X (.lst ((fix8 ++ tl).map V.int))) (Same.new (Same.refl H12) nX)
    have fr13 := fr12.kt (Kt.new (o := .lst ((fix8 ++ tl).map V.int)) nX)
    have hX13 : (upd H12 X (.lst ((fix8 ++ tl).map V.int))) X = some (.lst ((fix8 ++ tl).map V.int)) := upd_same
    have nXF := st12.free nX
    generalize upd H12 X (.lst ((fix8 ++ tl).map V.int)) = H13 at st13 fr13 hX13 ⊢
    clear st10 hxa10 fr10 st11 hxa11 fr11 st12 fr12 hS1 hS2 c19 c10 nS1 nS2 nX nxa xar
    -- listed
    refine ⟨.ref k.p, rfl, tx cols, rfl, .ref d, rfl, .ref ca, rfl, H0, r, d, ca, k, cols, ch, th8, n8, mv8, rfl, st13, by omega, hl8', hch, by omega, hcn, fun H14 st14 sx14 => ⟨true, rfl, iteF ?_⟩⟩
    have sxL14 : Sx (r :: d :: (k.F ++ Z.P_Kept_ask :: Z.Ps)) H13 H14 := sx14.more fun b h => mem_rdk.mpr (.inr h)
    have fr14 := fr13.kt (st13.kT sxL14).1
    have hX14 := st13.lst sxL14 nXF hX13
    clear sxL14 sx14 st13 fr13 hX13
    -- by turns
    obtain ⟨rn14, hR14⟩ := st14.hr
    refine ⟨.ref r, rfl, .ref k.p, rfl, .ref d, rfl, .ref ra, rfl, .ref r, rfl, r, rn14, 51, rfl, hR14, by decide, by decide, fun mi rn15 m0 m1 => ?_⟩
    obtain ⟨mi, rfl⟩ : ∃ m : Nat, mi = m := ⟨mi.toNat, by omega⟩
    have kp15 : Kp r H14 (upd H14 r (.lst [.int rn15])) := Kp.own Kp.rfl'
    have st15 := st14.kp kp15 upd_same
    have hX15 := kp15 _ _ (fun z => nXF (by rw [z]; exact List.mem_cons_self)) hX14
    have fr15 := fr14.kt (kp15.kt hR14)
    generalize upd H14 r (.lst [.int rn15]) = H15 at st15 hX15 fr15 ⊢
    clear kp15 hR14 st14 hX14 fr14
    refine ⟨H0, r, d, ca, k, cols, ch, th8, n8, mv8, .ref ra, row, mi, rfl, st15, hl8, hch, fr15, hrow, T.l_Kept_ask, by omega, fun th9 mv9 gs ga H16 st16 sx16 nga gaF hga hgs gsl hl9 hx9 => ?_⟩
    have sxr : Sx (r :: d :: (k.F ++ Z.P_Kept_ask :: Z.Ps)) H15 H16 := sx16.more fun b h => (mem_rdk.mp h).elim (fun z => mem_rdk.mpr (.inl z)) fun z => mem_rdk.mpr (.inr (List.mem_cons_of_mem _ z))
    have hX16 := st15.lst sxr nXF hX15
    have fr16 := fr15.kt (st15.kT sxr).1
    have htl9 : ∀ g ∈ tl, ∀ m ∈ th9.map (·.1), g ≠ ((m : Nat) : Int) := fun g hg => by
      obtain ⟨h1, h2⟩ := htl8 g hg
      refine fun m hm em => ?_
      obtain ⟨x, hx, rfl⟩ := List.mem_map.mp hm
      rcases hx9 x hx with z | z
      · exact h2 _ (List.mem_map.mpr ⟨x, z, rfl⟩) em
      · omega
    have nlt9 : ∀ m ∈ th9.map (·.1), m < n8 + mi := fun m hm => by
      obtain ⟨x, hx, rfl⟩ := List.mem_map.mp hm
      exact st16.o.ok.lt x hx
    have hl9' : th9.length ≤ 60 := by omega
    clear sxr sx16 hX15 fr15 st15 htl8 hx9 nga
    refine ⟨.ref ga, rfl, rfl, _, rfl, ite2 (fun z => absurd (of_decide_eq_true z) (fun y => nomatch y)) (fun _ => ?_)⟩
    -- listed
    refine ⟨.ref k.p, rfl, tx cols, rfl, .ref d, rfl, .ref ca, rfl, H0, r, d, ca, k, cols, ch, th9, n8 + mi, mv9, rfl, st16, by omega, hl9', hch, by omega, hcn, fun H17 st17 sx17 => ⟨true, rfl, iteF ?_⟩⟩
    have sxL17 : Sx (r :: d :: (k.F ++ Z.P_Kept_ask :: Z.Ps)) H16 H17 := sx17.more fun b h => mem_rdk.mpr (.inr h)
    have fr17 := fr16.kt (st16.kT sxL17).1
    have hX17 := st16.lst sxL17 nXF hX16
    have hga17 := st16.lst sxL17 gaF hga
    clear sxL17 sx17 st16 fr16 hX16 hga
    -- odd
    refine ⟨.ref X, rfl, .ref ga, rfl, 4, rfl, _, rfl, ga, _, rfl, .inl (.inl hga17), fun S3 nS3 => ?_⟩
    obtain ⟨j, ej⟩ := cut_some (gs.map nV) (-4)
    rw [show cutV (gs.map nV) (some (-4)) none = (gs.drop j).map nV by rw [ej, List.map_drop], nV_map]
    have gl : ((gs.drop j).map fun x : Nat => (x : Int)).length ≤ 50 := by
      rw [List.length_map, List.length_drop]
      omega
    have hgs2 : ∀ g ∈ (gs.drop j).map fun x : Nat => (x : Int), ∀ m ∈ th9.map (·.1), g ≠ ((m : Nat) : Int) := fun g hg m hm em => by
      obtain ⟨g', hg', rfl⟩ := List.mem_map.mp hg
      refine hgs g' (List.mem_of_mem_drop hg') ?_
      rw [show g' = m by omega]
      exact hm
    generalize (gs.drop j).map (fun x : Nat => (x : Int)) = gz at gl hgs2 ⊢
    have st18 := st17.same (H' := upd H17 S3 (.lst (gz.map V.int))) (Same.new (Same.refl H17) nS3)
    have hX18 := keep_new (o := .lst (gz.map V.int)) hX17 nS3
    have fr18 := fr17.kt (Kt.new (o := .lst (gz.map V.int)) nS3)
    have hS3 : (upd H17 S3 (.lst (gz.map V.int))) S3 = some (.lst (gz.map V.int)) := upd_same
    generalize upd H17 S3 (.lst (gz.map V.int)) = H18 at st18 hX18 fr18 hS3 ⊢
    have fl8 : (fix8 ++ tl).length ≤ 9 := by
      rw [List.length_append]
      show 8 + tl.length ≤ 9
      omega
    refine ⟨X, S3, _, _, rfl, rfl, hX18, hS3, ?_, fun Y nY => ?_⟩
    · rw [List.length_map, List.length_map]
      exact Nat.le_of_lt (small1000 (by omega))
    rw [← List.map_append]
    have st19 := st18.same (H' := upd H18 Y (.lst (((fix8 ++ tl) ++ gz).map V.int))) (Same.new (Same.refl H18) nY)
    have fr19 := fr18.kt (Kt.new (o := .lst (((fix8 ++ tl) ++ gz).map V.int)) nY)
    have hY : (upd H18 Y (.lst (((fix8 ++ tl) ++ gz).map V.int))) Y = some (.lst (((fix8 ++ tl) ++ gz).map V.int)) := upd_same
    generalize upd H18 Y (.lst (((fix8 ++ tl) ++ gz).map V.int)) = H19 at st19 fr19 hY ⊢
    obtain ⟨dx, hp⟩ := st19.o.kp.self
    refine ⟨.ref k.p, rfl, k.p, dx, _, rfl, hp, kpF3_no_next_number _ _ _, k, cols, th9, n8 + mi, ch, mv9, rfl, st19.o.kp, (by show 1 ≤ sizeLine; decide), fun S4 nS4 => ?_⟩
    have st20 := st19.same (H' := upd H19 S4 (.lst [V.int ((n8 + mi : Nat) : Int)])) (Same.new (Same.refl H19) nS4)
    have hY20 := keep_new (o := .lst [V.int ((n8 + mi : Nat) : Int)]) hY nS4
    have fr20 := fr19.kt (Kt.new (o := .lst [V.int ((n8 + mi : Nat) : Int)]) nS4)
    have hS4 : (upd H19 S4 (.lst [V.int ((n8 + mi : Nat) : Int)])) S4 = some (.lst ([((n8 + mi : Nat) : Int)].map V.int)) := upd_same
    refine ⟨Y, S4, _, _, rfl, rfl, hY20, hS4, ?_, fun W nW => ?_⟩
    · rw [List.length_map, List.length_map, List.length_append]
      exact Nat.le_of_lt (small1000 (by show (fix8 ++ tl).length + gz.length + 1 ≤ 1000; omega))
    rw [← List.map_append]
    have st21 := st20.same (Same.new (o := .lst ((((fix8 ++ tl) ++ gz) ++ [((n8 + mi : Nat) : Int)]).map V.int)) (Same.refl _) nW)
    have fr21 := fr20.kt (Kt.new (o := .lst ((((fix8 ++ tl) ++ gz) ++ [((n8 + mi : Nat) : Int)]).map V.int)) nW)
    have hW : (upd (upd H19 S4 (.lst [V.int ((n8 + mi : Nat) : Int)])) W (.lst ((((fix8 ++ tl) ++ gz) ++ [((n8 + mi : Nat) : Int)]).map V.int))) W = some (.lst ((((fix8 ++ tl) ++ gz) ++ [((n8 + mi : Nat) : Int)]).map V.int)) := upd_same
    have nWF := st20.free nW
    generalize upd (upd H19 S4 (.lst [V.int ((n8 + mi : Nat) : Int)])) W (.lst ((((fix8 ++ tl) ++ gz) ++ [((n8 + mi : Nat) : Int)]).map V.int)) = H21 at st21 fr21 hW ⊢
    clear st20 hY20 fr20 hS4 nW nS4 st19 fr19 hY hp st18 hX18 fr18 hS3 nY nS3 hX17 hga17 fr17 st17
    have outs : ∀ g ∈ ((fix8 ++ tl) ++ gz) ++ [((n8 + mi : Nat) : Int)], ∀ m ∈ th9.map (·.1), g ≠ ((m : Nat) : Int) := fun g hg m hm => by
      have hm2 := nlt9 m hm
      rcases List.mem_append.mp hg with hg | hg
      · rcases List.mem_append.mp hg with hg | hg
        · rcases List.mem_append.mp hg with hg | hg
          · exact fix8_out g hg m (by omega)
          · exact htl9 g hg m hm
        · exact hgs2 g hg m hm
      · rw [List.mem_singleton.mp hg]
        omega
    -- all refused
    refine ⟨.ref k.p, rfl, tx cols, rfl, .ref ca, rfl, .ref ra, rfl, .ref W, rfl, ca, W, k, cols, ch, th9, n8 + mi, mv9, .ref ra, row, c0, x0, _, rfl, st21.ks, hl9', hch, fr21, hrow, hc0, hx0, hcn, hW, (fun z => nWF (List.mem_cons_of_mem _ (List.mem_cons_of_mem _ z))), outs, fun H22 S22 sx22 => ⟨true, rfl, iteF ?_⟩⟩
    have st22 := st21.of sx22 S22
    have sxL : Sx (r :: d :: (k.F ++ Z.P_Kept_ask :: Z.Ps)) H21 H22 := sx22.more fun b h => mem_rdk.mpr (.inr h)
    have fr22 := fr21.kt (st21.kT sxL).1
    clear sxL sx22 S22 outs st21 fr21 hW nWF
    -- at once
    refine ⟨.ref k.p, rfl, .ref ra, rfl, k, .ref ra, cols, th9, n8 + mi, ch, mv9, st22.tg, st22.o.kp, st22.o.ok, hl9', hch, .inl ⟨row, rfl, fr22, hrow, fun _ H23 sm23 => ?_, fun z => absurd z (by omega)⟩⟩
    have st23 := st22.same sm23
    refine ⟨rfl, _, rfl, ite2 (fun z => noNe rfl z) fun _ => ?_⟩
    refine ⟨tx cols, rfl, .ref ca, rfl, ca, cols, ch, c0, rfl, st23.tg, st23.tab, st23.hca, hch, hc0, hcn, fun H24 sx24 tg24 tab24 => ⟨true, rfl, iteF ?_⟩⟩
    exact ⟨_, _, _, _, _, _, _, _, _, _, _, _, rfl, (st23.sx.trans sx24).seqL (tab_tg tab0 tg0) hS0, tg24, tab24⟩

end
/-! ### the head: facts by names, the run -/
def df0 : He.DefD := ⟨("picked", none), "picked", "picked", defArgs s_picked, defBody s_picked, defScope s_picked, [], []⟩
def df1 : He.DefD := ⟨("letters_of", none), "letters_of", "letters_of", defArgs s_letters_of, defBody s_letters_of, defScope s_letters_of, [], []⟩
def df2 : He.DefD := ⟨("spans", none), "spans", "spans", defArgs s_spans, defBody s_spans, defScope s_spans, [], []⟩
def df3 : He.DefD := ⟨("fits", none), "fits", "fits", defArgs s_fits, defBody s_fits, defScope s_fits, [], []⟩
def df4 : He.DefD := ⟨("used", none), "used", "used", defArgs s_used, defBody s_used, defScope s_used, [], []⟩
def df5 : He.DefD := ⟨("stretch", none), "stretch", "stretch", defArgs s_stretch, defBody s_stretch, defScope s_stretch, [], []⟩
def df6 : He.DefD := ⟨("price_by", none), "price_by", "price_by", defArgs s_price_by, defBody s_price_by, defScope s_price_by, [], []⟩
def df7 : He.DefD := ⟨("Rows", some "__init__"), "__init__", "Rows.__init__", defArgs s_Rows___init__, defBody s_Rows___init__, defScope s_Rows___init__, [], []⟩
def df8 : He.DefD := ⟨("Rows", some "put"), "put", "Rows.put", defArgs s_Rows_put, defBody s_Rows_put, defScope s_Rows_put, [], []⟩
def df9 : He.DefD := ⟨("Rows", some "take"), "take", "Rows.take", defArgs s_Rows_take, defBody s_Rows_take, defScope s_Rows_take, [], []⟩
def df10 : He.DefD := ⟨("Rows", some "as_table"), "as_table", "Rows.as_table", defArgs s_Rows_as_table, defBody s_Rows_as_table, defScope s_Rows_as_table, [], []⟩
def df11 : He.DefD := ⟨("Kept", some "__init__"), "__init__", "Kept.__init__", defArgs s_Kept___init__, defBody s_Kept___init__, defScope s_Kept___init__, [], []⟩
def df12 : He.DefD := ⟨("Kept", some "key_by"), "key_by", "Kept.key_by", defArgs s_Kept_key_by, defBody s_Kept_key_by, defScope s_Kept_key_by, [], []⟩
def df13 : He.DefD := ⟨("Kept", some "enter"), "enter", "Kept.enter", defArgs s_Kept_enter, defBody s_Kept_enter, defScope s_Kept_enter, [], []⟩
def df14 : He.DefD := ⟨("Kept", some "put"), "put", "Kept.put", defArgs s_Kept_put, defBody s_Kept_put, defScope s_Kept_put, [], []⟩
def df15 : He.DefD := ⟨("Kept", some "take"), "take", "Kept.take", defArgs s_Kept_take, defBody s_Kept_take, defScope s_Kept_take, [], []⟩
def df16 : He.DefD := ⟨("Kept", some "sorted_by"), "sorted_by", "Kept.sorted_by", defArgs s_Kept_sorted_by, defBody s_Kept_sorted_by, defScope s_Kept_sorted_by, [], []⟩
def df17 : He.DefD := ⟨("Kept", some "next_number"), "next_number", "Kept.next_number", defArgs s_Kept_next_number, defBody s_Kept_next_number, defScope s_Kept_next_number, [], []⟩
def df18 : He.DefD := ⟨("Kept", some "numbers_read"), "numbers_read", "Kept.numbers_read", defArgs s_Kept_numbers_read, defBody s_Kept_numbers_read, defScope s_Kept_numbers_read, [], []⟩
def df19 : He.DefD := ⟨("Kept", some "ask"), "ask", "Kept.ask", defArgs s_Kept_ask, defBody s_Kept_ask, defScope s_Kept_ask, [], []⟩
def df20 : He.DefD := ⟨("Kept", some "moved"), "moved", "Kept.moved", defArgs s_Kept_moved, defBody s_Kept_moved, defScope s_Kept_moved, [], []⟩
def df21 : He.DefD := ⟨("_law_reel", none), "_law_reel", "_law_reel", defArgs s_l_reel, defBody s_l_reel, defScope s_l_reel, [], []⟩
def df22 : He.DefD := ⟨("_law_pick", none), "_law_pick", "_law_pick", defArgs s_l_pick, defBody s_l_pick, defScope s_l_pick, [], []⟩
def df23 : He.DefD := ⟨("_law_columns", none), "_law_columns", "_law_columns", defArgs s_l_columns, defBody s_l_columns, defScope s_l_columns, [], []⟩
def df24 : He.DefD := ⟨("_law_one", none), "_law_one", "_law_one", defArgs s_l_one, defBody s_l_one, defScope s_l_one, [], []⟩
def df25 : He.DefD := ⟨("_law_choice", none), "_law_choice", "_law_choice", defArgs s_l_choice, defBody s_l_choice, defScope s_l_choice, [], []⟩
def df26 : He.DefD := ⟨("_law_used", none), "_law_used", "_law_used", defArgs s_l_used, defBody s_l_used, defScope s_l_used, [], []⟩
def df27 : He.DefD := ⟨("_law_stretch", none), "_law_stretch", "_law_stretch", defArgs s_l_stretch, defBody s_l_stretch, defScope s_l_stretch, [], []⟩
def df28 : He.DefD := ⟨("_law_fits", none), "_law_fits", "_law_fits", defArgs s_l_fits, defBody s_l_fits, defScope s_l_fits, [], []⟩
def df29 : He.DefD := ⟨("_law_right", none), "_law_right", "_law_right", defArgs s_l_right, defBody s_l_right, defScope s_l_right, [], []⟩
def df30 : He.DefD := ⟨("_law_word", none), "_law_word", "_law_word", defArgs s_l_word, defBody s_l_word, defScope s_l_word, [], []⟩
def df31 : He.DefD := ⟨("_law_state", none), "_law_state", "_law_state", defArgs s_l_state, defBody s_l_state, defScope s_l_state, [], []⟩
def df32 : He.DefD := ⟨("_law_listed", none), "_law_listed", "_law_listed", defArgs s_l_listed, defBody s_l_listed, defScope s_l_listed, [], []⟩
def df33 : He.DefD := ⟨("_law_all_refused", none), "_law_all_refused", "_law_all_refused", defArgs s_l_all_refused, defBody s_l_all_refused, defScope s_l_all_refused, [], []⟩
def df34 : He.DefD := ⟨("_law_full_at_once", none), "_law_full_at_once", "_law_full_at_once", defArgs s_l_full_at_once, defBody s_l_full_at_once, defScope s_l_full_at_once, [], []⟩
def df35 : He.DefD := ⟨("_law_by_turns", none), "_law_by_turns", "_law_by_turns", defArgs s_l_by_turns, defBody s_l_by_turns, defScope s_l_by_turns, [], []⟩
def df36 : He.DefD := ⟨("_law_begun", none), "_law_begun", "_law_begun", defArgs s_l_begun, defBody s_l_begun, defScope s_l_begun, [], []⟩
def df37 : He.DefD := ⟨("_law_filled", none), "_law_filled", "_law_filled", defArgs s_l_filled, defBody s_l_filled, defScope s_l_filled, [], []⟩
def df38 : He.DefD := ⟨("_law_far_on", none), "_law_far_on", "_law_far_on", defArgs s_l_far_on, defBody s_l_far_on, defScope s_l_far_on, [], []⟩
def df39 : He.DefD := ⟨("law", none), "law", "law", defArgs s_law, defBody s_law, defScope s_law, [], []⟩
def dfs : List He.DefD := [df0, df1, df2, df3, df4, df5, df6, df7, df8, df9, df10, df11, df12, df13, df14, df15, df16, df17, df18, df19, df20, df21, df22, df23, df24, df25, df26, df27, df28, df29, df30, df31, df32, df33, df34, df35, df36, df37, df38, df39]
def fas : List He.Fa := [.glo "picked", .glo "letters_of", .glo "spans", .glo "fits", .glo "used", .glo "stretch", .glo "price_by", .mkr "Rows", .meth "Rows" "put", .meth "Rows" "take", .meth "Rows" "as_table", .mkr "Kept", .meth "Kept" "key_by", .meth "Kept" "enter", .meth "Kept" "put", .meth "Kept" "take", .meth "Kept" "sorted_by", .meth "Kept" "next_number", .meth "Kept" "numbers_read", .meth "Kept" "ask", .meth "Kept" "moved", .glo "_law_reel", .glo "_law_pick", .glo "_law_columns", .glo "_law_one", .glo "_law_choice", .glo "_law_used", .glo "_law_stretch", .glo "_law_fits", .glo "_law_right", .glo "_law_word", .glo "_law_state", .glo "_law_listed", .glo "_law_all_refused", .glo "_law_full_at_once", .glo "_law_by_turns", .glo "_law_begun", .glo "_law_filled", .glo "_law_far_on", .glo "law", .glo "Rows", .cls "Rows", .noat "Rows" "columns", .noat "Rows" "there", .noat "Rows" "coming", .glo "Kept", .cls "Kept", .noat "Kept" "rows", .noat "Kept" "orders", .noat "Kept" "moves", .free "len", .free "range", .free "list", .free "sorted", .free "tuple", .free "min", .free "max", .free "enumerate", .free "dict", .free "isinstance", .free "zip", .free "int", .free "bool", .free "str", .free "ValueError", .int "MOST_ROWS" 60, .glo "ListError", .glo "TooMany", .glo "NoNumber", .glo "NoQuestion", .glo "NoRow", .glo "NoText"]
def tfs : List He.Defn := [("picked", none), ("stretch", none), ("Kept", some "ask")]
def apart : PySem.W.Frag → Bool := fun K => (!([He.tabOf K (He.codeOf K ("picked", none)), He.tabOf K (He.codeOf K ("stretch", none))].contains (He.tabOf K (He.codeOf K ("Kept", some "ask"))))) && (xfamB K (He.ga K) ["TooMany", "NoNumber"] ["TooMany", "NoNumber", "NoQuestion", "NoRow", "NoText"])
abbrev Rw : PySem.W.OpenRow := PySem.W.OpenLaw.row PySem.Challenge.rw_stretchkeep_k41_kept_refused
abbrev hk : PySem.W.Hook := He.hookX 10 fas dfs [] tfs apart
def ob (s : PySem.W.SharedT) : He.AlX := He.obsX 10 fas dfs [] tfs apart (HandSHeadRun.getT s)
theorem ob_eq (s : PySem.W.SharedT) : ob s = hk.obs s.abs := He.obsX_eq (HandSHeadRun.getT_eq s)
def loose1 : List Str := ["ListError", "TooMany", "NoNumber", "NoQuestion", "NoRow", "NoText", "MOST_ROWS", "picked", "letters_of", "spans", "fits", "used", "stretch", "price_by", "Rows", "Kept", "_law_reel"]
def loose2 : List Str := ["_law_pick", "_law_columns", "_law_one", "_law_choice", "_law_used", "_law_stretch", "_law_fits", "_law_right", "_law_word", "_law_state", "_law_listed", "_law_all_refused", "_law_full_at_once", "_law_by_turns", "_law_begun", "_law_filled", "_law_far_on"]
set_option maxHeartbeats 0 in
theorem run (w : World) : HandSHeadRun.RunEq Rw (PySem.W.view Rw.prog [41]) hk ob 4000 (loose1 ++ loose2) w := by
  intro os
  kernel_rfl
theorem all_mk {l : PySem.W.OpenLaw} {w : World} {K : PySem.W.Frag} {h : Heap} {mg : Str → Option Value} {fa : Addr} (X : K.In h) (G : h.Ns mainGlobals mg) (hfa : mg "law" = some (.ref fa)) (c : He.SaysX fas dfs [] tfs apart w h K) : LamX.LawAtS l w K CX0 10 63 "script" mg fa h := by
  obtain ⟨fd0, D0⟩ := c.t.d.def_ 0 (d := df0) rfl
  replace D0 : DefAt K ("picked", none) "picked" "picked" s_picked fd0 := D0
  obtain ⟨fd1, D1⟩ := c.t.d.def_ 1 (d := df1) rfl
  replace D1 : DefAt K ("letters_of", none) "letters_of" "letters_of" s_letters_of fd1 := D1
  obtain ⟨fd2, D2⟩ := c.t.d.def_ 2 (d := df2) rfl
  replace D2 : DefAt K ("spans", none) "spans" "spans" s_spans fd2 := D2
  obtain ⟨fd3, D3⟩ := c.t.d.def_ 3 (d := df3) rfl
  replace D3 : DefAt K ("fits", none) "fits" "fits" s_fits fd3 := D3
  obtain ⟨fd4, D4⟩ := c.t.d.def_ 4 (d := df4) rfl
  replace D4 : DefAt K ("used", none) "used" "used" s_used fd4 := D4
  obtain ⟨fd5, D5⟩ := c.t.d.def_ 5 (d := df5) rfl
  replace D5 : DefAt K ("stretch", none) "stretch" "stretch" s_stretch fd5 := D5
  obtain ⟨fd6, D6⟩ := c.t.d.def_ 6 (d := df6) rfl
  replace D6 : DefAt K ("price_by", none) "price_by" "price_by" s_price_by fd6 := D6
  obtain ⟨fd7, D7⟩ := c.t.d.def_ 7 (d := df7) rfl
  replace D7 : DefAt K ("Rows", some "__init__") "__init__" "Rows.__init__" s_Rows___init__ fd7 := D7
  obtain ⟨fd8, D8⟩ := c.t.d.def_ 8 (d := df8) rfl
  replace D8 : DefAt K ("Rows", some "put") "put" "Rows.put" s_Rows_put fd8 := D8
  obtain ⟨fd9, D9⟩ := c.t.d.def_ 9 (d := df9) rfl
  replace D9 : DefAt K ("Rows", some "take") "take" "Rows.take" s_Rows_take fd9 := D9
  obtain ⟨fd10, D10⟩ := c.t.d.def_ 10 (d := df10) rfl
  replace D10 : DefAt K ("Rows", some "as_table") "as_table" "Rows.as_table" s_Rows_as_table fd10 := D10
  obtain ⟨fd11, D11⟩ := c.t.d.def_ 11 (d := df11) rfl
  replace D11 : DefAt K ("Kept", some "__init__") "__init__" "Kept.__init__" s_Kept___init__ fd11 := D11
  obtain ⟨fd12, D12⟩ := c.t.d.def_ 12 (d := df12) rfl
  replace D12 : DefAt K ("Kept", some "key_by") "key_by" "Kept.key_by" s_Kept_key_by fd12 := D12
  obtain ⟨fd13, D13⟩ := c.t.d.def_ 13 (d := df13) rfl
  replace D13 : DefAt K ("Kept", some "enter") "enter" "Kept.enter" s_Kept_enter fd13 := D13
  obtain ⟨fd14, D14⟩ := c.t.d.def_ 14 (d := df14) rfl
  replace D14 : DefAt K ("Kept", some "put") "put" "Kept.put" s_Kept_put fd14 := D14
  obtain ⟨fd15, D15⟩ := c.t.d.def_ 15 (d := df15) rfl
  replace D15 : DefAt K ("Kept", some "take") "take" "Kept.take" s_Kept_take fd15 := D15
  obtain ⟨fd16, D16⟩ := c.t.d.def_ 16 (d := df16) rfl
  replace D16 : DefAt K ("Kept", some "sorted_by") "sorted_by" "Kept.sorted_by" s_Kept_sorted_by fd16 := D16
  obtain ⟨fd17, D17⟩ := c.t.d.def_ 17 (d := df17) rfl
  replace D17 : DefAt K ("Kept", some "next_number") "next_number" "Kept.next_number" s_Kept_next_number fd17 := D17
  obtain ⟨fd18, D18⟩ := c.t.d.def_ 18 (d := df18) rfl
  replace D18 : DefAt K ("Kept", some "numbers_read") "numbers_read" "Kept.numbers_read" s_Kept_numbers_read fd18 := D18
  obtain ⟨fd19, D19⟩ := c.t.d.def_ 19 (d := df19) rfl
  replace D19 : DefAt K ("Kept", some "ask") "ask" "Kept.ask" s_Kept_ask fd19 := D19
  obtain ⟨fd20, D20⟩ := c.t.d.def_ 20 (d := df20) rfl
  replace D20 : DefAt K ("Kept", some "moved") "moved" "Kept.moved" s_Kept_moved fd20 := D20
  obtain ⟨fd21, D21⟩ := c.t.d.def_ 21 (d := df21) rfl
  replace D21 : DefAt K ("_law_reel", none) "_law_reel" "_law_reel" s_l_reel fd21 := D21
  obtain ⟨fd22, D22⟩ := c.t.d.def_ 22 (d := df22) rfl
  replace D22 : DefAt K ("_law_pick", none) "_law_pick" "_law_pick" s_l_pick fd22 := D22
  obtain ⟨fd23, D23⟩ := c.t.d.def_ 23 (d := df23) rfl
  replace D23 : DefAt K ("_law_columns", none) "_law_columns" "_law_columns" s_l_columns fd23 := D23
  obtain ⟨fd24, D24⟩ := c.t.d.def_ 24 (d := df24) rfl
  replace D24 : DefAt K ("_law_one", none) "_law_one" "_law_one" s_l_one fd24 := D24
  obtain ⟨fd25, D25⟩ := c.t.d.def_ 25 (d := df25) rfl
  replace D25 : DefAt K ("_law_choice", none) "_law_choice" "_law_choice" s_l_choice fd25 := D25
  obtain ⟨fd26, D26⟩ := c.t.d.def_ 26 (d := df26) rfl
  replace D26 : DefAt K ("_law_used", none) "_law_used" "_law_used" s_l_used fd26 := D26
  obtain ⟨fd27, D27⟩ := c.t.d.def_ 27 (d := df27) rfl
  replace D27 : DefAt K ("_law_stretch", none) "_law_stretch" "_law_stretch" s_l_stretch fd27 := D27
  obtain ⟨fd28, D28⟩ := c.t.d.def_ 28 (d := df28) rfl
  replace D28 : DefAt K ("_law_fits", none) "_law_fits" "_law_fits" s_l_fits fd28 := D28
  obtain ⟨fd29, D29⟩ := c.t.d.def_ 29 (d := df29) rfl
  replace D29 : DefAt K ("_law_right", none) "_law_right" "_law_right" s_l_right fd29 := D29
  obtain ⟨fd30, D30⟩ := c.t.d.def_ 30 (d := df30) rfl
  replace D30 : DefAt K ("_law_word", none) "_law_word" "_law_word" s_l_word fd30 := D30
  obtain ⟨fd31, D31⟩ := c.t.d.def_ 31 (d := df31) rfl
  replace D31 : DefAt K ("_law_state", none) "_law_state" "_law_state" s_l_state fd31 := D31
  obtain ⟨fd32, D32⟩ := c.t.d.def_ 32 (d := df32) rfl
  replace D32 : DefAt K ("_law_listed", none) "_law_listed" "_law_listed" s_l_listed fd32 := D32
  obtain ⟨fd33, D33⟩ := c.t.d.def_ 33 (d := df33) rfl
  replace D33 : DefAt K ("_law_all_refused", none) "_law_all_refused" "_law_all_refused" s_l_all_refused fd33 := D33
  obtain ⟨fd34, D34⟩ := c.t.d.def_ 34 (d := df34) rfl
  replace D34 : DefAt K ("_law_full_at_once", none) "_law_full_at_once" "_law_full_at_once" s_l_full_at_once fd34 := D34
  obtain ⟨fd35, D35⟩ := c.t.d.def_ 35 (d := df35) rfl
  replace D35 : DefAt K ("_law_by_turns", none) "_law_by_turns" "_law_by_turns" s_l_by_turns fd35 := D35
  obtain ⟨fd36, D36⟩ := c.t.d.def_ 36 (d := df36) rfl
  replace D36 : DefAt K ("_law_begun", none) "_law_begun" "_law_begun" s_l_begun fd36 := D36
  obtain ⟨fd37, D37⟩ := c.t.d.def_ 37 (d := df37) rfl
  replace D37 : DefAt K ("_law_filled", none) "_law_filled" "_law_filled" s_l_filled fd37 := D37
  obtain ⟨fd38, D38⟩ := c.t.d.def_ 38 (d := df38) rfl
  replace D38 : DefAt K ("_law_far_on", none) "_law_far_on" "_law_far_on" s_l_far_on fd38 := D38
  obtain ⟨fd39, D39⟩ := c.t.d.def_ 39 (d := df39) rfl
  replace D39 : DefAt K ("law", none) "law" "law" s_law fd39 := D39
  have e := hfa.symm.trans (He.glo_ok X G (c.t.d.fact 39 (f := .glo "law") rfl))
  cases e
  have F0 := D0.fn
  have b0 := F0.binds (ps := ["columns", "row", "letters"]) fun _ _ _ _ _ _ us hl => match us, hl with | [_, _, _], _ => rfl
  have F1 := D1.fn
  have b1 := F1.binds (ps := ["equals"]) fun _ _ _ _ _ _ us hl => match us, hl with | [_], _ => rfl
  have F2 := D2.fn
  have b2 := F2.binds (ps := ["question"]) fun _ _ _ _ _ _ us hl => match us, hl with | [_], _ => rfl
  have F3 := D3.fn
  have b3 := F3.binds (ps := ["columns", "row", "question"]) fun _ _ _ _ _ _ us hl => match us, hl with | [_, _, _], _ => rfl
  have F4 := D4.fn
  have b4 := F4.binds (ps := ["one", "question"]) fun _ _ _ _ _ _ us hl => match us, hl with | [_, _], _ => rfl
  have F5 := D5.fn
  have b5 := F5.binds (ps := ["table", "one", "question"]) fun _ _ _ _ _ _ us hl => match us, hl with | [_, _, _], _ => rfl
  have F6 := D6.fn
  have b6 := F6.binds (ps := ["table", "one", "question"]) fun _ _ _ _ _ _ us hl => match us, hl with | [_, _, _], _ => rfl
  have F7 := D7.fn
  have b7 := F7.binds (ps := ["self", "table"]) fun _ _ _ _ _ _ us hl => match us, hl with | [_, _], _ => rfl
  have F8 := D8.fn
  have b8 := F8.binds (ps := ["self", "row"]) fun _ _ _ _ _ _ us hl => match us, hl with | [_, _], _ => rfl
  have F9 := D9.fn
  have b9 := F9.binds (ps := ["self", "number"]) fun _ _ _ _ _ _ us hl => match us, hl with | [_, _], _ => rfl
  have F10 := D10.fn
  have b10 := F10.binds (ps := ["self"]) fun _ _ _ _ _ _ us hl => match us, hl with | [_], _ => rfl
  have F11 := D11.fn
  have b11 := F11.binds (ps := ["self", "table", "choice"]) fun _ _ _ _ _ _ us hl => match us, hl with | [_, _, _], _ => rfl
  have F12 := D12.fn
  have b12 := F12.binds (ps := ["self", "one", "number"]) fun _ _ _ _ _ _ us hl => match us, hl with | [_, _, _], _ => rfl
  have F13 := D13.fn
  have b13 := F13.binds (ps := ["self", "number"]) fun _ _ _ _ _ _ us hl => match us, hl with | [_, _], _ => rfl
  have F14 := D14.fn
  have b14 := F14.binds (ps := ["self", "row"]) fun _ _ _ _ _ _ us hl => match us, hl with | [_, _], _ => rfl
  have F15 := D15.fn
  have b15 := F15.binds (ps := ["self", "number"]) fun _ _ _ _ _ _ us hl => match us, hl with | [_, _], _ => rfl
  have F16 := D16.fn
  have b16 := F16.binds (ps := ["self", "one"]) fun _ _ _ _ _ _ us hl => match us, hl with | [_, _], _ => rfl
  have F17 := D17.fn
  have b17 := F17.binds (ps := ["self"]) fun _ _ _ _ _ _ us hl => match us, hl with | [_], _ => rfl
  have F18 := D18.fn
  have b18 := F18.binds (ps := ["self", "table", "one", "question"]) fun _ _ _ _ _ _ us hl => match us, hl with | [_, _, _, _], _ => rfl
  have F19 := D19.fn
  have b19 := F19.binds (ps := ["self", "question"]) fun _ _ _ _ _ _ us hl => match us, hl with | [_, _], _ => rfl
  have F20 := D20.fn
  have b20 := F20.binds (ps := ["self"]) fun _ _ _ _ _ _ us hl => match us, hl with | [_], _ => rfl
  have F21 := D21.fn
  have b21 := F21.binds (ps := ["script", "k"]) fun _ _ _ _ _ _ us hl => match us, hl with | [_, _], _ => rfl
  have F22 := D22.fn
  have b22 := F22.binds (ps := ["reel", "many"]) fun _ _ _ _ _ _ us hl => match us, hl with | [_, _], _ => rfl
  have F23 := D23.fn
  have b23 := F23.binds (ps := ["reel", "many"]) fun _ _ _ _ _ _ us hl => match us, hl with | [_, _], _ => rfl
  have F24 := D24.fn
  have b24 := F24.binds (ps := ["reel", "columns"]) fun _ _ _ _ _ _ us hl => match us, hl with | [_, _], _ => rfl
  have F25 := D25.fn
  have b25 := F25.binds (ps := ["reel", "columns", "many"]) fun _ _ _ _ _ _ us hl => match us, hl with | [_, _, _], _ => rfl
  have F26 := D26.fn
  have b26 := F26.binds (ps := ["one", "question"]) fun _ _ _ _ _ _ us hl => match us, hl with | [_, _], _ => rfl
  have F27 := D27.fn
  have b27 := F27.binds (ps := ["table", "one", "question"]) fun _ _ _ _ _ _ us hl => match us, hl with | [_, _, _], _ => rfl
  have F28 := D28.fn
  have b28 := F28.binds (ps := ["columns", "row", "question"]) fun _ _ _ _ _ _ us hl => match us, hl with | [_, _, _], _ => rfl
  have F29 := D29.fn
  have b29 := F29.binds (ps := ["found", "columns", "there", "choice", "question"]) fun _ _ _ _ _ _ us hl => match us, hl with | [_, _, _, _, _], _ => rfl
  have F30 := D30.fn
  have b30 := F30.binds (ps := ["kept", "way", "thing"]) fun _ _ _ _ _ _ us hl => match us, hl with | [_, _, _], _ => rfl
  have F31 := D31.fn
  have b31 := F31.binds (ps := ["kept", "columns", "choice", "row"]) fun _ _ _ _ _ _ us hl => match us, hl with | [_, _, _, _], _ => rfl
  have F32 := D32.fn
  have b32 := F32.binds (ps := ["kept", "columns", "there", "choice"]) fun _ _ _ _ _ _ us hl => match us, hl with | [_, _, _, _], _ => rfl
  have F33 := D33.fn
  have b33 := F33.binds (ps := ["kept", "columns", "choice", "row", "things"]) fun _ _ _ _ _ _ us hl => match us, hl with | [_, _, _, _, _], _ => rfl
  have F34 := D34.fn
  have b34 := F34.binds (ps := ["columns", "choice"]) fun _ _ _ _ _ _ us hl => match us, hl with | [_, _], _ => rfl
  have F35 := D35.fn
  have b35 := F35.binds (ps := ["reel", "kept", "there", "row", "most"]) fun _ _ _ _ _ _ us hl => match us, hl with | [_, _, _, _, _], _ => rfl
  have F36 := D36.fn
  have b36 := F36.binds (ps := ["reel", "k"]) fun _ _ _ _ _ _ us hl => match us, hl with | [_, _], _ => rfl
  have F37 := D37.fn
  have b37 := F37.binds (ps := ["kept", "there", "row"]) fun _ _ _ _ _ _ us hl => match us, hl with | [_, _, _], _ => rfl
  have F38 := D38.fn
  have b38 := F38.binds (ps := []) fun _ _ _ _ _ _ us hl => match us, hl with | [], _ => rfl
  have F39 := D39.fn
  have b39 := F39.binds (ps := ["script"]) fun _ _ _ _ _ _ us hl => match us, hl with | [_], _ => rfl
  obtain ⟨tk0, hy0⟩ := He.int_ok X G (c.t.d.fact 65 (f := .int "MOST_ROWS" 60) rfl)
  let Z : Ad := ⟨He.fAd K ("picked", none), fd0, He.codeOf K ("picked", none), He.tabOf K (He.codeOf K ("picked", none)), He.fAd K ("letters_of", none), fd1, He.fAd K ("spans", none), fd2, He.fAd K ("fits", none), fd3, He.fAd K ("used", none), fd4, He.fAd K ("stretch", none), fd5, He.codeOf K ("stretch", none), He.tabOf K (He.codeOf K ("stretch", none)), He.fAd K ("price_by", none), fd6, He.fAd K ("Rows", some "__init__"), fd7, He.fAd K ("Rows", some "put"), fd8, He.fAd K ("Rows", some "take"), fd9, He.fAd K ("Rows", some "as_table"), fd10, He.fAd K ("Kept", some "__init__"), fd11, He.fAd K ("Kept", some "key_by"), fd12, He.fAd K ("Kept", some "enter"), fd13, He.fAd K ("Kept", some "put"), fd14, He.fAd K ("Kept", some "take"), fd15, He.fAd K ("Kept", some "sorted_by"), fd16, He.fAd K ("Kept", some "next_number"), fd17, He.fAd K ("Kept", some "numbers_read"), fd18, He.fAd K ("Kept", some "ask"), fd19, He.codeOf K ("Kept", some "ask"), He.tabOf K (He.codeOf K ("Kept", some "ask")), He.fAd K ("Kept", some "moved"), fd20, He.fAd K ("_law_reel", none), fd21, He.fAd K ("_law_pick", none), fd22, He.fAd K ("_law_columns", none), fd23, He.fAd K ("_law_one", none), fd24, He.fAd K ("_law_choice", none), fd25, He.fAd K ("_law_used", none), fd26, He.fAd K ("_law_stretch", none), fd27, He.fAd K ("_law_fits", none), fd28, He.fAd K ("_law_right", none), fd29, He.fAd K ("_law_word", none), fd30, He.fAd K ("_law_state", none), fd31, He.fAd K ("_law_listed", none), fd32, He.fAd K ("_law_all_refused", none), fd33, He.fAd K ("_law_full_at_once", none), fd34, He.fAd K ("_law_by_turns", none), fd35, He.fAd K ("_law_begun", none), fd36, He.fAd K ("_law_filled", none), fd37, He.fAd K ("_law_far_on", none), fd38, He.fAd K ("law", none), fd39, He.ga K "Rows", He.ga K "Kept", tk0, He.ga K⟩
  have far := c.more
  simp only [apart, Bool.and_eq_true, Bool.not_eq_true', List.contains_eq_mem, decide_eq_false_iff_not, decide_eq_true_eq] at far
  have T : Tx K mg Z := ⟨F0, D0.fc, b0, He.glo_ok X G (c.t.d.fact 0 (f := .glo "picked") rfl), F1, b1, He.glo_ok X G (c.t.d.fact 1 (f := .glo "letters_of") rfl), F2, b2, He.glo_ok X G (c.t.d.fact 2 (f := .glo "spans") rfl), F3, b3, He.glo_ok X G (c.t.d.fact 3 (f := .glo "fits") rfl), F4, b4, He.glo_ok X G (c.t.d.fact 4 (f := .glo "used") rfl), F5, D5.fc, b5, He.glo_ok X G (c.t.d.fact 5 (f := .glo "stretch") rfl), F6, b6, He.glo_ok X G (c.t.d.fact 6 (f := .glo "price_by") rfl), F7, b7, He.mkr_ok (c.t.d.fact 7 (f := .mkr "Rows") rfl), F8, b8, He.meth_ok (c.t.d.fact 8 (f := .meth "Rows" "put") rfl), F9, b9, He.meth_ok (c.t.d.fact 9 (f := .meth "Rows" "take") rfl), F10, b10, He.meth_ok (c.t.d.fact 10 (f := .meth "Rows" "as_table") rfl), F11, b11, He.mkr_ok (c.t.d.fact 11 (f := .mkr "Kept") rfl), F12, b12, He.meth_ok (c.t.d.fact 12 (f := .meth "Kept" "key_by") rfl), F13, b13, He.meth_ok (c.t.d.fact 13 (f := .meth "Kept" "enter") rfl), F14, b14, He.meth_ok (c.t.d.fact 14 (f := .meth "Kept" "put") rfl), F15, b15, He.meth_ok (c.t.d.fact 15 (f := .meth "Kept" "take") rfl), F16, b16, He.meth_ok (c.t.d.fact 16 (f := .meth "Kept" "sorted_by") rfl), F17, b17, He.meth_ok (c.t.d.fact 17 (f := .meth "Kept" "next_number") rfl), F18, b18, He.meth_ok (c.t.d.fact 18 (f := .meth "Kept" "numbers_read") rfl), F19, D19.fc, b19, He.meth_ok (c.t.d.fact 19 (f := .meth "Kept" "ask") rfl), F20, b20, He.meth_ok (c.t.d.fact 20 (f := .meth "Kept" "moved") rfl), F21, b21, He.glo_ok X G (c.t.d.fact 21 (f := .glo "_law_reel") rfl), F22, b22, He.glo_ok X G (c.t.d.fact 22 (f := .glo "_law_pick") rfl), F23, b23, He.glo_ok X G (c.t.d.fact 23 (f := .glo "_law_columns") rfl), F24, b24, He.glo_ok X G (c.t.d.fact 24 (f := .glo "_law_one") rfl), F25, b25, He.glo_ok X G (c.t.d.fact 25 (f := .glo "_law_choice") rfl), F26, b26, He.glo_ok X G (c.t.d.fact 26 (f := .glo "_law_used") rfl), F27, b27, He.glo_ok X G (c.t.d.fact 27 (f := .glo "_law_stretch") rfl), F28, b28, He.glo_ok X G (c.t.d.fact 28 (f := .glo "_law_fits") rfl), F29, b29, He.glo_ok X G (c.t.d.fact 29 (f := .glo "_law_right") rfl), F30, b30, He.glo_ok X G (c.t.d.fact 30 (f := .glo "_law_word") rfl), F31, b31, He.glo_ok X G (c.t.d.fact 31 (f := .glo "_law_state") rfl), F32, b32, He.glo_ok X G (c.t.d.fact 32 (f := .glo "_law_listed") rfl), F33, b33, He.glo_ok X G (c.t.d.fact 33 (f := .glo "_law_all_refused") rfl), F34, b34, He.glo_ok X G (c.t.d.fact 34 (f := .glo "_law_full_at_once") rfl), F35, b35, He.glo_ok X G (c.t.d.fact 35 (f := .glo "_law_by_turns") rfl), F36, b36, He.glo_ok X G (c.t.d.fact 36 (f := .glo "_law_begun") rfl), F37, b37, He.glo_ok X G (c.t.d.fact 37 (f := .glo "_law_filled") rfl), F38, b38, He.glo_ok X G (c.t.d.fact 38 (f := .glo "_law_far_on") rfl), F39, b39, He.glo_ok X G (c.t.d.fact 39 (f := .glo "law") rfl), (by simpa using far.1), He.cls_ok (c.t.d.fact 41 (f := .cls "Rows") rfl), He.glo_ok X G (c.t.d.fact 40 (f := .glo "Rows") rfl), He.noat_ok (c.t.d.fact 42 (f := .noat "Rows" "columns") rfl), He.noat_ok (c.t.d.fact 43 (f := .noat "Rows" "there") rfl), He.noat_ok (c.t.d.fact 44 (f := .noat "Rows" "coming") rfl), He.cls_ok (c.t.d.fact 46 (f := .cls "Kept") rfl), He.glo_ok X G (c.t.d.fact 45 (f := .glo "Kept") rfl), He.noat_ok (c.t.d.fact 47 (f := .noat "Kept" "rows") rfl), He.noat_ok (c.t.d.fact 48 (f := .noat "Kept" "orders") rfl), He.noat_ok (c.t.d.fact 49 (f := .noat "Kept" "moves") rfl), He.free_ok X G (c.t.d.fact 50 (f := .free "len") rfl), He.free_ok X G (c.t.d.fact 51 (f := .free "range") rfl), He.free_ok X G (c.t.d.fact 52 (f := .free "list") rfl), He.free_ok X G (c.t.d.fact 53 (f := .free "sorted") rfl), He.free_ok X G (c.t.d.fact 54 (f := .free "tuple") rfl), He.free_ok X G (c.t.d.fact 55 (f := .free "min") rfl), He.free_ok X G (c.t.d.fact 56 (f := .free "max") rfl), He.free_ok X G (c.t.d.fact 57 (f := .free "enumerate") rfl), He.free_ok X G (c.t.d.fact 58 (f := .free "dict") rfl), He.free_ok X G (c.t.d.fact 59 (f := .free "isinstance") rfl), He.free_ok X G (c.t.d.fact 60 (f := .free "zip") rfl), He.free_ok X G (c.t.d.fact 61 (f := .free "int") rfl), He.free_ok X G (c.t.d.fact 62 (f := .free "bool") rfl), He.free_ok X G (c.t.d.fact 63 (f := .free "str") rfl), He.free_ok X G (c.t.d.fact 64 (f := .free "ValueError") rfl), hy0, xfam_of far.2, He.glo_ok X G (c.t.d.fact 66 (f := .glo "ListError") rfl), He.glo_ok X G (c.t.d.fact 67 (f := .glo "TooMany") rfl), He.glo_ok X G (c.t.d.fact 68 (f := .glo "NoNumber") rfl), He.glo_ok X G (c.t.d.fact 69 (f := .glo "NoQuestion") rfl), He.glo_ok X G (c.t.d.fact 70 (f := .glo "NoRow") rfl), He.glo_ok X G (c.t.d.fact 71 (f := .glo "NoText") rfl)⟩
  have bA := FunD.bindsA (ps := ["script"]) D39 fun _ _ _ _ _ _ us hl => match us, hl with | [_], _ => rfl
  have each : ∀ {R : Addr × Addr → Prop}, (∀ p ∈ tfs, R (He.cT K p)) → ∀ q ∈ [He.cT K ("picked", none), He.cT K ("stretch", none), He.cT K ("Kept", some "ask")], R q := fun h q hq => by
    obtain ⟨p, hp, rfl⟩ := List.mem_map.mp (show q ∈ tfs.map (He.cT K) from hq)
    exact h p hp
  refine ⟨Z.d_law, [He.cT K ("picked", none), He.cT K ("stretch", none), He.cT K ("Kept", some "ask")], spLaw K Z, each c.empty, each c.out, each fun p hp => PySem.W.codeHd_of_K X (c.hd p hp), fun s v => bA s [v] rfl, fun H a ns hl _ hT hS => ?_, fun base _ _ hTB => ?_⟩
  · refine ⟨a, ns, rfl, hS, hl, fun P hP => ?_, LamX.TabS.nil (hT (He.cT K ("Kept", some "ask")) (by simp)), fun _ => rfl⟩
    have hP2 : P ∈ [He.tabOf K (He.codeOf K ("picked", none)), He.tabOf K (He.codeOf K ("stretch", none))] := hP
    obtain ⟨p, hp, rfl⟩ : ∃ p ∈ [He.cT K ("picked", none), He.cT K ("stretch", none), He.cT K ("Kept", some "ask")], p.2 = P := by
      simp only [List.mem_cons, List.not_mem_nil, or_false] at hP2
      rcases hP2 with e | e
      · exact ⟨He.cT K ("picked", none), by simp, e.symm⟩
      · exact ⟨He.cT K ("stretch", none), by simp, e.symm⟩
    exact ⟨#[], hT p hp, trivial⟩
  · exact ok_law T ⟨hTB (He.cT K ("picked", none)) (by simp), hTB (He.cT K ("stretch", none)) (by simp), hTB (He.cT K ("Kept", some "ask")) (by simp)⟩
end My
open PySem PySem.W PySem.Calls PyProof.Rows
set_option maxHeartbeats 0 in
theorem PySem.Challenge.cw_stretchkeep_k41_kept_refused_holds : PySem.Challenge.rw_stretchkeep_k41_kept_refused.Holds := by
  w_on; o_law
  refine HandSHeadRun.head_any (r := My.Rw) (q := view My.Rw.prog [41]) (H := My.hk) (ob := My.ob) (M := 4000) (loose := My.loose1 ++ My.loose2) (d := HandSHeadRun.topDef My.Rw.prog 41) (kwd := []) My.ob_eq
    (by kernel_rfl) (fun s => by kernel_rfl) My.run (by kernel_rfl) (by kernel_rfl) (by kernel_rfl) (by rfl) (by first | assumption | decide +kernel) (by decide +kernel) ⟨rfl, rfl, rfl, rfl, rfl, by decide +kernel⟩ ?hw ?hc
  case hw => w_witness2
  case hc =>
    refine LamX.walk_ofTsE (l := PySem.Challenge.rw_stretchkeep_k41_kept_refused) (n := 63) (k := 10) (x := "script") (CX := fun _ => L2.CX0) rfl (by decide) (by kernel_rfl) ⟨rfl, by decide, by decide⟩ ?F (fun _ _ _ _ _ z => z)
    intro w mg fa h Y G hmg0
    obtain ⟨K, KX, c⟩ := Y
    have hmg : mg ("law" : PySem.Str) = some (.ref fa) := by
      have e : (HandSHeadRun.topDef My.Rw.prog 41).name = ("law" : PySem.Str) := by kernel_rfl
      rw [← e]
      exact hmg0
    exact ⟨K, KX, My.all_mk KX G hmg c⟩

