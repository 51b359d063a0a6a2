import PyProof.Rows.All
import Wide.All
import OpenK.AllK
import Wide.FinOn
import HandS.ForMost
import HandS.Wide
import HandS.Walk
import HandS.IsInst
import HandS.TupAny
import HandS.StrMore
import HandS.Replace
import HandS.Style
import HandS.Evl
import HandS.ForExc
import HandS.ExcInit
import HandS.ExcField
import HandS.ExcIs
import KE.KExcIs
import HandS.HotCalls
import HandS.ExcInitHot
import KE.KxField
import HandS.FStr
import HandS.Iter
import PyProof.Rows.ChunkEnd
import HandS.Star
import HandS.Strs
import HandS.WideBits
import HandS.OwnEq
import HandS.OwnIter
import HandS.IterVal
import OpenK.KMeth
import OpenK.KOps
import HandS.SetFor
import KE.KOpsOwn
import KE.GoesMore
import KE.GoesZip
import HandS.GenBody
import HandS.GenYield
import HandS.GenList
import HandS.TupSets
import HandS.SortOrd
import PyProof.Rows.SortShellAny
import HandS.SetKeys
import HandS.Conv
import PyProof.DictMoreH
import HandS.List
import PySem.Challenge.RW_romwright_k43_whole_corners
set_option Elab.async false
set_option linter.all false
set_option maxRecDepth 100000
set_option maxHeartbeats 4000000
namespace RK
open PySem PySem.Spec PyProof.Rows L2
/-! ### heaps -/
/-- all but what stands at p is as it was -/
def But (p : Addr) (H H' : Hp) : Prop := ∀ b o, b ≠ p → H b = some o → H' b = some o
theorem But.refl (p : Addr) (H : Hp) : But p H H := fun _ _ _ h => h
theorem But.upd {p : Addr} {H H' : Hp} {o : HO} (h : But p H H') : But p H (upd H' p o) := fun b u n e => by
  rw [upd_ne n]
  exact h b u n e
theorem But.trans {p : Addr} {H H1 H2 : Hp} (a : But p H H1) (b : But p H1 H2) : But p H H2 := fun c o n h => b c o n (a c o n h)
theorem but_new {p D : Addr} {H H' : Hp} {o : HO} (h : But p H H') (n : H D = none) : But p H (upd H' D o) := fun b u nb e => by
  rw [upd_ne (ne_of_none e n)]
  exact h b u nb e
theorem But.of {p : Addr} {H H' : Hp} (h : Same H H') : But p H H' := fun b o _ e => h b o e
theorem same_new {H : Hp} {p : Addr} {o : HO} (h : H p = none) : Same H (upd H p o) := fun b x e => by
  rw [upd_ne (ne_of_none e h)]
  exact e
theorem sqT_up {K : PySem.W.Frag} {H H' : Hp} {a : Addr} {xs : List V} (h : SqT K H a xs) (e : Same H H') : SqT K H' a xs := by
  rcases h with (h | ⟨o, h⟩) | h
  · exact .inl (.inl (e _ _ h))
  · exact .inl (.inr ⟨o, e _ _ h⟩)
  · exact .inr h
theorem sqL_up {K : PySem.W.Frag} {H H' : Hp} {a : Addr} {xs : List V} (h : SqL K H a xs) (e : Same H H') : SqL K H' a xs := e.seq h
/-- a new object that H did not know changes -/
theorem same_mut {H H' : Hp} {p : Addr} {o : HO} (e : Same H H') (h : H p = none) : Same H (upd H' p o) := fun a u ha => by
  rw [upd_ne (ne_of_none ha h)]
  exact e a u ha
/-- the heap without p -/
def hid (H : Hp) (p : Addr) : Hp := fun b => if b = p then none else H b
theorem hid_same {H : Hp} {p : Addr} : Same (hid H p) H := fun b o e => by
  unfold hid at e
  split at e
  · cases e
  · exact e
theorem hid_at {H : Hp} {p b : Addr} {o : HO} (h : H b = some o) (n : b ≠ p) : hid H p b = some o := by
  unfold hid
  rw [if_neg n]
  exact h
theorem hid_but {H H' : Hp} {p : Addr} (h : But p H H') : Same (hid H p) (hid H' p) := fun b o e => by
  unfold hid at e ⊢
  split at e
  · cases e
  · rename_i n
    rw [if_neg n]
    exact h b o n e
mutual
theorem dpUp {K : PySem.W.Frag} {H H' : Hp} (e : Same H H') : ∀ {v : V} {d : PyData}, Dp K H v d → Dp K H' v d
  | _, _, .non => .non
  | _, _, .bl b => .bl b
  | _, _, .int i => .int i
  | _, _, .str x => .str x
  | _, _, .lst h t => .lst (sqL_up h e) (dpAllUp e t)
  | _, _, .tup h t => .tup (sqT_up h e) (dpAllUp e t)
theorem dpAllUp {K : PySem.W.Frag} {H H' : Hp} (e : Same H H') : ∀ {vs : List V} {ds : List PyData}, DpAll K H vs ds → DpAll K H' vs ds
  | _, _, .nil => .nil
  | _, _, .cons h t => .cons (dpUp e h) (dpAllUp e t)
end
/-! ### data of any depth, none of whose changeable objects lies in S -/
abbrev ASet := Addr → Prop
def noS : ASet := fun _ => False
def inS (S : ASet) (a : Addr) : ASet := fun b => S b ∨ b = a
/-- at a: a list | a tuple that is not in S -/
def XL (K : PySem.W.Frag) (H : Hp) (S : ASet) (a : Addr) (xs : List V) : Prop := (¬ S a ∧ Rd H a (.lst xs)) ∨ SqL K (fun _ => none) a xs
def XT (K : PySem.W.Frag) (H : Hp) (S : ASet) (a : Addr) (xs : List V) : Prop := (¬ S a ∧ Rd H a (.tup xs)) ∨ SqT K (fun _ => none) a xs
/-- what stood outside of S stands -/
def Out (S : ASet) (H H' : Hp) : Prop := ∀ b o, ¬ S b → H b = some o → H' b = some o
theorem Out.of {S : ASet} {H H' : Hp} (h : Same H H') : Out S H H' := fun b o _ e => h b o e
theorem Out.refl (S : ASet) (H : Hp) : Out S H H := fun _ _ _ h => h
theorem Out.trans {S : ASet} {H H1 H2 : Hp} (a : Out S H H1) (b : Out S H1 H2) : Out S H H2 := fun c o n h => b c o n (a c o n h)
theorem Out.mono {S S' : ASet} {H H' : Hp} (h : Out S H H') (k : ∀ a, S a → S' a) : Out S' H H' := fun b o n e => h b o (fun z => n (k b z)) e
theorem Out.put {S : ASet} {H H' : Hp} {a : Addr} {o : HO} (h : Out S H H') (ha : S a) : Out S H (upd H' a o) := fun b u n e => by
  rw [upd_ne fun z => n (by rw [z]; exact ha)]
  exact h b u n e
section
variable {K : PySem.W.Frag} {H H' : Hp} {S S' : ASet} {v x : V} {a p : Addr} {xs : List V} {d : PyData} {ds : List PyData}
theorem XL.sq (h : XL K H S a xs) : SqL K H a xs := by
  rcases h with ⟨_, h⟩ | (h | ⟨_, h⟩) | h
  · exact .inl h
  · cases h
  · cases h
  · exact .inr h
theorem XT.sq (h : XT K H S a xs) : SqT K H a xs := by
  rcases h with ⟨_, h⟩ | (h | ⟨_, h⟩) | h
  · exact .inl h
  · cases h
  · cases h
  · exact .inr h
theorem XL.of (h : H a = some (.lst xs)) (n : ¬ S a) : XL K H S a xs := .inl ⟨n, .inl h⟩
theorem XT.of (h : H a = some (.tup xs)) (n : ¬ S a) : XT K H S a xs := .inl ⟨n, .inl h⟩
theorem XL.up (h : XL K H S a xs) (e : Out S H H') : XL K H' S a xs := by
  rcases h with ⟨n, h | ⟨o, h⟩⟩ | h
  · exact .inl ⟨n, .inl (e _ _ n h)⟩
  · exact .inl ⟨n, .inr ⟨o, e _ _ n h⟩⟩
  · exact .inr h
theorem XT.up (h : XT K H S a xs) (e : Out S H H') : XT K H' S a xs := by
  rcases h with ⟨n, h | ⟨o, h⟩⟩ | h
  · exact .inl ⟨n, .inl (e _ _ n h)⟩
  · exact .inl ⟨n, .inr ⟨o, e _ _ n h⟩⟩
  · exact .inr h
/-- a further address that is not in the heap is kept out -/
theorem XL.add (h : XL K H S a xs) (hp : H p = none) : XL K H (inS S p) a xs := by
  rcases h with ⟨n, h⟩ | h
  · refine .inl ⟨fun z => ?_, h⟩
    rcases z with z | z
    · exact n z
    · subst z
      rcases h with h | ⟨o, h⟩ <;> rw [hp] at h <;> cases h
  · exact .inr h
theorem XT.add (h : XT K H S a xs) (hp : H p = none) : XT K H (inS S p) a xs := by
  rcases h with ⟨n, h⟩ | h
  · refine .inl ⟨fun z => ?_, h⟩
    rcases z with z | z
    · exact n z
    · subst z
      rcases h with h | ⟨o, h⟩ <;> rw [hp] at h <;> cases h
  · exact .inr h
theorem XL.less (h : XL K H S a xs) (k : ∀ a, S' a → S a) : XL K H S' a xs := by
  rcases h with ⟨n, h⟩ | h
  · exact .inl ⟨fun z => n (k _ z), h⟩
  · exact .inr h
theorem XT.less (h : XT K H S a xs) (k : ∀ a, S' a → S a) : XT K H S' a xs := by
  rcases h with ⟨n, h⟩ | h
  · exact .inl ⟨fun z => n (k _ z), h⟩
  · exact .inr h
mutual
inductive Dx (K : PySem.W.Frag) (H : Hp) (S : ASet) : V → PyData → Prop
  | non : Dx K H S .non .none
  | bl (b : Bool) : Dx K H S (.bl b) (.bool b)
  | int (i : Int) : Dx K H S (.int i) (.int i)
  | str (x : Str) : Dx K H S (.str x) (.str x)
  | lst {a : Addr} {xs : List V} {ds : List PyData} : XL K H S a xs → DxAll K H S xs ds → Dx K H S (.ref a) (.list ds)
  | tup {a : Addr} {xs : List V} {ds : List PyData} : XT K H S a xs → DxAll K H S xs ds → Dx K H S (.ref a) (.tuple ds)
inductive DxAll (K : PySem.W.Frag) (H : Hp) (S : ASet) : List V → List PyData → Prop
  | nil : DxAll K H S [] []
  | cons {v : V} {vs : List V} {d : PyData} {ds : List PyData} : Dx K H S v d → DxAll K H S vs ds → DxAll K H S (v :: vs) (d :: ds)
end
mutual
theorem Dx.up (e : Out S H H') : ∀ {v : V} {d : PyData}, Dx K H S v d → Dx K H' S v d
  | _, _, .non => .non
  | _, _, .bl b => .bl b
  | _, _, .int i => .int i
  | _, _, .str x => .str x
  | _, _, .lst h t => .lst (h.up e) (DxAll.up e t)
  | _, _, .tup h t => .tup (h.up e) (DxAll.up e t)
theorem DxAll.up (e : Out S H H') : ∀ {vs : List V} {ds : List PyData}, DxAll K H S vs ds → DxAll K H' S vs ds
  | _, _, .nil => .nil
  | _, _, .cons h t => .cons (Dx.up e h) (DxAll.up e t)
end
mutual
theorem Dx.add (hp : H p = none) : ∀ {v : V} {d : PyData}, Dx K H S v d → Dx K H (inS S p) v d
  | _, _, .non => .non
  | _, _, .bl b => .bl b
  | _, _, .int i => .int i
  | _, _, .str x => .str x
  | _, _, .lst h t => .lst (h.add hp) (DxAll.add hp t)
  | _, _, .tup h t => .tup (h.add hp) (DxAll.add hp t)
theorem DxAll.add (hp : H p = none) : ∀ {vs : List V} {ds : List PyData}, DxAll K H S vs ds → DxAll K H (inS S p) vs ds
  | _, _, .nil => .nil
  | _, _, .cons h t => .cons (Dx.add hp h) (DxAll.add hp t)
end
mutual
theorem Dx.less (k : ∀ a, S' a → S a) : ∀ {v : V} {d : PyData}, Dx K H S v d → Dx K H S' v d
  | _, _, .non => .non
  | _, _, .bl b => .bl b
  | _, _, .int i => .int i
  | _, _, .str x => .str x
  | _, _, .lst h t => .lst (h.less k) (DxAll.less k t)
  | _, _, .tup h t => .tup (h.less k) (DxAll.less k t)
theorem DxAll.less (k : ∀ a, S' a → S a) : ∀ {vs : List V} {ds : List PyData}, DxAll K H S vs ds → DxAll K H S' vs ds
  | _, _, .nil => .nil
  | _, _, .cons h t => .cons (Dx.less k h) (DxAll.less k t)
end
mutual
theorem Dx.dp : ∀ {v : V} {d : PyData}, Dx K H S v d → Dp K H v d
  | _, _, .non => .non
  | _, _, .bl b => .bl b
  | _, _, .int i => .int i
  | _, _, .str x => .str x
  | _, _, .lst h t => .lst h.sq (DxAll.dp t)
  | _, _, .tup h t => .tup h.sq (DxAll.dp t)
theorem DxAll.dp : ∀ {vs : List V} {ds : List PyData}, DxAll K H S vs ds → DpAll K H vs ds
  | _, _, .nil => .nil
  | _, _, .cons h t => .cons (Dx.dp h) (DxAll.dp t)
end
theorem dxAll_get : ∀ {vs : List V} {ds : List PyData} {i : Nat} {x : V}, DxAll K H S vs ds → vs[i]? = some x → ∃ d, ds[i]? = some d ∧ Dx K H S x d
  | _, _, _, _, .nil, e => by simp at e
  | _, _, 0, _, .cons h _, e => by
    simp at e
    subst e
    exact ⟨_, rfl, h⟩
  | _, _, i + 1, x, .cons _ t, e => by
    obtain ⟨d, h1, h2⟩ := dxAll_get (i := i) (x := x) t (by simpa using e)
    exact ⟨d, by simpa using h1, h2⟩
theorem Dx.of_get {vs : List V} {ds : List PyData} {i : Nat} (h : DxAll K H S vs ds) (e : vs[i]? = some x) (e2 : ds[i]? = some d) : Dx K H S x d := by
  obtain ⟨d', h1, h2⟩ := dxAll_get h e
  rw [e2] at h1
  rw [Option.some.inj h1]
  exact h2
theorem dxAll_len : ∀ {vs : List V} {ds : List PyData}, DxAll K H S vs ds → vs.length = ds.length
  | _, _, .nil => rfl
  | _, _, .cons _ t => by
    rw [List.length_cons, List.length_cons, dxAll_len t]
theorem dxAll_app : ∀ {vs ws : List V} {ds es : List PyData}, DxAll K H S vs ds → DxAll K H S ws es → DxAll K H S (vs ++ ws) (ds ++ es)
  | _, _, _, _, .nil, h => h
  | _, _, _, _, .cons a t, h => .cons a (dxAll_app t h)
theorem dxAll_ints : ∀ ns : List Int, DxAll K H S (ns.map V.int) (ns.map PyData.int)
  | [] => .nil
  | n :: r => .cons (.int n) (dxAll_ints r)
theorem dxAll_strs : ∀ ns : List Str, DxAll K H S (ns.map V.str) (ns.map PyData.str)
  | [] => .nil
  | n :: r => .cons (.str n) (dxAll_strs r)
theorem dxAll_ints_inv : ∀ {vs : List V} {ns : List Int}, DxAll K H S vs (ns.map PyData.int) → vs = ns.map V.int
  | _, [], .nil => rfl
  | _, n :: r, .cons h t => by
    cases h
    rw [dxAll_ints_inv t]
    rfl
end
section
variable {K : PySem.W.Frag} {H H' : Hp} {v x : V} {a p : Addr} {xs : List V} {d : PyData} {ds : List PyData}
/-! ### isinstance -/
def tn : PyData → String
  | .none => "NoneType"
  | .bool _ => "bool"
  | .int _ => "int"
  | .str _ => "str"
  | .list _ => "list"
  | .tuple _ => "tuple"
  | .dict _ => "dict"
def isB (a c : String) : Bool := a == c || (a == "bool" && c == "int")
theorem kitT : ∀ a ∈ (["NoneType", "bool", "int", "str", "list", "tuple"] : List String), ∀ c ∈ (["int", "bool", "str", "list", "tuple"] : List String), kitB a c = some (isB a c) := by decide +kernel
theorem dp_tn (h : Dp K H v d) : tn d ∈ (["NoneType", "bool", "int", "str", "list", "tuple"] : List String) := by
  cases h <;> simp [tn]
theorem dp_ty (h : Dp K H v d) : TyX K H v (.type (tn d)) := by
  cases h with
  | non => exact .base .non
  | bl b => exact .base (.bl b)
  | int i => exact .base (.int i)
  | str x => exact .base (.str x)
  | lst h _ =>
    rcases h with (h | ⟨o, h⟩) | ⟨o, its, n, hk, hc, _⟩
    · exact .base (.lst h)
    · exact .base (.frz h)
    · exact .kList hk hc
  | tup h _ =>
    rcases h with (h | ⟨o, h⟩) | ⟨o, its, n, hk, hc, _⟩
    · exact .base (.tup h)
    · exact .fTuple h
    · exact .kTuple hk hc
theorem r_isi {c : String} {Q : VK} (h : Dp K H v d) (hc : c ∈ (["int", "bool", "str", "list", "tuple"] : List String)) (q : Q (.bl (isB (tn d) c)) H) : rIsi K [v, .ty c] H Q :=
  ⟨v, .ty c, _, _, _, rfl, .ty c, dp_ty h, kit_ty (kitT _ (dp_tn h) c hc), q⟩
theorem kit_any {t : String} (ht : t ∈ (["NoneType", "bool", "int", "str", "list", "tuple"] : List String)) : ∀ cs : List String, (∀ c ∈ cs, c ∈ (["int", "bool", "str", "list", "tuple"] : List String)) →
    PySem.W.kitAny K (.type t) (cs.map Value.type) = some (cs.any (isB t))
  | [], _ => rfl
  | c :: r, h => by
    have h1 : PySem.W.kitOne K (.type t) (.type c) = some (isB t c) := kit_ty (kitT t ht c (h c List.mem_cons_self))
    have h2 := kit_any ht r fun x hx => h x (List.mem_cons_of_mem _ hx)
    show PySem.W.kitAny K (.type t) (.type c :: r.map Value.type) = some (isB t c || r.any (isB t))
    refine kitAny_cons h1 (fun e => ?_) (fun e => ?_)
    · rw [e, Bool.false_or]
      exact h2
    · rw [e, Bool.true_or]
theorem paired_ty : ∀ cs : List String, Paired ClsV (cs.map V.ty) (cs.map Value.type)
  | [] => .nil
  | c :: r => .cons (.ty c) (paired_ty r)
theorem r_isiT {cs : List String} {Q : VK} (h : Dp K H v d) (hp : H p = some (.tup (cs.map V.ty))) (hc : ∀ c ∈ cs, c ∈ (["int", "bool", "str", "list", "tuple"] : List String)) (q : Q (.bl (cs.any (isB (tn d)))) H) : rIsiT K [v, .ref p] H Q :=
  ⟨v, p, _, _, _, _, rfl, hp, paired_ty cs, dp_ty h, kit_any (dp_tn h) cs hc, q⟩
end
theorem ifT {c : Bool} {A B : Prop} (h : c = true) (a : A) : if c = true then A else B := by
  rw [if_pos h]
  exact a
theorem ifF {c : Bool} {A B : Prop} (h : c = false) (b : B) : if c = true then A else B := by
  rw [h, if_neg Bool.false_ne_true]
  exact b
theorem ifB {c : Bool} {A B : Prop} (ht : c = true → A) (hf : c = false → B) : if c = true then A else B := by
  cases c with
  | true => exact ifT rfl (ht rfl)
  | false => exact ifF rfl (hf rfl)
theorem lenOk {α : Type} {xs : List α} {n : Nat} (h : xs.length = n) (hn : n ≤ 100000) : xs.length ≤ sizeLine := by
  rw [h]
  exact Nat.le_trans hn (by decide)
theorem range_getD {α β : Type} (g : α → β) (z : α) : ∀ l : List α, (List.range l.length).map (fun i => g (l.getD i z)) = l.map g := fun l => by
  apply List.ext_getElem?
  intro i
  by_cases h : i < l.length
  · rw [List.getElem?_map, List.getElem?_range h, List.getElem?_map, List.getElem?_eq_getElem h]
    simp [List.getD_eq_getElem?_getD, List.getElem?_eq_getElem h]
  · rw [List.getElem?_eq_none (by simp; omega), List.getElem?_eq_none (by simp; omega)]
theorem depth_get : ∀ {ds : List PyData} {i : Nat} {d : PyData}, ds[i]? = some d → d.depth ≤ PyData.depthAll ds
  | [], _, _, h => by simp at h
  | x :: r, 0, d, h => by
    simp at h
    subst h
    exact Nat.le_max_left _ _
  | x :: r, i + 1, d, h => Nat.le_trans (depth_get (ds := r) (i := i) (by simpa using h)) (Nat.le_max_right _ _)
/-! no list or tuple in it is very long -/
mutual
def wdB : PyData → Bool
  | .list xs => decide (xs.length ≤ 100000) && wdA xs
  | .tuple xs => decide (xs.length ≤ 100000) && wdA xs
  | .none => true
  | .bool _ => true
  | .int _ => true
  | .str _ => true
  | .dict _ => true
def wdA : List PyData → Bool
  | [] => true
  | x :: r => wdB x && wdA r
end
theorem wdA_get : ∀ {ds : List PyData} {i : Nat} {d : PyData}, wdA ds = true → ds[i]? = some d → wdB d = true
  | [], _, _, _, h => by simp at h
  | x :: r, 0, d, w, h => by
    simp at h
    subst h
    exact (Bool.and_eq_true_iff.mp w).1
  | x :: r, i + 1, d, w, h => wdA_get (ds := r) (i := i) (Bool.and_eq_true_iff.mp w).2 (by simpa using h)
theorem wdA_all : ∀ {ds : List PyData}, (∀ d ∈ ds, wdB d = true) → wdA ds = true
  | [], _ => rfl
  | x :: r, h => Bool.and_eq_true_iff.mpr ⟨h x List.mem_cons_self, wdA_all fun d hd => h d (List.mem_cons_of_mem _ hd)⟩
/-! ### rules whose reading has a name -/
def rTupOf (K : PySem.W.Frag) : List V → Hp → VK → Prop := fun xs H Q => ∃ p ys, xs = [.ref p] ∧ ((SqL K H p ys ∧ ∀ l, H l = none → Q (.ref l) (upd H l (.tup ys))) ∨ (SqT K H p ys ∧ Q (.ref p) H))
section
variable {X : Cx}
theorem tuple_of : CallR X (.type "tuple") (rTupOf X.K) := call_tuple_of
theorem len_seq : CallR X (.builtin "len") (Evl.rLenS X.K) := call_len_seq
theorem list_of : CallR X (.type "list") (Evl.rListS X.K) := call_list_of
end
/-! ### what a walk goes over, lists or tuples -/
theorem PI_or {X : Cx} {tg l : Expr} {w1 w2 : TI} (h1 : PI X tg l w1) (h2 : PI X tg l w2) : PI X tg l (fun σ H R => w1 σ H R ∨ w2 σ H R) :=
  ⟨fun pins s σ H R I h => h.elim (h1.run pins s σ H R I) (h2.run pins s σ H R I)⟩
/-! ### comprehensions without tests whose elements have a value each; the target is the name at k -/
section
variable {J : It} {n : Nat} {G : Hp → Prop} {Y : Nat → Hp → V → Hp → Prop}
theorem lc_vals (w : Walk J n G Y) {te : TE} {σ : L2.St} {H1 : Hp} {D : Addr} {Qd : Hp → Prop} {k : Nat} (I : Nat → V → Prop) (f : Nat → V) (hD : H1 D = none) (hG : ∀ H, Same H1 H → G H) (hn : n ≤ 1000000)
    (hY : ∀ i H x H', i < n → Y i H x H' → H' = H ∧ I i x)
    (hs : ∀ i x H, i < n → Same H1 H → I i x → ∀ Q : VK, (∀ H3, Same H H3 → Q (f i) H3) → te ((σ.set k none).set k (some x)) H Q) (hd : ∀ H, Same H1 H → H D = some (.lst ((List.range n).map f)) → Qd H) :
    ∃ W : Nat → Nat → Hp → Prop, (∃ m, W 0 m (upd H1 D (.lst []))) ∧ ∀ i m H, W i m H →
      (J.stop i H ∧ Qd H) ∨ (J.go i H ∧ ∃ Nx : Hp → Prop, (∀ H', Nx H' → ∃ m', m' < m ∧ W (i + 1) m' H') ∧ ∀ x H', J.yld i H x H' → gName k x (wipe σ [k]) H' fun σ2 H2 => wipe σ2 [k] = wipe σ [k] ∧ tYes σ2 H2 fun b H3 =>
        if b = true then te σ2 H3 fun y H4 => ∃ acc, H4 D = some (.lst acc) ∧ acc.length < sizeLine ∧ Nx (upd H4 D (.lst (acc ++ [y]))) else Nx H3) := by
  refine lc_it w (fun i H => Same H1 H ∧ H D = some (.lst ((List.range i).map f))) ⟨same_new hD, upd_same⟩ (fun i H _ h => hG H h.1) (fun i x H H' hi hp y => ?_) fun H h => hd H h.1 h.2
  obtain ⟨sm, e⟩ := hp
  obtain ⟨rfl, hx⟩ := hY i H x H' hi y
  refine ⟨?_, ?_⟩
  · show ((σ.set k none).set k (some x)).set k none = σ.set k none
    rw [List.set_set, List.set_set]
  show te ((σ.set k none).set k (some x)) H' _
  refine hs i x H' hi sm hx _ fun H3 s3 => ?_
  have e3 : H3 D = some (.lst ((List.range i).map f)) := s3 _ _ e
  refine ⟨_, e3, ?_, same_mut (sm.trans s3) hD, ?_⟩
  · rw [List.length_map, List.length_range]
    exact Nat.lt_of_lt_of_le (Nat.lt_of_lt_of_le hi hn) (by decide)
  · rw [upd_same, List.range_succ, List.map_append]
    rfl
/-- a comprehension whose elements may change what stands; Pv speaks of the turn, the list so far and the heap -/
theorem lc_inv (w : Walk J n G Y) {te : TE} {σ : L2.St} {H1 : Hp} {D : Addr} {Qd : Hp → Prop} {k : Nat} (I : Nat → V → Prop) (Pv : Nat → List V → Hp → Prop) (hn : n ≤ 1000000) (h0 : Pv 0 [] (upd H1 D (.lst [])))
    (hG : ∀ i acc H, Pv i acc H → G H) (hY : ∀ i H x H', i < n → Y i H x H' → H' = H ∧ I i x)
    (hs : ∀ i x acc H, i < n → acc.length = i → Pv i acc H → H D = some (.lst acc) → I i x → ∀ Q : VK, (∀ v H3, H3 D = some (.lst acc) → Pv (i + 1) (acc ++ [v]) (upd H3 D (.lst (acc ++ [v]))) → Q v H3) → te ((σ.set k none).set k (some x)) H Q)
    (hd : ∀ acc H, acc.length = n → Pv n acc H → H D = some (.lst acc) → Qd H) :
    ∃ W : Nat → Nat → Hp → Prop, (∃ m, W 0 m (upd H1 D (.lst []))) ∧ ∀ i m H, W i m H →
      (J.stop i H ∧ Qd H) ∨ (J.go i H ∧ ∃ Nx : Hp → Prop, (∀ H', Nx H' → ∃ m', m' < m ∧ W (i + 1) m' H') ∧ ∀ x H', J.yld i H x H' → gName k x (wipe σ [k]) H' fun σ2 H2 => wipe σ2 [k] = wipe σ [k] ∧ tYes σ2 H2 fun b H3 =>
        if b = true then te σ2 H3 fun y H4 => ∃ acc, H4 D = some (.lst acc) ∧ acc.length < sizeLine ∧ Nx (upd H4 D (.lst (acc ++ [y]))) else Nx H3) := by
  refine lc_it w (fun i H => ∃ acc, acc.length = i ∧ H D = some (.lst acc) ∧ Pv i acc H) ⟨[], rfl, upd_same, h0⟩ (fun i H _ h => ?_) (fun i x H H' hi hp y => ?_) fun H h => ?_
  · obtain ⟨acc, _, _, p⟩ := h
    exact hG i acc H p
  · obtain ⟨acc, hl, e, p⟩ := hp
    obtain ⟨rfl, hx⟩ := hY i H x H' hi y
    refine ⟨?_, ?_⟩
    · show ((σ.set k none).set k (some x)).set k none = σ.set k none
      rw [List.set_set, List.set_set]
    show te ((σ.set k none).set k (some x)) H' _
    refine hs i x acc H' hi hl p e hx _ fun v H3 e3 p3 => ⟨acc, e3, ?_, acc ++ [v], ?_, upd_same, p3⟩
    · rw [hl]
      exact Nat.lt_of_lt_of_le (Nat.lt_of_lt_of_le hi hn) (by decide)
    · rw [List.length_append, hl]
      rfl
  · obtain ⟨acc, hl, e, p⟩ := h
    exact hd acc H hl p e
theorem lc_data {K : PySem.W.Frag} {S : ASet} (w : Walk J n G Y) {te : TE} {σ : L2.St} {H1 : Hp} {D : Addr} {Qd : Hp → Prop} {k : Nat} (I : Nat → V → Prop) (f : Nat → PyData) (hS : ∀ a, S a → H1 a ≠ none) (hD : H1 D = none) (hG : ∀ H, Same H1 H → G H) (hn : n ≤ 1000000)
    (hY : ∀ i H x H', i < n → Y i H x H' → H' = H ∧ I i x)
    (hs : ∀ i x H, i < n → Same H1 H → H D ≠ none → I i x → ∀ Q : VK, (∀ v H3, Same H H3 → Dx K H3 (inS S D) v (f i) → Q v H3) → te ((σ.set k none).set k (some x)) H Q)
    (hd : ∀ H, Same H1 H → Dx K H S (.ref D) (.list ((List.range n).map f)) → Qd H) :
    ∃ W : Nat → Nat → Hp → Prop, (∃ m, W 0 m (upd H1 D (.lst []))) ∧ ∀ i m H, W i m H →
      (J.stop i H ∧ Qd H) ∨ (J.go i H ∧ ∃ Nx : Hp → Prop, (∀ H', Nx H' → ∃ m', m' < m ∧ W (i + 1) m' H') ∧ ∀ x H', J.yld i H x H' → gName k x (wipe σ [k]) H' fun σ2 H2 => wipe σ2 [k] = wipe σ [k] ∧ tYes σ2 H2 fun b H3 =>
        if b = true then te σ2 H3 fun y H4 => ∃ acc, H4 D = some (.lst acc) ∧ acc.length < sizeLine ∧ Nx (upd H4 D (.lst (acc ++ [y]))) else Nx H3) := by
  have hnS : ¬ S D := fun z => hS D z hD
  refine lc_it w (fun i H => Same H1 H ∧ ∃ acc, H D = some (.lst acc) ∧ DxAll K H (inS S D) acc ((List.range i).map f)) ⟨same_new hD, [], upd_same, .nil⟩ (fun i H _ h => hG H h.1) (fun i x H H' hi hp y => ?_) fun H h => ?_
  · obtain ⟨sm, acc, e, da⟩ := hp
    obtain ⟨rfl, hx⟩ := hY i H x H' hi y
    refine ⟨?_, ?_⟩
    · show ((σ.set k none).set k (some x)).set k none = σ.set k none
      rw [List.set_set, List.set_set]
    show te ((σ.set k none).set k (some x)) H' _
    refine hs i x H' hi sm (by rw [e]; exact fun z => nomatch z) hx _ fun v H3 s3 dv => ?_
    have hl : acc.length = i := by rw [dxAll_len da, List.length_map, List.length_range]
    refine ⟨acc, s3 _ _ e, ?_, same_mut (sm.trans s3) hD, acc ++ [v], upd_same, ?_⟩
    · rw [hl]
      exact Nat.lt_of_lt_of_le (Nat.lt_of_lt_of_le hi hn) (by decide)
    · rw [List.range_succ, List.map_append]
      have o : Out (inS S D) H3 (upd H3 D (.lst (acc ++ [v]))) := (Out.refl _ _).put (.inr rfl)
      exact dxAll_app (DxAll.up o (DxAll.up (Out.of s3) da)) (.cons (Dx.up o dv) .nil)
  · obtain ⟨sm, acc, e, da⟩ := h
    exact hd H sm (.lst (XL.of e hnS) (DxAll.less (fun a z => .inl z) da))
end
end RK

namespace RK
open PySem PySem.Spec PyProof.Rows L2 PySem.Builtin.Str
/-! ### texts as lists of code points -/
def sO (l : List Nat) : Str := ⟨l.toArray⟩
theorem sO_eta (x : Str) : sO x.cps.toList = x := rfl
theorem sO_list (l : List Nat) : (sO l).cps.toList = l := rfl
theorem sO_len (l : List Nat) : (sO l).length = l.length := rfl
theorem sO_inj {a b : List Nat} (h : sO a = sO b) : a = b := by
  have := congrArg (fun s : Str => s.cps.toList) h
  exact this
theorem sO_app (a b : List Nat) : sO a ++ sO b = sO (a ++ b) := by
  show (⟨a.toArray ++ b.toArray⟩ : Str) = ⟨(a ++ b).toArray⟩
  rw [List.append_toArray]
theorem sO_at {l : List Nat} {i : Nat} {c : Nat} (h : l[i]? = some c) : atI (sO l).cps.toList (i : Int) = some c := atI_nat h
theorem join_fold (l : List Str) : ∀ (acc : Array Nat), (l.foldl (fun acc p => acc ++ (sO []).cps ++ p.cps) acc) = (acc.toList ++ (l.map fun s => s.cps.toList).flatten).toArray := by
  induction l with
  | nil => intro acc; simp
  | cons p r ih =>
    intro acc
    rw [List.foldl_cons, ih]
    simp [sO]
theorem join_nil (l : List Str) : Txt.join (sO []) l = sO (l.map fun s => s.cps.toList).flatten := by
  cases l with
  | nil => rfl
  | cons p r =>
    show (⟨(r.foldl (fun acc p => acc ++ (sO []).cps ++ p.cps) p.cps)⟩ : Str) = _
    rw [join_fold]
    simp [sO]
theorem strip_take (goes : Nat → Bool) : ∀ l : List Nat, l.take (l.length - (l.reverse.takeWhile goes).length) = (l.reverse.dropWhile goes).reverse := fun l => by
  have h : l.reverse = l.reverse.takeWhile goes ++ l.reverse.dropWhile goes := (List.takeWhile_append_dropWhile).symm
  have h2 : l = (l.reverse.dropWhile goes).reverse ++ (l.reverse.takeWhile goes).reverse := by
    rw [← List.reverse_append, List.takeWhile_append_dropWhile, List.reverse_reverse]
  have h3 : l.length = (l.reverse.dropWhile goes).length + (l.reverse.takeWhile goes).length := by
    have := congrArg List.length h2
    rw [List.length_append, List.length_reverse, List.length_reverse] at this
    exact this
  have h4 : l.length - (l.reverse.takeWhile goes).length = (l.reverse.dropWhile goes).reverse.length := by
    rw [List.length_reverse]
    omega
  rw [h4]
  conv => lhs; arg 2; rw [h2]
  rw [List.take_left]
theorem rstrip_sO (l : List Nat) : Txt.rstrip (sO l) = sO (l.reverse.dropWhile Unicode.isSpace).reverse := by
  have hi : stripHi Unicode.isSpace true (sO l) 0 = l.length - (l.reverse.takeWhile Unicode.isSpace).length := rfl
  show (if (stripSame Unicode.isSpace false true (sO l)) = true then sO l else stripped Unicode.isSpace false true (sO l)) = _
  have e : stripped Unicode.isSpace false true (sO l) = sO (l.reverse.dropWhile Unicode.isSpace).reverse := by
    show (⟨l.toArray.extract 0 (l.length - (l.reverse.takeWhile Unicode.isSpace).length)⟩ : Str) = _
    rw [List.extract_toArray, List.extract_eq_take_drop, List.drop_zero, Nat.sub_zero, strip_take]
    rfl
  split
  · rename_i h
    have h1 : (l.length - (l.reverse.takeWhile Unicode.isSpace).length == l.length) = true := (Bool.and_eq_true_iff.mp h).2
    have h2 : l.length - (l.reverse.takeWhile Unicode.isSpace).length = l.length := by simpa using h1
    have h3 := strip_take Unicode.isSpace l
    rw [h2, List.take_length] at h3
    rw [← h3]
  · exact e
theorem ljust_sO (l : List Nat) (n : Nat) (h : l.length ≤ n) : Txt.ljust (sO l) (n : Int) = sO (l ++ List.replicate (n - l.length) 32) := by
  show (if (n : Int) ≤ (l.length : Nat) then sO l else padded (sO l) 0 ((n : Int).toNat - l.length) 32) = _
  split
  · rename_i h2
    have : n - l.length = 0 := by omega
    rw [this]
    simp [sO]
  · show (⟨Array.replicate 0 32 ++ l.toArray ++ Array.replicate ((n : Int).toNat - l.length) 32⟩ : Str) = _
    rw [Int.toNat_natCast]
    simp [sO]
/-- parts of a text -/
theorem cut_lo (l : List Nat) (k : Nat) : cutS (sO l) (some (k : Int)) none = sO (l.drop k) := by
  show (⟨((l.drop (HT.sIx l.length 0 (some (k : Int)))).take (HT.sIx l.length l.length none - HT.sIx l.length 0 (some (k : Int)))).toArray⟩ : Str) = _
  rw [HT.sIx_nat, HT.sIx_none]
  have e : (l.drop (min k l.length)).take (l.length - min k l.length) = l.drop k := by
    rw [List.take_of_length_le (by rw [List.length_drop]; omega)]
    by_cases h : k ≤ l.length
    · rw [Nat.min_eq_left h]
    · rw [Nat.min_eq_right (by omega), List.drop_length, List.drop_of_length_le (by omega)]
  rw [e]
  rfl
theorem cut_hi (l : List Nat) (k : Nat) : cutS (sO l) none (some (k : Int)) = sO (l.take k) := by
  show (⟨((l.drop (HT.sIx l.length 0 none)).take (HT.sIx l.length l.length (some (k : Int)) - HT.sIx l.length 0 none)).toArray⟩ : Str) = _
  rw [HT.sIx_nat, HT.sIx_none, List.drop_zero, Nat.sub_zero]
  have e : l.take (min k l.length) = l.take k := by
    by_cases h : k ≤ l.length
    · rw [Nat.min_eq_left h]
    · rw [Nat.min_eq_right (by omega), List.take_length, List.take_of_length_le (by omega)]
  rw [e]
  rfl
theorem rep_fold (a : Array Nat) : ∀ (n : Nat) (acc : Array Nat), (List.replicate n a).foldl (· ++ ·) acc = (acc.toList ++ (List.replicate n a.toList).flatten).toArray
  | 0, acc => by simp
  | n + 1, acc => by
    rw [List.replicate_succ, List.foldl_cons, rep_fold a n, List.replicate_succ]
    simp
section
variable {X : Cx}
/-- a text times a small number -/
theorem op_rep_str : OpR X (binaryOp .Mult) (fun x y H Q => ∃ (l : List Nat) (n : Nat), x = .str (sO l) ∧ y = .int (n : Int) ∧ l.length ≤ 1000 ∧ n ≤ 1000 ∧ Q (.str (sO (List.replicate n l).flatten)) H) := by
  intro pins s σ H x y v u Q I rx ry h
  obtain ⟨l, n, rfl, rfl, hl, hn, q⟩ := h
  obtain ⟨t, rfl⟩ := rx
  obtain ⟨t2, rfl⟩ := ry
  have big : l.length * n ≤ 1000000 := Nat.mul_le_mul hl hn
  refine P.mul_str ?_ (fun _ _ => ?_) (fun _ _ => ?_) ?_
  · rw [decide_eq_false (show ¬ (n : Int) < -(2 ^ 63) by omega), decide_eq_false (show ¬ (n : Int) ≥ 2 ^ 63 by omega)]
    rfl
  · show ¬ ((l.length : Nat) : Int) > (2 ^ 63 - 1) / (n : Int)
    have h1 : (0 : Int) < n := by omega
    have h2 : (1000 : Int) ≤ (2 ^ 63 - 1) / (n : Int) := (Int.le_ediv_iff_mul_le h1).mpr (by omega)
    omega
  · show tooLong (l.length * (n : Int).toNat) = false
    rw [Int.toNat_natCast]
    exact decide_eq_false (by show ¬ _; have : (1000000 : Nat) ≤ sizeLine := by decide
                              omega)
  · have fin : ∀ (z : Str) tk tok, z = sO (List.replicate n l).flatten → EP X pins σ Q (Value.str z tok) { s with toks := tk } := fun z tk tok e => by subst e; exact ⟨.str _, H, I.tok _, ⟨_, rfl⟩, q⟩
    have hsz : ∀ z : Str, z = sO (List.replicate n l).flatten → z.length ≤ sizeLine := fun z e => by
      rw [e, sO_len]
      have e2 : (List.replicate n l).flatten.length = n * l.length := by simp
      rw [e2, Nat.mul_comm]
      exact Nat.le_trans big (by decide)
    split
    · have : n = 0 := by omega
      subst this
      exact ⟨by decide, fin _ _ _ rfl⟩
    · split
      · rename_i h2
        rcases Bool.or_eq_true_iff.mp h2 with h3 | h3
        · have h4 : (n : Int) = 1 := by simpa using h3
          have h5 : n = 1 := by omega
          subst h5
          refine fin _ s.toks _ ?_
          simp
        · have h4 : l.length = 0 := (eq_of_beq h3 : (sO l).length = 0)
          have h5 : l = [] := List.eq_nil_of_length_eq_zero h4
          subst h5
          refine fin _ s.toks _ ?_
          have : (List.replicate n ([] : List Nat)).flatten = [] := by simp
          rw [this]
      · have e : (⟨(List.replicate (n : Int).toNat (sO l).cps).foldl (· ++ ·) #[]⟩ : Str) = sO (List.replicate n l).flatten := by
          rw [rep_fold, Int.toNat_natCast]
          simp [sO]
        exact ⟨hsz _ e, fin _ _ _ e⟩
end
end RK

namespace RK
open PySem PySem.Spec PyProof.Rows L2 PySem.Builtin.Str
/-! ### names and the words that pack them -/
def sg (k : Nat) : Nat := if k = 0 then 32 else if k ≤ 26 then 96 + k else 21 + k
abbrev LTR : List Nat := (Str.ofString "abcdefghijklmnopqrstuvwxyz").cps.toList
abbrev SGN : List Nat := (Str.ofString " abcdefghijklmnopqrstuvwxyz0123456789").cps.toList
theorem SGN_eq : SGN = (List.range 37).map sg := by decide +kernel
theorem LTR_eq : LTR = (List.range 26).map fun k => sg (k + 1) := by decide +kernel
def isN (l : List Nat) : Bool := (decide (1 ≤ l.length) && decide (l.length ≤ 9) && decide (l.headD 0 ∈ LTR)) && l.all fun c => decide (c ∈ SGN) && !decide (c = 32)
theorem dec_blank (c : Nat) : decide (V.str (sO [c]) = V.str (Str.ofString " ")) = decide (c = 32) := by
  have e : Str.ofString " " = sO [32] := by decide +kernel
  rw [e, decide_eq_decide]
  constructor
  · intro h
    have := sO_inj (V.str.inj h)
    exact (List.cons.inj this).1
  · intro h
    rw [h]
/-- the codes of a name -/
structure Nk (ks : List Nat) : Prop where
  pos : 1 ≤ ks.length
  le : ks.length ≤ 9
  head : 1 ≤ ks.headD 0 ∧ ks.headD 0 ≤ 26
  all : ∀ k ∈ ks, 1 ≤ k ∧ k ≤ 36
theorem sg_mem {k : Nat} (h : k ≤ 36) : sg k ∈ SGN := by
  rw [SGN_eq]
  exact List.mem_map.mpr ⟨k, List.mem_range.mpr (by omega), rfl⟩
theorem sg_ne {k : Nat} (h : 1 ≤ k) : sg k ≠ 32 := by
  unfold sg
  split
  · omega
  · split <;> omega
theorem sg_inj {a b : Nat} (ha : a ≤ 36) (hb : b ≤ 36) (h : sg a = sg b) : a = b := by
  unfold sg at h
  split at h <;> split at h <;> (try split at h) <;> (try split at h) <;> omega
theorem sg_lt {k : Nat} (h : k ≤ 36) : sg k ∈ LTR ↔ 1 ≤ k ∧ k ≤ 26 := by
  rw [LTR_eq, List.mem_map]
  constructor
  · rintro ⟨j, hj, e⟩
    have hj := List.mem_range.mp hj
    have := sg_inj (by omega) h e
    omega
  · rintro ⟨h1, h2⟩
    exact ⟨k - 1, List.mem_range.mpr (by omega), by rw [Nat.sub_add_cancel h1]⟩
theorem isN_codes {ks : List Nat} (h36 : ∀ k ∈ ks, k ≤ 36) : isN (ks.map sg) = (decide (1 ≤ ks.length) && decide (ks.length ≤ 9) && decide (1 ≤ ks.headD 0 ∧ ks.headD 0 ≤ 26) && ks.all fun k => decide (1 ≤ k)) := by
  unfold isN
  rw [List.length_map]
  have e1 : decide ((ks.map sg).headD 0 ∈ LTR) = decide (1 ≤ ks.headD 0 ∧ ks.headD 0 ≤ 26) := by
    cases ks with
    | nil => decide +kernel
    | cons k r =>
      show decide (sg k ∈ LTR) = decide (1 ≤ k ∧ k ≤ 26)
      rw [decide_eq_decide]
      exact sg_lt (h36 k List.mem_cons_self)
  have e2 : ((ks.map sg).all fun c => decide (c ∈ SGN) && !decide (c = 32)) = ks.all fun k => decide (1 ≤ k) := by
    rw [List.all_map]
    apply Bool.eq_iff_iff.mpr
    rw [List.all_eq_true, List.all_eq_true]
    constructor
    · intro h k hk
      have := h k hk
      apply decide_eq_true
      rcases Nat.eq_zero_or_pos k with z | z
      · subst z
        exact absurd this (by decide +kernel)
      · exact z
    · intro h k hk
      have hk1 : 1 ≤ k := of_decide_eq_true (h k hk)
      show (decide (sg k ∈ SGN) && !decide (sg k = 32)) = true
      rw [decide_eq_true (sg_mem (h36 k hk)), decide_eq_false (sg_ne hk1)]
      rfl
  rw [e1, e2]
theorem isN_of {ks : List Nat} (h : Nk ks) : isN (ks.map sg) = true := by
  rw [isN_codes fun k hk => (h.all k hk).2, decide_eq_true h.pos, decide_eq_true h.le, decide_eq_true h.head]
  rw [List.all_eq_true.mpr fun k hk => decide_eq_true (h.all k hk).1]
  rfl
theorem isN_long {l : List Nat} (h : 10 ≤ l.length) : isN l = false := by
  unfold isN
  rw [decide_eq_false (show ¬ l.length ≤ 9 by omega), Bool.and_false]
  rfl
theorem isN_head {l : List Nat} (h : l.headD 0 ∉ LTR) : isN l = false := by
  unfold isN
  rw [decide_eq_false h, Bool.and_false]
  rfl
theorem isN_mem {l : List Nat} {c : Nat} (h : c ∈ l) (hc : (decide (c ∈ SGN) && !decide (c = 32)) = false) : isN l = false := by
  unfold isN
  rw [show (l.all fun c => decide (c ∈ SGN) && !decide (c = 32)) = false from ?_, Bool.and_false]
  apply Bool.eq_false_iff.mpr
  intro z
  have := List.all_eq_true.mp z c h
  rw [hc] at this
  cases this
/-! words -/
def cds (w : Nat) : List Nat := [w / 1600, w / 40 % 40, w % 40]
def rtrim (ks : List Nat) : List Nat := (ks.reverse.dropWhile (· == 0)).reverse
theorem rtrim_app (l : List Nat) (x : Nat) : rtrim (l ++ [x]) = if x = 0 then rtrim l else l ++ [x] := by
  unfold rtrim
  rw [List.reverse_append]
  show ((x :: l.reverse).dropWhile (· == 0)).reverse = _
  rw [List.dropWhile_cons]
  by_cases h : x = 0
  · rw [if_pos h, if_pos (by rw [h]; rfl)]
  · rw [if_neg h, if_neg (by simpa using h)]
    simp
theorem rtrim_pre (l : List Nat) : rtrim l = l.take (rtrim l).length := by
  have h : l.reverse = l.reverse.takeWhile (· == 0) ++ l.reverse.dropWhile (· == 0) := (List.takeWhile_append_dropWhile).symm
  have h2 : l = rtrim l ++ (l.reverse.takeWhile (· == 0)).reverse := by
    unfold rtrim
    rw [← List.reverse_append, List.takeWhile_append_dropWhile, List.reverse_reverse]
  conv => rhs; arg 2; rw [h2]
  rw [List.take_left]
theorem rtrim_big {l : List Nat} {x : Nat} (h : x ∈ l) (hx : x ≠ 0) : x ∈ rtrim l := by
  have h2 : l = rtrim l ++ (l.reverse.takeWhile (· == 0)).reverse := by
    unfold rtrim
    rw [← List.reverse_append, List.takeWhile_append_dropWhile, List.reverse_reverse]
  rw [h2] at h
  rcases List.mem_append.mp h with h | h
  · exact h
  · have := List.mem_reverse.mp h
    have h3 : ∀ (r : List Nat), x ∈ r.takeWhile (· == 0) → x = 0 := fun r => by
      induction r with
      | nil => intro z; cases z
      | cons y r ih =>
        rw [List.takeWhile_cons]
        split
        · rename_i hy
          intro z
          rcases List.mem_cons.mp z with z | z
          · rw [z]; simpa using hy
          · exact ih z
        · intro z; cases z
    exact absurd (h3 _ this) hx
theorem rtrim_sub {l : List Nat} {x : Nat} (h : x ∈ rtrim l) : x ∈ l := by
  rw [rtrim_pre] at h
  exact List.mem_of_mem_take h
theorem rtrim_len (l : List Nat) : (rtrim l).length ≤ l.length := by
  rw [rtrim_pre, List.length_take]
  omega
theorem rtrim_head {l : List Nat} (h : rtrim l ≠ []) : (rtrim l).headD 0 = l.headD 0 := by
  rw [rtrim_pre] at h ⊢
  cases l with
  | nil => simp at h
  | cons x r =>
    cases e : (rtrim (x :: r)).length with
    | zero => rw [e] at h; exact absurd rfl h
    | succ n => rfl
/-- the program's way -/
def wn (ks : List Nat) : Option (List Nat) := if ks.any (fun k => decide (37 ≤ k)) then none else if isN ((rtrim ks).map sg) then some ((rtrim ks).map sg) else none
/-- the law's way -/
def un (ks : List Nat) : Option (List Nat) := if (rtrim ks).all (fun k => decide (1 ≤ k ∧ k ≤ 36)) && (decide ((rtrim ks).length ≠ 0) && decide (ks.headD 0 ≤ 26)) then some ((rtrim ks).map sg) else none
theorem wn_un (ks : List Nat) (h9 : ks.length ≤ 9) : wn ks = un ks := by
  unfold wn un
  by_cases hb : ks.any (fun k => decide (37 ≤ k)) = true
  · rw [if_pos hb]
    obtain ⟨k, hk, hk2⟩ := List.any_eq_true.mp hb
    have hk3 : 37 ≤ k := of_decide_eq_true hk2
    have : (rtrim ks).all (fun k => decide (1 ≤ k ∧ k ≤ 36)) = false := by
      apply Bool.eq_false_iff.mpr
      intro z
      have := of_decide_eq_true (List.all_eq_true.mp z k (rtrim_big hk (by omega)))
      omega
    rw [this]
    rfl
  · rw [if_neg hb]
    have h36 : ∀ k ∈ ks, k ≤ 36 := fun k hk => by
      apply Decidable.byContradiction
      intro z
      exact hb (List.any_eq_true.mpr ⟨k, hk, decide_eq_true (by omega)⟩)
    have h36' : ∀ k ∈ rtrim ks, k ≤ 36 := fun k hk => h36 k (rtrim_sub hk)
    have hl := rtrim_len ks
    have e : isN ((rtrim ks).map sg) = ((rtrim ks).all (fun k => decide (1 ≤ k ∧ k ≤ 36)) && (decide ((rtrim ks).length ≠ 0) && decide (ks.headD 0 ≤ 26))) := by
      rw [isN_codes h36']
      apply Bool.eq_iff_iff.mpr
      simp only [Bool.and_eq_true, decide_eq_true_eq, List.all_eq_true]
      constructor
      · rintro ⟨⟨⟨h1, _⟩, h3, h4⟩, h5⟩
        have hne : rtrim ks ≠ [] := fun z => by rw [z] at h1; exact absurd h1 (by decide)
        rw [rtrim_head hne] at h3 h4
        exact ⟨fun k hk => ⟨h5 k hk, h36' k hk⟩, by omega, h4⟩
      · rintro ⟨h1, h2, h3⟩
        have hne : rtrim ks ≠ [] := fun z => by rw [z] at h2; exact h2 rfl
        refine ⟨⟨⟨by omega, by omega⟩, ?_⟩, fun k hk => (h1 k hk).1⟩
        have hm : (rtrim ks).headD 0 ∈ rtrim ks := by
          cases hr : rtrim ks with
          | nil => exact absurd hr hne
          | cons x r => exact List.mem_cons_self
        have := h1 _ hm
        rw [rtrim_head hne] at this ⊢
        exact ⟨this.1, h3⟩
    rw [e]
def pad (ks : List Nat) : List Nat := ks ++ List.replicate (9 - ks.length) 0
theorem pad_len {ks : List Nat} (h : ks.length ≤ 9) : (pad ks).length = 9 := by
  unfold pad
  rw [List.length_append, List.length_replicate]
  omega
def pk1 (cs : List Nat) (k : Nat) : Nat := (cs.getD k 0 * 40 + cs.getD (k + 1) 0) * 40 + cs.getD (k + 2) 0
def pk3 (cs : List Nat) : List Nat := [pk1 cs 0, pk1 cs 3, pk1 cs 6]
theorem cds_pk1 {cs : List Nat} {k : Nat} (h : ∀ x ∈ cs, x ≤ 39) : cds (pk1 cs k) = [cs.getD k 0, cs.getD (k + 1) 0, cs.getD (k + 2) 0] := by
  have g : ∀ i, cs.getD i 0 ≤ 39 := fun i => by
    rw [List.getD_eq_getElem?_getD]
    cases e : cs[i]? with
    | none => exact Nat.zero_le _
    | some x => exact h x (List.mem_of_getElem? e)
  have a := g k
  have b := g (k + 1)
  have c := g (k + 2)
  unfold cds pk1
  congr 1
  · omega
  · congr 1
    · omega
    · congr 1
      omega
theorem cds_pk3 {cs : List Nat} (h : ∀ x ∈ cs, x ≤ 39) (h9 : cs.length = 9) : (pk3 cs).flatMap cds = cs := by
  match cs, h9 with
  | [a, b, c, d, e, f, g, i, j], _ =>
    show cds _ ++ (cds _ ++ (cds _ ++ [])) = _
    rw [cds_pk1 h, cds_pk1 h, cds_pk1 h]
    rfl
theorem rtrim_pad {ks : List Nat} (h : Nk ks) : rtrim (pad ks) = ks := by
  unfold pad
  generalize 9 - ks.length = n
  induction n with
  | zero =>
    rw [List.replicate_zero, List.append_nil]
    cases e : ks.reverse with
    | nil =>
      have := congrArg List.reverse e
      rw [List.reverse_reverse] at this
      rw [this]
      rfl
    | cons x r =>
      have e2 : ks = r.reverse ++ [x] := by
        have := congrArg List.reverse e
        rw [List.reverse_reverse, List.reverse_cons] at this
        exact this
      rw [e2, rtrim_app, if_neg]
      have := h.all x (by rw [e2]; simp)
      omega
  | succ n ih =>
    rw [List.replicate_succ', ← List.append_assoc, rtrim_app, if_pos rfl]
    exact ih
theorem pad_le {ks : List Nat} (h : Nk ks) : ∀ x ∈ pad ks, x ≤ 39 := fun x hx => by
  unfold pad at hx
  rcases List.mem_append.mp hx with hx | hx
  · have := h.all x hx
    omega
  · have := List.eq_of_mem_replicate hx
    omega
theorem wn_pad {ks : List Nat} (h : Nk ks) : wn (pad ks) = some (ks.map sg) := by
  unfold wn
  rw [rtrim_pad h, isN_of h, if_neg, if_pos rfl]
  intro z
  obtain ⟨k, hk, hk2⟩ := List.any_eq_true.mp z
  have hk3 : 37 ≤ k := of_decide_eq_true hk2
  unfold pad at hk
  rcases List.mem_append.mp hk with hx | hx
  · have := h.all k hx
    omega
  · have := List.eq_of_mem_replicate hx
    omega
/-- signs found in the tables -/
theorem find_sg : ∀ k : _root_.Fin 37, Txt.find (Str.ofString " abcdefghijklmnopqrstuvwxyz0123456789") (sO [sg k.val]) = (k.val : Int) := by decide +kernel
theorem occ_sg : ∀ k : _root_.Fin 37, occurrences (Str.ofString " abcdefghijklmnopqrstuvwxyz0123456789") (sO [sg k.val]) 0 (Str.ofString " abcdefghijklmnopqrstuvwxyz0123456789").length 1 = [k.val] := by decide +kernel
theorem space_sg : ∀ k : _root_.Fin 37, Unicode.isSpace (sg k.val) = (k.val == 0) := by decide +kernel
theorem rstrip_sg {ks : List Nat} (h : ∀ k ∈ ks, k ≤ 36) : Txt.rstrip (sO (ks.map sg)) = sO ((rtrim ks).map sg) := by
  rw [rstrip_sO]
  unfold rtrim
  rw [← List.map_reverse]
  have e : ∀ r : List Nat, (∀ k ∈ r, k ≤ 36) → (r.map sg).dropWhile Unicode.isSpace = (r.dropWhile (· == 0)).map sg := fun r => by
    induction r with
    | nil => intro _; rfl
    | cons x r ih =>
      intro hr
      rw [List.map_cons, List.dropWhile_cons, List.dropWhile_cons]
      have hx : Unicode.isSpace (sg x) = (x == 0) := space_sg ⟨x, by have := hr x List.mem_cons_self; omega⟩
      rw [hx]
      split
      · exact ih fun k hk => hr k (List.mem_cons_of_mem _ hk)
      · rfl
  rw [e _ fun k hk => h k (List.mem_reverse.mp hk), ← List.map_reverse]
/-! lists of small numbers as they stand in the program -/
def intV (l : List Nat) : List V := l.map fun (n : Nat) => V.int (n : Int)
theorem atI_intV {cs : List Nat} {k : Int} (h0 : 0 ≤ k) (h1 : k < (cs.length : Int)) : atI (intV cs) k = some (.int ((cs.getD k.toNat 0 : Nat) : Int)) := by
  obtain ⟨j, rfl⟩ : ∃ j : Nat, k = (j : Int) := ⟨k.toNat, by omega⟩
  have hj : j < cs.length := by omega
  refine atI_nat ?_
  unfold intV
  rw [List.getElem?_map, List.getElem?_eq_getElem hj, Int.toNat_natCast, List.getD_eq_getElem?_getD, List.getElem?_eq_getElem hj]
  rfl
theorem intV_map {α : Type} (g : α → Nat) (l : List α) : intV (l.map g) = l.map fun x => V.int ((g x : Nat) : Int) := by
  unfold intV
  rw [List.map_map]
  rfl
theorem intV_ints (l : List Nat) : intV l = (l.map fun (n : Nat) => (n : Int)).map V.int := by
  unfold intV
  rw [List.map_map]
  rfl
theorem intV_range (cs : List Nat) : (List.range cs.length).map (fun i => V.int ((cs.getD i 0 : Nat) : Int)) = intV cs := range_getD (fun n : Nat => V.int (n : Int)) 0 cs
theorem ljust_pad {ks : List Nat} (h : ks.length ≤ 9) : Txt.ljust (sO (ks.map sg)) 9 = sO ((pad ks).map sg) := by
  have e := ljust_sO (ks.map sg) 9 (by rw [List.length_map]; exact h)
  rw [List.length_map] at e
  unfold pad
  rw [List.map_append, List.map_replicate]
  exact e
/-! numbers as data -/
def intsD (l : List Nat) : PyData := .tuple ((l.map fun (n : Nat) => (n : Int)).map PyData.int)
theorem lay_ints : ∀ l : List Int, PyData.canLayAll0 (l.map PyData.int) = true
  | [] => rfl
  | _ :: r => lay_ints r
theorem lay_intsD (l : List Nat) : (intsD l).canLay0 = true := lay_ints _
theorem dep_ints : ∀ l : List Int, PyData.depthAll (l.map PyData.int) = 0
  | [] => rfl
  | x :: r => by
    show max 0 (PyData.depthAll (r.map PyData.int)) = 0
    rw [dep_ints r]
    rfl
theorem dep_intsD (l : List Nat) : (intsD l).depth ≤ 1 := by
  show PyData.depthAll _ + 1 ≤ 1
  rw [dep_ints]
  exact Nat.le_refl 1
theorem wd_ints : ∀ l : List Int, wdA (l.map PyData.int) = true
  | [] => rfl
  | _ :: r => wd_ints r
theorem wd_intsD {l : List Nat} (h : l.length ≤ 100000) : wdB (intsD l) = true := by
  show (decide (_ ≤ 100000) && wdA _) = true
  rw [wd_ints, List.length_map, List.length_map, decide_eq_true h]
  rfl
theorem dx_intsD {K : PySem.W.Frag} {H : Hp} {p : Addr} {l : List Nat} (h : H p = some (.tup (intV l))) : Dx K H noS (.ref p) (intsD l) := by
  rw [intV_ints] at h
  exact .tup (XT.of h fun z => z.elim) (dxAll_ints _)
/-! parts of a tuple -/
theorem cutV_lo {xs : List V} (k : Nat) : cutV xs (some (k : Int)) none = xs.drop k := by
  show (xs.drop (HT.sIx xs.length 0 (some (k : Int)))).take (HT.sIx xs.length xs.length none - HT.sIx xs.length 0 (some (k : Int))) = _
  rw [HT.sIx_nat, HT.sIx_none, List.take_of_length_le (by rw [List.length_drop]; omega)]
  by_cases h : k ≤ xs.length
  · rw [Nat.min_eq_left h]
  · rw [Nat.min_eq_right (by omega), List.drop_length, List.drop_of_length_le (by omega)]
theorem cutV_hi {xs : List V} (k : Nat) : cutV xs none (some (k : Int)) = xs.take k := by
  show (xs.drop (HT.sIx xs.length 0 none)).take (HT.sIx xs.length xs.length (some (k : Int)) - HT.sIx xs.length 0 none) = _
  rw [HT.sIx_nat, HT.sIx_none, List.drop_zero, Nat.sub_zero]
  by_cases h : k ≤ xs.length
  · rw [Nat.min_eq_left h]
  · rw [Nat.min_eq_right (by omega), List.take_length, List.take_of_length_le (by omega)]
theorem slA_of {K : PySem.W.Frag} {H : Hp} {a : Addr} {xs : List V} {lo hi : Option Int} {Q : VK} (h : SqT K H a xs) (q : ∀ p H', Same H H' → SqT K H' p (cutV xs lo hi) → Q (.ref p) H') : rSlA K (.ref a) lo hi H Q := by
  refine ⟨a, xs, rfl, h, fun e => q a H (Same.refl _) ?_, fun _ p hp => q p _ (same_new hp) (SqT.of upd_same)⟩
  have : cutV xs lo hi = xs := by
    show (xs.drop (HT.sIx xs.length 0 lo)).take (HT.sIx xs.length xs.length hi - HT.sIx xs.length 0 lo) = _
    rw [e.1, e.2, List.drop_zero, Nat.sub_zero, List.take_length]
  rw [this]
  exact h
end RK

namespace RK
open PySem PySem.Spec PyProof.Rows L2
/-! ### an own error that keeps one thing, and a try whose first clause names it -/
/-- what the first clause wishes: the error is its own -/
def wHit (K : PySem.W.Frag) (c : Value) (i : Nat) (ts : Addr → Value → Option Addr → TS) (D : Ends) : WX := fun cls d σ H => PySem.W.exmOne K cls c = some true ∧
  ∀ a, H a = none → ts a cls d ⟨fun σ' H' => D.nx (σ'.set i none) H', D.rt, fun σ' H' => D.bk (σ'.set i none) H', fun σ' H' => D.ct (σ'.set i none) H'⟩ (σ.set i (some (.ref a))) H
section
variable {X : Cx} {x n : Str} {c : Value} {i : Nat} {body suite : List Stmt} {hds : List ExceptHandler} {b₀ : Stmt} {np pos pos' : Pos} {tb : WX → TS} {ts : Addr → Value → Option Addr → TS} {pins : List (Addr × Obj)}
/-- what the body leaves, seen from outside the try -/
theorem flow_out {D : Ends} {xe : Value → Shared → Prop} (ok : X.Ok) {f : Flow} {s1 : Shared} (h : SP (X.tr (X.pn ++ pins) xe) [] D f s1) : SP X pins D f s1 := by
  cases f with
  | ret u => exact let ⟨v, σ', H', J, r, q⟩ := h; ⟨v, σ', H', J.ofTry ok, r, q⟩
  | next => exact let ⟨σ', H', J, q⟩ := h; ⟨σ', H', J.ofTry ok, q⟩
  | brk => exact let ⟨σ', H', J, q⟩ := h; ⟨σ', H', J.ofTry ok, q⟩
  | cont => exact let ⟨σ', H', J, q⟩ := h; ⟨σ', H', J.ofTry ok, q⟩
/-- an error that flies stands in no frame -/
theorem no_frame {B h : Heap} {l : List Env} {a : Addr} {o : Obj} {vs : Array Value} (ff : h.FunFrames B l) (e : h.get? a = some o) (hd : o.data = .fields vs) : a ∉ frs l := fun hm => by
  obtain ⟨_, o2, e2, no⟩ := ff.mem hm
  have : o2 = o := Option.some.inj (e2.symm.trans e)
  exact no vs (this ▸ hd)
/-- the first clause's test -/
theorem names_it {a : Addr} {o : Obj} {σ : L2.St} {H : Hp} {s : Shared} {Q : Value → Shared → Prop} {E : Value → Shared → Prop} (hc : Names X x c) (S : Inv (X.suite a ((a, o) :: (X.pn ++ pins))) [] σ H s) (q : Q c s) :
    wpAny (model X.prog X.w) (X.A.mark (some (.ref a))) (eval (.Name x np) X.env) Q E s := by
  rcases hc with ⟨hg, hd, h | ⟨h1, h2, h3⟩⟩
  · exact ld_glob (X := Cx.suite X a ((a, o) :: (X.pn ++ pins))) S hg h q hd
  · exact ld_blt (X := Cx.suite X a ((a, o) :: (X.pn ++ pins))) S hg h1 h2 q h3 hd
end

/-! ### an own error class C: __init__(self, f): self.f = f -/
/-- what __init__ does of a fresh error -/
def spKeep (f : Str) (C : Addr) : Sp := fun vs H Q _ => ∃ (a : Addr) (v : V), vs = [.ref a, v] ∧ H a = some (exo a C none) ∧ ∀ dx, H dx = none → dx ≠ a → Q .non (upd (upd H dx (exd dx [(f, v)])) a (exo a C (some dx)))
structure ErrC (K : PySem.W.Frag) (mg : Str → Option Value) (x f : Str) (C fI : Addr) (fd : FuncData) : Prop where
  g : mg x = some (.ref C)
  ox : OexC K C
  no : PySem.W.findIn K (.ref C) f = some none
  iC : PySem.W.findIn K (.ref C) "__init__" = some (some (.ref fI))
  tI : PySem.W.typeIn K (.ref fI) = some (.type "function")
  b : Binds K fd ["self", f] []
  xf : XfC K C
  ex : ExcC K C
  te : PySem.W.exmOne K (.ref C) (.ref C) = some true
section
variable {X : Cx} {x f : Str} {C fI : Addr} {fd : FuncData} {k : Nat} {e : Expr} {es : List Expr} {ta : TA} {p pos : Pos}
/-- C(e), to be raised -/
theorem pmk_err (T : ErrC X.K X.mg x f C fI fd) (F1 : FnOk X.prog X.w X.K X.mg X.base CX0 k fI fd ["self", f] (spKeep f C)) (hr : Room (k + 1) X.A) (ha : PA X (e :: es) ta) (hg : Gl X x := by rfl) (hdb : (x == ("__debug__" : Str)) = false := by decide)
    (he : starEach (e :: es) X.env = (false, eval e X.env) :: starEach es X.env := by rfl) (hpl : (backTo pos (starEach es X.env)).any (·.1) = false := by rfl) : PMk X (.Call (.Name x p) (e :: es) [] pos) (tMkO C (spKeep f C) [] ta) :=
  pmk_oex T.ox T.iC T.tI F1 hr T.b .nil (fun _ _ _ _ _ _ _ z => z.elim) hg T.g ha hdb he hpl
/-- the end of its reading -/
theorem keep_end {H1 : Hp} {v : V} {Q : XK} (q : ∀ d H2, Same H1 H2 → H1 d = none → H2 d = some (.xd [(f, v)]) → Q (.ref C) (some d) H2) : ([v] : List V).length ≤ 1000 ∧ ∀ a, H1 a = none → spKeep f C (.ref a :: ([v] ++ [])) (upd H1 a (exo a C none))
    (fun v H2 => v = .non ∧ ∃ (d : Addr) (fs : List (Str × V)), H2 a = some (exo a C (some d)) ∧ H2 d = some (exd d fs) ∧ H1 d = none ∧ Q (.ref C) (some d) (upd (del H2 a) d (.xd fs))) (fun _ _ _ => False) := by
  refine ⟨by show 1 ≤ 1000; decide, fun a na => ⟨a, v, rfl, upd_same, fun dx nd ne => ⟨rfl, dx, [(f, v)], upd_same, ?_, ?_, ?_⟩⟩⟩
  · rw [upd_ne ne, upd_same]
  · rw [upd_ne ne] at nd
    exact nd
  · rw [upd_ne ne] at nd
    refine q dx _ (fun b o eb => ?_) nd upd_same
    have b1 : b ≠ dx := ne_of_none eb nd
    have b2 : b ≠ a := ne_of_none eb na
    rw [upd_ne b1, del_ne b2, upd_ne b2, upd_ne b1, upd_ne b2]
    exact eb
/-- isinstance(e, c), e the error in hand whose own dict is dd -/
def rIsEx (K : PySem.W.Frag) (D a dd : Addr) : List V → Hp → VK → Prop := fun xs H Q => ∃ (c : V) (cv : Value) (b : Bool) (fs : List (Str × V)), xs = [.ref a, c] ∧ (∀ u, RelV c u → u = cv) ∧ PySem.W.kitOne K (.ref D) cv = some b ∧ H dd = some (.xd fs) ∧ Q (.bl b) H
theorem call_isEx {a D : Addr} {o : Obj} {cls : Value} {d : Option Addr} {ps : List (Addr × Obj)} (T : ExcC X.K D) (hz : Zc cls d o) (hf : ∃ vs, o.data = .fields vs) :
    CallR (X.suite a ((a, o) :: ps)) (.builtin "isinstance") (fun xs H Q => ∃ dd, cls = .ref D ∧ d = some dd ∧ rIsEx X.K D a dd xs H Q) := by
  intro pins s σ H xs us Q I r h
  obtain ⟨dd, rfl, rfl, c, cv, b, fs, rfl, hcv, hk, hd, q⟩ := h
  obtain ⟨u1, u2, rfl, r1, r2⟩ := vals2 r
  obtain rfl := hcv u2 r2
  cases r1
  obtain ⟨ga, _⟩ := I.pin (a, o) (List.mem_append_left _ List.mem_cons_self)
  obtain ⟨vs, ef⟩ := hf
  obtain ⟨mA, hns, _⟩ := (show ObjOk X.prog X.w H s.heap dd (.xd fs) from I.hok dd _ hd)
  obtain ⟨od, ho, _⟩ := lookIn_ns hns
  have J : PySem.W.InstAt s.heap a o D (some od) := ⟨ga, hz.1, by unfold PySem.W.notCls; rw [ef], by rw [hz.2]; exact ho⟩
  have hc : (PySem.W.clsIn X.K D).isSome = true := by
    have := T.hd
    unfold PySem.W.hasDictIn at this
    cases e : PySem.W.clsIn X.K D with
    | none => rw [e] at this; cases this
    | some => rfl
  exact PySem.W.kia_one (PySem.W.kitx_exc hc T.hg T.hk T.hs T.ha T.hn T.ht T.hm) I.kIn J hk (fun z => nomatch z) fun tk => ⟨.bl b, H, I.kept (t' := tk) fun _ _ z => z, rfl, q⟩
end
end RK

namespace RK
open PySem PySem.Spec PyProof.Rows L2 HotX
/-! ### the end of a walk over a list or a tuple while an error is handled -/
section
variable {prog : Program} {w : World} {A : Around} {E : Value → Shared → Prop} {s : Shared}
theorem next_list_hot {it l x1 : Addr} {i : Nat} {items : Array Value} {Q : Option Value → Shared → Prop} (hot : HotAt A x1 s.heap) (ne : x1 ≠ it) (hit : s.heap.IsListIter it l i) (hl : s.heap.IsList l items) (hx : items[i]? = none)
    (hQ : ∀ h', (∀ b o, b ≠ it → s.heap.get? b = some o → h'.get? b = some o) → Q none { s with heap := h' }) : wpAny (model prog w) A (pyNext (.ref it)) Q E s := by
  obtain ⟨hh, o1, vs1, h1, d1, c1⟩ := hot
  obtain ⟨oi, gi, ci, di⟩ := id hit
  obtain ⟨ol, gl, _, nl, dl⟩ := hl
  unfold pyNext
  refine wpAny_bind (wpAny_attempt (wpAny_callSpecial?_slot (name := "__next__") hit.typeIs slot_listiter_next (wpAny_call_entry slot_listiter_next hit.typeIs entry_listiter_next ?_ (args_listiter_next _))))
  refine wpAny_bind (m := field (.ref it) 0) (wpAny_field gi di (x := .ref l) rfl ?_)
  refine (if_neg (Bool.false_ne_true : ¬ ((Value.ref l == Value.none) = true))).symm ▸ ?_
  refine wpAny_bind (m := field (.ref it) 1) (wpAny_field gi di (x := .int i 0) rfl (wpAny_bind (m := seqItems? (.ref l)) (wpAny_seqItems gl dl ?_)))
  simp only [Int.toNat_natCast, hx]
  refine wpAny_bind (wpAny_rule (wpAny_bind (wpAny_setField gi di (by simp) (wpAny_bind (m := newExc (.type "StopIteration") []) ?_))))
  simp only [newExc, newTuple]
  refine wpAny_bind (wpAny_newObj_type (wpAny_bind (m := firstArgMember _ _) (wpAny_of_eq (a := Value.none) (by first | rfl | (simp only [firstArgMember]; rfl)) (wpAny_newObj_type ?_ (by size_fits)))) (by size_fits))
  have k0 : ∀ b o, b ≠ it → s.heap.get? b = some o → (s.heap.update it (Obj.mapFields (·.setIfInBounds 0 Value.none))).get? b = some o := fun b o n e => by
    rw [Heap.get?_update_other _ _ (Ne.symm n)]; exact e
  have u1 := Heap.get?_push_of_some { cls := .type "tuple", data := .seq #[] } (k0 _ _ ne h1)
  refine raiseNew_hot ⟨hh, o1, vs1, Heap.get?_push_of_some _ u1, d1, c1⟩ (Nat.ne_of_lt (Heap.lt_size u1)) (Heap.get?_push_size _ rfl) rfl (by first | (simp; done) | (simp; omega)) (wpAny_bind (wpAny_isInstance (T := "StopIteration") (b := true) ⟨_, Heap.get?_update_self _ (Heap.get?_push_size _ rfl) rfl, rfl⟩ isSubtype_stop (wpAny_pure (hQ _ fun b o n e => ?_))))
  have u2 := Heap.get?_push_of_some { cls := .type "tuple", data := .seq #[] } (k0 _ _ n e)
  rw [Heap.get?_update_other _ _ (Nat.ne_of_gt (Heap.lt_size u2))]; exact Heap.get?_push_of_some _ u2
theorem next_tuple_hot {it l x1 : Addr} {i : Nat} {items : Array Value} {Q : Option Value → Shared → Prop} (hot : HotAt A x1 s.heap) (ne : x1 ≠ it) (hit : s.heap.IsTupleIter it l i) (hl : s.heap.IsTuple l items) (hx : items[i]? = none)
    (hQ : ∀ h', (∀ b o, b ≠ it → s.heap.get? b = some o → h'.get? b = some o) → Q none { s with heap := h' }) : wpAny (model prog w) A (pyNext (.ref it)) Q E s := by
  obtain ⟨hh, o1, vs1, h1, d1, c1⟩ := hot
  obtain ⟨oi, gi, ci, di⟩ := id hit
  obtain ⟨ol, gl, _, nl, dl⟩ := hl
  unfold pyNext
  refine wpAny_bind (wpAny_attempt (wpAny_callSpecial?_slot (name := "__next__") hit.typeIs F.slot_tuple_iterator_next (wpAny_call_entry F.slot_tuple_iterator_next hit.typeIs F.entry_tuple_iterator_next ?_ (F.args_tuple_iterator_next_1 _))))
  refine wpAny_bind (m := field (.ref it) 0) (wpAny_field gi di (x := .ref l) rfl ?_)
  refine (if_neg (Bool.false_ne_true : ¬ ((Value.ref l == Value.none) = true))).symm ▸ ?_
  refine wpAny_bind (m := field (.ref it) 1) (wpAny_field gi di (x := .int i 0) rfl (wpAny_bind (m := seqItems? (.ref l)) (wpAny_seqItems gl dl ?_)))
  simp only [Int.toNat_natCast, hx]
  refine wpAny_bind (wpAny_rule (wpAny_bind (wpAny_setField gi di (by simp) (wpAny_bind (m := newExc (.type "StopIteration") []) ?_))))
  simp only [newExc, newTuple]
  refine wpAny_bind (wpAny_newObj_type (wpAny_bind (m := firstArgMember _ _) (wpAny_of_eq (a := Value.none) (by first | rfl | (simp only [firstArgMember]; rfl)) (wpAny_newObj_type ?_ (by size_fits)))) (by size_fits))
  have k0 : ∀ b o, b ≠ it → s.heap.get? b = some o → (s.heap.update it (Obj.mapFields (·.setIfInBounds 0 Value.none))).get? b = some o := fun b o n e => by
    rw [Heap.get?_update_other _ _ (Ne.symm n)]; exact e
  have u1 := Heap.get?_push_of_some { cls := .type "tuple", data := .seq #[] } (k0 _ _ ne h1)
  refine raiseNew_hot ⟨hh, o1, vs1, Heap.get?_push_of_some _ u1, d1, c1⟩ (Nat.ne_of_lt (Heap.lt_size u1)) (Heap.get?_push_size _ rfl) rfl (by first | (simp; done) | (simp; omega)) (wpAny_bind (wpAny_isInstance (T := "StopIteration") (b := true) ⟨_, Heap.get?_update_self _ (Heap.get?_push_size _ rfl) rfl, rfl⟩ isSubtype_stop (wpAny_pure (hQ _ fun b o n e => ?_))))
  have u2 := Heap.get?_push_of_some { cls := .type "tuple", data := .seq #[] } (k0 _ _ n e)
  rw [Heap.get?_update_other _ _ (Nat.ne_of_gt (Heap.lt_size u2))]; exact Heap.get?_push_of_some _ u2
end
/-! ### walks over lists and tuples there -/
section
variable {P : Program} {w : World} {K : PySem.W.Frag} {tg : Expr} (a it : Addr)
theorem turn_listH : L2H.TurnH P w K tg (Itl K a) [it] it (fun i h => h.IsListIter it a i) := by
  have T : Turn P w K tg (Itl K a) [it] it (fun i h => h.IsListIter it a i) := turn_list a it
  refine ⟨T.mem, T.obj, T.keep, ?_, ?_, T.self⟩
  · rintro X rfl rfl rfl - i pins s σ H E I hf st ⟨xs, x, hq, hx⟩
    obtain ⟨its, rv, pl, _⟩ := I.list hq
    obtain ⟨u, hu, ru⟩ := rv.get hx
    obtain ⟨g0, g1, g2, g3, g4, g5⟩ := hf it T.mem
    refine wpAny_pyNext_list_item st pl.isList (x := u) (by simpa using hu) fun h2 st2 sb => ⟨u, rfl, ?_⟩
    obtain ⟨o, eo, co, dd⟩ := id st2
    refine go_of (s := { s with heap := h2 }) eo co dd (by decide) ⟨x, H, I.turned (t' := s.toks) (fun b ob hb e => (sb.2 b hb).trans e) g0 g1 g3 g4 g5, ru, ⟨rfl, fun ys hy => ?_⟩, st2, fun b hb => (hf b hb).1⟩
    rw [I.list_inj hy hq, hx]
  · rintro X rfl rfl rfl hc i pins s σ H E I hf st ⟨xs, hq, hx⟩
    obtain ⟨its, rv, pl, _⟩ := I.list hq
    obtain ⟨g0, g1, g2, g3, g4, g5⟩ := hf it T.mem
    obtain ⟨p, ⟨hh, vs1, d1, c1⟩, hp⟩ := hc
    have P1 := I.pin p (List.mem_append_left _ hp)
    have hl := rv.length
    exact next_list_hot ⟨hh, p.2, vs1, P1.1, d1, c1⟩ (g5 p (List.mem_append_left _ hp)) st pl.isList (by simp; omega) fun h2 eb => ⟨rfl, I.turned (t' := s.toks) (fun b ob hb e => eb b ob hb e) g0 g1 g3 g4 g5⟩
theorem turn_tupleH : L2H.TurnH P w K tg (Itt K a) [it] it (fun i h => h.IsTupleIter it a i) := by
  have T : Turn P w K tg (Itt K a) [it] it (fun i h => h.IsTupleIter it a i) := turn_tuple a it
  refine ⟨T.mem, T.obj, T.keep, ?_, ?_, T.self⟩
  · rintro X rfl rfl rfl - i pins s σ H E I hf st ⟨xs, x, hq, hx⟩
    obtain ⟨its, rv, pl, _⟩ := I.tuple hq
    obtain ⟨u, hu, ru⟩ := rv.get hx
    obtain ⟨g0, g1, g2, g3, g4, g5⟩ := hf it T.mem
    refine wpAny_pyNext_tuple_item st (show s.heap.IsTuple a its.toArray from pl) (x := u) (by simpa using hu) fun h2 st2 sb => ⟨u, rfl, ?_⟩
    obtain ⟨o, eo, co, dd⟩ := id st2
    refine go_of (s := { s with heap := h2 }) eo co dd (by decide) ⟨x, H, I.turned (t' := s.toks) (fun b ob hb e => (sb.2 b hb).trans e) g0 g1 g3 g4 g5, ru, ⟨rfl, fun ys hy => ?_⟩, st2, fun b hb => (hf b hb).1⟩
    rw [I.tuple_inj hy hq, hx]
  · rintro X rfl rfl rfl hc i pins s σ H E I hf st ⟨xs, hq, hx⟩
    obtain ⟨its, rv, pl, _⟩ := I.tuple hq
    obtain ⟨g0, g1, g2, g3, g4, g5⟩ := hf it T.mem
    obtain ⟨p, ⟨hh, vs1, d1, c1⟩, hp⟩ := hc
    have P1 := I.pin p (List.mem_append_left _ hp)
    have hl := rv.length
    exact next_tuple_hot ⟨hh, p.2, vs1, P1.1, d1, c1⟩ (g5 p (List.mem_append_left _ hp)) st (show s.heap.IsTuple a its.toArray from pl) (by simp; omega) fun h2 eb => ⟨rfl, I.turned (t' := s.toks) (fun b ob hb e => eb b ob hb e) g0 g1 g3 g4 g5⟩
end
section
variable {X : Cx} {tg l : Expr} {tl : TE}
theorem pi_listH (hl : PE X l tl) : L2H.PIH X tg l (iList X.K tl) := by
  refine ⟨fun pins s σ H R I h => thn (hl.run pins s σ H _ I h) fun v s1 ⟨x, H1, I1, r1, a, ex, ⟨xs, hq⟩, q⟩ => ?_⟩
  subst ex; cases r1
  obtain ⟨its, rv, pl, _⟩ := I1.list hq
  refine wpAny_pyIter_list pl.isList ⟨s1.heap.objs.size, [s1.heap.objs.size], _, _, H1, rfl, I1.kept (t' := s1.toks) fun b o e => Heap.get?_push_of_some _ e, turn_listH a _, ⟨_, Heap.get?_push_size _ rfl, rfl, rfl⟩, fun b hb => ?_, q⟩
  rw [List.mem_singleton.mp hb]
  exact I1.fpOk (Nat.le_refl _) (I1.hok.fresh (Nat.le_refl _))
theorem pi_tupH (hl : PE X l tl) : L2H.PIH X tg l (iTup X.K tl) := by
  refine ⟨fun pins s σ H R I h => thn (hl.run pins s σ H _ I h) fun v s1 ⟨x, H1, I1, r1, a, ex, ⟨xs, hq⟩, q⟩ => ?_⟩
  subst ex; cases r1
  obtain ⟨its, rv, pl, _⟩ := I1.tuple hq
  refine wpAny_pyIter_tuple (show s1.heap.IsTuple a its.toArray from pl) ⟨s1.heap.objs.size, [s1.heap.objs.size], _, _, H1, rfl, I1.kept (t' := s1.toks) fun b o e => Heap.get?_push_of_some _ e, turn_tupleH a _, ⟨_, Heap.get?_push_size _ rfl, rfl, rfl⟩, fun b hb => ?_, q⟩
  rw [List.mem_singleton.mp hb]
  exact I1.fpOk (Nat.le_refl _) (I1.hok.fresh (Nat.le_refl _))
theorem PIH_or {w1 w2 : TI} (h1 : L2H.PIH X tg l w1) (h2 : L2H.PIH X tg l w2) : L2H.PIH X tg l (fun σ H R => w1 σ H R ∨ w2 σ H R) :=
  ⟨fun pins s σ H R I h => h.elim (h1.run pins s σ H R I) (h2.run pins s σ H R I)⟩
end
/-! ### list comprehensions there: the block keeps the error that is handled among its pins -/
abbrev blkH (X : Cx) (s : Shared) (H : Hp) (scope : Scope) (ce : Env) (fp : List Addr) (p : Addr × Obj) : Cx := { X.blk s H scope ce fp with pn := [p] }
section
variable {X : Cx} {pins : List (Addr × Obj)} {s : Shared} {σ : L2.St} {H : Hp} {Q : VK} {elt tg iter : Expr} {ifs : List Expr} {scope : Scope} {own : List (Str × Nat)} {pos pos2 : Pos} {wi : TI} {g : TG} {tt : TT} {te : TE}
theorem okH {s3 : Shared} {ce : Env} {fp : List Addr} {p : Addr × Obj} (nc : X.calm = false) (ok : (X.blk s3 H scope ce fp).Ok) : (blkH X s3 H scope ce fp p).Ok :=
  ⟨ok.mod, ok.kind, ok.glob, ok.blt, ok.above, ok.inj, ok.has, ok.cab, fun z => absurd (nc.symm.trans z) Bool.false_ne_true, ok.frames, ok.stk, ok.exf, ok.bs, ok.bsz, ok.noex, ok.exfs, ok.funs, ok.frf⟩
theorem comp_hot {Qf : Value → Shared → Prop} (nc : X.calm = false) {p : Addr × Obj} (hot : L2H.Hot1 X.A p) (hp : p ∈ X.pn) (hN : X.N.Nodup) (I : Inv X pins σ H s) (hi : L2H.PIH X tg iter wi) (ok : BlkOk X.N X.env.scope scope own)
    (hg : ∀ s H C cl fp, PG (blkH X s H scope (compEnvC scope cl C X.env) fp p) tg g) (ht : ∀ s H C cl fp, PTs (blkH X s H scope (compEnvC scope cl C X.env) fp p) ifs tt)
    (he : ∀ s H C cl fp, PE (blkH X s H scope (compEnvC scope cl C X.env) fp p) elt te) (hs : ∀ x, foldedSetIterable iter X.env x = pure x) (h : tLc wi g tt te (own.map (·.2)) σ H Q)
    (hR : ∀ D C s' m H', Inv X pins σ H' s' → Q (.ref D) H' → s'.heap.Ns C m → FpOk X pins H' C → compPost (model X.prog X.w) X.A X.xe none Qf (.ref D) C (.ok .next) s') :
    wpAny (model X.prog X.w) X.A (comprehension (.ListComp elt [⟨tg, iter, ifs, 0⟩] scope pos) scope X.env pos2 (newList []) false (eval iter X.env) none) Qf X.xe s := by
  have free : ∀ y ∈ scope.names, y.2 = .free → ∃ c, X.env.cells.lookup y.1 = some c := fun y hy e => I.ok.has _ (ok.free y hy e)
  refine wpAny_comprehension_free (use := none) rfl hs (closure_ok free) ok.kind (fun y hy e => (ok.uniq y hy).trans (congrArg some e)) (thn (hi.run pins s σ H _ I h) fun _ t1 hx => thn hx fun _ t2 ⟨it, fp, tn, J, H2, ei, I2, T, st2, f2, q⟩ => ?_)
  subst ei
  refine wpAny_newObj_type (newEnv_comp ?_) (Nat.zero_le _)
  have nD : H2 t2.heap.objs.size = none := I2.hok.fresh (Nat.le_refl _)
  obtain ⟨W, ⟨m0, w0⟩, turn⟩ := q _ nD
  generalize eD : t2.heap.objs.size = D at nD w0 turn ⊢
  generalize e3 : ({ t2 with heap := t2.heap.push { cls := .type "list", data := .seq ([] : List Value).toArray } } : Shared) = t3
  have hp3 : t3.heap = t2.heap.push { cls := .type "list", data := .seq ([] : List Value).toArray } := by rw [← e3]
  have I3 : Inv X pins σ (upd H2 D (.lst [])) t3 := by
    rw [← e3]
    exact I2.laid (t' := t2.toks) (fun b o e => Heap.get?_push_of_some _ e) (Nat.le_of_eq eD) ⟨Nat.zero_le _, [], 0, .nil, by rw [← eD]; exact Heap.get?_push_size _ rfl⟩
  have f3 : ∀ b ∈ fp, FpOk X pins (upd H2 D (.lst [])) b ∧ b < t3.heap.objs.size := fun b hb => by
    obtain ⟨o, eo, _⟩ := T.obj _ _ st2 b hb
    have lt : b < D := by rw [← eD]; exact Heap.lt_size eo
    exact ⟨⟨(upd_ne (Nat.ne_of_lt lt)).trans (f2 b hb).1, (f2 b hb).2⟩, by rw [hp3, Heap.size_push, eD]; exact Nat.lt_succ_of_lt lt⟩
  have I4 := block_start I3 ok hN f3
  have P3 := I3.pin p (List.mem_append_left _ hp)
  have pS : p.1 ∉ frs X.stack := fun hm => (List.mem_cons.mp (I3.stkSub p.1 hm)).elim P3.2.2.1 P3.2.2.2.1
  have pg := hg t3 (upd H2 D (.lst [])) t3.heap.objs.size (cellsFrom (t3.heap.objs.size + 1) scope.names (cloFrom X.env.cells scope.names [])) fp
  have pt := ht t3 (upd H2 D (.lst [])) t3.heap.objs.size (cellsFrom (t3.heap.objs.size + 1) scope.names (cloFrom X.env.cells scope.names [])) fp
  have pe := he t3 (upd H2 D (.lst [])) t3.heap.objs.size (cellsFrom (t3.heap.objs.size + 1) scope.names (cloFrom X.env.cells scope.names [])) fp
  show codeAny _ _ (.compStart _ 0 (.ref it) (.ref D) (compEnvC scope (cellsFrom (t3.heap.objs.size + 1) scope.names (cloFrom X.env.cells scope.names [])) t3.heap.objs.size X.env)) (compPost _ X.A X.xe none Qf (.ref D) t3.heap.objs.size) { t3 with heap := pushCells (t3.heap.push { cls := .type "dict", data := .dict #[] }) scope.names }
  have nfp : ∀ b ∈ fp, (upd H2 D (.lst [])) b = none := fun b hb => (f3 b hb).1.1
  generalize hce : compEnvC scope (cellsFrom (t3.heap.objs.size + 1) scope.names (cloFrom X.env.cells scope.names [])) t3.heap.objs.size X.env = ce at I4 pg pt pe ⊢
  have cL : ce.locals = t3.heap.objs.size := by rw [← hce]; rfl
  generalize hH3 : upd H2 D (.lst []) = H3 at I3 I4 P3 pg pt pe w0 nfp f3
  generalize hs4 : ({ t3 with heap := pushCells (t3.heap.push { cls := .type "dict", data := .dict #[] }) scope.names } : Shared) = t4 at I4 ⊢
  have k4 : ∀ b o, t3.heap.get? b = some o → t4.heap.get? b = some o := fun b o e => by rw [← hs4]; exact pushCells_keeps _ _ _ _ (Heap.get?_push_of_some _ e)
  have k3 : ∀ b o, t2.heap.get? b = some o → t4.heap.get? b = some o := fun b o e => k4 b o (by rw [hp3]; exact Heap.get?_push_of_some _ e)
  have st4 : tn 0 t4.heap := T.keep _ _ _ st2 fun b _ o e => k3 b o e
  have J4 : Inv (blkH X t3 H3 scope ce fp p) [] (wipe σ (own.map (·.2))) H3 t4 := ⟨okH nc I4.ok, I4.os, I4.bare, I4.base, I4.loc, I4.cell, I4.free, I4.freeC, fun r hr => by
    have er : r = p := by simpa using hr
    subst er
    exact ⟨k4 _ _ P3.1, P3.2.1, by rw [show (blkH X t3 H3 scope ce fp r).env.locals = t3.heap.objs.size from cL]; exact Nat.ne_of_lt (Heap.lt_size P3.1), pS, P3.2.2.2.2⟩, I4.hok, I4.len⟩
  have hc : L2H.HotC (blkH X t3 H3 scope ce fp p) := ⟨p, hot, List.mem_cons_self⟩
  have stat : ∀ {σ' : L2.St} {H' : Hp} {s' : Shared}, Inv (blkH X t3 H3 scope ce fp p) [] σ' H' s' → (∀ b ∈ fp, H' b = none) → ∀ b ∈ fp, FpOk (blkH X t3 H3 scope ce fp p) [] H' b := fun I' hn b hb =>
    ⟨hn b hb, (I'.ok.exf b hb).1, I'.ok.exfs b hb, .inl hb, (I'.ok.exf b hb).2, fun r hr => by
      have er : r = p := by simpa using hr
      rw [er]
      exact (f2 b hb).2.2.2.2.2 p (List.mem_append_left _ hp)⟩
  have loop : codeAny (model X.prog X.w) X.A (.compLoop (.ListComp elt [⟨tg, iter, ifs, 0⟩] scope pos) 0 (.ref it) (.ref D) ce) (compPost (model X.prog X.w) X.A X.xe none Qf (.ref D) t3.heap.objs.size) t4 := by
    refine compLoop_any (fun n s' => ∃ i H', Inv (blkH X t3 H3 scope ce fp p) [] (wipe σ (own.map (·.2))) H' s' ∧ tn i s'.heap ∧ (∀ b ∈ fp, H' b = none) ∧ W i n H') (fun n t5 ⟨i, H5, I5, st5, n5, w5⟩ => ?_) m0 ⟨0, H3, J4, st4, nfp, w0⟩
    rcases turn i n H5 w5 with ⟨stop, qq⟩ | ⟨go, Nx, hNx, step⟩
    · refine thnF (T.done (blkH X t3 H3 scope ce fp p) rfl rfl rfl hc i [] t5 _ H5 (fun _ _ => False) I5 (stat I5 n5) st5 stop) fun r t6 ⟨er, I6⟩ => ?_
      subst er
      have I7 : Inv X pins σ H5 t6 := I3.call' (ch := fp) I6.os I6.base I6.hok I6.bare fun b hb => ⟨(f3 b hb).1.2.2.2.1, (f3 b hb).1.2.1, (f3 b hb).1.2.2.2.2.1, (f3 b hb).1.2.2.2.2.2⟩
      have nC : H5 t3.heap.objs.size = none := cL ▸ (I6.free : H5 ce.locals = none)
      obtain ⟨m, hn, _⟩ := I6.loc
      exact hR D _ t6 m H5 I7 qq (cL ▸ (hn : t6.heap.Ns ce.locals m)) (I3.fpOk (Nat.le_refl _) nC)
    · refine thnF (T.item (blkH X t3 H3 scope ce fp p) rfl rfl rfl hc i [] t5 _ H5 (fun _ _ => False) I5 (stat I5 n5) st5 go) fun r t6 ⟨u, er, h6⟩ => ?_
      subst er
      refine thnF h6 fun _ t7 ⟨x, H7, I7, r7, y7, st7, n7⟩ => thnF (pg.run _ t7 _ H7 x u _ (I7.pinned (stat I7 n7) (T.obj _ _ st7)) r7 (step x H7 y7)) fun _ t8 ⟨σ8, H8, I8, hw8, q8⟩ => thnF (pt.run _ t8 σ8 H8 _ I8 q8) fun b t9 ⟨H9, I9, q9⟩ => ?_
      have back : ∀ {s' : Shared} {H' : Hp}, Inv (blkH X t3 H3 scope ce fp p) ([] ++ pinsAt fp t7.heap) σ8 H' s' → Nx H' → ∃ m, m < n ∧ ∃ i H', Inv (blkH X t3 H3 scope ce fp p) [] (wipe σ (own.map (·.2))) H' s' ∧ tn i s'.heap ∧ (∀ b ∈ fp, H' b = none) ∧ W i m H' := fun {s' H'} I' nx => by
        obtain ⟨m', lt, w'⟩ := hNx H' nx
        have at_ : ∀ b ∈ fp, ∀ o, t7.heap.get? b = some o → s'.heap.get? b = some o ∧ H' b = none := fun b hb o e => ⟨(I'.pin (b, o) (.tail _ (mem_pinsAt hb e))).1, (I'.pin (b, o) (.tail _ (mem_pinsAt hb e))).2.1⟩
        refine ⟨m', lt, i + 1, H', (I'.unpinned (pins := [])).weak (by rw [← hw8, wipe_length]) (fun j v e => (wipe_some (hw8 ▸ e)).1), T.keep _ _ _ st7 fun b hb o e => (at_ b hb o e).1, fun b hb => ?_, w'⟩
        exact let ⟨o, e, _⟩ := T.obj _ _ st7 b hb; (at_ b hb o e).2
      cases b with
      | false => exact back I9 q9
      | true => exact thnF (pe.run _ t9 σ8 H9 _ I9 q9) fun z t10 ⟨yv, H10, I10, r10, acc, d10, z10, nx⟩ => app_ok (X := blkH X t3 H3 scope ce fp p) I10 d10 z10 r10 fun t11 I11 => back I11 nx
  exact codeAny_compStart_list loop (T.self X.A 0 _ _ _ st4 loop)
theorem pe_lcH (nc : X.calm = false) {p : Addr × Obj} (hot : L2H.Hot1 X.A p) (hp : p ∈ X.pn) (hN : X.N.Nodup) (hi : L2H.PIH X tg iter wi) (ok : BlkOk X.N X.env.scope scope own)
    (hg : ∀ s H C cl fp, PG (blkH X s H scope (compEnvC scope cl C X.env) fp p) tg g) (ht : ∀ s H C cl fp, PTs (blkH X s H scope (compEnvC scope cl C X.env) fp p) ifs tt)
    (he : ∀ s H C cl fp, PE (blkH X s H scope (compEnvC scope cl C X.env) fp p) elt te) (hs : ∀ x, foldedSetIterable iter X.env x = pure x := by intro _; rfl) : PE X (.ListComp elt [⟨tg, iter, ifs, 0⟩] scope pos) (tLc wi g tt te (own.map (·.2))) := by
  refine ⟨fun pins s σ H Q I h => ?_⟩
  rw [eval_ListComp]
  exact comp_hot nc hot hp hN I hi ok hg ht he hs h fun D C s2 m H2 I2 q hn f => ⟨m, hn, fun h2 sb => ⟨.ref D, H2, I2.turned (t' := s2.toks) (fun b o hb e => (sb.2 b hb).trans e) f.1 f.2.1 f.2.2.2.1 f.2.2.2.2.1 f.2.2.2.2.2, rfl, q⟩⟩
end
/-! ### errors raised where nothing is handled, their context None -/
section
variable {X : Cx} {x f : Str} {C fI : Addr} {fd : FuncData} {k : Nat} {e : Expr} {ta : TA} {p pos : Pos}
theorem pmk_errN (T : ErrC X.K X.mg x f C fI fd) (F1 : FnOk X.prog X.w X.K X.mg X.base CX0 k fI fd ["self", f] (spKeep f C)) (hr : Room (k + 1) X.A) (ha : PA X [e] ta) (hg : Gl X x := by rfl) (hdb : (x == ("__debug__" : Str)) = false := by decide)
    (he : starEach [e] X.env = (false, eval e X.env) :: starEach [] X.env := by rfl) (hpl : (backTo pos (starEach [] X.env)).any (·.1) = false := by rfl) : L2N.PMk X (.Call (.Name x p) [e] [] pos) (tMkO C (spKeep f C) [] ta) := by
  intro pins s σ H Q I h
  obtain ⟨nm, q, N, bs, bm, sn, sub, ab, col, dd, k0, k1, k2, k3, k5, lkC, vbm⟩ := T.ox.cls
  refine wpAny_Call_Name_kw (ld_glob I hg T.g (PySem.W.callWith_K (h₀ := X.base) I.ok.mod.kin T.ox.kC (thn (ha.run pos pins s σ H _ I h) fun us s1 ⟨vs, H1, I1, r1, lv, q1⟩ => ⟨I1.kIn, ?_⟩) he hpl) hdb)
  obtain ⟨hp, g, dr, tk, os⟩ := s1
  generalize ea : hp.objs.size + 1 = a
  have ge : hp.objs.size ≤ a := by omega
  have hq := q1 a (I1.hok.fresh ge)
  have kk : ∀ b o, hp.get? b = some o → ((hp.push (PySem.W.kdv_tup us)).push (PySem.HandSPX.excO C hp.objs.size)).get? b = some o := fun b o z => Heap.get?_push_of_some _ (Heap.get?_push_of_some _ z)
  have ga : ((hp.push (PySem.W.kdv_tup us)).push (PySem.HandSPX.excO C hp.objs.size)).get? a = some (PySem.HandSPX.excO C hp.objs.size) := by rw [← ea]; heap_get
  have I2 : Inv X pins σ (upd H1 a (exo a C none)) ⟨(hp.push (PySem.W.kdv_tup us)).push (PySem.HandSPX.excO C hp.objs.size), g, dr, tk, os⟩ := I1.laid (t' := tk) (o := exo a C none) kk ge (exo_ok ga)
  have r2 : Vals (V.ref a :: (vs ++ [])) (Value.ref a :: (us ++ [])) := .cons rfl (r1.append .nil)
  have lu : us.length ≤ sizeLine := by
    have := Paired.length r1; have : (1000 : Nat) ≤ sizeLine := by decide
    omega
  have ll : (Value.ref a :: us ++ []).length = (["self", f] : List Str).length := (r2.length).symm.trans (F1.len _ _ _ _ hq)
  have bb := T.b ⟨(hp.push (PySem.W.kdv_tup us)).push (PySem.HandSPX.excO C hp.objs.size), g, dr, tk, os⟩ (Value.ref a :: us) I2.kIn ll
  subst ea
  refine wpAny_call (PySem.HandSPX.call_own F.excBase_ValueError (fun Y => PySem.HandSPX.refsVE_contains Y bm vbm) (I1.kIn _ _ lkC) (PySem.W.looks_findIn I1.kIn T.iC) (fun self => PySem.W.bind_fn I1.kIn self T.tI) lu
    (codeAny_mono (F1.run _ X.stack _ _ ⟨Value.ref _ :: us, []⟩ _ _ _ (fun _ _ _ => False) (hr.make C us []) (I2.env0.make C us []) bb r2 hq) fun r s2 z => ?_))
  match r, z with
  | .error _, z => exact False.elim z
  | .ok .next, z => exact False.elim z
  | .ok .brk, z => exact False.elim z
  | .ok .cont, z => exact False.elim z
  | .ok (.ret u), ⟨v, H2, os2, bare2, un2, hok2, rv, ev, d, fs, e1, e2, e3, q2⟩ =>
    subst ev
    obtain ⟨h2, g2, d2, t2, os3⟩ := s2
    obtain ⟨t0, G, J, kG, gn, go, na⟩ := mk_end0 (d2 := d2) (t2 := t2) I1 ge kk un2 hok2 os2 bare2 e1 e2 e3
    exact ⟨rv, _, _, _, ⟨G, g2, d2, t2, os3⟩, _, .ref C, some d, rfl, J, kG, gn, go, ⟨rfl, rfl, fun vs z => by cases z; rfl⟩, rfl, rfl, na, rfl, bare2, raises_own T.ox.exC T.ox.tyC, q2⟩
/-- a def that may raise so -/
theorem Fun.okN {P : Program} {w : World} {K : PySem.W.Frag} {mg : Str → Option Value} {base : Heap} {x qual : Str} {st : Stmt} {f : Addr} {fd : FuncData} {N ps : List Str} {k : Nat} {sp : Sp} (F : Fun K x qual st f fd) (S : FnScope N ps (defScope st))
    (len : ∀ vs H Q E, sp vs H Q E → vs.length = ps.length) (body : ∀ (cdv : Value) (A : Around) (outer : List Env) (s : Shared) (H : Hp) (vs : List V) (Q : VK) (E : XK), Room k (A.deeper (envOfC qual (defScope st) s.heap.objs.size f cdv)) → sp vs H Q E →
      ∃ t, PSs (cxOf (L2N.CX P w) P w K mg base N qual (defScope st) f cdv A outer s H E) (defBody st) t ∧ t { nx := fun _ H' => Q .non H', rt := Q } (start N vs) H) : FnOk P w K mg base (L2N.CX P w) (k + 1) f fd ps sp := by
  obtain ⟨oc, od, kV, doc, pm, an, cdv, ct, osl, rfl, lk, hcd⟩ := F.ex
  exact fn_of lk hcd S len fun A outer s H vs Q E hr z => body cdv A outer s H vs Q E hr z
/-- a def called while an error is handled -/
theorem Fun.okH {P : Program} {w : World} {K : PySem.W.Frag} {mg : Str → Option Value} {base : Heap} {x qual : Str} {st : Stmt} {f : Addr} {fd : FuncData} {N ps : List Str} {k : Nat} {sp : Sp} (F : Fun K x qual st f fd) (S : FnScope N ps (defScope st))
    (len : ∀ vs H Q E, sp vs H Q E → vs.length = ps.length) (body : ∀ (cdv : Value) (A : Around) (outer : List Env) (s : Shared) (H : Hp) (vs : List V) (Q : VK) (E : XK) (p : Addr × Obj), L2H.Hot1 A p → L2H.RoomH k (A.deeper (envOfC qual (defScope st) s.heap.objs.size f cdv)) → sp vs H Q E →
      ∃ t, PSs (L2H.cxH CX0 P w K mg base N qual (defScope st) f cdv A outer s H E p).nox (defBody st) t ∧ t { nx := fun _ H' => Q .non H', rt := Q } (start N vs) H) : L2H.FnH P w K mg base CX0 (k + 1) f fd ps sp := by
  obtain ⟨oc, od, kV, doc, pm, an, cdv, ct, osl, rfl, lk, hcd⟩ := F.ex
  refine L2H.fn_ofH lk hcd S len fun A outer s H vs Q E p hot hr z => ?_
  obtain ⟨t, h1, h2⟩ := body cdv A outer s H vs Q E p hot hr z
  exact ⟨t, h1.nox, h2⟩
end
section
variable {X : Cx} {x n : Str} {c : Value} {i : Nat} {body suite : List Stmt} {hds : List ExceptHandler} {b₀ : Stmt} {np pos pos' : Pos} {tb : WX → TS} {ts : Addr → Value → Option Addr → TS} {pins : List (Addr × Obj)}
theorem ps_try_hitN (st : X.stack = X.env :: X.outer) (fr : X.env.frame = some X.env.locals) (ndN : X.N.Nodup) (ni : X.N[i]? = some n) (nl : X.env.kindOf n = some .local) (nc : Names X x c)
    (hB : ∀ (W : WX) (ps : List (Addr × Obj)) (xe : Value → Shared → Prop), L2N.Takes (X.tr ps xe) W → PassesOwn (model X.prog X.w) X.A X.env xe → PSs (X.tr ps xe) body (tb W))
    (hS : ∀ (a : Addr) (o : Obj) (cls : Value) (d : Option Addr) (ps : List (Addr × Obj)), L2N.Zn cls d o → (∃ vs, o.data = .fields vs) → PSs (X.suite a ((a, o) :: ps)) (b₀ :: suite) (ts a cls d)) :
    PS X (.Try body (.ExceptHandler (some (.Name x np)) (some n) (b₀ :: suite) pos' :: hds) [] [] pos) (fun D σ H => tb (wHit X.K c i ts D) D σ H) := by
  refine ⟨fun pins s σ H D I h => wpAny_Try_except ?_⟩
  have fr2 : X.A.frames = some (X.env :: X.outer) := I.ok.frames.trans (congrArg some st)
  refine wpAny_mono ((hB _ (X.pn ++ pins) (fun e s₁ => wpAny (model X.prog X.w) X.A (noteFrame e X.env) (fun _ s₂ => wpAny (model X.prog X.w) X.A (setFlight e none) (fun _ s₃ => wpAny (model X.prog X.w) X.A
    (handleBy e X.env (.ExceptHandler (some (.Name x np)) (some n) (b₀ :: suite) pos' :: hds)) (SP X pins D) X.xe s₃) X.xe s₂) X.xe s₁) (fun u t xx => ?_) PassesOwn.looking).run [] s σ H D (I.toTry _) h) (fun f t q => ?_) (fun _ _ z => z)
  case refine_2 =>
    have q' := flow_out (pins := pins) I.ok q
    cases f with
    | next => exact wpAny_execs_nil q'
    | _ => exact q'
  obtain ⟨a, B, t0, ps, σ1, H1, cls, d, eu, J0, nB, u1, sk, na, eo, bare, hit, go⟩ := xx
  subst eu
  have J := J0.ofTry I.ok
  rw [show (X.tr (X.pn ++ pins) _).stack = X.env :: X.outer from st] at sk
  refine L2N.Sky.land L2N.Zn.steady fr2 fr sk fun h3 f3 u3 => ?_
  have J3 : Inv X pins σ1 H1 { t with heap := h3 } := J.landed nB f3.1 (u1.trans u3) eo bare
  obtain ⟨o3, v3, g3, z3, d3⟩ := f3.there
  have out := no_frame f3.2.2.1 g3 d3
  have aL : a ≠ X.env.locals := fun e => out (List.mem_filterMap.mpr ⟨X.env, .head _, by rw [e]; exact fr⟩)
  have aF : a ∉ X.fs := fun m => out (by rw [show frs (X.env :: X.outer) = X.env.locals :: frs X.outer from List.filterMap_cons_some fr]; exact .tail _ m)
  refine wpAny_handleBy_cons (codeAny_handlers_test (names_it nc (J3.suite g3 d3 na aL aF) ?_)) (by intro z; cases z)
  refine (PySem.W.exm_one (M := model X.prog X.w) J3.kIn (fun _ _ _ _ k z => wpAny_typeOf_ref (k _ _ g3) (by rw [z3.1]; exact z)) hit).here ?_
  refine codeAny_handlers_suite_as (HandSPX.lands_againZ f3 fun h4 f4 u4 => ?_)
  have J4 : Inv X pins σ1 H1 { t with heap := h4 } := J.landed nB f4.1 ((u1.trans u3).trans u4) eo bare
  obtain ⟨o4, v4, g4, z4, d4⟩ := f4.there
  refine store_ok (X := Cx.suite X a ((a, o4) :: (X.pn ++ pins))) (v := .ref a) (J4.suite g4 d4 na aL aF) ndN ni (.inl nl) rfl (fun t5 S5 => ?_) (.inr nl)
  refine wpAny_mono ((hS a o4 cls d (X.pn ++ pins) z4 ⟨_, d4⟩).run [] t5 _ H1 _ S5 (go a na)) (fun f t6 q => ?_) (fun _ _ z => z.elim)
  cases f with
  | ret u => exact let ⟨v6, σ6, H6, S6, r6, q6⟩ := q; gone_ok (S6.unsuite I.ok) ndN ni nl fun t7 J7 => ⟨v6, _, H6, J7, r6, q6⟩
  | next => exact let ⟨σ6, H6, S6, q6⟩ := q; gone_ok (S6.unsuite I.ok) ndN ni nl fun t7 J7 => ⟨_, H6, J7, q6⟩
  | brk => exact let ⟨σ6, H6, S6, q6⟩ := q; gone_ok (S6.unsuite I.ok) ndN ni nl fun t7 J7 => ⟨_, H6, J7, q6⟩
  | cont => exact let ⟨σ6, H6, S6, q6⟩ := q; gone_ok (S6.unsuite I.ok) ndN ni nl fun t7 J7 => ⟨_, H6, J7, q6⟩
/-- the suite's context bears the error -/
theorem hot_suite {a : Addr} {o : Obj} {cls : Value} {d : Option Addr} {ps : List (Addr × Obj)} (z : L2N.Zn cls d o) (h : ∃ vs, o.data = .fields vs) : L2H.HotC (X.suite a ((a, o) :: ps)) :=
  let ⟨vs, e⟩ := h
  ⟨(a, o), ⟨rfl, vs, e, z.2.2 vs e⟩, List.mem_cons_self⟩
theorem passN : Passes (L2N.CX X.prog X.w) X E0 := fun _ _ _ _ _ _ _ h => let ⟨_, _, _, _, _, _, _, _, _, _, _, _, z⟩ := h; z.elim
/-- nothing leaves a suite -/
theorem pass_at0 {σ : L2.St} : PassesAt CX0 X σ (fun _ _ _ => False) := fun _ _ _ _ _ _ h => h.elim
end
theorem unitsH {k : Nat} {A : Around} (r : L2H.RoomH k A) : A.units + 64 < cLine := by
  have := r.un
  omega
end RK

namespace RK
open PySem PySem.Spec PyProof.Rows L2 PySem.Builtin.Str
/-! ### {n:04x} of a word -/
def hx (k : Nat) : Nat := if k < 10 then 48 + k else 87 + k
def hexd (n : Nat) : List Nat := [hx (n / 4096), hx (n / 256 % 16), hx (n / 16 % 16), hx (n % 16)]
theorem hx_char : ∀ k : _root_.Fin 16, (Nat.digitChar k.val).toNat = hx k.val := by decide +kernel
theorem tod16 {n : Nat} (h : n < 65536) : (Nat.toDigits 16 n).length ≤ 4 ∧ List.replicate (4 - (Nat.toDigits 16 n).length) 48 ++ (Nat.toDigits 16 n).map Char.toNat = hexd n := by
  have hc : ∀ k, k < 16 → (Nat.digitChar k).toNat = hx k := fun k hk => hx_char ⟨k, hk⟩
  have z : hx 0 = 48 := rfl
  have base : ∀ k, k < 16 → Nat.toDigits 16 k = [Nat.digitChar k] := fun k hk => Nat.toDigits_of_lt_base hk
  have step : ∀ k, 16 ≤ k → Nat.toDigits 16 k = Nat.toDigits 16 (k / 16) ++ [Nat.digitChar (k % 16)] := fun k hk => Nat.toDigits_of_base_le (by decide) hk
  unfold hexd
  by_cases h1 : n < 16
  · rw [base n h1, show n / 4096 = 0 by omega, show n / 256 % 16 = 0 by omega, show n / 16 % 16 = 0 by omega, show n % 16 = n by omega]
    refine ⟨show 1 ≤ 4 by decide, ?_⟩
    show List.replicate 3 48 ++ [(Nat.digitChar n).toNat] = _
    rw [hc n h1]
    rfl
  rw [step n (by omega)]
  by_cases h2 : n / 16 < 16
  · rw [base (n / 16) h2, show n / 4096 = 0 by omega, show n / 256 % 16 = 0 by omega, show n / 16 % 16 = n / 16 by omega]
    refine ⟨show 2 ≤ 4 by decide, ?_⟩
    show List.replicate 2 48 ++ [(Nat.digitChar (n / 16)).toNat, (Nat.digitChar (n % 16)).toNat] = _
    rw [hc _ h2, hc _ (Nat.mod_lt _ (by decide))]
    rfl
  rw [step (n / 16) (by omega)]
  by_cases h3 : n / 16 / 16 < 16
  · rw [base (n / 16 / 16) h3, show n / 4096 = 0 by omega, show n / 256 % 16 = n / 16 / 16 by omega]
    refine ⟨show 3 ≤ 4 by decide, ?_⟩
    show List.replicate 1 48 ++ [(Nat.digitChar (n / 16 / 16)).toNat, (Nat.digitChar (n / 16 % 16)).toNat, (Nat.digitChar (n % 16)).toNat] = _
    rw [hc _ h3, hc _ (Nat.mod_lt _ (by decide)), hc _ (Nat.mod_lt _ (by decide))]
    rfl
  rw [step (n / 16 / 16) (by omega), base (n / 16 / 16 / 16) (by omega), show n / 4096 = n / 16 / 16 / 16 by omega, show n / 256 = n / 16 / 16 by omega]
  refine ⟨show 4 ≤ 4 by decide, ?_⟩
  show List.replicate 0 48 ++ [(Nat.digitChar (n / 16 / 16 / 16)).toNat, (Nat.digitChar (n / 16 / 16 % 16)).toNat, (Nat.digitChar (n / 16 % 16)).toNat, (Nat.digitChar (n % 16)).toNat] = _
  rw [hc _ (by omega), hc _ (Nat.mod_lt _ (by decide)), hc _ (Nat.mod_lt _ (by decide)), hc _ (Nat.mod_lt _ (by decide))]
  rfl
section
variable {X : Cx}
open Builtin PySem.W Builtin.Float
abbrev sp4 : Str := ⟨#[48, 52, 120]⟩
theorem ret_text2 {M : Model} {A : Around} {E : Value → Shared → Prop} {s : Shared} {X T : PySem.Str} {Q : Fin → Shared → Prop} (e : X = T) (hL : T.length ≤ sizeLine) (h : ∀ t k, Q (.done (.ret (.str T t))) { s with toks := k }) : wpAny M A (retStr X) Q E s := by
  subst e
  exact KXf.ret_text rfl hL h
def f4 : Builtin.Float.FormatSpec := { fill := 48, align := 61, width := some 4, type := some 120 }
theorem fmt4_meets {n : Nat} (h : n < 65536) (t u : Tok) : Meets («int.__format__» ⟨[.int (n : Int) t, .str sp4 u], []⟩) (fun _ R s => ∀ t' k, R (.ok (.ret (.str (sO (hexd n)) t'))) { s with toks := k }) := by
  apply KPc.meets_of
  intro prog w A s Q E hq
  unfold Builtin.«int.__format__»
  refine wpAny_bind (wpAny_of_eq (a := (_, _)) rfl ?_)
  refine wpAny_bind (wpAny_of_eq (a := _) rfl ?_)
  refine wpAny_ite (KPc.ite_no Bool.false_ne_true ?_)
  refine wpAny_bind (wpAny_typeNameOf (T := "str") (typeIs_str _ _ _) (by decide) fun _ => ?_)
  refine wpAny_bind (wpAny_of_eq (a := some _) rfl ?_)
  refine wpAny_ite (KPc.ite_no (by decide) ?_)
  refine wpAny_ite (KPc.ite_no (by decide) ?_)
  refine wpAny_bind (wpAny_typeNameOfCut_int ?_)
  have hp : parseFormatSpec sp4.cps.toList "int" 62 = .ok f4 := rfl
  have hty : f4.type.getD (if (sp4.cps.back? == some 0) = true then 0 else 100) = 120 := rfl
  have h1 : f4.precision = none := rfl
  have h2 : f4.noNeg0 = false := rfl
  have h3 : f4.alt = false := rfl
  have h4 : f4.width = some 4 := rfl
  have h5 : f4.grouping = none := rfl
  have h6 : f4.sign = none := rfl
  have h7 : f4.fill = 48 := rfl
  have h8 : f4.align = 61 := rfl
  obtain ⟨f, hf⟩ : ∃ f, f = f4 := ⟨_, rfl⟩
  rw [← hf] at hp hty h1 h2 h3 h4
  simp only [hp, hty]
  rw [if_pos (by decide)]
  show wpAny _ _ (if _ then _ else _) _ _ _
  rw [if_neg (by simp [h1])]
  show wpAny _ _ (if _ then _ else _) _ _ _
  rw [if_neg (by simp [h2])]
  show wpAny _ _ (if _ then _ else _) _ _ _
  rw [if_neg (by decide)]
  show wpAny _ _ (if _ then _ else _) _ _ _
  rw [if_neg (by decide)]
  show wpAny _ _ (if _ then _ else _) _ _ _
  rw [if_neg (by simp [h4])]
  refine ret_text2 (T := sO (hexd n)) ?_ ?_ hq
  case refine_1 =>
    obtain ⟨hl, ht⟩ := tod16 h
    simp only [h3, Bool.false_eq_true, if_false, Int.natAbs_natCast, decide_eq_false (by omega : ¬ (n : Int) < 0), show ((120 : Nat) == 88) = false by decide, show ((16 : Nat) == 10) = false by decide]
    generalize Nat.toDigits 16 n = ds at hl ht
    subst hf
    conv => lhs; whnf
    simp only [h4, h5, h6, h7, h8, List.length_nil, Bool.false_eq_true, if_false, beq_self_eq_true, Bool.and_self, if_true]
    have e4 : ((4 : Nat) : Int) - (((0 : Nat) : Int) + ((0 : Nat) : Int) + ((0 : Nat) : Int)) = 4 := by decide
    rw [e4]
    clear h1 h2 h3 h4 h5 h6 h7 h8 hty hp hq
    cases ds with
    | nil =>
      show _ = sO (hexd n)
      rw [← ht]
      rfl
    | cons c r =>
      have hm : ((c :: r).map Char.toNat).length = (c :: r).length := List.length_map ..
      show (⟨(([] ++ [] ++ [] ++ List.replicate (4 - ((List.replicate (4 - ((c :: r).map Char.toNat).length) 48 ++ (c :: r).map Char.toNat).length : Int)).toNat 48 ++ (List.replicate (4 - ((c :: r).map Char.toNat).length) 48 ++ (c :: r).map Char.toNat)) ++ [] ++ []).toArray⟩ : Str) = _
      rw [hm, ht]
      rfl
  case refine_2 => exact Nat.le_trans (show 4 ≤ 100 by decide) (by decide)
/-- {e:04x} of a word -/
def tF4 (te : TE) : TE := fun σ H Q => te σ H fun x H1 => ∃ n : Nat, x = .int (n : Int) ∧ n < 65536 ∧ Q (.str (sO (hexd n))) H1
theorem pe_fmt4 {e spec : Expr} {te : TE} {pos : Pos} (he : PE X e te) (hs : PE X spec (tC (.str (Str.ofString "04x")))) : PE X (.FormattedValue e (-1) (some spec) pos) (tF4 te) := by
  refine ⟨fun pins s σ H Q I h => ?_⟩
  refine wpAny_FormattedValue_spec (thn (he.run pins s σ H _ I h) fun v s1 ⟨x, H1, I1, r1, q⟩ => ?_)
  obtain ⟨n, rfl, hn, q⟩ := q
  obtain ⟨t, rfl⟩ := r1
  refine thn (hs.run pins s1 σ H1 (fun x H2 => x = .str (Str.ofString "04x") ∧ Q (.str (sO (hexd n))) H2) I1 ⟨rfl, q⟩) fun u s2 ⟨y, H2, I2, r2, ey, q2⟩ => ?_
  subst ey
  obtain ⟨t2, rfl⟩ := r2
  refine ⟨_, _, rfl, KXf.field_int (spec' := sp4) (by decide +kernel) rfl (by decide) (fun u => fmt4_meets hn _ u) fun t' k => ⟨.str _, H2, I2.tok _, ⟨_, rfl⟩, q2⟩⟩
end
/-! digits -/
abbrev HXD : List Nat := (Str.ofString "0123456789abcdef").cps.toList
/-- a digit's value -/
def dv (c : Nat) : Nat := if c ≤ 57 then c - 48 else c - 87
theorem HXD_eq : HXD = (List.range 16).map hx := by decide +kernel
theorem hx_mem {k : Nat} (h : k < 16) : hx k ∈ HXD := by
  rw [HXD_eq]
  exact List.mem_map.mpr ⟨k, List.mem_range.mpr h, rfl⟩
theorem hxd_of {c : Nat} (h : c ∈ HXD) : ∃ k, k < 16 ∧ c = hx k := by
  rw [HXD_eq] at h
  obtain ⟨k, h1, h2⟩ := List.mem_map.mp h
  exact ⟨k, List.mem_range.mp h1, h2.symm⟩
theorem hx_dv : ∀ k : _root_.Fin 16, dv (hx k.val) = k.val := by decide +kernel
theorem hx_find : ∀ k : _root_.Fin 16, Txt.find (Str.ofString "0123456789abcdef") (sO [hx k.val]) = (k.val : Int) := by decide +kernel
theorem hx_occ : ∀ k : _root_.Fin 16, occurrences (Str.ofString "0123456789abcdef") (sO [hx k.val]) 0 (Str.ofString "0123456789abcdef").length 1 = [k.val] := by decide +kernel
theorem hx_at : ∀ k : _root_.Fin 16, (Str.ofString "0123456789abcdef").cps.toList[k.val]? = some (hx k.val) := by decide +kernel
theorem find_dv {c : Nat} (h : c ∈ HXD) : Txt.find (Str.ofString "0123456789abcdef") (sO [c]) = (dv c : Int) := by
  obtain ⟨k, hk, rfl⟩ := hxd_of h
  rw [hx_find ⟨k, hk⟩, hx_dv ⟨k, hk⟩]
theorem occ_dv {c : Nat} (h : c ∈ HXD) : occurrences (Str.ofString "0123456789abcdef") (sO [c]) 0 (Str.ofString "0123456789abcdef").length 1 = [dv c] := by
  obtain ⟨k, hk, rfl⟩ := hxd_of h
  rw [hx_occ ⟨k, hk⟩, hx_dv ⟨k, hk⟩]
/-- the first place that is no digit | the length, if it is no multiple of four -/
def fbad (l : List Nat) : Option Nat := match l.findIdx? (fun c => !decide (c ∈ HXD)) with
  | some i => some i
  | none => if l.length % 4 = 0 then none else some l.length
theorem fbad_at {l : List Nat} {i : Nat} (hi : i < l.length) (h : l.getD i 0 ∉ HXD) (hp : ∀ j, j < i → l.getD j 0 ∈ HXD) : fbad l = some i := by
  have e : l.findIdx? (fun c => !decide (c ∈ HXD)) = some i := by
    rw [List.findIdx?_eq_some_iff_getElem]
    refine ⟨hi, ?_, fun j hj => ?_⟩
    · rw [List.getD_eq_getElem?_getD, List.getElem?_eq_getElem hi] at h
      have h2 : l[i] ∉ HXD := h
      rw [decide_eq_false h2]
      rfl
    · have := hp j hj
      rw [List.getD_eq_getElem?_getD, List.getElem?_eq_getElem (by omega)] at this
      have h2 : l[j] ∈ HXD := this
      rw [decide_eq_true h2]
      decide
  unfold fbad
  rw [e]
theorem fbad_all {l : List Nat} (h : ∀ j, j < l.length → l.getD j 0 ∈ HXD) : fbad l = if l.length % 4 = 0 then none else some l.length := by
  have e : l.findIdx? (fun c => !decide (c ∈ HXD)) = none := by
    rw [List.findIdx?_eq_none_iff]
    intro c hc
    obtain ⟨j, hj, rfl⟩ := List.mem_iff_getElem.mp hc
    have := h j hj
    rw [List.getD_eq_getElem?_getD, List.getElem?_eq_getElem hj] at this
    have h2 : l[j] ∈ HXD := this
    rw [decide_eq_true h2]
    rfl
  unfold fbad
  rw [e]
theorem fbad_none {l : List Nat} (h : fbad l = none) : (∀ c ∈ l, c ∈ HXD) ∧ l.length % 4 = 0 := by
  unfold fbad at h
  cases e : l.findIdx? (fun c => !decide (c ∈ HXD)) with
  | some i => rw [e] at h; cases h
  | none =>
    rw [e] at h
    have h2 : (if l.length % 4 = 0 then none else some l.length) = none := h
    refine ⟨fun c hc => ?_, ?_⟩
    · have := List.findIdx?_eq_none_iff.mp e c hc
      apply Decidable.byContradiction
      intro z
      rw [decide_eq_false z] at this
      cases this
    · apply Decidable.byContradiction
      intro z
      rw [if_neg z] at h2
      cases h2
def val4 (l : List Nat) : Nat := l.foldl (fun a c => a * 16 + dv c) 0
theorem val4_app (l : List Nat) (c : Nat) : val4 (l ++ [c]) = val4 l * 16 + dv c := by
  unfold val4
  rw [List.foldl_append]
  rfl
/-- the words of a text of digits -/
def rdw (l : List Nat) : List Nat := (List.range (l.length / 4)).map fun k => val4 ((l.drop (4 * k)).take 4)
theorem val4_hexd {w : Nat} (h : w ≤ 65535) : val4 (hexd w) = w := by
  have e : ∀ k, k < 16 → dv (hx k) = k := fun k hk => hx_dv ⟨k, hk⟩
  show (((0 * 16 + dv (hx (w / 4096))) * 16 + dv (hx (w / 256 % 16))) * 16 + dv (hx (w / 16 % 16))) * 16 + dv (hx (w % 16)) = w
  rw [e _ (by omega), e _ (by omega), e _ (by omega), e _ (by omega)]
  omega
theorem flat_hexd (ws : List Nat) : (ws.flatMap hexd).length = 4 * ws.length := by
  induction ws with
  | nil => rfl
  | cons x r ih =>
    rw [List.flatMap_cons, List.length_append, ih, List.length_cons]
    show 4 + _ = _
    omega
theorem rdw_flat {ws : List Nat} (h : ∀ w ∈ ws, w ≤ 65535) : rdw (ws.flatMap hexd) = ws := by
  unfold rdw
  rw [flat_hexd, show 4 * ws.length / 4 = ws.length by omega]
  apply List.ext_getElem?
  intro i
  by_cases hi : i < ws.length
  · rw [List.getElem?_map, List.getElem?_range hi]
    have e : ∀ (ws : List Nat) (i : Nat), i < ws.length → ((ws.flatMap hexd).drop (4 * i)).take 4 = hexd (ws.getD i 0) := fun ws => by
      induction ws with
      | nil => intro i hi; exact absurd hi (Nat.not_lt_zero _)
      | cons x r ih =>
        intro i hi
        cases i with
        | zero => rfl
        | succ i =>
          rw [List.flatMap_cons, show 4 * (i + 1) = 4 * i + 4 by omega]
          have := ih i (by simpa using hi)
          show ((hexd x ++ _).drop (4 * i + 4)).take 4 = _
          rw [show 4 * i + 4 = (hexd x).length + 4 * i from by show _ = 4 + 4 * i; omega, List.drop_length_add_append]
          exact this
    show some (val4 _) = _
    rw [e ws i hi, List.getD_eq_getElem?_getD, List.getElem?_eq_getElem hi]
    exact congrArg some (val4_hexd (h _ (List.getElem_mem hi)))
  · rw [List.getElem?_eq_none (by simp; omega), List.getElem?_eq_none (by omega)]
theorem fbad_flat {ws : List Nat} (hw : ∀ w ∈ ws, w ≤ 65535) : fbad (ws.flatMap hexd) = none := by
  have hm : ∀ c ∈ ws.flatMap hexd, c ∈ HXD := fun c hc => by
    obtain ⟨w, h1, h⟩ := List.mem_flatMap.mp hc
    have := hw w h1
    unfold hexd at h
    rcases List.mem_cons.mp h with z | h
    · rw [z]; exact hx_mem (by omega)
    rcases List.mem_cons.mp h with z | h
    · rw [z]; exact hx_mem (by omega)
    rcases List.mem_cons.mp h with z | h
    · rw [z]; exact hx_mem (by omega)
    rw [List.mem_singleton.mp h]
    exact hx_mem (by omega)
  rw [fbad_all fun j hj => by rw [List.getD_eq_getElem?_getD, List.getElem?_eq_getElem hj]; exact hm _ (List.getElem_mem hj), flat_hexd, if_pos (by omega)]
theorem cut_mid (l : List Nat) (a b : Nat) (h : a ≤ b) : cutS (sO l) (some (a : Int)) (some (b : Int)) = sO ((l.drop a).take (b - a)) := by
  show (⟨((l.drop (HT.sIx l.length 0 (some (a : Int)))).take (HT.sIx l.length l.length (some (b : Int)) - HT.sIx l.length 0 (some (a : Int)))).toArray⟩ : Str) = _
  rw [HT.sIx_nat, HT.sIx_nat]
  have e : (l.drop (min a l.length)).take (min b l.length - min a l.length) = (l.drop a).take (b - a) := by
    by_cases h1 : a ≤ l.length
    · rw [Nat.min_eq_left h1]
      by_cases h2 : b ≤ l.length
      · rw [Nat.min_eq_left h2]
      · rw [Nat.min_eq_right (by omega), List.take_of_length_le (by rw [List.length_drop]; omega), List.take_of_length_le (by rw [List.length_drop]; omega)]
    · have h3 : min a l.length = l.length := by omega
      rw [h3, List.drop_length, List.drop_of_length_le (by omega)]
      simp
  rw [e]
  rfl
end RK

namespace RK
open PySem PySem.Spec PyProof.Rows L2 PySem.Builtin.Str
/-! ### enumerate(text) -/
def Itse (x : Str) : It := ⟨fun i _ => i < x.cps.size, fun i H v H' => ∃ T c, v = .ref T ∧ H T = none ∧ H' = upd H T (.tup [.int (i : Nat), .str ⟨#[c]⟩]) ∧ x.cps[i]? = some c, fun i _ => x.cps.size ≤ i⟩
theorem draws_str {prog : Program} {w : World} {A : Around} (hh : A.handled = none) (it : Addr) (x : Str) (t : Tok) :
    Draws prog w A it [it] x.cps.size (fun i v => ∃ c u, x.cps[i]? = some c ∧ v = .str ⟨#[c]⟩ u) (fun i h => h.IsStrIter it (strIterType x) x t i) := by
  unfold strIterType
  cases x.cps.all (· < 128)
  · exact Draws.strWide hh it x t
  · exact Draws.strAscii hh it x t
theorem turn_enumS {P : Program} {w : World} {K : PySem.W.Frag} {elts : List Expr} {kk : Nat} {tpos : Pos} (x : Str) (t : Tok) (e it : Addr) :
    Turn P w K (.Tuple elts kk tpos) (Itse x) [e, it] e (fun i h => (∃ old, IsEnum h e it ((i : Nat) : Int) old) ∧ h.IsStrIter it (strIterType x) x t i ∧ e ≠ it ∧ i ≤ x.cps.size) where
  mem := by simp
  obj := fun i h st b hb => by
    obtain ⟨⟨old, he⟩, ⟨o, ho, hc, hd⟩, _⟩ := st
    have e' : b = e ∨ b = it := by simpa using hb
    rcases e' with z | z
    · rw [z]; exact ⟨_, he, fun v q => nomatch q⟩
    · rw [z]; exact ⟨o, ho, fun v q => by rw [hd] at q; cases q⟩
  keep := fun i h h' st k => let ⟨⟨old, he⟩, ⟨o, ho, r⟩, hne, hle⟩ := st; ⟨⟨old, k e (by simp) _ he⟩, ⟨o, k it (by simp) o ho, r⟩, hne, hle⟩
  item := by
    intro X hP hw hK hc i pins s σ H E I hf st hg
    subst hP hw hK
    obtain ⟨⟨old, he⟩, hit, hne, hle⟩ := st
    have hel : e < s.heap.objs.size := Heap.lt_size he
    have hil : it < s.heap.objs.size := by obtain ⟨_, q, _⟩ := hit; exact Heap.lt_size q
    have D := draws_str (A := X.A.in1) (prog := X.prog) (w := X.w) (show X.A.in1.handled = none from I.ok.hd hc) it x t
    refine wpAny_pyNext_enum_itemD D he hit hg hne (by simpa using hne) fun u h' tk hu ho hit' hT hsz hk => ?_
    obtain ⟨c, tc, hcx, rfl⟩ := hu
    refine ⟨_, rfl, wpAny_letOwnedTupleGo_enum (s := { s with heap := h', toks := tk + 1 }) ho fun h'' he' sb => ?_⟩
    have hT2 : h''.get? s.heap.objs.size = some { cls := .type "tuple", data := .seq #[.int i tk, .str ⟨#[c]⟩ tc] } := (sb.2 _ (Nat.ne_of_gt hel)).trans hT
    have new : ObjOk X.prog X.w (upd H s.heap.objs.size (.tup [.int (i : Nat), .str ⟨#[c]⟩])) h'' s.heap.objs.size (.tup [.int (i : Nat), .str ⟨#[c]⟩]) :=
      ⟨by show 2 ≤ sizeLine; decide, [.int i tk, .str ⟨#[c]⟩ tc], .cons ⟨_, rfl⟩ (.cons ⟨_, rfl⟩ .nil), ⟨_, hT2, rfl, _, rfl⟩⟩
    have I1 : Inv X pins σ (upd H s.heap.objs.size (.tup [.int (i : Nat), .str ⟨#[c]⟩])) { s with heap := h'', toks := tk + 1 } :=
      I.turnedNew (ch := [e, it]) (fun b ob hb q => (sb.2 b (fun z => hb (by simp [z]))).trans (hk b ob (fun z => hb (by simp [z])) (fun z => hb (by simp [z])) q)) hf (Nat.le_refl _) new
    refine ⟨.ref s.heap.objs.size, _, I1, rfl, ⟨_, c, rfl, I.hok.fresh (Nat.le_refl _), rfl, hcx⟩, ⟨⟨.str ⟨#[c]⟩ tc, ?_⟩, ?_, hne, hg⟩, fun b hb => ?_⟩
    · have e1 : ((i + 1 : Nat) : Int) = (i : Int) + 1 := by omega
      rw [e1]; exact he'
    · obtain ⟨o, ho2, r⟩ := hit'
      exact ⟨o, (sb.2 it (Ne.symm hne)).trans ho2, r⟩
    · have hb' : b < s.heap.objs.size := by
        have e' : b = e ∨ b = it := by simpa using hb
        rcases e' with z | z
        · rw [z]; exact hel
        · rw [z]; exact hil
      rw [upd_ne (Nat.ne_of_lt hb')]
      exact (hf b hb).1
  done := by
    intro X hP hw hK hc i pins s σ H E I hf st hg
    subst hP hw hK
    obtain ⟨⟨old, he⟩, hit, hne, hle⟩ := st
    obtain ⟨f0, f1, f2, f3, f4, f5⟩ := hf it (by simp)
    have ei : i = x.cps.size := Nat.le_antisymm hle hg
    have D := draws_str (A := X.A.in1) (prog := X.prog) (w := X.w) (show X.A.in1.handled = none from I.ok.hd hc) it x t
    subst ei
    exact wpAny_pyNext_enum_endD D he hit fun h' eb => ⟨rfl, I.turned (t' := s.toks) (fun b o hb q => eb b o hb q) f0 f1 f3 f4 f5⟩
  self := fun A i s Q E st h => let ⟨⟨_, he⟩, _⟩ := st; wpAny_pyIter_enum he h
/-- the text at each turn, each sign in a new pair -/
def iEnS (ta : TA) : TI := fun σ H R => ta σ H fun vs H1 => ∃ x, vs = [.str x] ∧ R (Itse x) H1
theorem pi_enumS {X : Cx} {e : Expr} {ta : TA} {p pos tpos : Pos} {elts : List Expr} {kk : Nat} (hg : Gl X "enumerate") (hm : X.mg "enumerate" = none) (ha : PA X [e] ta) (hs : starEach [e] X.env = [(false, eval e X.env)] := by rfl) :
    PI X (.Tuple elts kk tpos) (.Call (.Name "enumerate" p) [e] [] pos) (iEnS ta) := by
  refine ⟨fun pins s σ H R I h => ?_⟩
  refine Call_ (ld_blt I hg hm boot_enumerate (PyProof.Rows.callWith_type1 (thn (ha.run pos pins s σ H _ I h) fun us s1 ⟨vs, H1, I1, r1, q1⟩ => ?_) hs rfl))
  obtain ⟨x, ex, q⟩ := q1
  subst ex
  cases r1 with
  | cons r rr =>
    cases rr
    obtain ⟨t, rfl⟩ := r
    refine call_enumerate_str fun h' he hit hsz hk => wpAny_pyIter_enum he ?_
    have I2 : Inv X pins σ H1 { s1 with heap := h' } := I1.kept (t' := s1.toks) hk
    refine ⟨s1.heap.objs.size + 1, [s1.heap.objs.size + 1, s1.heap.objs.size], _, _, H1, rfl, I2, turn_enumS x t (s1.heap.objs.size + 1) s1.heap.objs.size, ⟨⟨.none, he⟩, hit, Nat.succ_ne_self _, Nat.zero_le _⟩, fun b hb => ?_, q⟩
    have e' : b = s1.heap.objs.size + 1 ∨ b = s1.heap.objs.size := by simpa using hb
    have hge : s1.heap.objs.size ≤ b := by
      rcases e' with z | z
      · rw [z]; omega
      · rw [z]; omega
    exact I1.fpOk hge (I1.hok.fresh hge)
theorem walk_enumS {x : Str} : Walk (Itse x) x.cps.size (fun _ => True) (fun i H v H' => ∃ T c, v = .ref T ∧ H T = none ∧ H' = upd H T (.tup [.int (i : Nat), .str ⟨#[c]⟩]) ∧ x.cps[i]? = some c) :=
  ⟨fun i H hi _ => hi, fun H _ => Nat.le_refl _, fun i H v H' _ _ y => y⟩
theorem rg4 {n : Nat} (h : n ≤ 10000) (hm : n % 4 = 0) : RgC 0 (n : Int) 4 (n / 4) := by
  have e : Builtin.Range.rangeSize 0 (n : Int) 4 = ((n / 4 : Nat) : Int) := by
    rw [rangeSize_pos (by decide) (by omega)]
    omega
  have fl : ∀ i : Int, -100000 ≤ i → i ≤ 100000 → Builtin.Range.rangeFitsLong i = true := fun i h1 h2 => by
    unfold Builtin.Range.rangeFitsLong
    rw [decide_eq_true (show -(2 ^ 63) ≤ i by omega), decide_eq_true (show i < 2 ^ 63 by omega)]
    rfl
  refine ⟨by decide, by decide, ?_, e⟩
  unfold Builtin.Range.small
  rw [e, fl 0 (by decide) (by decide), fl (n : Int) (by omega) (by omega), fl 4 (by decide) (by decide), fl _ (by omega) (by omega)]
  rw [if_pos (by decide), fl _ (by omega) (by omega), Bool.or_true]
  rfl
end RK

namespace RK
open PySem PySem.Spec PyProof.Rows L2 StX
/-! ### defs with *rest that may raise where nothing is handled -/
theorem cxUpN {P : Program} {w : World} : CXUp (L2N.CX P w) := by
  rintro outer s H s2 H2 E e s' un kp ho ⟨a, B, H', cls, d, ea, fl, hok, ub, na, os, ag, he⟩
  refine ⟨a, B, H', cls, d, ea, fl, hok, ⟨fun b o q n hb => ub.keep b o (kp b o q) (un.free b o q n (by simp)) hb, fun b o q hb => ub.slot b o (kp b o q) hb, fun b o q n => ub.free b o (kp b o q) (un.free b o q n (by simp)),
    fun b o q hb => ub.there b o (kp b o q) hb, fun b xs q => ub.tups b xs (un.tups b xs q), fun b o xs q => ub.frzs b o xs (un.frzs b o xs q), fun b ps q => ?_⟩, na, os.trans ho, ag, he⟩
  obtain ⟨m1, e1⟩ := un.tbls b ps q
  obtain ⟨m2, e2⟩ := ub.tbls b _ e1
  exact ⟨m1 ++ m2, by rw [e2, Array.append_assoc]⟩
section
variable {X : Cx} {CX : CXT} {k : Nat} {f : Addr} {sp : Sp} {x : Str} {e : Expr} {es : List Expr} {t : TA} {p pos : Pos} {E : L2.St → XK}
theorem run_fnRS {pins : List (Addr × Obj)} {σ : L2.St} {H : Hp} {s : Shared} {Q : VK} {us : List Value} {vs : List V} (F : FnR X.prog X.w X.K X.mg X.base CX k f sp) (hr : Room k X.A) (hx : PassesAt CX X σ (E σ))
    (I : Inv X pins σ H s) (r : Vals vs us) (h : sp vs H Q (E σ)) : wpAny (model X.prog X.w) X.A (call (.ref f) us) (EP X pins σ Q) X.xe s := by
  refine wpAny_call (codeAny_mono (F X.A X.stack s H us vs Q (E σ) hr I.env0 r h) fun r s' hq => ?_)
  cases r with
  | error e => exact hx pins H s e s' I hq
  | ok fl =>
    cases fl with
    | ret u => exact I.after hq
    | next => exact False.elim hq
    | brk => exact False.elim hq
    | cont => exact False.elim hq
theorem pe_callRS (F : FnR X.prog X.w X.K X.mg X.base CX k f sp) (hr : Room k X.A) (hg : Gl X x) (hm : X.mg x = some (.ref f)) (hk : PySem.W.keepIn X.K (.ref f) = true) (hx : ∀ σ, PassesAt CX X σ (E σ))
    (ha : PA X (e :: es) t) (hdb : (x == ("__debug__" : Str)) = false := by decide) (he : starEach (e :: es) X.env = (false, eval e X.env) :: starEach es X.env := by rfl) (hpl : (backTo pos (starEach es X.env)).any (·.1) = false := by rfl) :
    PE X (.Call (.Name x p) (e :: es) [] pos) (tCallS sp E t) := by
  refine ⟨fun pins s σ H Q I h => ?_⟩
  refine wpAny_Call_Name_kw (ld_glob I hg hm ?_ hdb)
  refine PySem.W.callWith_K (h₀ := X.base) I.ok.mod.kin hk (thn (ha.run pos pins s σ H _ I h) fun us s1 ⟨vs, H1, I1, r, q⟩ => ⟨I1.kIn, ?_⟩) he hpl
  exact run_fnRS F hr (hx σ) I1 r q
theorem passAtN {σ : L2.St} : PassesAt (L2N.CX X.prog X.w) X σ (fun _ _ _ => False) := fun _ _ _ _ _ _ h => let ⟨_, _, _, _, _, _, _, _, _, _, _, _, z⟩ := h; z.elim
end
/-- a def with *rest: its promise speaks of the bound names, the call's of all that is handed on -/
def spStar (n : Nat) (sp : Sp) : Sp := fun vs H Q E => ∃ ws rest, vs = ws ++ rest ∧ ws.length = n ∧ rest.length ≤ sizeLine ∧ ∀ p, H p = none → sp (ws ++ [V.ref p]) (upd H p (.tup rest)) Q E
theorem Fun.starN {P : Program} {w : World} {K : PySem.W.Frag} {mg : Str → Option Value} {base : Heap} {x qual pv : Str} {st : Stmt} {f : Addr} {fd : FuncData} {N ps : List Str} {k : Nat} {sp : Sp} (F : Fun K x qual st f fd) (S : FnScope N (ps ++ [pv]) (defScope st))
    (hb : ∀ us rest : List Value, us.length = ps.length → bindArgs fd ⟨us ++ rest, []⟩ = (newTuple rest >>= fun t => pure (ps.zip us ++ [(pv, t)])))
    (body : ∀ (cdv : Value) (A : Around) (outer : List Env) (s : Shared) (H : Hp) (vs : List V) (Q : VK) (E : XK), Room k (A.deeper (envOfC qual (defScope st) s.heap.objs.size f cdv)) → sp vs H Q E →
      ∃ t, PSs (cxOf (L2N.CX P w) P w K mg base N qual (defScope st) f cdv A outer s H E) (defBody st) t ∧ t { nx := fun _ H' => Q .non H', rt := Q } (start N vs) H) : FnR P w K mg base (L2N.CX P w) (k + 1) f (spStar ps.length sp) := by
  obtain ⟨oc, od, kV, doc, pm, an, cdv, ct, osl, rfl, lk, hcd⟩ := F.ex
  exact fn_star lk hcd S cxUpN hb fun A outer s H vs Q E hr z => body cdv A outer s H vs Q E hr z
section
variable {X : Cx}
/-- t.index(x), x a text, ahead of it texts and None -/
theorem mt_tupIdx : MtR X "tuple.index" (fun x xs H Q => ∃ p, ∃ ys : List V, ∃ z j, x = .ref p ∧ xs = [.str z] ∧ SqT X.K H p ys ∧ (∀ v ∈ ys, v = .non ∨ ∃ y, v = .str y) ∧ ys[j]? = some (.str z) ∧ (∀ m, m < j → ys[m]? ≠ some (.str z)) ∧ Q (.int (j : Nat)) H) := by
  intro pins s σ H x xs v us Q I rx rs h
  obtain ⟨p, ys, z, j, rfl, rfl, hq, hfl, hy, hno, q⟩ := h
  cases rx
  obtain ⟨u, rfl, t, rfl⟩ := vals1 rs
  obtain ⟨its, r, pl, hz⟩ := I.tuple hq
  obtain ⟨⟨cls, dd, dt, sl⟩, ho, hc, n, hd⟩ := pl
  simp only at hc hd
  subst hc
  subst hd
  have hl : its.toArray.size = ys.length := by rw [List.size_toArray, ← r.length]
  have hj : j < its.toArray.size := by rw [hl]; exact (List.getElem?_eq_some_iff.mp hy).1
  have at' : ∀ (m : Nat) (hm : m < its.toArray.size), (∃ y t', ys[m]? = some (.str y) ∧ its.toArray[m] = Value.str y t') ∨ (ys[m]? = some .non ∧ its.toArray[m] = Value.none) := fun m hm => by
    have hm' : m < ys.length := by rw [← hl]; exact hm
    have hg : ys[m]? = some ys[m] := List.getElem?_eq_getElem hm'
    obtain ⟨w, hw, hr⟩ := r.get hg
    have e := (List.getElem?_eq_some_iff.mp hw).2
    rcases hfl ys[m] (List.getElem_mem hm') with e2 | ⟨y, e2⟩
    · rw [e2] at hr hg
      refine .inr ⟨hg, ?_⟩
      have : w = Value.none := hr
      rw [← this, ← e]
      simp
    · rw [e2] at hr hg
      obtain ⟨t', hw'⟩ := hr
      refine .inl ⟨y, t', hg, ?_⟩
      rw [← hw', ← e]
      simp
  refine call_meets PySem.F.slot_tuple_index ⟨_, ho, rfl⟩ PySem.F.entry_tuple_index (PySem.F.args_tuple_index_2 _ _) (TI.tuple_indexAt p its.toArray n dd sl (.str z t) (eqU (.str z)) j hj ?_ ?_)
    ⟨ho, fun w hw => mem_eqAt (x := .str z) ⟨t, rfl⟩ rfl r ?_ w (by simpa using hw), ⟨.int (j : Nat), H, I.tok _, ⟨_, rfl⟩, q⟩⟩
  · rcases at' j hj with ⟨y, t', h1, h2⟩ | ⟨h1, h2⟩
    · rw [hy] at h1
      cases h1
      rw [h2]
      show (z == z) = true
      exact beq_self_eq_true z
    · rw [hy] at h1
      cases h1
  · intro m hm hmj
    rcases at' m hm with ⟨y, t', h1, h2⟩ | ⟨h1, h2⟩
    · rw [h2]
      show (y == z) = false
      exact beq_eq_false_iff_ne.mpr fun e => hno m hmj (by rw [h1, e])
    · rw [h2]
      rfl
  · rw [List.all_eq_true]
    intro v hv
    rcases hfl v hv with e | ⟨y, e⟩
    · rw [e]; rfl
    · rw [e]; rfl
end
/-- a tuple behind a tuple, whatever the two are -/
theorem catA_of {K : PySem.W.Frag} {H : Hp} {a b : Addr} {xs ys : List V} {Q : VK} (ha : SqT K H a xs) (hb : SqT K H b ys) (hl : xs.length + ys.length ≤ 100000) (q : ∀ p H', Same H H' → SqT K H' p (xs ++ ys) → Q (.ref p) H') : rCatA K (.ref a) (.ref b) H Q := by
  refine ⟨a, b, xs, ys, rfl, rfl, ha, hb, Nat.le_trans hl (lenOk (xs := List.replicate 100000 ()) (n := 100000) (List.length_replicate ..) (Nat.le_refl _) |> fun h => by rw [List.length_replicate] at h; exact h), fun e => q b H (Same.refl _) (by rw [e]; exact hb), fun _ e => q a H (Same.refl _) (by rw [e, List.append_nil]; exact ha), fun _ _ p hp => q p _ (same_new hp) (SqT.of upd_same)⟩
end RK

namespace RK
open PySem PySem.Spec PyProof.Rows L2
section
variable {J : It} {n : Nat} {G : Hp → Prop} {Y : Nat → Hp → V → Hp → Prop}
/-- a comprehension with one test, whose elements have a value each; the target is the name at k -/
theorem lc_filt (w : Walk J n G Y) {tt : TT} {te : TE} {σ : L2.St} {H1 : Hp} {D : Addr} {Qd : Hp → Prop} {k : Nat} (I : Nat → V → Prop) (c : Nat → Bool) (f : Nat → V) (hD : H1 D = none) (hG : ∀ H, Same H1 H → G H) (hn : n ≤ 1000000)
    (hY : ∀ i H x H', i < n → Y i H x H' → H' = H ∧ I i x)
    (ht : ∀ i x H, i < n → Same H1 H → I i x → ∀ Q : Bool → Hp → Prop, Q (c i) H → tt ((σ.set k none).set k (some x)) H Q)
    (hs : ∀ i x H, i < n → c i = true → Same H1 H → I i x → ∀ Q : VK, (∀ H3, Same H H3 → Q (f i) H3) → te ((σ.set k none).set k (some x)) H Q) (hd : ∀ H, Same H1 H → H D = some (.lst (((List.range n).filter c).map f)) → Qd H) :
    ∃ W : Nat → Nat → Hp → Prop, (∃ m, W 0 m (upd H1 D (.lst []))) ∧ ∀ i m H, W i m H →
      (J.stop i H ∧ Qd H) ∨ (J.go i H ∧ ∃ Nx : Hp → Prop, (∀ H', Nx H' → ∃ m', m' < m ∧ W (i + 1) m' H') ∧ ∀ x H', J.yld i H x H' → gName k x (wipe σ [k]) H' fun σ2 H2 => wipe σ2 [k] = wipe σ [k] ∧ tt σ2 H2 fun b H3 =>
        if b = true then te σ2 H3 fun y H4 => ∃ acc, H4 D = some (.lst acc) ∧ acc.length < sizeLine ∧ Nx (upd H4 D (.lst (acc ++ [y]))) else Nx H3) := by
  refine lc_it w (fun i H => Same H1 H ∧ H D = some (.lst (((List.range i).filter c).map f))) ⟨same_new hD, upd_same⟩ (fun i H _ h => hG H h.1) (fun i x H H' hi hp y => ?_) fun H h => hd H h.1 h.2
  obtain ⟨sm, e⟩ := hp
  obtain ⟨rfl, hx⟩ := hY i H x H' hi y
  refine ⟨?_, ?_⟩
  · show ((σ.set k none).set k (some x)).set k none = σ.set k none
    rw [List.set_set, List.set_set]
  show tt ((σ.set k none).set k (some x)) H' _
  refine ht i x H' hi sm hx _ ?_
  by_cases hc : c i = true
  · rw [if_pos hc]
    refine hs i x H' hi hc sm hx _ fun H3 s3 => ?_
    have e3 := s3 _ _ e
    refine ⟨_, e3, ?_, same_mut (sm.trans s3) hD, ?_⟩
    · rw [List.length_map]
      refine Nat.lt_of_le_of_lt (List.length_filter_le _ _) ?_
      rw [List.length_range]
      exact Nat.lt_of_lt_of_le (Nat.lt_of_lt_of_le hi hn) (by decide)
    · rw [upd_same, List.range_succ, List.filter_append, List.map_append]
      rw [show [i].filter c = [i] by simp only [List.filter, hc]]
      rfl
  · rw [if_neg hc]
    refine ⟨sm, ?_⟩
    rw [e, List.range_succ, List.filter_append, List.map_append]
    rw [show [i].filter c = [] by simp only [List.filter, hc]]
    rw [List.map_nil, List.append_nil]
end
end RK

namespace RK
open PySem PySem.Spec PyProof.Rows L2
/-! ### tuples where the rules know lists alone: xs.extend(t), sum(t), enumerate(t) -/
theorem meets_extendT (l b : Addr) (items items2 : Array Value) (n n2 : Nat) (dd : Option Addr) (sl : Array (Option Value)) (hz : items.size + items2.size ≤ sizeLine) :
    Meets (Builtin.«list.extend» ⟨[Value.ref l, Value.ref b], []⟩) fun x R s => s.heap.get? l = some { cls := Value.type "list", data := Data.seq items n } ∧
      s.heap.get? b = some { cls := Value.type "tuple", dict := dd, data := Data.seq items2 n2, slots := sl } ∧
      R (Except.ok (Flow.ret Value.none)) { s with heap := s.heap.update l (Obj.mapSeq fun x => x ++ items2) } := by
  refine Meets.of_wp fun prog w A R s h => ?_
  obtain ⟨hl, hb, h⟩ := h
  show wpAny _ _ (Builtin.List.listExtendWith (.ref l) (.ref b) .none) _ _ _
  unfold Builtin.List.listExtendWith
  refine wpAny_bind (wpAny_typeOf_ref hb ?_)
  refine wpAny_ite_true (by simp) ?_
  refine wpAny_bind ?_
  unfold Builtin.List.listItems
  refine wpAny_bind (wpAny_seqItems hb rfl (wpAny_pure ?_))
  refine wpAny_bind (wpAny_bind (wpAny_seqItems hl rfl (wpAny_pure ?_)))
  have hbig : Builtin.List.listTooLong (items.size + items2.size) = false := notLongL hz
  refine wpAny_ite_false (by rw [hbig, Bool.and_false]; rfl) ?_
  refine wpAny_bind ?_
  show wpAny _ _ (updateSeq l (fun x => x ++ items2)) _ _ _
  refine wpAny_updateSeq hl rfl (wpAny_pure ⟨_, rfl, h⟩) (by omega) (by rw [Array.size_append]; omega)
/-! enumerate over a tuple -/
theorem meets_enumerate_newT (l : Addr) (items : Array Value) (n : Nat) (dct : Option Addr) (sl : Array (Option Value)) :
    Meets (Builtin.«enumerate.__new__» ⟨[Value.type "enumerate", Value.ref l], []⟩) fun x R s => s.heap.get? l = some { cls := Value.type "tuple", dict := dct, data := Data.seq items n, slots := sl } ∧
      R (Except.ok (Flow.ret (Value.ref (s.heap.push { cls := Value.type "tuple_iterator", data := Data.fields #[Value.ref l, Value.int 0 0] }).objs.size)))
        { s with heap := (s.heap.push { cls := Value.type "tuple_iterator", data := Data.fields #[Value.ref l, Value.int 0 0] }).push { cls := Value.type "enumerate", data := Data.fields #[Value.none, Value.bool false, Value.ref s.heap.objs.size, rawInt 0, Value.none, Value.none] } } := by
  refine Meets.of_wp fun prog w A R s h => ?_
  obtain ⟨hl, h⟩ := h
  have hsub := sub_enumerate
  have hL : s.heap.IsTuple l items := ⟨_, hl, rfl, n, rfl⟩
  unfold Builtin.«enumerate.__new__»
  refine wpAny_bind ?_
  unfold Builtin.SmallTypes.newClass
  refine wpAny_bind (wpAny_pure (wpAny_ite_false rfl (wpAny_bind (wpAny_of_eq hsub (wpAny_ite_false rfl (wpAny_pure ?_))))))
  refine wpAny_ite_true rfl (wpAny_bind ?_)
  unfold Builtin.SmallTypes.calledThroughType
  refine wpAny_bind (wpAny_stack_any fun st => wpAny_pure ?_)
  have fin : wpAny (model prog w) A.in1 (pyIter (Value.ref l) >>= fun it => Builtin.SmallTypes.newRecord (Value.type "enumerate") (Builtin.SmallTypes.ownedTupleFields ++ [it, rawInt 0, Value.none, Value.none]) >>= fun v => ret v) (fun fin s' => ∃ v, fin = Fin.done (Flow.ret v) ∧ R (Except.ok (Flow.ret v)) s') (fun e s' => R (Except.error e) s') s := by
    refine wpAny_bind (wpAny_pyIter_tuple hL ?_)
    refine wpAny_bind ?_
    unfold Builtin.SmallTypes.newRecord
    show wpAny _ _ (newObj (Value.type "enumerate") (Data.fields #[Value.none, Value.bool false, Value.ref s.heap.objs.size, rawInt 0, Value.none, Value.none])) _ _ _
    exact wpAny_newObj_type (wpAny_pure ⟨_, rfl, h⟩) (by show 6 ≤ sizeLine + 2; decide)
  split
  · rename_i c tail kw snd tl heq
    generalize (c == Value.type "enumerate") = short
    cases short with
    | false =>
      refine wpAny_ite_false rfl (wpAny_bind (wpAny_of_eq (a := (Value.ref l, none)) rfl ?_))
      exact fin
    | true =>
      refine wpAny_ite_true rfl (wpAny_bind (wpAny_of_eq (a := (Value.ref l, none)) rfl ?_))
      exact fin
  · refine wpAny_ite_false rfl (wpAny_bind (wpAny_of_eq (a := (Value.ref l, none)) rfl ?_))
    exact fin
section
variable {prog : Program} {w : World} {A : Around} {E : Value → Shared → Prop} {s : Shared}
theorem nextOf_tup_item {it l : Addr} {i : Nat} {items : Array Value} {x : Value} {Q : Value → Shared → Prop} (hit : s.heap.IsTupleIter it l i) (hl : s.heap.IsTuple l items) (hx : items[i]? = some x)
    (hQ : ∀ h', h'.IsTupleIter it l (i + 1) → Heap.SameBut it s.heap h' → Q x { s with heap := h' }) : wpAny (model prog w) A (Builtin.SmallTypes.nextOf (Value.ref it)) Q E s := by
  obtain ⟨⟨oc, od, odt, osl⟩, gi, ci, di⟩ := id hit
  simp only at ci di
  subst ci
  subst di
  obtain ⟨ol, gl, _, nl, dl⟩ := hl
  unfold Builtin.SmallTypes.nextOf
  refine wpAny_bind (wpAny_callSpecial?_slot (name := "__next__") hit.typeIs F.slot_tuple_iterator_next (wpAny_call_entry F.slot_tuple_iterator_next hit.typeIs F.entry_tuple_iterator_next ?_ (F.args_tuple_iterator_next_1 _)))
  refine wpAny_bind (m := field (.ref it) 0) (wpAny_field gi rfl (x := .ref l) rfl ?_)
  refine (if_neg (Bool.false_ne_true : ¬ ((Value.ref l == Value.none) = true))).symm ▸ ?_
  refine wpAny_bind (m := field (.ref it) 1) (wpAny_field gi rfl (x := .int i 0) rfl (wpAny_bind (m := seqItems? (.ref l)) (wpAny_seqItems gl dl ?_)))
  simp only [Int.toNat_natCast, hx]
  refine wpAny_bind (wpAny_setField gi rfl (by simp) (wpAny_pure ⟨x, rfl, wpAny_pure (hQ _ ⟨_, Heap.get?_update_self _ gi rfl, rfl, rfl⟩ ⟨?_, fun b n => Heap.get?_update_other _ _ (Ne.symm n)⟩)⟩))
  exact Heap.size_update _ _ _
theorem nextOf_tup_end {it l : Addr} {i : Nat} {items : Array Value} {Q : Value → Shared → Prop} (hh : A.handled = none) (hit : s.heap.IsTupleIter it l i) (hl : s.heap.IsTuple l items) (hx : items[i]? = none)
    (hQ : ∀ (h' : Heap) (e : Addr), Heap.ExtBut it s.heap h' → (∃ o, h'.get? e = some o ∧ o.cls = Value.type "StopIteration") → E (Value.ref e) { s with heap := h' }) : wpAny (model prog w) A (Builtin.SmallTypes.nextOf (Value.ref it)) Q E s := by
  obtain ⟨oi, gi, ci, di⟩ := id hit
  obtain ⟨ol, gl, _, nl, dl⟩ := hl
  unfold Builtin.SmallTypes.nextOf
  refine wpAny_bind (wpAny_callSpecial?_slot (name := "__next__") hit.typeIs F.slot_tuple_iterator_next (wpAny_call_entry F.slot_tuple_iterator_next hit.typeIs F.entry_tuple_iterator_next ?_ (F.args_tuple_iterator_next_1 _)))
  refine wpAny_bind (m := field (.ref it) 0) (wpAny_field gi di (x := .ref l) rfl ?_)
  refine (if_neg (Bool.false_ne_true : ¬ ((Value.ref l == Value.none) = true))).symm ▸ ?_
  refine wpAny_bind (m := field (.ref it) 1) (wpAny_field gi di (x := .int i 0) rfl (wpAny_bind (m := seqItems? (.ref l)) (wpAny_seqItems gl dl ?_)))
  simp only [Int.toNat_natCast, hx]
  refine wpAny_bind (wpAny_rule (wpAny_bind (wpAny_setField gi di (by simp) ?_)))
  unfold Builtin.SmallTypes.stopIteration
  refine wpAny_bind (m := newExc (.type "StopIteration") []) ?_
  simp only [newExc, newTuple]
  refine wpAny_bind (wpAny_newObj_type (wpAny_bind (m := firstArgMember _ _) (wpAny_of_eq (a := Value.none) (by first | rfl | (simp only [firstArgMember]; rfl)) (wpAny_newObj_type ?_ (by size_fits)))) (by size_fits))
  unfold raiseNew
  refine wpAny_bind (wpAny_handled ?_)
  rw [show A.in1.handled = none from hh]
  refine wpAny_throw (hQ _ _ (fun b o n e => ?_) ⟨_, Heap.get?_push_size _ rfl, rfl⟩)
  refine Heap.get?_push_of_some _ (Heap.get?_push_of_some _ ?_)
  rw [Heap.get?_update_other _ _ (Ne.symm n)]
  exact e
theorem draws_tup (hh : A.handled = none) (it l : Addr) (ne : l ≠ it) (items : Array Value) :
    Draws prog w A it [it, l] items.size (fun i v => items[i]? = some v) fun i h => h.IsTupleIter it l i ∧ h.IsTuple l items := by
  refine ⟨fun i h st => let ⟨⟨o, g, _⟩, _⟩ := st; ⟨o, g⟩, fun i h h' st k => let ⟨⟨o, g, r⟩, ⟨o2, g2, r2⟩⟩ := st; ⟨⟨o, k it (by simp) o g, r⟩, ⟨o2, k l (by simp) o2 g2, r2⟩⟩, fun i s Q E hi st h => ?_, fun s Q E st h => ?_⟩
  · obtain ⟨h1, h2⟩ := st
    have hx : items[i]? = some items[i] := Array.getElem?_eq_getElem hi
    refine nextOf_tup_item h1 h2 hx fun h' st' sb => ?_
    obtain ⟨o2, g2, r2⟩ := h2
    exact h _ _ s.toks hx ⟨st', ⟨o2, (sb.2 l ne).trans g2, r2⟩⟩ sb
  · obtain ⟨h1, h2⟩ := st
    exact nextOf_tup_end hh h1 h2 (by simp) fun h' e eb he => h h' e eb he
theorem call_enumerate_tup {l : Addr} {items : Array Value} {Q : Value → Shared → Prop} (hL : s.heap.IsTuple l items)
    (h : ∀ h', IsEnum h' (s.heap.objs.size + 1) s.heap.objs.size 0 Value.none → h'.IsTupleIter s.heap.objs.size l 0 → h'.objs.size = s.heap.objs.size + 2 → (∀ b o, s.heap.get? b = some o → h'.get? b = some o) → Q (Value.ref (s.heap.objs.size + 1)) { s with heap := h' }) :
    wpAny (model prog w) A (call (Value.type "enumerate") [Value.ref l]) Q E s := by
  obtain ⟨⟨c, dct, dt, sl⟩, hl, hc, n, hd⟩ := hL
  simp only at hc hd
  subst hc
  subst hd
  have hz := Heap.size_push s.heap { cls := .type "tuple_iterator", data := Data.fields #[Value.ref l, Value.int 0 0] }
  refine callType_new F.called_enumerate (by decide) (F.typeCall_enumerate_1 (Value.ref l)) (F.newCall_enumerate_1 (Value.ref l)) (fun obj => F.args_object_init_2 obj (Value.ref l)) F.entry_enumerate_new (meets_enumerate_newT l items n dct sl) ⟨hl, ?_⟩
  have he := Heap.get?_push_size (s.heap.push { cls := Value.type "tuple_iterator", data := Data.fields #[Value.ref l, Value.int 0 0] }) (o := { cls := Value.type "enumerate", data := Data.fields #[Value.none, Value.bool false, Value.ref s.heap.objs.size, rawInt 0, Value.none, Value.none] }) rfl
  rw [hz] at he
  show Shared.TypeIs _ (Value.ref (Heap.objs _).size) "enumerate" ∧ Q (Value.ref (Heap.objs _).size) _
  rw [hz]
  refine ⟨⟨_, he, rfl⟩, h _ he ⟨_, Heap.get?_push_of_some _ (Heap.get?_push_size _ rfl), rfl, rfl⟩ ?_ fun b o e => Heap.get?_push_of_some _ (Heap.get?_push_of_some _ e)⟩
  rw [Heap.size_push, hz]
theorem draws_tup_end (hh : A.handled = none) (it l : Addr) (ne : l ≠ it) (items : Array Value) (i0 : Nat) (hx : items[i0]? = none) :
    Draws prog w A it [it, l] i0 (fun _ _ => False) fun i h => i = i0 ∧ h.IsTupleIter it l i ∧ h.IsTuple l items := by
  refine ⟨fun i h st => let ⟨_, ⟨o, g, _⟩, _⟩ := st; ⟨o, g⟩, fun i h h' st k => let ⟨e, ⟨o, g, r⟩, ⟨o2, g2, r2⟩⟩ := st; ⟨e, ⟨o, k it (by simp) o g, r⟩, ⟨o2, k l (by simp) o2 g2, r2⟩⟩, fun i s Q E hi st h => ?_, fun s Q E st h => ?_⟩
  · exact absurd st.1 (Nat.ne_of_lt hi)
  · obtain ⟨_, h1, h2⟩ := st
    exact nextOf_tup_end hh h1 h2 hx fun h' e eb he => h h' e eb he
end
def IteT (K : PySem.W.Frag) (a : Addr) : It := ⟨fun i H => ∃ xs x, SqT K H a xs ∧ xs[i]? = some x, fun i H v H' => ∃ T x, v = V.ref T ∧ H T = none ∧ H' = upd H T (.tup [.int (i : Nat), x]) ∧ ∀ xs, SqT K H a xs → xs[i]? = some x, fun i H => ∃ xs, SqT K H a xs ∧ xs.length ≤ i⟩
theorem tup_ne {h : Heap} {a it : Addr} {i : Nat} {items : Array Value} (hit : h.IsTupleIter it a i) (pl : h.IsTuple a items) : a ≠ it := fun z => by
  subst z
  obtain ⟨o, h1, c1, _⟩ := hit
  obtain ⟨o2, h2, c2, _⟩ := pl
  rw [h1] at h2
  cases h2
  rw [c1] at c2
  exact absurd c2 (by decide)
theorem enum_ne {h : Heap} {a e it : Addr} {i : Int} {old : Value} {items : Array Value} (he : IsEnum h e it i old) (pl : h.IsTuple a items) : e ≠ a := fun z => by
  subst z
  obtain ⟨o2, h2, c2, _⟩ := pl
  rw [show h.get? e = _ from he] at h2
  cases h2
  exact absurd (show Value.type "enumerate" = Value.type "tuple" from c2) (by decide)
theorem turn_enumT {P : Program} {w : World} {K : PySem.W.Frag} {elts : List Expr} {kk : Nat} {tpos : Pos} (a e it : Addr) :
    Turn P w K (.Tuple elts kk tpos) (IteT K a) [e, it] e (fun i h => (∃ old, IsEnum h e it ((i : Nat) : Int) old) ∧ h.IsTupleIter it a i ∧ e ≠ it) where
  mem := by simp
  obj := fun i h st b hb => by
    obtain ⟨⟨old, he⟩, ⟨o, ho, hc, hd⟩, _⟩ := st
    have e' : b = e ∨ b = it := by simpa using hb
    rcases e' with z | z
    · rw [z]; exact ⟨_, he, fun v q => nomatch q⟩
    · rw [z]; exact ⟨o, ho, fun v q => by rw [hd] at q; cases q⟩
  keep := fun i h h' st k => let ⟨⟨old, he⟩, ⟨o, ho, r⟩, hne⟩ := st; ⟨⟨old, k e (by simp) _ he⟩, ⟨o, k it (by simp) o ho, r⟩, hne⟩
  item := by
    intro X hP hw hK hc i pins s σ H E I hf st hg
    subst hP hw hK
    obtain ⟨⟨old, he⟩, hit, hne⟩ := st
    obtain ⟨xs, x, hq, hx⟩ := hg
    obtain ⟨its, rv, pl, _⟩ := I.tuple hq
    have pl' : s.heap.IsTuple a its.toArray := pl
    have hel : e < s.heap.objs.size := Heap.lt_size he
    have hil : it < s.heap.objs.size := by obtain ⟨_, q, _⟩ := hit; exact Heap.lt_size q
    have ne := tup_ne hit pl'
    have ne2 := enum_ne he pl'
    have D := draws_tup (A := X.A.in1) (prog := X.prog) (w := X.w) (show X.A.in1.handled = none from I.ok.hd hc) it a ne its.toArray
    have hlt : i < its.toArray.size := by
      rw [List.size_toArray, ← rv.length]
      exact (List.getElem?_eq_some_iff.mp hx).1
    obtain ⟨u0, hu0, ru⟩ := rv.get hx
    refine wpAny_pyNext_enum_itemD D he ⟨hit, pl'⟩ hlt hne (by simp [hne, ne2]) fun u h' tk hu ho hst hT hsz hk => ?_
    have eu : u = u0 := by
      have h1 : its[i]? = some u := by simpa using hu
      rw [hu0] at h1
      exact (Option.some.inj h1).symm
    subst eu
    obtain ⟨hit', pl2⟩ := hst
    refine ⟨_, rfl, wpAny_letOwnedTupleGo_enum (s := { s with heap := h', toks := tk + 1 }) ho fun h'' he' sb => ?_⟩
    have hT2 : h''.get? s.heap.objs.size = some { cls := .type "tuple", data := .seq #[.int i tk, u] } := (sb.2 _ (Nat.ne_of_gt hel)).trans hT
    have new : ObjOk X.prog X.w (upd H s.heap.objs.size (.tup [.int (i : Nat), x])) h'' s.heap.objs.size (.tup [.int (i : Nat), x]) :=
      ⟨by show 2 ≤ sizeLine; decide, [.int i tk, u], .cons ⟨_, rfl⟩ (.cons ru .nil), ⟨_, hT2, rfl, _, rfl⟩⟩
    have I1 : Inv X pins σ (upd H s.heap.objs.size (.tup [.int (i : Nat), x])) { s with heap := h'', toks := tk + 1 } :=
      I.turnedNew (ch := [e, it]) (fun b ob hb q => (sb.2 b (fun z => hb (by simp [z]))).trans (hk b ob (fun z => hb (by simp [z])) (fun z => hb (by simp [z])) q)) hf (Nat.le_refl _) new
    refine ⟨.ref s.heap.objs.size, _, I1, rfl, ⟨_, x, rfl, I.hok.fresh (Nat.le_refl _), rfl, fun ys hy => by rw [I.tuple_inj hy hq, hx]⟩, ⟨⟨u, ?_⟩, ?_, hne⟩, fun b hb => ?_⟩
    · have e1 : ((i + 1 : Nat) : Int) = (i : Int) + 1 := by omega
      rw [e1]; exact he'
    · obtain ⟨o, ho2, r⟩ := hit'
      exact ⟨o, (sb.2 it (Ne.symm hne)).trans ho2, r⟩
    · have hb' : b < s.heap.objs.size := by
        have e' : b = e ∨ b = it := by simpa using hb
        rcases e' with z | z
        · rw [z]; exact hel
        · rw [z]; exact hil
      rw [upd_ne (Nat.ne_of_lt hb')]
      exact (hf b hb).1
  done := by
    intro X hP hw hK hc i pins s σ H E I hf st hg
    subst hP hw hK
    obtain ⟨⟨old, he⟩, hit, hne⟩ := st
    obtain ⟨xs, hq, hx⟩ := hg
    obtain ⟨its, rv, pl, _⟩ := I.tuple hq
    have pl' : s.heap.IsTuple a its.toArray := pl
    obtain ⟨f0, f1, f2, f3, f4, f5⟩ := hf it (by simp)
    have D := draws_tup_end (A := X.A.in1) (prog := X.prog) (w := X.w) (show X.A.in1.handled = none from I.ok.hd hc) it a (tup_ne hit pl') its.toArray i (by
      have := rv.length
      simp
      omega)
    exact wpAny_pyNext_enum_endD D he ⟨rfl, hit, pl'⟩ fun h' eb => ⟨rfl, I.turned (t' := s.toks) (fun b o hb q => eb b o hb q) f0 f1 f3 f4 f5⟩
  self := fun A i s Q E st h => let ⟨⟨_, he⟩, _⟩ := st; wpAny_pyIter_enum he h
def iEnumT (K : PySem.W.Frag) (ta : TA) : TI := fun σ H R => ta σ H fun vs H1 => ∃ a xs, vs = [V.ref a] ∧ SqT K H1 a xs ∧ R (IteT K a) H1
theorem pi_enumT {X : Cx} {e : Expr} {ta : TA} {p pos tpos : Pos} {elts : List Expr} {kk : Nat} (hg : Gl X "enumerate") (hm : X.mg "enumerate" = none) (ha : PA X [e] ta) (hs : starEach [e] X.env = [(false, eval e X.env)] := by rfl) :
    PI X (.Tuple elts kk tpos) (.Call (.Name "enumerate" p) [e] [] pos) (iEnumT X.K ta) := by
  refine ⟨fun pins s σ H R I h => ?_⟩
  refine Call_ (ld_blt I hg hm boot_enumerate (PyProof.Rows.callWith_type1 (thn (ha.run pos pins s σ H _ I h) fun us s1 ⟨vs, H1, I1, r1, q1⟩ => ?_) hs rfl))
  obtain ⟨a, xs, ex, hq, q⟩ := q1
  subst ex
  cases r1 with
  | cons r rr =>
    cases rr
    cases r
    obtain ⟨its, rv, pl, _⟩ := I1.tuple hq
    refine call_enumerate_tup (show s1.heap.IsTuple a its.toArray from pl) fun h' he hit hsz hk => wpAny_pyIter_enum he ?_
    have I2 : Inv X pins σ H1 { s1 with heap := h' } := I1.kept (t' := s1.toks) hk
    refine ⟨s1.heap.objs.size + 1, [s1.heap.objs.size + 1, s1.heap.objs.size], _, _, H1, rfl, I2, turn_enumT a (s1.heap.objs.size + 1) s1.heap.objs.size, ⟨⟨.none, he⟩, hit, Nat.succ_ne_self _⟩, fun b hb => ?_, q⟩
    have e' : b = s1.heap.objs.size + 1 ∨ b = s1.heap.objs.size := by simpa using hb
    have hge : s1.heap.objs.size ≤ b := by
      rcases e' with z | z
      · rw [z]; omega
      · rw [z]; omega
    exact I1.fpOk hge (I1.hok.fresh hge)
theorem walk_enumT {K : PySem.W.Frag} {a : Addr} {xs : List V} : Walk (IteT K a) xs.length (fun H => SqT K H a xs) (fun i H v H' => ∃ T x, v = V.ref T ∧ H T = none ∧ H' = upd H T (.tup [.int (i : Nat), x]) ∧ xs[i]? = some x) :=
  ⟨fun i H hi h => ⟨xs, xs[i], h, List.getElem?_eq_getElem hi⟩, fun H h => ⟨xs, h, Nat.le_refl _⟩, fun i H v H' _ h y => let ⟨T, x, a, b, c, d⟩ := y; ⟨T, x, a, b, c, d xs h⟩⟩
section
variable {X : Cx}
def rExtendT (K : PySem.W.Frag) : V → List V → Hp → VK → Prop := fun x vs H Q => ∃ l b xs zs, x = .ref l ∧ vs = [.ref b] ∧ H l = some (.lst xs) ∧ SqT K H b zs ∧ xs.length + zs.length ≤ sizeLine ∧ Q .non (upd H l (.lst (xs ++ zs)))
theorem mt_extendT : MtR X "list.extend" (rExtendT X.K) := by
  intro pins s σ H x xs v us Q I rx rs h
  obtain ⟨l, b, ys, zs, rfl, rfl, hl, hb, hz, q⟩ := h
  cases rx
  obtain ⟨u, rfl, ru⟩ := rs.one
  cases ru
  obtain ⟨z1, its, n, r1, l1, e1⟩ := I.lstM hl
  obtain ⟨its2, r2, pl2, _⟩ := I.tuple hb
  obtain ⟨⟨cls, dd, dt, sl⟩, ho, hc, n2, hd⟩ := pl2
  simp only at hc hd
  subst hc
  subst hd
  have l2 := r2.length
  refine call_meets PySem.F.slot_list_extend ⟨_, e1, rfl⟩ PySem.F.entry_list_extend (PySem.F.args_list_extend_2 _ _) (meets_extendT l b its.toArray its2.toArray n n2 dd sl (by rw [List.size_toArray, List.size_toArray]; omega)) ⟨e1, ho, ?_⟩
  refine ⟨.non, upd H l (.lst (ys ++ zs)), ?_, rfl, q⟩
  exact I.lset (t' := s.toks) hl e1 (by simp) (r1.append r2) (by rw [List.length_append]; omega)
theorem ints_get : ∀ {vs : List Value} {ns : List Int} {i : Nat} {v : Value}, IntsAre vs ns → vs[i]? = some v → ∃ t, v = .int (ns.getD i 0) t
  | _, _, _, _, .nil, e => by simp at e
  | _, _, 0, _, .cons n t _, e => by
    simp at e
    exact ⟨t, e.symm⟩
  | _, _, i + 1, v, .cons n t r, e => by
    obtain ⟨t', e'⟩ := ints_get (i := i) (v := v) r (by simpa using e)
    exact ⟨t', by simpa using e'⟩
theorem preSum_getD : ∀ (ns : List Int) (m : Nat), m ≤ ns.length → preSum (fun i => ns.getD i 0) m = (ns.take m).sum := fun ns m => by
  induction m with
  | zero => intro _; rfl
  | succ m ih =>
    intro h
    show preSum _ m + ns.getD m 0 = _
    rw [ih (by omega), List.take_add_one, List.getElem?_eq_getElem (by omega), List.sum_append, List.getD_eq_getElem?_getD, List.getElem?_eq_getElem (by omega)]
    simp
def rSumT (K : PySem.W.Frag) : List V → Hp → VK → Prop := fun vs H Q => ∃ (a : Addr) (ns : List Int), vs = [V.ref a] ∧ SqT K H a (ns.map V.int) ∧ Q (.int ns.sum) H
theorem cr_sumT (hc : X.calm = true) : CallR X (.builtin "sum") (rSumT X.K) := by
  intro pins s σ H vs us Q I rv h
  obtain ⟨a, ns, rfl, ha, q⟩ := h
  obtain ⟨u, rfl, ru⟩ := rv.one
  cases ru
  obtain ⟨its, r, pl, _⟩ := I.tuple ha
  have hi := ints_of_vals r
  have hlen := r.length
  rw [List.length_map] at hlen
  have pl' : s.heap.IsTuple a its.toArray := pl
  have la : a < s.heap.objs.size := by obtain ⟨o, ho, _⟩ := pl'; exact Heap.lt_size ho
  refine call_sum_walkG (wpAny_pyIter_tuple pl' ?_)
  refine ⟨s.heap.objs.size, [s.heap.objs.size, a], [s.heap.objs.size], its.toArray.size, _, _, fun i => ns.getD i 0, rfl, Walks.tuple (by exact I.ok.hd hc) _ a (Nat.ne_of_lt la) its.toArray, ⟨⟨_, Heap.get?_push_size _ rfl, rfl, rfl⟩, ?_⟩, fun b hb => ?_, fun i v hv => ints_get (i := i) hi (by simpa using hv), fun h' tk t' k => ?_⟩
  · obtain ⟨o, ho, r⟩ := pl'
    exact ⟨o, Heap.get?_push_of_some _ ho, r⟩
  · rw [Heap.size_push]
    have e' : b = s.heap.objs.size ∨ b = a := by simpa using hb
    rcases e' with z | z
    · rw [z]; exact Nat.lt_succ_self _
    · rw [z]; exact Nat.lt_succ_of_lt la
  · refine ⟨.int ns.sum, H, ?_, ?_, q⟩
    · refine I.kept (t' := tk) fun b o e => k b o ?_ (Heap.get?_push_of_some _ e)
      have := Heap.lt_size e
      intro z
      have e' : b = s.heap.objs.size := by simpa using z
      exact absurd e' (Nat.ne_of_lt this)
    · rw [preSum_getD _ _ (by rw [List.size_toArray]; omega), List.size_toArray, ← hlen, List.take_length]
      exact ⟨_, rfl⟩
end
end RK

namespace RK
open PySem PySem.Spec PyProof.Rows L2
/-- a comprehension with two for, both targets names (at k and k1), no tests -/
theorem lc2_it {J : It} {n : Nat} {G : Hp → Prop} {Y : Nat → Hp → V → Hp → Prop} (w : Walk J n G Y) {wi1 : TI} {te : TE} {σ : L2.St} {H1 : Hp} {D : Addr} {Qd : Hp → Prop} {k k1 : Nat} (hk : k ≠ k1) (Pv : Nat → Hp → Prop) (h0 : Pv 0 (upd H1 D (.lst []))) (hG : ∀ i H, i ≤ n → Pv i H → G H)
    (hs : ∀ (i : Nat) (x : V) (H H' : Hp), i < n → Pv i H → Y i H x H' → ∀ R : It → Hp → Prop, (∀ (J1 : It) (H4 : Hp) (n1 : Nat) (G1 : Hp → Prop) (Y1 : Nat → Hp → V → Hp → Prop) (P1 : Nat → Hp → Prop), Walk J1 n1 G1 Y1 → P1 0 H4 → (∀ j H, j ≤ n1 → P1 j H → G1 H) →
      (∀ (j : Nat) (y : V) (H H' : Hp), j < n1 → P1 j H → Y1 j H y H' → te (((((σ.set k1 none).set k none).set k (some x)).set k1 none).set k1 (some y)) H' fun z H7 => ∃ acc, H7 D = some (.lst acc) ∧ acc.length < sizeLine ∧ P1 (j + 1) (upd H7 D (.lst (acc ++ [z])))) →
      (∀ H, P1 n1 H → Pv (i + 1) H) → R J1 H4) → wi1 (((σ.set k1 none).set k none).set k (some x)) H' R)
    (hd : ∀ H, Pv n H → Qd H) :
    ∃ W : Nat → Nat → Hp → Prop, (∃ m, W 0 m (upd H1 D (.lst []))) ∧ ∀ (i m : Nat) (H : Hp), W i m H → (J.stop i H ∧ Qd H) ∨ (J.go i H ∧ ∃ Nx : Hp → Prop, (∀ H', Nx H' → ∃ m', m' < m ∧ W (i + 1) m' H') ∧ ∀ (x : V) (H' : Hp), J.yld i H x H' →
      gName k x (wipe σ [k, k1]) H' fun σ2 H2 => wipe σ2 [k, k1] = wipe σ [k, k1] ∧ tYes σ2 H2 fun b H3 => if b = true then wi1 σ2 H3 fun J1 H4 => ∃ W1 : Nat → Nat → Hp → Prop, (∃ m, W1 0 m H4) ∧ ∀ (j k' : Nat) (H : Hp), W1 j k' H → (J1.stop j H ∧ Nx H) ∨ (J1.go j H ∧ ∃ Nx1 : Hp → Prop, (∀ H', Nx1 H' → ∃ k2, k2 < k' ∧ W1 (j + 1) k2 H') ∧
        ∀ (x : V) (H' : Hp), J1.yld j H x H' → gName k1 x (wipe σ2 [k1]) H' fun σ3 H5 => wipe σ3 [k1] = wipe σ2 [k1] ∧ tYes σ3 H5 fun b H6 => if b = true then te σ3 H6 fun y H7 => ∃ acc, H7 D = some (.lst acc) ∧ acc.length < sizeLine ∧ Nx1 (upd H7 D (.lst (acc ++ [y]))) else Nx1 H6) else Nx H3) := by
  refine ⟨fun i m H => i ≤ n ∧ m = n - i ∧ Pv i H, ⟨n, Nat.zero_le _, rfl, h0⟩, fun i m H hW => ?_⟩
  obtain ⟨hi, rfl, hp⟩ := hW
  rcases Nat.lt_or_ge i n with hlt | hge
  · refine .inr ⟨w.goes i H hlt (hG i H hi hp), fun H' => Pv (i + 1) H', fun H' h => ⟨n - (i + 1), by omega, by omega, rfl, h⟩, fun x H' y => ?_⟩
    have y' := w.yields i H x H' hlt (hG i H hi hp) y
    refine ⟨?_, ?_⟩
    · show ((((σ.set k1 none).set k none).set k (some x)).set k1 none).set k none = (σ.set k1 none).set k none
      rw [List.set_set, List.set_comm _ _ hk, List.set_set, List.set_set]
    show wi1 (((σ.set k1 none).set k none).set k (some x)) H' _
    refine hs i x H H' hlt hp y' _ fun J1 H4 n1 G1 Y1 P1 w1 p0 hG1 st en => ?_
    refine ⟨fun j m H => j ≤ n1 ∧ m = n1 - j ∧ P1 j H, ⟨n1, Nat.zero_le _, rfl, p0⟩, fun j m Hj hW1 => ?_⟩
    obtain ⟨hj, rfl, hp1⟩ := hW1
    rcases Nat.lt_or_ge j n1 with hlt1 | hge1
    · refine .inr ⟨w1.goes j Hj hlt1 (hG1 j Hj hj hp1), fun H' => P1 (j + 1) H', fun H' h => ⟨n1 - (j + 1), by omega, by omega, rfl, h⟩, fun y H'' yy => ?_⟩
      have yy' := w1.yields j Hj y H'' hlt1 (hG1 j Hj hj hp1) yy
      refine ⟨?_, ?_⟩
      · show (((((σ.set k1 none).set k none).set k (some x)).set k1 none).set k1 (some y)).set k1 none = (((σ.set k1 none).set k none).set k (some x)).set k1 none
        rw [List.set_set, List.set_set]
      exact st j y Hj H'' hlt1 hp1 yy'
    · have : j = n1 := Nat.le_antisymm hj hge1
      subst this
      exact .inl ⟨w1.stops Hj (hG1 j Hj hj hp1), en Hj hp1⟩
  · have : i = n := Nat.le_antisymm hi hge
    subst this
    exact .inl ⟨w.stops H (hG i H hi hp), hd H hp⟩
theorem xt_sq {K : PySem.W.Frag} {H : Hp} {S : ASet} {r : Addr} {xs : List V} (h : SqT K H r xs) (n : ∀ a, S a → ∃ ys, H a = some (.lst ys)) : XT K H S r xs := by
  rcases h with h | h
  · refine .inl ⟨fun z => ?_, h⟩
    obtain ⟨ys, e⟩ := n r z
    rcases h with h | ⟨o, h⟩ <;> rw [e] at h <;> cases h
  · exact .inr (.inr h)
/-- a tuple and a new one behind it -/
theorem catA_xt {K : PySem.W.Frag} {H : Hp} {S : ASet} {a b : Addr} {xs ys : List V} {Q : VK} (ha : SqT K H a xs) (hb : XT K H S b ys) (hy : ys ≠ []) (hS : ∀ c, S c → H c ≠ none) (hl : xs.length + ys.length ≤ 100000) (q : ∀ p H', Same H H' → XT K H' S p (xs ++ ys) → Q (.ref p) H') : rCatA K (.ref a) (.ref b) H Q :=
  ⟨a, b, xs, ys, rfl, rfl, ha, hb.sq, Nat.le_trans hl (show 100000 ≤ sizeLine by decide), fun e => q b H (Same.refl _) (by rw [e]; exact hb), fun _ e => absurd e hy, fun _ _ p hp => q p _ (same_new hp) (XT.of upd_same fun z => hS p z hp)⟩
/-! one thing by its place, three by keywords -/
def kw1_3 {α : Type} : List α → List α → List α
  | [a], [b, c, d] => [a, b, c, d]
  | _, _ => []
theorem kw1_3_rel {vs zs : List V} {us ws : List Value} (h : Vals vs us) (k : Vals zs ws) : Vals (kw1_3 vs zs) (kw1_3 us ws) := by
  match h, k with
  | .cons h0 .nil, .cons k0 (.cons k1 (.cons k2 .nil)) => exact .cons h0 (.cons k0 (.cons k1 (.cons k2 .nil)))
  | .nil, _ => exact .nil
  | .cons _ (.cons _ _), _ => exact .nil
  | .cons _ .nil, .nil => exact .nil
  | .cons _ .nil, .cons _ .nil => exact .nil
  | .cons _ .nil, .cons _ (.cons _ .nil) => exact .nil
  | .cons _ .nil, .cons _ (.cons _ (.cons _ (.cons _ _))) => exact .nil
theorem kbinds1_3 {K : PySem.W.Frag} {fd : FuncData} {p0 p1 p2 p3 : Str} (h : ∀ (a b c d : Value) (s : Shared), BindsTo s fd ⟨[a], [(p1, b), (p2, c), (p3, d)]⟩ [(p0, a), (p1, b), (p2, c), (p3, d)]) : KBinds K fd [p0, p1, p2, p3] [p1, p2, p3] kw1_3 kw1_3 := by
  refine ⟨fun s us ws _ hl => ?_, kw1_3_rel⟩
  match us, ws with
  | [a], [b, c, d] => exact h a b c d s
  | [], ws => cases hl
  | _ :: _ :: _, ws => cases hl
  | [_], [] => cases hl
  | [_], [_] => cases hl
  | [_], [_, _] => cases hl
  | [_], _ :: _ :: _ :: _ :: _ => cases hl
/-- a comprehension with one test over the pairs of an enumerated tuple -/
theorem lc_enumF {K : PySem.W.Frag} {a : Addr} {xs : List V} {tt : TT} {te : TE} {σ : L2.St} {H1 : Hp} {D : Addr} {Qd : Hp → Prop} {k k1 : Nat} (hk : k ≠ k1) (c : Nat → Bool) (f : Nat → V) (hD : H1 D = none) (ha : SqT K H1 a xs) (hn : xs.length ≤ 1000000)
    (ht : ∀ i x H, i < xs.length → Same H1 H → xs[i]? = some x → ∀ Q : Bool → Hp → Prop, Q (c i) H → tt ((((σ.set k1 none).set k none).set k (some (.int (i : Nat)))).set k1 (some x)) H Q)
    (hs : ∀ i x H, i < xs.length → c i = true → Same H1 H → xs[i]? = some x → ∀ Q : VK, (∀ H3, Same H H3 → Q (f i) H3) → te ((((σ.set k1 none).set k none).set k (some (.int (i : Nat)))).set k1 (some x)) H Q)
    (hd : ∀ H, Same H1 H → H D = some (.lst (((List.range xs.length).filter c).map f)) → Qd H) :
    ∃ W : Nat → Nat → Hp → Prop, (∃ m, W 0 m (upd H1 D (.lst []))) ∧ ∀ i m H, W i m H →
      ((IteT K a).stop i H ∧ Qd H) ∨ ((IteT K a).go i H ∧ ∃ Nx : Hp → Prop, (∀ H', Nx H' → ∃ m', m' < m ∧ W (i + 1) m' H') ∧ ∀ x H', (IteT K a).yld i H x H' → gTup K 2 (gCons (gName k) (gCons (gName k1) gNil)) x (wipe σ [k, k1]) H' fun σ2 H2 => wipe σ2 [k, k1] = wipe σ [k, k1] ∧ tt σ2 H2 fun b H3 =>
        if b = true then te σ2 H3 fun y H4 => ∃ acc, H4 D = some (.lst acc) ∧ acc.length < sizeLine ∧ Nx (upd H4 D (.lst (acc ++ [y]))) else Nx H3) := by
  refine lc_it (walk_enumT (K := K) (a := a) (xs := xs)) (fun i H => Same H1 H ∧ H D = some (.lst (((List.range i).filter c).map f))) ⟨same_new hD, upd_same⟩ (fun i H _ h => sqT_up ha h.1) (fun i x H H' hi hp y => ?_) fun H h => hd H h.1 h.2
  obtain ⟨sm, e⟩ := hp
  obtain ⟨T, z, rfl, nT, rfl, hz⟩ := y
  have sT := same_new (o := .tup [.int (i : Nat), z]) nT
  refine ⟨T, _, rfl, SqT.of upd_same, rfl, _, _, rfl, _, _, rfl, rfl, ?_, ?_⟩
  · show ((((((σ.set k1 none).set k none).set k (some (.int (i : Nat)))).set k1 (some z)).set k1 none).set k none) = (σ.set k1 none).set k none
    rw [List.set_set, List.set_set, List.set_comm _ _ hk, List.set_set, List.set_set]
  show tt ((((σ.set k1 none).set k none).set k (some (.int (i : Nat)))).set k1 (some z)) _ _
  refine ht i z _ hi (sm.trans sT) hz _ ?_
  by_cases hc : c i = true
  · rw [if_pos hc]
    refine hs i z _ hi hc (sm.trans sT) hz _ fun H3 s3 => ?_
    have e3 := s3 _ _ (sT _ _ e)
    refine ⟨_, e3, ?_, same_mut (sm.trans (sT.trans s3)) hD, ?_⟩
    · rw [List.length_map]
      refine Nat.lt_of_le_of_lt (List.length_filter_le _ _) ?_
      rw [List.length_range]
      exact Nat.lt_of_lt_of_le (Nat.lt_of_lt_of_le hi hn) (by decide)
    · rw [upd_same, List.range_succ, List.filter_append, List.map_append]
      rw [show [i].filter c = [i] by simp only [List.filter, hc]]
      rfl
  · rw [if_neg hc]
    refine ⟨sm.trans sT, ?_⟩
    rw [sT _ _ e, List.range_succ, List.filter_append, List.map_append]
    rw [show [i].filter c = [] by simp only [List.filter, hc]]
    rw [List.map_nil, List.append_nil]
end RK

/-! own __len__, __contains__, __eq__, __iter__ (handing back a tuple's iterator), list(o) -/
namespace DK
open PySem PySem.Spec PyProof.Rows L2

section
variable {X : Cx} {pins : List (Addr × Obj)} {σ : L2.St} {H : Hp} {s : Shared} {CX : CXT} {k : Nat} {f C : Addr} {sp : Sp} {E : XK}

/-- the callee runs below the running body -/
theorem run_sub {A1 : Around} {Q : VK} {us : List Value} {vs : List V} (F : FnR X.prog X.w X.K X.mg X.base CX k f sp) (sb : Sub X k A1) (hx : Passes CX X E) (I : Inv X pins σ H s) (r : Vals vs us) (h : sp vs H Q E) :
    wpAny (model X.prog X.w) A1 (call (.ref f) us) (EP X pins σ Q) X.xe s := by
  have e0 : Env0 X.prog X.w X.K X.mg X.base A1 X.stack s H := by
    have e := I.env0
    exact ⟨by rw [sb.fr]; exact e.frames, e.mod, e.bs, e.bsz, e.funs, e.frf, e.hok, e.bare⟩
  refine wpAny_call (codeAny_mono (F A1 X.stack s H us vs Q E sb.room e0 r h) fun r s' hq => ?_)
  cases r with
  | error e => exact hx pins σ H s e s' I hq
  | ok fl =>
    cases fl with
    | ret u => exact I.after hq
    | next => exact False.elim hq
    | brk => exact False.elim hq
    | cont => exact False.elim hq

/-- the def at f stands in the class at C under this name -/
structure Own (K : PySem.W.Frag) (C : Addr) (name : Str) (f : Addr) : Prop where
  at_ : PySem.W.findIn K (.ref C) name = some (some (.ref f))
  fn : PySem.W.isFn K (.ref f) = true

/-! ### len(o) -/
def rLenO (C : Addr) (sp : Sp) (E : XK) : List V → Hp → VK → Prop := fun xs H Q => ∃ a dx fs, xs = [V.ref a] ∧ H a = some (.ins C dx fs) ∧
  sp [.ref a] H (fun v H' => ∃ n : Int, v = .int n ∧ (0 ≤ n ∧ n < 2 ^ 63) ∧ Q (.int n) H') E
theorem call_lenO_at {A1 : Around} {Q : VK} {a dx : Addr} {fs : List (Str × V)} (c : Own X.K C "__len__" f) (F : FnR X.prog X.w X.K X.mg X.base CX k f sp) (hx : Passes CX X E) (sb : Sub X (k + 1) A1) (I : Inv X pins σ H s) (ha : H a = some (.ins C dx fs))
    (hsp : sp [.ref a] H (fun v H' => ∃ n : Int, v = .int n ∧ (0 ≤ n ∧ n < 2 ^ 63) ∧ Q (.int n) H') E) : wpAny (model X.prog X.w) A1 (call (.builtin "len") [.ref a]) (EP X pins σ Q) X.xe s := by
  obtain ⟨mA, J, _⟩ := ins_get I.hok ha
  obtain ⟨od, J, _⟩ := J.look
  obtain ⟨m, hF⟩ := I.fr
  refine PySem.W.len_K hF I.ok.mod.kin J c.at_ c.fn ?_
  refine wpAny_mono (run_sub (us := [.ref a]) (vs := [V.ref a]) F sb.in1 hx I (.cons rfl .nil) hsp) (fun r s' hq => ?_) fun _ _ z => z
  obtain ⟨v, H', I', rv, n, rfl, hn, q⟩ := hq
  obtain ⟨t, rfl⟩ := rv
  exact ⟨hn, .int n, H', I'.tok _, ⟨_, rfl⟩, q⟩
theorem call_lenO (c : Own X.K C "__len__" f) (F : FnR X.prog X.w X.K X.mg X.base CX k f sp) (hx : Passes CX X E) (hr : Room (k + 1) X.A) : CallR X (.builtin "len") (rLenO C sp E) := by
  intro pins s σ H xs us Q I r h
  obtain ⟨a, dx, fs, rfl, ha, hsp⟩ := h
  obtain ⟨u, rfl, ru⟩ := r.one
  cases ru
  exact call_lenO_at c F hx ⟨hr, rfl⟩ I ha hsp

/-! ### x in o -/
def rInO (neg : Bool) (C : Addr) (sp : Sp) (E : XK) : R2 := fun x y H Q => ∃ a dx fs, y = V.ref a ∧ H a = some (.ins C dx fs) ∧
  sp [.ref a, x] H (fun v H' => ∃ b : Bool, v = .bl b ∧ Q (.bl (b ^^ neg)) H') E
theorem op_inO (c : Own X.K C "__contains__" f) (F : FnR X.prog X.w X.K X.mg X.base CX k f sp) (hx : Passes CX X E) (hr : Room k X.A) : OpR X (compareOp .In) (rInO false C sp E) := by
  intro pins s σ H x y v u Q I rx ry h
  obtain ⟨a, dx, fs, rfl, ha, hsp⟩ := h
  cases ry
  obtain ⟨mA, J, _⟩ := ins_get I.hok ha
  obtain ⟨od, J, _⟩ := J.look
  obtain ⟨m, hF⟩ := I.fr
  refine PySem.W.in_K hF I.ok.mod.kin J c.at_ c.fn ?_
  refine wpAny_mono (run_sub (us := [.ref a, v]) (vs := [V.ref a, x]) F ⟨hr, rfl⟩ hx I (.cons rfl (.cons rx .nil)) hsp) (fun r s' hq => ?_) fun _ _ z => z
  obtain ⟨w', H', I', rv, b, rfl, q⟩ := hq
  cases rv
  refine wpAny_truthy_bool ?_
  exact ⟨.bl b, H', I', rfl, by simpa using q⟩
theorem op_notInO (c : Own X.K C "__contains__" f) (F : FnR X.prog X.w X.K X.mg X.base CX k f sp) (hx : Passes CX X E) (hr : Room k X.A) : OpR X (compareOp .NotIn) (rInO true C sp E) := by
  intro pins s σ H x y v u Q I rx ry h
  obtain ⟨a, dx, fs, rfl, ha, hsp⟩ := h
  cases ry
  obtain ⟨mA, J, _⟩ := ins_get I.hok ha
  obtain ⟨od, J, _⟩ := J.look
  obtain ⟨m, hF⟩ := I.fr
  refine PySem.W.notIn_K hF I.ok.mod.kin J c.at_ c.fn ?_
  refine wpAny_mono (run_sub (us := [.ref a, v]) (vs := [V.ref a, x]) F ⟨hr, rfl⟩ hx I (.cons rfl (.cons rx .nil)) hsp) (fun r s' hq => ?_) fun _ _ z => z
  obtain ⟨w', H', I', rv, b, rfl, q⟩ := hq
  cases rv
  refine wpAny_truthy_bool ?_
  exact ⟨.bl (!b), H', I', rfl, by simpa using q⟩

/-! ### o == p, both of the class at C; the own __eq__ says which -/
def rEqO (C : Addr) (sp : Sp) (E : XK) : R2 := fun x y H Q => ∃ a dx fs b dy gs, x = V.ref a ∧ y = V.ref b ∧ H a = some (.ins C dx fs) ∧ H b = some (.ins C dy gs) ∧
  sp [.ref a, .ref b] H (fun v H' => ∃ k : Bool, v = .bl k ∧ Q (.bl k) H') E
theorem op_eqO (c : Own X.K C "__eq__" f) (F : FnR X.prog X.w X.K X.mg X.base CX k f sp) (hx : Passes CX X E) (hr : Room k X.A) : OpR X (compareOp .Eq) (rEqO C sp E) := by
  intro pins s σ H x y v u Q I rx ry h
  obtain ⟨a, dx, fs, b, dy, gs, rfl, rfl, ha, hb, hsp⟩ := h
  cases rx
  cases ry
  obtain ⟨mA, J, _⟩ := ins_get I.hok ha
  obtain ⟨mB, J', _⟩ := ins_get I.hok hb
  obtain ⟨od, J, _⟩ := J.look
  obtain ⟨od', J', _⟩ := J'.look
  obtain ⟨m, hF⟩ := I.fr
  show wpAny (model X.prog X.w) X.A (richCompare .Eq (.ref a) (.ref b)) (EP X pins σ Q) X.xe s
  refine PySem.W.cmp_K (op := .Eq) (tb := .ref C) hr.units0 hF I.ok.mod.kin J J'.type (by simp [PySem.W.notFirst]) c.at_ c.fn ?_
  refine wpAny_mono (run_sub (us := [.ref a, .ref b]) (vs := [V.ref a, V.ref b]) F ⟨hr, rfl⟩ hx I (.cons rfl (.cons rfl .nil)) hsp) (fun r s' hq => ?_) fun _ _ z => z
  obtain ⟨w', H', I', rv, b', rfl, q⟩ := hq
  cases rv
  exact ⟨.bl b', H', I', rfl, q⟩
end

/-! ### a tuple's iterator as a tracked thing -/
def TiO (t it : Addr) (i : Nat) : HO := .ext fun h => h.IsTupleIter it t i
theorem tiO_ok {P : Program} {w : World} {H : Hp} {h : Heap} {t it : Addr} {i : Nat} (e : h.IsTupleIter it t i) : ObjOk P w H h it (TiO t it i) :=
  ⟨e, (let ⟨o, ho, _⟩ := e; ⟨o, ho⟩), fun h1 h2 q k => q.at k⟩
section
variable {X : Cx} {pins : List (Addr × Obj)} {σ : L2.St} {H : Hp} {s : Shared} {t it : Addr} {i : Nat}
theorem tiO_get (I : Inv X pins σ H s) (e : H it = some (TiO t it i)) : s.heap.IsTupleIter it t i := (I.hok it _ e).1
end
section
variable {prog : Program} {w : World} {A : Around} {E : Value → Shared → Prop} {s : Shared} {t : Addr} {items : Array Value}
theorem call_iter_tup {Q : Value → Shared → Prop} (hl : s.heap.IsTuple t items) (h : Q (.ref s.heap.objs.size) { s with heap := s.heap.push { cls := .type "tuple_iterator", data := .fields #[.ref t, .int 0 0] } }) :
    wpAny (model prog w) A (call (.builtin "iter") [.ref t]) Q E s := by
  refine Calls.call_function_entry (by decide +kernel) (by decide +kernel) PySem.W.kdk_entry_iter (PySem.W.kdk_args_iter _) ?_
  unfold Builtin.«iter»
  refine wpAny_bind (m := someArgs "iter" 1 2 _) (wpAny_of_eq (a := [Value.ref t]) (by first | rfl | kernel_rfl!) ?_)
  show wpAny _ _ (pyIter (.ref t) >>= _) _ _ _
  refine wpAny_bind (wpAny_pyIter_tuple hl ?_)
  exact wpAny_pure ⟨_, rfl, h⟩
end
/-- iter(t), t a tuple: a new iterator, younger than the entry -/
def rIterT (K : PySem.W.Frag) (n : Nat) : List V → Hp → VK → Prop := fun xs H Q => ∃ (t : Addr) (zs : List V), xs = [V.ref t] ∧ SqT K H t zs ∧ ∀ it, H it = none → n ≤ it → Q (.ref it) (upd H it (TiO t it 0))
theorem call_iterT {X : Cx} : CallR X (.builtin "iter") (rIterT X.K X.s_0.heap.objs.size) := by
  intro pins s σ H xs us Q I r h
  obtain ⟨t, zs, rfl, hq, q⟩ := h
  obtain ⟨u, rfl, ru⟩ := r.one
  cases ru
  obtain ⟨its, rv, pl, hz⟩ := I.tuple hq
  refine call_iter_tup (show s.heap.IsTuple t its.toArray from pl) ?_
  exact ⟨.ref s.heap.objs.size, _, I.laid (t' := s.toks) (fun b u e => Heap.get?_push_of_some _ e) (Nat.le_refl _) (tiO_ok ⟨_, Heap.get?_push_size _ rfl, rfl, rfl⟩), rfl, q _ (I.hok.fresh (Nat.le_refl _)) I.sz⟩

/-! ### a def whose promise may speak of the heap's size at its entry -/
def FnS (P : Program) (w : World) (K : PySem.W.Frag) (mg : Str → Option Value) (base : Heap) (CX : CXT) (k : Nat) (f : Addr) (spN : Nat → Sp) : Prop :=
  ∀ (A : Around) (outer : List Env) (s : Shared) (H : Hp) (us : List Value) (vs : List V) (Q : VK) (E : XK), Room k A → Env0 P w K mg base A outer s H → Vals vs us → spN s.heap.objs.size vs H Q E →
    codeAny (model P w) A (.call (.ref f) ⟨us, []⟩) (CR CX outer P w H s Q E) s
theorem fn_ofS {CX : CXT} {P : Program} {w : World} {K : PySem.W.Frag} {mg : Str → Option Value} {base : Heap} {k : Nat} {f : Addr} {name qual : Str} {params : Arguments} {body : List Stmt} {scope : Scope} {dV kV doc pm cdv ct oc : Value} {an od : Option Addr}
    {osl : Array (Option Value)} {N ps : List Str} {spN : Nat → Sp} (lk : K.lookup f = some ⟨oc, od, .func (PySem.W.fnOf name qual params body scope dV kV doc pm an cdv ct), osl⟩) (hcd : PySem.W.codeIn K cdv qual = true) (S : FnScope N ps scope)
    (hbd : Binds K (PySem.W.fnOf name qual params body scope dV kV doc pm an cdv ct) ps [])
    (len : ∀ n vs H Q E, spN n vs H Q E → vs.length = ps.length)
    (hbody : ∀ (A : Around) (outer : List Env) (s : Shared) (H : Hp) (vs : List V) (Q : VK) (E : XK), Room k (A.deeper (envOfC qual scope s.heap.objs.size f cdv)) → spN s.heap.objs.size vs H Q E →
      ∃ t, PSs (cxOf CX P w K mg base N qual scope f cdv A outer s H E) body t ∧ t { nx := fun _ H' => Q .non H', rt := Q } (start N vs) H) :
    FnS P w K mg base CX (k + 1) f spN := by
  intro A outer s H us vs Q E hr e0 r hsp
  have below : ∀ b o, base.get? b = some o → s.heap.get? b = some o := fun b o z => (e0.bs b o z).1
  have KX := e0.mod.kin.keeps below
  have nl := len _ _ _ _ _ hsp
  have cellsOf : ∀ y ∈ ps.zip us, scope.names.lookup y.1 = some .local ∨
      (scope.names.lookup y.1 = some .cell ∧ ((cellsFrom (s.heap.objs.size + 1) scope.names []).lookup y.1).isSome = true) := by
    rintro ⟨n, v⟩ hy
    exact (S.par n (List.of_mem_zip hy).1).imp id fun q => ⟨q, PySem.W.cellsFrom_some _ _ _ (.inl q)⟩
  have hb : BindsTo s (PySem.W.fnOf name qual params body scope dV kV doc pm an cdv ct) ⟨us, []⟩ (ps.zip us) := by
    have z := hbd s us KX (by rw [List.append_nil, ← r.length, nl])
    simpa using z
  refine codeAny_call_function hr.depth (KX _ _ lk) rfl S.co S.gen rfl
    (PySem.W.codeRec_of KX hcd) (hb _ _ _ _ ?_)
  refine wpAny_newFunctionEnv_cells S.kind cellsOf
    fun env he s1 x => ?_
  cases he
  refine ⟨(e0.mod.nolimit.keeps below).keeps x.toInCall.keep, codeAny_func ?_⟩
  obtain ⟨t, ht, hq⟩ := hbody A outer s H vs Q E
    (hr.deeper _) hsp
  have I : Inv (cxOf CX P w K mg base N qual scope f cdv A outer s H E)
      [] (L2.start N vs) H s1 :=
    inv_start S hr.hd e0 nl r x
  refine wpAny_mono (ht.run [] s1 (start N vs) H _ I hq)
    (fun fl s' hs => ?_) fun _ _ z => z
  cases fl with
  | ret u => exact (let ⟨v, σ', H', J, rv, q⟩ := hs; ⟨v, H', J.os, J.bare, J.base, J.hok, rv, q⟩)
  | next => exact (let ⟨σ', H', J, q⟩ := hs; ⟨V.non, H', J.os, J.bare, J.base, J.hok, rfl, q⟩)
  | brk => exact (let ⟨_, _, _, q⟩ := hs; False.elim q)
  | cont => exact (let ⟨_, _, _, q⟩ := hs; False.elim q)
/-- what __iter__ of the class promises: P says which tuple -/
def spIterN (P : Addr → Addr → Hp → Prop) (K : PySem.W.Frag) (n : Nat) : Sp := fun vs H Q _ => ∃ a t, vs = [V.ref a] ∧ P a t H ∧ ∀ it, H it = none → n ≤ it → Q (.ref it) (upd H it (TiO t it 0))
/-- own things that hand back a tuple's iterator -/
structure OwnI (X : Cx) (CX : CXT) (C f : Addr) (k : Nat) (P : Addr → Addr → Hp → Prop) : Prop where
  own : Own X.K C "__iter__" f
  run : FnS X.prog X.w X.K X.mg X.base CX k f (spIterN P X.K)
section
variable {X : Cx} {pins : List (Addr × Obj)} {σ : L2.St} {H : Hp} {s : Shared} {CX : CXT} {k : Nat} {f C : Addr} {E : XK} {P : Addr → Addr → Hp → Prop}
/-- the iterator comes: it is forgotten at once, and may turn -/
theorem iter_own {A1 : Around} {a t dx : Addr} {fs : List (Str × V)} {Q : Value → Shared → Prop} (o : OwnI X CX C f k P) (sb : Sub X k A1) (hx : Passes CX X E) (I : Inv X pins σ H s) (ha : H a = some (.ins C dx fs)) (hP : P a t H)
    (h : ∀ it s', Inv X pins σ H s' → s'.heap.IsTupleIter it t 0 → FpOk X pins H it → Q (.ref it) s') : wpAny (model X.prog X.w) A1 (pyIter (.ref a)) Q X.xe s := by
  obtain ⟨mA, J, _⟩ := ins_get I.hok ha
  obtain ⟨od, J, _⟩ := J.look
  obtain ⟨m, hF⟩ := I.fr
  refine PySem.W.owit_iter hF I.ok.mod.kin J o.own.at_ o.own.fn ?_
  have e0 : Env0 X.prog X.w X.K X.mg X.base A1 X.stack s H := by
    have e := I.env0
    exact ⟨by rw [sb.fr]; exact e.frames, e.mod, e.bs, e.bsz, e.funs, e.frf, e.hok, e.bare⟩
  have r2 : Vals [V.ref a] [Value.ref a] := .cons rfl .nil
  have hsp : spIterN P X.K s.heap.objs.size [V.ref a] H (fun v H' => ∃ it, v = .ref it ∧ H it = none ∧ s.heap.objs.size ≤ it ∧ H' = upd H it (TiO t it 0)) E :=
    ⟨a, t, rfl, hP, fun it n g => ⟨it, rfl, n, g, rfl⟩⟩
  refine wpAny_call (codeAny_mono (o.run A1 X.stack s H [.ref a] [.ref a] _ E sb.room e0 r2 hsp) fun r s' hq => ?_)
  cases r with
  | error e => exact hx pins σ H s e s' I hq
  | ok fl =>
    cases fl with
    | next => exact False.elim hq
    | brk => exact False.elim hq
    | cont => exact False.elim hq
    | ret u =>
      obtain ⟨v, H', I', rv, it, ev, hn, hg, eH⟩ := I.after hq
      subst ev
      cases rv
      rw [eH] at I'
      have st := tiO_get I' upd_same
      have hT : s'.TypeIs (.ref it) "tuple_iterator" := (let ⟨o, ho, hc, _⟩ := st; ⟨o, ho, hc⟩)
      have hd : (upd H it (TiO t it 0)) it = some (.ext fun h => h.IsTupleIter it t 0) := upd_same
      have I2 := ItX.inv_drop I' hd
      have fp := ItX.inv_fp I' hd (Nat.le_trans I.sz hg)
      rw [ItX.dropH_upd hn] at I2 fp
      show wpAny _ _ (specialOf (.ref it) "__next__") _ _ _
      exact wpAny_specialOf hT slot_tupleiter_next.lookup (h it s' I2 st fp)
/-- for x in o; a comprehension over o -/
def iOwnI (K : PySem.W.Frag) (C : Addr) (P : Addr → Addr → Hp → Prop) (te : TE) : TI := fun σ H R => te σ H fun x H1 => ∃ a t dx fs, x = V.ref a ∧ H1 a = some (.ins C dx fs) ∧ P a t H1 ∧ R (Itt K t) H1
theorem pi_ownI {tg e : Expr} {te : TE} (he : PE X e te) (o : OwnI X CX C f k P) (hx : Passes CX X E) (hr : Room k X.A) : PI X tg e (iOwnI X.K C P te) := by
  refine ⟨fun pins s σ H R I h => ?_⟩
  refine thn (he.run pins s σ H _ I h) fun v s1 ⟨x, H1, I1, r1, q1⟩ => ?_
  obtain ⟨a, t, dx, fs, rfl, ha, hP, q⟩ := q1
  cases r1
  refine iter_own (E := E) o ⟨hr, rfl⟩ hx I1 ha hP fun it s' I2 st fp => ?_
  exact ⟨it, [it], _, Itt X.K t, H1, rfl, I2, turn_tuple t it, st, fun b hb => by
    have e : b = it := by simpa using hb
    subst e
    exact fp, q⟩
end

/-! ### list(o) -/
section
variable {X : Cx} {pins : List (Addr × Obj)} {σ : L2.St} {H : Hp} {s : Shared} {CX CXl : CXT} {k kl : Nat} {f g C t it q : Addr} {E El : XK} {P : Addr → Addr → Hp → Prop} {A1 : Around} {xs : List V} {spl : Sp}
theorem tup_loop {Rs : Result → Shared → Prop} (hh : A1.in1.handled = none) (hdone : ∀ s, Inv X pins σ (upd H q (.lst xs)) s → Rs (.ok (.ret .none)) s) (ht : SqT X.K H t xs) (hq : H q = none)
    (hfp : ∀ b, b = it → FpOk X pins (upd H q (.lst [])) b) :
    ∀ (m i : Nat) (s : Shared), m = xs.length - i → i ≤ xs.length → Inv X pins σ (upd H q (.lst (xs.take i))) s → s.heap.IsTupleIter it t i →
      codeAny (model X.prog X.w) A1 (.builtin "list.extend.loop" ⟨[.ref q, .ref it, .none], []⟩) Rs s := by
  have hqt : ∀ {ys : List V}, SqT X.K (upd H q (.lst ys)) t xs := fun {ys} => SqT.ext ht fun a o z => by
    rw [upd_ne (ne_of_none z hq)]
    exact z
  have nq : it ≠ q := fun z => by
    have z2 := (hfp it rfl).1
    rw [z, upd_same] at z2
    cases z2
  have fpn : ∀ ys, FpOk X pins (upd H q (.lst ys)) it := fun ys => by
    obtain ⟨f0, f1⟩ := hfp it rfl
    refine ⟨?_, f1⟩
    rw [upd_ne nq] at f0 ⊢
    exact f0
  intro m
  induction m with
  | zero =>
    intro i s hm hi I st
    have hi' : i = xs.length := by omega
    subst hi'
    refine codeAny_builtin PySem.F.entry_extend_loop ?_
    rw [Around.under_plainId PySem.F.plain_extend_loop _]
    show wpAny _ A1.in1 (pyNext (.ref it) >>= _) _ _ s
    obtain ⟨its, rv, pl, hz⟩ := I.tuple hqt
    obtain ⟨f0, f1, f2, f3, f4, f5⟩ := fpn (xs.take xs.length)
    have hl := rv.length
    refine wpAny_bind (wpAny_pyNext_tuple_end hh st (show s.heap.IsTuple t its.toArray from pl) (by simp; omega) fun h' eb => ?_)
    refine wpAny_pure (hdone _ ?_)
    have I2 : Inv X pins σ _ { s with heap := h' } := I.turned (t' := s.toks) (fun b o hb e => eb b o hb e) f0 f1 f3 f4 f5
    rw [List.take_length] at I2
    exact I2
  | succ m ih =>
    intro i s hm hi I st
    have hlt : i < xs.length := by omega
    refine codeAny_builtin PySem.F.entry_extend_loop ?_
    rw [Around.under_plainId PySem.F.plain_extend_loop _]
    show wpAny _ A1.in1 (pyNext (.ref it) >>= _) _ _ s
    obtain ⟨its, rv, pl, hz⟩ := I.tuple hqt
    obtain ⟨f0, f1, f2, f3, f4, f5⟩ := fpn (xs.take i)
    obtain ⟨u, hu, ru⟩ := rv.get (List.getElem?_eq_getElem hlt)
    refine wpAny_bind (wpAny_pyNext_tuple_item st (show s.heap.IsTuple t its.toArray from pl) (x := u) (by simpa using hu) fun h' st' sb => ?_)
    have I1 : Inv X pins σ (upd H q (.lst (xs.take i))) { s with heap := h' } := I.turned (t' := s.toks) (fun b o hb e => (sb.2 b hb).trans e) f0 f1 f3 f4 f5
    show wpAny _ A1.in1 (updateSeq q (·.push u) >>= _) _ _ _
    obtain ⟨z, its2, k2, r2, hl2, e2⟩ := I1.lstM upd_same
    have hlen : (xs.take i).length < sizeLine := by rw [List.length_take]; omega
    refine wpAny_bind (wpAny_updateSeq e2 rfl (wpAny_pure ⟨plainId_quiet PySem.F.plain_extend_loop _, ?_⟩) (by rw [List.size_toArray]; omega) (by show (its2.toArray.push u).size ≤ sizeLine + 1; rw [Array.size_push, List.size_toArray]; omega))
    have I3 := I1.lset (f := (·.push u)) (its' := its2 ++ [u]) (t' := s.toks) upd_same e2 (by simp) (r2.append (.cons ru .nil)) (by rw [List.length_append, List.length_singleton]; omega)
    rw [upd_upd] at I3
    have et : xs.take i ++ [xs[i]] = xs.take (i + 1) := by rw [List.take_add_one, List.getElem?_eq_getElem hlt]; rfl
    rw [et] at I3
    refine ih (i + 1) _ (by omega) (by omega) I3 ?_
    obtain ⟨o, ho, hc, hd⟩ := st'
    exact ⟨o, (Heap.get?_update_other h' _ (Ne.symm nq)).trans ho, hc, hd⟩
/-- room is made by the own length -/
theorem hint_own {a dx : Addr} {fs : List (Str × V)} {Q : Bool → Shared → Prop} (c : Own X.K C "__len__" g) (F : FnR X.prog X.w X.K X.mg X.base CX0 kl g spl) (sb : Sub X (kl + 1) A1) (I : Inv X pins σ H s) (ha : H a = some (.ins C dx fs))
    {n : Nat} (hn : n ≤ sizeLine) (hsp : spl [.ref a] H (fun v H' => ∃ k : Int, v = .int k ∧ (0 ≤ k ∧ k < 2 ^ 63) ∧ k = n ∧ H' = H) El)
    (h : ∀ b s', Inv X pins σ H s' → Q b s') : wpAny (model X.prog X.w) A1 (Builtin.List.listLengthHint (.ref a)) Q X.xe s := by
  obtain ⟨mA, J, _⟩ := ins_get I.hok ha
  obtain ⟨od, J, _⟩ := J.look
  have hK := I.kIn
  unfold Builtin.List.listLengthHint
  refine wpAny_bind (wpAny_bind (J.type.here ((PySem.W.looks_findIn hK c.at_).here ?_)))
  refine PySem.W.KFB.if_not rfl ?_
  refine PySem.W.KFB.if_so rfl ?_
  refine wpAny_bind (wpAny_rule ?_)
  refine wpAny_bind (wpAny_attempt ?_)
  have J0 : Inv X.nox pins σ H s := I.wish _
  have q := call_lenO_at (X := X.nox) (E := El) (Q := fun v H' => v = .int n ∧ H' = H) (A1 := A1) c F (fun _ _ _ _ _ _ _ z => False.elim z) ⟨sb.room, sb.fr⟩ J0 ha (by simpa using hsp)
  refine wpAny_mono q (fun r s' hq => ?_) fun _ _ z => False.elim z
  obtain ⟨v, H', I', rv, rfl, rfl⟩ := hq
  obtain ⟨t, rfl⟩ := rv
  refine wpAny_bind (wpAny_pure ?_)
  refine PySem.W.KFB.if_not (by unfold Builtin.List.listTooLong; simp; omega) ?_
  exact wpAny_pure (h _ _ I'.unwish)
/-- a list's first filling by such a thing -/
theorem extend_own {Rs : Result → Shared → Prop} {a dx : Addr} {fs : List (Str × V)} (o : OwnI X CX C f k P) (hx : Passes CX X E) (c : Own X.K C "__len__" g) (F : FnR X.prog X.w X.K X.mg X.base CX0 kl g spl)
    (sb : Sub X k A1.in1) (sbl : Sub X (kl + 1) A1.in1) (ht : SqT X.K H t xs) (hq : H q = none) (hqn : X.s_0.heap.objs.size ≤ q) (ha : H a = some (.ins C dx fs)) (hP : P a t (upd H q (.lst [])))
    (hsp : ∀ H, (∃ dx fs, H a = some (.ins C dx fs)) → P a t H → spl [.ref a] H (fun v H' => ∃ k : Int, v = .int k ∧ (0 ≤ k ∧ k < 2 ^ 63) ∧ k = xs.length ∧ H' = H) El)
    (hdone : ∀ s, Inv X pins σ (upd H q (.lst xs)) s → Rs (.ok (.ret .none)) s) (herr : ∀ e s, X.xe e s → Rs (.error e) s) (I : Inv X pins σ (upd H q (.lst [])) s) :
    wpAny (model X.prog X.w) A1.in1 (Builtin.List.listExtendWith (.ref q) (.ref a) .none)
      (fun fin s' => match fin with | .done f => Rs (.ok f) s' | .again c' => c'.quiet = true ∧ codeAny (model X.prog X.w) A1 c' Rs s') (fun e s' => Rs (.error e) s') s := by
  have hne : q ≠ a := fun z => by rw [← z, hq] at ha; cases ha
  have ha2 : upd H q (.lst []) a = some (.ins C dx fs) := by rw [upd_ne (Ne.symm hne)]; exact ha
  obtain ⟨mA, J, _⟩ := ins_get I.hok ha2
  obtain ⟨od, J, _⟩ := J.look
  have htq : SqT X.K (upd H q (.lst [])) t xs := SqT.ext ht fun b u z => by
    rw [upd_ne (ne_of_none z hq)]
    exact z
  obtain ⟨_, _, _, hz⟩ := I.tuple htq
  unfold Builtin.List.listExtendWith
  refine wpAny_bind (J.type.here ?_)
  simp only [show Builtin.List.listSameRef (.ref q) (.ref a) = false by simp [Builtin.List.listSameRef, hne], show (Value.ref C == Value.type "list") = false from rfl, show (Value.ref C == Value.type "tuple") = false from rfl, Bool.or_false, Bool.false_eq_true, if_false]
  refine wpAny_bind (wpAny_mono (iter_own (E := E) (Q := fun v s' => ∃ it, v = .ref it ∧ Inv X pins σ (upd H q (.lst [])) s' ∧ s'.heap.IsTupleIter it t 0 ∧ FpOk X pins (upd H q (.lst [])) it) o sb hx I ha2 hP
    fun it s' I' st fp => ⟨it, rfl, I', st, fp⟩) (fun v s' hv => ?_) herr)
  obtain ⟨it, rfl, I', st, fp⟩ := hv
  have I1 := I'.pinned (fp := [it]) (fun b hb => by
    have e : b = it := by simpa using hb
    subst e
    exact fp) (fun b hb => by
    have e : b = it := by simpa using hb
    subst e
    obtain ⟨oo, ho, hc, hd⟩ := st
    exact ⟨oo, ho, fun v z => by rw [hd] at z; cases z⟩)
  refine wpAny_bind (wpAny_holding (hint_own (Q := fun b s2 => Inv X pins σ (upd H q (.lst [])) s2 ∧ s2.heap.IsTupleIter it t 0) c F sbl I1 ha2 hz (hsp _ ⟨_, _, ha2⟩ hP) fun b s2 I2 => ⟨I2.unpinned, by
    obtain ⟨oo, ho, hc, hd⟩ := st
    exact ⟨oo, (I2.pin (it, oo) (List.mem_append_right _ (List.mem_append_right _ (mem_pinsAt (by simp) ho)))).1, hc, hd⟩⟩) |> fun w => wpAny_mono w (fun b s2 h2 => ?_) herr)
  obtain ⟨I2, st2⟩ := h2
  have loop : ∀ s3, Inv X pins σ (upd H q (.lst [])) s3 → s3.heap.IsTupleIter it t 0 → codeAny (model X.prog X.w) A1 (.builtin "list.extend.loop" ⟨[.ref q, .ref it, .none], []⟩) Rs s3 := fun s3 I3 st3 =>
    tup_loop (q := q) sb.room.hd hdone ht hq (fun b hb => by rw [hb]; exact fp) (xs.length - 0) 0 s3 rfl (Nat.zero_le _) I3 st3
  have nq : it ≠ q := fun z => by
    have z2 := fp.1
    rw [z, upd_same] at z2
    cases z2
  obtain ⟨z, its, k2, r3, hl3, e3⟩ := I2.lstM upd_same
  cases r3
  refine wpAny_ite_split (fun _ => ?_) (fun _ => wpAny_pure ⟨plainId_quiet PySem.F.plain_extend_loop _, loop _ I2 st2⟩)
  refine wpAny_bind (wpAny_rule ?_)
  refine wpAny_bind ?_
  show wpAny _ _ (updateSeq q (·.push .none) >>= fun _ => updateSeq q (·.pop)) _ _ _
  refine wpAny_bind (wpAny_updateSeq e3 rfl ?_)
  have I4 := I2.lset (f := (·.push Value.none)) (its' := [Value.none]) (ys := [.non]) (t' := s2.toks) upd_same e3 (by simp) (.cons rfl .nil) (by rw [List.length_singleton, sizeLine_eq]; decide)
  rw [upd_upd] at I4
  obtain ⟨z4, its4, k4, r4, hl4, e4⟩ := I4.lstM upd_same
  obtain ⟨u4, rfl, ru4⟩ := r4.one
  refine wpAny_updateSeq e4 rfl ?_ (by show 1 ≤ sizeLine; rw [sizeLine_eq]; decide) (by show 0 ≤ sizeLine + 1; exact Nat.zero_le _)
  have I5 := I4.lset (f := (·.pop)) (its := [u4]) (its' := []) (ys := []) (t' := s2.toks) upd_same e4 (by rfl) .nil (Nat.zero_le _)
  rw [upd_upd] at I5
  refine wpAny_pure ⟨plainId_quiet PySem.F.plain_extend_loop _, loop _ I5 ?_⟩
  obtain ⟨oo, ho, hc, hd⟩ := st2
  exact ⟨oo, (Heap.get?_update_other _ _ (Ne.symm nq)).trans ((Heap.get?_update_other _ _ (Ne.symm nq)).trans ho), hc, hd⟩
/-- list(o) -/
def rListO (K : PySem.W.Frag) (C : Addr) (P : Addr → Addr → Hp → Prop) (spl : Sp) (El : XK) : List V → Hp → VK → Prop := fun vs H Q => ∃ a dx fs t xs, vs = [V.ref a] ∧ H a = some (.ins C dx fs) ∧ SqT K H t xs ∧
  (∀ q, H q = none → P a t (upd H q (.lst []))) ∧ (∀ H, (∃ dx fs, H a = some (.ins C dx fs)) → P a t H → spl [.ref a] H (fun v H' => ∃ k : Int, v = .int k ∧ (0 ≤ k ∧ k < 2 ^ 63) ∧ k = xs.length ∧ H' = H) El) ∧
  ∀ q, H q = none → Q (.ref q) (upd H q (.lst xs))
theorem call_listO (o : OwnI X CX C f k P) (hx : Passes CX X E) (c : Own X.K C "__len__" g) (F : FnR X.prog X.w X.K X.mg X.base CX0 kl g spl) (hr : Room (k + 2) X.A) (hrl : Room (kl + 3) X.A) : CallR X (.type "list") (rListO X.K C P spl El) := by
  intro pins s σ H vs us Q I rv h
  obtain ⟨a, dx, fs, t, xs, rfl, ha, ht, hP, hsp, hQ⟩ := h
  obtain ⟨u, rfl, ru⟩ := rv.one
  cases ru
  have sb : Sub X k X.A.in1.in1 := Sub.in1 (Sub.in1 (⟨hr, rfl⟩ : Sub X (k + 2) X.A))
  have sbl : Sub X (kl + 1) X.A.in1.in1 := Sub.in1 (Sub.in1 (⟨hrl, rfl⟩ : Sub X (kl + 3) X.A))
  refine callType_codes (Q₁ := fun obj s₁ => obj = .ref s.heap.objs.size ∧ s₁ = { s with heap := s.heap.push { cls := .type "list", data := .seq #[] } }) PySem.F.called_list (PySem.F.typeCall_list_1 _) PySem.F.entry_list_init
    (code_list_new _ ⟨rfl, rfl⟩) fun obj s₁ h₁ => ?_
  obtain ⟨rfl, rfl⟩ := h₁
  have hS : (s.heap.push { cls := .type "list", data := .seq #[] }).get? s.heap.objs.size = some { cls := .type "list", data := .seq #[] } := Heap.get?_push_size _ rfl
  refine ⟨⟨_, hS, rfl⟩, PySem.F.args_list_init_2 _ _, ?_⟩
  have fr : H s.heap.objs.size = none := I.hok.fresh (Nat.le_refl _)
  have I1 : Inv X pins σ (upd H s.heap.objs.size (.lst [])) { s with heap := s.heap.push { cls := .type "list", data := .seq #[] } } := I.lnew (its := []) (t' := s.toks) .nil (Nat.zero_le _)
  show wpAny _ _ (do let old ← Builtin.List.listItems (.ref s.heap.objs.size); Builtin.List.listUpdate (.ref s.heap.objs.size) (fun _ => #[]); letGo old.toList.reverse; Builtin.List.listExtendWith (.ref s.heap.objs.size) (.ref a) .none) _ _ _
  refine wpAny_bind ?_
  unfold Builtin.List.listItems
  refine wpAny_bind (wpAny_seqItems hS rfl (wpAny_pure ?_))
  show wpAny _ _ (updateSeq s.heap.objs.size (fun _ => #[]) >>= fun _ => letGo (#[] : Array Value).toList.reverse >>= fun _ => Builtin.List.listExtendWith (.ref s.heap.objs.size) (.ref a) .none) _ _ _
  refine wpAny_bind (wpAny_updateSeq hS rfl ?_)
  have I2 := I1.lset (f := fun _ => #[]) (its := []) (its' := []) (ys := []) (t' := s.toks) upd_same hS rfl .nil (Nat.zero_le _)
  rw [upd_upd] at I2
  refine wpAny_bind (wpAny_letGo ?_)
  exact extend_own (A1 := X.A.in1) (El := El) (Rs := wants (fun r s₂ => r = .none ∧ EP X pins σ Q (.ref s.heap.objs.size) s₂) X.xe) o hx c F sb sbl ht fr I.sz ha (hP _ fr) hsp
    (fun s' I' => ⟨rfl, .ref s.heap.objs.size, _, I', rfl, hQ _ fr⟩) (fun e s' he => he) I2
end
end DK

/-! len(set(t)) of a tuple of ints; a new instance within a try -/
namespace DK
open PySem PySem.Spec PyProof.Rows L2 StX

theorem mem_len : ∀ (ks ns : List Int), ks.Nodup → (∀ k, k ∈ ks → k ∈ ns) → ks.length ≤ ns.length
  | [], _, _, _ => Nat.zero_le _
  | k :: ks, ns, hn, h => by
    have h1 : k ∈ ns := h k List.mem_cons_self
    have h2 := mem_len ks (ns.erase k) (List.nodup_cons.mp hn).2 fun j hj => (List.mem_erase_of_ne fun e => (List.nodup_cons.mp hn).1 (by rw [← e]; exact hj)).mpr (h j (List.mem_cons_of_mem _ hj))
    rw [List.length_erase_of_mem h1] at h2
    have : 0 < ns.length := List.length_pos_of_mem h1
    simp only [List.length_cons]
    omega
theorem nodup_len {ks ns : List Int} (hk : ks.Nodup) (h : ∀ k, k ∈ ks ↔ k ∈ ns) : ks.length = ns.length ↔ ns.Nodup := by
  refine ⟨fun e => ?_, fun hn => Nat.le_antisymm (mem_len _ _ hk fun k => (h k).mp) (mem_len _ _ hn fun k => (h k).mpr)⟩
  apply Decidable.byContradiction
  intro hn
  have : ∃ k rest, ns.Perm (k :: k :: rest) := by
    clear h e hk
    induction ns with
    | nil => exact absurd List.nodup_nil hn
    | cons a r ih =>
      by_cases ha : a ∈ r
      · exact ⟨a, r.erase a, (List.perm_cons_erase ha).cons a⟩
      · obtain ⟨k, rest, p⟩ := ih fun z => hn (List.nodup_cons.mpr ⟨ha, z⟩)
        exact ⟨k, a :: rest, (p.cons a).trans ((List.Perm.swap k a (k :: rest)).trans ((List.Perm.swap k a rest).cons k))⟩
  obtain ⟨k, rest, p⟩ := this
  have := mem_len ks (k :: rest) hk fun j hj => by
    have := p.mem_iff.mp ((h j).mp hj)
    simpa using this
  have := p.length_eq
  simp only [List.length_cons] at *
  omega
def tLenSetT (K : PySem.W.Frag) (ta : TE) : TE := fun σ H Q => ta σ H fun x H1 => ∃ (l : Addr) (ns : List Int), x = V.ref l ∧ SqT K H1 l (ns.map V.int) ∧ ns.length ≤ 1000 ∧ ∀ c : Nat, (c = ns.length ↔ ns.Nodup) → Q (.int c) H1
theorem pe_lenSetT {X : Cx} {a : Expr} {ta : TE} {p p2 q pos : Pos} (hc : X.calm = true) (hg : Gl X "len") (hm : X.mg "len" = none) (hg2 : Gl X "set") (hm2 : X.mg "set" = none) (ha : PE X a ta)
    (na : starEach [a] X.env = (false, eval a X.env) :: starEach [] X.env := by rfl) : PE X (.Call (.Name "len" p) [.Call (.Name "set" p2) [a] [] q] [] pos) (tLenSetT X.K ta) := by
  refine ⟨fun pins s σ H Q I h => ?_⟩
  refine Call_ (ld_blt I hg hm PySem.boot_len ?_)
  refine PyProof.Rows.callWith_builtin1 (PyProof.Rows.args_cons ?_ rfl) rfl rfl
  refine Call_ (ld_blt I hg2 hm2 PyProof.Rows.boot_set ?_)
  refine PyProof.Rows.callWith_type1 (PyProof.Rows.args_cons (thn (ha.run pins s σ H _ I h) fun v s1 ⟨x, H1, I1, r1, l, ns, ex, hq, hl, q1⟩ => PyProof.Rows.args_nil ?_) na) na rfl
  subst ex
  cases r1
  obtain ⟨its, rv, pt, hz⟩ := I1.tuple hq
  refine call_set_tupI ns (I1.ok.hd hc) (show s1.heap.IsTuple l its.toArray from pt) (ints_of_vals rv) (by unfold scanBound; omega) fun h' tk c R1 hcn k => ?_
  obtain ⟨o, es, ep, t, ho, hex, hdt, g, nd, hm3, hb, hf, hn, hr, hl2⟩ := R1
  have I2 : Inv X pins σ H1 { s1 with heap := h', toks := tk } := I1.kept k
  refine PyProof.Rows.args_nil ?_
  have hsz : (es.toList.map keyOf).length = es.size := by simp
  have key := nodup_len (ns := ns) nd fun j => (hm3 j).symm.trans (by simp)
  rw [hsz] at key
  have small : es.size ≤ ns.length := by omega
  exact call_len_set ho hex hdt hf (by omega) ⟨.int es.size, H1, I2.tok _, ⟨_, rfl⟩, q1 _ key⟩
/-- C(e, ..) where what is raised is wished for at the maker's slots -/
def tMakeS (C : Addr) (sp : Sp) (E : L2.St → XK) (t : TA) : TE := fun σ H Q => t σ H fun vs H1 => ∀ x dx, H1 x = Option.none → H1 dx = Option.none → dx ≠ x →
  sp (V.ref x :: vs) (upd (upd H1 dx (.own x)) x (.ins C dx [])) (fun v H2 => v = .non ∧ Q (.ref x) H2) (E σ)
section
variable {X : Cx} {CX : CXT} {k : Nat} {f C : Addr} {sp : Sp} {E : L2.St → XK} {x : Str} {e : Expr} {es : List Expr} {t : TA} {p pos : Pos}
theorem pe_makeS (M : Mk X.K C f) (F : FnR X.prog X.w X.K X.mg X.base CX k f sp) (hr : Room (k + 1) X.A) (hg : Gl X x) (hm : X.mg x = some (.ref C)) (hx : ∀ σ, PassesAt CX X σ (E σ)) (ha : PA X (e :: es) t) (hdb : (x == ("__debug__" : Str)) = false := by decide)
    (he : starEach (e :: es) X.env = (false, eval e X.env) :: starEach es X.env := by rfl) (hpl : (backTo pos (starEach es X.env)).any (·.1) = false := by rfl) : PE X (.Call (.Name x p) (e :: es) [] pos) (tMakeS C sp E t) := by
  refine ⟨fun pins s σ H Q I h => ?_⟩
  refine wpAny_Call_Name_kw (ld_glob I hg hm ?_ hdb)
  refine PySem.W.callWith_K (h₀ := X.base) I.ok.mod.kin M.kp (thn (ha.run pos pins s σ H _ I h) fun us s1 ⟨vs, H1, I1, r, h1⟩ => ⟨I1.kIn, ?_⟩) he hpl
  have hq := h1 (s1.heap.objs.size + 1) s1.heap.objs.size (I1.hok.fresh (Nat.le_succ _)) (I1.hok.fresh (Nat.le_refl _)) (Nat.ne_of_lt (Nat.lt_succ_self _))
  have I2 := Inv.made (C := C) I1
  have r2 : Vals (V.ref (s1.heap.objs.size + 1) :: vs) (Value.ref (s1.heap.objs.size + 1) :: us) := .cons rfl r
  refine wpAny_call (make_map (f := f) I1.kIn M.makes M.init (beq_iff_eq.mp M.fn) (codeAny_mono (F _ X.stack _ _ (Value.ref (s1.heap.objs.size + 1) :: us) _ _ (E σ) (hr.make C us []) (I2.env0.make C us []) r2 hq) fun r s' hq' => ?_))
  cases r with
  | error e => exact hx σ pins _ _ e s' I2 hq'
  | ok fl =>
    cases fl with
    | ret u =>
      obtain ⟨v, H', I3, rv, ev, q3⟩ := I2.after hq'
      subst ev
      exact ⟨rv, ⟨V.ref (s1.heap.objs.size + 1), H', I3, rfl, q3⟩⟩
    | next => exact False.elim hq'
    | brk => exact False.elim hq'
    | cont => exact False.elim hq'
end
end DK

namespace PT
/-! things laid from an address, in natural numbers -/
def alN (e a : Nat) : Nat := (e + a - 1) / a * a
def lb (e : Nat) (t : Nat × Nat) : Nat := alN e t.2 + t.1
def numsN (m n : Nat) : List Nat := (List.range n).filter fun k => m / 2 ^ k % 2 == 1
theorem alN_mono {e e' a : Nat} (h : e ≤ e') : alN e a ≤ alN e' a := Nat.mul_le_mul_right _ (Nat.div_le_div_right (by omega))
theorem lb_mono {e e' : Nat} {t : Nat × Nat} (h : e ≤ e') : lb e t ≤ lb e' t := Nat.add_le_add_right (alN_mono h) _
/-! the least of a list -/
def minL : List Nat → Nat
  | [] => 0
  | [x] => x
  | x :: y :: r => min x (minL (y :: r))
theorem minL_le : ∀ {l : List Nat} {x : Nat}, x ∈ l → minL l ≤ x
  | [y], x, h => by rw [List.mem_singleton.mp h]; exact Nat.le_refl _
  | y :: z :: r, x, h => by
    show min y (minL (z :: r)) ≤ x
    rcases List.mem_cons.mp h with e | e
    · rw [e]; exact Nat.min_le_left _ _
    · exact Nat.le_trans (Nat.min_le_right _ _) (minL_le e)
theorem minL_mem : ∀ {l : List Nat}, l ≠ [] → minL l ∈ l
  | [], h => absurd rfl h
  | [y], _ => List.mem_cons_self
  | y :: z :: r, _ => by
    show min y (minL (z :: r)) ∈ _
    rcases Nat.le_total y (minL (z :: r)) with e | e
    · rw [Nat.min_eq_left e]; exact List.mem_cons_self
    · rw [Nat.min_eq_right e]; exact List.mem_cons_of_mem _ (minL_mem (by simp))
def th (ths : List (Nat × Nat)) (k : Nat) : Nat × Nat := ths.getD k (0, 1)
def endf (ths : List (Nat × Nat)) (s : Nat) (o : List Nat) : Nat := o.foldl (fun e k => lb e (th ths k)) s
/-- the least end of a set by its last thing -/
def Tn (ths : List (Nat × Nat)) (s : Nat) : Nat → List Nat → Nat
  | 0, _ => s
  | f + 1, ns => minL (ns.map fun k => lb (Tn ths s f (ns.erase k)) (th ths k))
def TT (ths : List (Nat × Nat)) (s : Nat) (ns : List Nat) : Nat := Tn ths s ns.length ns
section
variable {ths : List (Nat × Nat)} {s : Nat}
theorem endf_snoc {o : List Nat} {x : Nat} : endf ths s (o ++ [x]) = lb (endf ths s o) (th ths x) := by
  unfold endf
  rw [List.foldl_append]
  rfl
theorem TT_nil : TT ths s [] = s := rfl
theorem TT_ne {ns : List Nat} (h : ns ≠ []) : TT ths s ns = minL (ns.map fun k => lb (TT ths s (ns.erase k)) (th ths k)) := by
  unfold TT
  obtain ⟨f, hf⟩ : ∃ f, ns.length = f + 1 := ⟨ns.length - 1, by have := List.length_pos_iff.mpr h; omega⟩
  rw [hf]
  show minL _ = _
  congr 1
  apply List.map_congr_left
  intro k hk
  rw [List.length_erase_of_mem hk, hf]
  rfl
theorem TT_le0 : ∀ (f : Nat) {o ns : List Nat}, o.length = f → o.Perm ns → TT ths s ns ≤ endf ths s o
  | 0, o, ns, hl, h => by
    rw [List.length_eq_zero_iff.mp hl] at h ⊢
    rw [List.nil_perm.mp h]
    exact Nat.le_refl _
  | f + 1, o, ns, hl, h => by
    have ho : o ≠ [] := fun z => by rw [z] at hl; cases hl
    have hd := List.dropLast_concat_getLast ho
    have hdl : o.dropLast.length = f := by rw [List.length_dropLast, hl]; rfl
    rw [← hd] at h ⊢
    generalize o.dropLast = o' at h hdl ⊢
    generalize o.getLast ho = x at h ⊢
    have hx : x ∈ ns := h.mem_iff.mp (by simp)
    have hne : ns ≠ [] := fun z => by rw [z] at hx; cases hx
    rw [TT_ne hne, endf_snoc]
    have h2 : o'.Perm (ns.erase x) := by
      have h3 : (x :: o').Perm ns := (List.perm_append_singleton x o').symm.trans h
      have h4 := h3.erase x
      rwa [List.erase_cons_head] at h4
    exact Nat.le_trans (minL_le (List.mem_map.mpr ⟨x, hx, rfl⟩)) (lb_mono (TT_le0 f hdl h2))
theorem TT_le {o ns : List Nat} (h : o.Perm ns) : TT ths s ns ≤ endf ths s o := TT_le0 _ rfl h
theorem flat_congr {α β : Type} {f g : α → List β} {l : List α} (h : ∀ x ∈ l, f x = g x) : l.flatMap f = l.flatMap g := by
  rw [List.flatMap_def, List.flatMap_def, List.map_congr_left h]
theorem TT_ach : ∀ (f : Nat) (ns : List Nat), ns.length = f → ∃ o : List Nat, o.Perm ns ∧ endf ths s o = TT ths s ns
  | 0, ns, h => ⟨[], by rw [List.length_eq_zero_iff.mp h], by rw [List.length_eq_zero_iff.mp h]; rfl⟩
  | f + 1, ns, h => by
    have hne : ns ≠ [] := fun z => by rw [z] at h; cases h
    have hm := minL_mem (l := ns.map fun k => lb (TT ths s (ns.erase k)) (th ths k)) (by simpa using hne)
    obtain ⟨x, hx, e⟩ := List.mem_map.mp hm
    obtain ⟨o, ho, e2⟩ := TT_ach f (ns.erase x) (by rw [List.length_erase_of_mem hx, h]; rfl)
    refine ⟨o ++ [x], ?_, ?_⟩
    · exact ((List.perm_append_singleton x o).trans (ho.cons x)).trans (List.perm_cons_erase hx).symm
    · rw [endf_snoc, e2, TT_ne hne]
      exact e
/-! the orders of a set, the least first -/
def kp : Nat → List Nat → List (List Nat)
  | 0, _ => [[]]
  | f + 1, ns => ns.flatMap fun x => (kp f (ns.erase x)).map (x :: ·)
theorem kp_perm : ∀ (f : Nat) {ns o : List Nat}, ns.length = f → (o ∈ kp f ns ↔ o.Perm ns)
  | 0, ns, o, h => by
    rw [List.length_eq_zero_iff.mp h]
    show o ∈ [[]] ↔ _
    rw [List.mem_singleton, List.perm_nil]
  | f + 1, ns, o, h => by
    show o ∈ ns.flatMap _ ↔ _
    rw [List.mem_flatMap]
    constructor
    · rintro ⟨x, hx, ho⟩
      obtain ⟨o', ho', rfl⟩ := List.mem_map.mp ho
      have := (kp_perm f (by rw [List.length_erase_of_mem hx, h]; rfl)).mp ho'
      exact (this.cons x).trans (List.perm_cons_erase hx).symm
    · intro hp
      cases o with
      | nil => rw [List.nil_perm.mp hp] at h; cases h
      | cons x o' =>
        have hx : x ∈ ns := hp.mem_iff.mp List.mem_cons_self
        refine ⟨x, hx, List.mem_map.mpr ⟨o', (kp_perm f (by rw [List.length_erase_of_mem hx, h]; rfl)).mpr ?_, rfl⟩⟩
        have h4 := hp.erase x
        rwa [List.erase_cons_head] at h4
/-- the first of the least orders -/
def fo (ths : List (Nat × Nat)) : Nat → Nat → List Nat → List Nat
  | 0, _, _ => []
  | f + 1, s, ns => match ns.find? fun x => TT ths (lb s (th ths x)) (ns.erase x) == TT ths s ns with
    | some x => x :: fo ths f (lb s (th ths x)) (ns.erase x)
    | none => []
theorem find_flat {α : Type} {β : Type} {p : β → Bool} {g : α → List β} : ∀ l : List α, (l.flatMap g).find? p = l.findSome? fun x => (g x).find? p
  | [] => rfl
  | x :: r => by
    rw [List.flatMap_cons, List.find?_append, find_flat r]
    show _ = (match (g x).find? p with | some b => some b | none => _)
    cases (g x).find? p <;> rfl
theorem TT_first {ns : List Nat} (hne : ns ≠ []) : ∃ x ∈ ns, TT ths (lb s (th ths x)) (ns.erase x) = TT ths s ns := by
  obtain ⟨o, ho, e⟩ := TT_ach (ths := ths) (s := s) ns.length ns rfl
  cases o with
  | nil => exact absurd (List.nil_perm.mp ho) hne
  | cons x o' =>
    have hx : x ∈ ns := ho.mem_iff.mp List.mem_cons_self
    have h4 := ho.erase x
    rw [List.erase_cons_head] at h4
    have h5 : TT ths (lb s (th ths x)) (ns.erase x) ≤ endf ths (lb s (th ths x)) o' := TT_le h4
    obtain ⟨o2, ho2, e2⟩ := TT_ach (ths := ths) (s := lb s (th ths x)) _ (ns.erase x) rfl
    have h6 : TT ths s ns ≤ endf ths s (x :: o2) := TT_le ((ho2.cons x).trans (List.perm_cons_erase hx).symm)
    refine ⟨x, hx, ?_⟩
    have h7 : endf ths s (x :: o2) = endf ths (lb s (th ths x)) o2 := rfl
    have h8 : endf ths s (x :: o') = endf ths (lb s (th ths x)) o' := rfl
    omega
theorem fo_first : ∀ (f : Nat) (s : Nat) (ns : List Nat), ns.length = f → (kp f ns).find? (fun o => endf ths s o == TT ths s ns) = some (fo ths f s ns)
  | 0, s, ns, h => by
    rw [List.length_eq_zero_iff.mp h]
    simp [kp, endf, TT, Tn, fo]
  | f + 1, s, ns, h => by
    have hne : ns ≠ [] := fun z => by rw [z] at h; cases h
    show (ns.flatMap _).find? _ = _
    rw [find_flat]
    have blk : ∀ x ∈ ns, ((kp f (ns.erase x)).map (x :: ·)).find? (fun o => endf ths s o == TT ths s ns) = if TT ths (lb s (th ths x)) (ns.erase x) == TT ths s ns then some (x :: fo ths f (lb s (th ths x)) (ns.erase x)) else none := fun x hx => by
      have hl : (ns.erase x).length = f := by rw [List.length_erase_of_mem hx, h]; rfl
      rw [List.find?_map]
      have e0 : ((fun o => endf ths s o == TT ths s ns) ∘ fun o => x :: o) = fun o => endf ths (lb s (th ths x)) o == TT ths s ns := rfl
      rw [e0]
      by_cases c : TT ths (lb s (th ths x)) (ns.erase x) = TT ths s ns
      · rw [← c, fo_first f _ _ hl, if_pos (beq_self_eq_true _)]
        rfl
      · rw [if_neg (fun z => c (eq_of_beq z))]
        rw [List.find?_eq_none.mpr]
        · rfl
        · intro o ho z
          have hp := (kp_perm f hl).mp ho
          have h1 : TT ths (lb s (th ths x)) (ns.erase x) ≤ endf ths (lb s (th ths x)) o := TT_le hp
          obtain ⟨o2, ho2, e2⟩ := TT_ach (ths := ths) (s := lb s (th ths x)) _ (ns.erase x) rfl
          have h6 : TT ths s ns ≤ endf ths s (x :: o2) := TT_le ((ho2.cons x).trans (List.perm_cons_erase hx).symm)
          have h7 : endf ths s (x :: o2) = endf ths (lb s (th ths x)) o2 := rfl
          have := eq_of_beq z
          omega
    obtain ⟨x0, hx0, hc0⟩ := TT_first (ths := ths) (s := s) hne
    have gen : ∀ l : List Nat, (∀ x ∈ l, x ∈ ns) → (l.findSome? fun x => ((kp f (ns.erase x)).map (x :: ·)).find? (fun o => endf ths s o == TT ths s ns)) = (l.find? fun x => TT ths (lb s (th ths x)) (ns.erase x) == TT ths s ns).map fun x => x :: fo ths f (lb s (th ths x)) (ns.erase x) := fun l => by
      induction l with
      | nil => intro _; rfl
      | cons x r ih =>
        intro hl
        rw [List.findSome?_cons, blk x (hl x List.mem_cons_self), List.find?_cons]
        cases c : (TT ths (lb s (th ths x)) (ns.erase x) == TT ths s ns) with
        | true => rfl
        | false => exact ih fun y hy => hl y (List.mem_cons_of_mem _ hy)
    rw [gen ns fun _ z => z]
    show _ = some (match ns.find? fun x => TT ths (lb s (th ths x)) (ns.erase x) == TT ths s ns with
      | some x => x :: fo ths f (lb s (th ths x)) (ns.erase x)
      | none => [])
    cases hfd : ns.find? fun x => TT ths (lb s (th ths x)) (ns.erase x) == TT ths s ns with
    | some x => rfl
    | none =>
      have := List.find?_eq_none.mp hfd x0 hx0
      rw [hc0] at this
      exact absurd (beq_self_eq_true _) this
/-! the law's orders, place by place -/
def ext (ns o : List Nat) : List (List Nat) := (ns.filter fun y => !(o.contains y)).map fun y => o ++ [y]
theorem kp_ext : ∀ (f : Nat) {ns : List Nat}, ns.Nodup → (kp f ns).flatMap (ext ns) = kp (f + 1) ns
  | 0, ns, h => by
    show ext ns [] ++ [] = ns.flatMap fun x => [[x]]
    rw [List.append_nil]
    unfold ext
    have e : ns.filter (fun y => !(([] : List Nat).contains y)) = ns := List.filter_eq_self.mpr fun a _ => rfl
    rw [e]
    clear e
    induction ns with
    | nil => rfl
    | cons x r ih =>
      rw [List.map_cons, List.flatMap_cons, ih (List.nodup_cons.mp h).2]
      rfl
  | f + 1, ns, h => by
    show (ns.flatMap fun x => (kp f (ns.erase x)).map (x :: ·)).flatMap (ext ns) = ns.flatMap fun x => (kp (f + 1) (ns.erase x)).map (x :: ·)
    rw [List.flatMap_assoc]
    apply flat_congr
    intro x hx
    rw [← kp_ext f (h.erase x), List.flatMap_map, List.map_flatMap]
    apply flat_congr
    intro o _
    unfold ext
    rw [List.map_map, h.erase_eq_filter, List.filter_filter]
    have e1 : (ns.filter fun y => !((x :: o).contains y)) = ns.filter fun y => (!(o.contains y) && (y != x)) := by
      apply List.filter_congr
      intro y _
      rw [List.contains_cons, Bool.not_or, Bool.and_comm]
      rfl
    rw [e1]
    rfl
/-! the law's choice among the orders -/
def stepO (ths : List (Nat × Nat)) (s : Nat) (b : Int × List Nat) (o : List Nat) : Int × List Nat := if b.1 < 0 ∨ (endf ths s o : Int) < b.1 then ((endf ths s o : Int), o) else b
theorem fold_stay {t : Nat} {o0 : List Nat} : ∀ l : List (List Nat), (∀ o ∈ l, t ≤ endf ths s o) → l.foldl (stepO ths s) ((t : Int), o0) = ((t : Int), o0)
  | [], _ => rfl
  | x :: r, h => by
    have hx := h x List.mem_cons_self
    rw [List.foldl_cons]
    unfold stepO
    rw [if_neg (by show ¬ ((t : Int) < 0 ∨ ((endf ths s x : Nat) : Int) < (t : Int)); omega)]
    exact fold_stay r fun o ho => h o (List.mem_cons_of_mem _ ho)
theorem fold_first {t : Nat} {o0 : List Nat} : ∀ (l : List (List Nat)) (b : Int) (a : List Nat), (∀ o ∈ l, t ≤ endf ths s o) → l.find? (fun o => endf ths s o == t) = some o0 → (b < 0 ∨ (t : Int) < b) → l.foldl (stepO ths s) (b, a) = ((t : Int), o0)
  | [], _, _, _, h, _ => by cases h
  | x :: r, b, a, h, hf, hb => by
    have hx := h x List.mem_cons_self
    rw [List.find?_cons] at hf
    rw [List.foldl_cons]
    by_cases c : endf ths s x = t
    · rw [c, beq_self_eq_true] at hf
      cases hf
      unfold stepO
      rw [if_pos (by show b < 0 ∨ ((endf ths s o0 : Nat) : Int) < b; omega), c]
      exact fold_stay r fun o ho => h o (List.mem_cons_of_mem _ ho)
    · rw [beq_false_of_ne c] at hf
      unfold stepO
      by_cases d : b < 0 ∨ ((endf ths s x : Nat) : Int) < b
      · rw [if_pos d]
        exact fold_first r _ _ (fun o ho => h o (List.mem_cons_of_mem _ ho)) hf (.inr (by omega))
      · rw [if_neg d]
        exact fold_first r _ _ (fun o ho => h o (List.mem_cons_of_mem _ ho)) hf hb
theorem fold_due {ns : List Nat} : (kp ns.length ns).foldl (stepO ths s) ((-1 : Int), []) = ((TT ths s ns : Int), fo ths ns.length s ns) :=
  fold_first _ _ _ (fun o ho => TT_le ((kp_perm ns.length rfl).mp ho)) (fo_first ns.length s ns rfl) (.inl (by decide))
end
/-! sets as numbers -/
theorem bit_off {m k j : Nat} (h : m / 2 ^ k % 2 = 1) : (m - 2 ^ k) / 2 ^ j % 2 = if j = k then 0 else m / 2 ^ j % 2 := by
  have pk : 0 < 2 ^ k := Nat.two_pow_pos k
  have pj : 0 < 2 ^ j := Nat.two_pow_pos j
  have base : ∀ a : Nat, (m - 2 ^ k) / 2 ^ k = m / 2 ^ k - 1 := fun _ => by
    have := Nat.sub_mul_div m (2 ^ k) 1
    rwa [Nat.mul_one] at this
  rcases Nat.lt_trichotomy j k with z | z | z
  · rw [if_neg (by omega)]
    obtain ⟨d, rfl⟩ : ∃ d, k = j + (d + 1) := ⟨k - j - 1, by omega⟩
    have e1 : (m - 2 ^ (j + (d + 1))) / 2 ^ j = m / 2 ^ j - 2 ^ (d + 1) := by
      rw [Nat.pow_add]
      exact Nat.sub_mul_div m (2 ^ j) (2 ^ (d + 1))
    have e2 : m / 2 ^ (j + (d + 1)) = m / 2 ^ j / 2 ^ (d + 1) := by rw [Nat.pow_add, Nat.div_div_eq_div_mul]
    rw [e2] at h
    rw [e1]
    have e3 : 2 ^ (d + 1) = 2 * 2 ^ d := by rw [Nat.pow_succ, Nat.mul_comm]
    have e4 : 2 ^ (d + 1) ≤ m / 2 ^ j := by
      rcases Nat.lt_or_ge (m / 2 ^ j) (2 ^ (d + 1)) with y | y
      · rw [Nat.div_eq_of_lt y] at h
        cases h
      · exact y
    rw [e3] at e4 ⊢
    omega
  · subst z
    rw [if_pos rfl, base 0]
    omega
  · rw [if_neg (by omega)]
    obtain ⟨d, rfl⟩ : ∃ d, j = k + (d + 1) := ⟨j - k - 1, by omega⟩
    have e1 : ∀ x : Nat, x / 2 ^ (k + (d + 1)) = x / 2 ^ k / 2 / 2 ^ d := fun x => by rw [Nat.pow_add, ← Nat.div_div_eq_div_mul, Nat.pow_succ, Nat.mul_comm, ← Nat.div_div_eq_div_mul]
    rw [e1, e1, base 0]
    have odd : ∀ a : Nat, a % 2 = 1 → (a - 1) / 2 = a / 2 := fun a y => by omega
    rw [odd _ h]
theorem numsN_off {m k n : Nat} (hk : k ∈ numsN m n) : numsN (m - 2 ^ k) n = (numsN m n).erase k := by
  have hb := (List.mem_filter.mp hk).2
  have hb : m / 2 ^ k % 2 = 1 := eq_of_beq hb
  have hnd : (numsN m n).Nodup := List.nodup_range.filter _
  rw [hnd.erase_eq_filter]
  unfold numsN
  rw [List.filter_filter]
  apply List.filter_congr
  intro j _
  rw [bit_off hb]
  by_cases z : j = k
  · rw [if_pos z, z]
    simp
  · rw [if_neg z]
    simp [z]
theorem numsN_zero (n : Nat) : numsN 0 n = [] := by
  unfold numsN
  rw [List.filter_eq_nil_iff]
  intro k _
  rw [Nat.zero_div]
  decide
theorem pow_le_of {m k n : Nat} (hk : k ∈ numsN m n) : 2 ^ k ≤ m := by
  have hb := (List.mem_filter.mp hk).2
  have hb : m / 2 ^ k % 2 = 1 := eq_of_beq hb
  rcases Nat.lt_or_ge m (2 ^ k) with y | y
  · rw [Nat.div_eq_of_lt y] at hb
    cases hb
  · exact y
theorem numsN_ne {n : Nat} : ∀ {m : Nat}, 0 < m → m < 2 ^ n → numsN m n ≠ [] := fun {m} h0 h1 z => by
  have hz : ∀ k, k < n → m / 2 ^ k % 2 = 0 := fun k hk => by
    have := List.filter_eq_nil_iff.mp z k (List.mem_range.mpr hk)
    have h3 : ¬ m / 2 ^ k % 2 = 1 := fun y => this (by rw [y]; rfl)
    omega
  have : ∀ j, j ≤ n → m % 2 ^ j = 0 := fun j => by
    induction j with
    | zero => intro _; rw [Nat.pow_zero, Nat.mod_one]
    | succ j ih =>
      intro hj
      have h2 := ih (by omega)
      have h3 := hz j (by omega)
      rw [Nat.pow_succ, Nat.mod_mul, h2, h3, Nat.mul_zero]
  have h2 := this n (Nat.le_refl _)
  rw [Nat.mod_eq_of_lt h1] at h2
  omega
/-- the table of ends as a list -/
def lbm (ths : List (Nat × Nat)) (es : List Nat) (m : Nat) : Nat := minL ((numsN m ths.length).map fun k => lb (es.getD (m - 2 ^ k) 0) (th ths k))
def tabT (ths : List (Nat × Nat)) (s j : Nat) : List Nat := (List.range (j + 1)).map fun m => TT ths s (numsN m ths.length)
theorem tab_get {ths : List (Nat × Nat)} {s j m : Nat} (h : m ≤ j) : (tabT ths s j).getD m 0 = TT ths s (numsN m ths.length) := by
  unfold tabT
  rw [List.getD_eq_getElem?_getD, List.getElem?_map, List.getElem?_range (by omega)]
  rfl
theorem tab_next {ths : List (Nat × Nat)} {s j : Nat} {es : List Nat} (he : ∀ m, m ≤ j → es.getD m 0 = TT ths s (numsN m ths.length)) (h : j + 1 < 2 ^ ths.length) : lbm ths es (j + 1) = TT ths s (numsN (j + 1) ths.length) := by
  rw [TT_ne (numsN_ne (Nat.succ_pos j) h)]
  unfold lbm
  congr 1
  apply List.map_congr_left
  intro k hk
  have h2 := pow_le_of hk
  have h3 : 0 < 2 ^ k := Nat.two_pow_pos k
  rw [he _ (by omega), numsN_off hk]
theorem tab_snoc (ths : List (Nat × Nat)) (s j : Nat) : tabT ths s (j + 1) = tabT ths s j ++ [TT ths s (numsN (j + 1) ths.length)] := by
  unfold tabT
  rw [List.range_succ, List.map_append]
  rfl
theorem tab_zero (ths : List (Nat × Nat)) (s : Nat) : tabT ths s 0 = [s] := by
  unfold tabT
  show [TT ths s (numsN 0 ths.length)] = [s]
  rw [numsN_zero]
  rfl
end PT

namespace PT
/-! ### the first of the cheapest -/
def lsB {α : Type} (c : α → Nat) (x : α) : Option α → Prop
  | none => True
  | some y => c x < c y
instance {α : Type} (c : α → Nat) (x : α) (b : Option α) : Decidable (lsB c x b) := by cases b <;> (unfold lsB; infer_instance)
def stepS {α : Type} (p : α → Bool) (c : α → Nat) (b : Option α) (x : α) : Option α := if p x = true ∧ lsB c x b then some x else b
theorem gL {α : Type} {a b : List α} {i : Nat} {d : α} (h : i < a.length) : (a ++ b).getD i d = a.getD i d := by
  rw [List.getD_eq_getElem?_getD, List.getD_eq_getElem?_getD, List.getElem?_append_left h]
theorem gR {α : Type} {a b : List α} {i : Nat} {d : α} (h : a.length ≤ i) : (a ++ b).getD i d = b.getD (i - a.length) d := by
  rw [List.getD_eq_getElem?_getD, List.getD_eq_getElem?_getD, List.getElem?_append_right h]
structure Fst {α : Type} (l : List α) (x : α) (c : α → Nat) : Prop where
  split : ∃ pre post, l = pre ++ x :: post ∧ ∀ y ∈ pre, c x < c y
  least : ∀ y ∈ l, c x ≤ c y
theorem fold_keep {α : Type} {p : α → Bool} {c : α → Nat} : ∀ (l : List α) (b : Option α), (∀ y ∈ l, p y = true → ∃ z, b = some z ∧ c z ≤ c y) → l.foldl (stepS p c) b = b
  | [], _, _ => rfl
  | y :: r, b, h => by
    have e : stepS p c b y = b := by
      unfold stepS
      by_cases hp : p y = true
      · obtain ⟨z, rfl, hz⟩ := h y List.mem_cons_self hp
        rw [if_neg (fun q => absurd (show c y < c z from q.2) (by omega))]
      · rw [if_neg (fun q => hp q.1)]
    rw [List.foldl_cons, e]
    exact fold_keep r b fun y hy => h y (List.mem_cons_of_mem _ hy)
/-- what stands ahead of the first one is dearer -/
theorem fold_pre {α : Type} {p : α → Bool} {c : α → Nat} {x : α} : ∀ (l : List α) (b : Option α), (∀ y ∈ l, c x < c y) → lsB c x b → lsB c x (l.foldl (stepS p c) b)
  | [], _, _, hb => hb
  | y :: r, b, h, hb => by
    rw [List.foldl_cons]
    refine fold_pre r _ (fun z hz => h z (List.mem_cons_of_mem _ hz)) ?_
    unfold stepS
    split
    · exact h y List.mem_cons_self
    · exact hb
theorem fold_group {α : Type} {p : α → Bool} {c : α → Nat} {l : List α} {x : α} (f : Fst l x c) (hp : ∀ y ∈ l, p y = true → p x = true) (b : Option α) : l.foldl (stepS p c) b = stepS p c b x := by
  by_cases hx : p x = true
  · by_cases hb : lsB c x b
    · obtain ⟨pre, post, e, hpre⟩ := f.split
      have h1 := fold_pre (p := p) pre b hpre hb
      have e1 : stepS p c b x = some x := by
        unfold stepS
        rw [if_pos ⟨hx, hb⟩]
      rw [e, List.foldl_append, List.foldl_cons, e1]
      have e2 : stepS p c (pre.foldl (stepS p c) b) x = some x := by
        unfold stepS
        rw [if_pos ⟨hx, h1⟩]
      rw [e2]
      refine fold_keep _ _ fun y hy _ => ⟨x, rfl, f.least y ?_⟩
      rw [e]
      exact List.mem_append_right _ (List.mem_cons_of_mem _ hy)
    · cases b with
      | none => exact absurd trivial hb
      | some z =>
        have hz : c z ≤ c x := Nat.le_of_not_lt hb
        have e1 : stepS p c (some z) x = some z := by
          unfold stepS
          rw [if_neg (fun q => hb q.2)]
        rw [e1]
        exact fold_keep _ _ fun y hy _ => ⟨z, rfl, Nat.le_trans hz (f.least y hy)⟩
  · have e1 : stepS p c b x = b := by
      unfold stepS
      rw [if_neg (fun q => hx q.1)]
    rw [e1]
    exact fold_keep _ _ fun y hy h => absurd (hp y hy h) hx
theorem foldl_flat {α β γ : Type} (f : γ → β → γ) (g : α → List β) : ∀ (l : List α) (b : γ), (l.flatMap g).foldl f b = l.foldl (fun b x => (g x).foldl f b) b
  | [], _ => rfl
  | x :: r, b => by
    rw [List.flatMap_cons, List.foldl_append, List.foldl_cons]
    exact foldl_flat f g r _
/-- of all groups the first of the cheapest: that of the groups' first ones -/
theorem fold_groups {α β : Type} {p : β → Bool} {c : β → Nat} {g : α → List β} {h : α → β} : ∀ (l : List α) (b : Option β), (∀ x ∈ l, Fst (g x) (h x) c ∧ ∀ y ∈ g x, p y = true → p (h x) = true) → (l.flatMap g).foldl (stepS p c) b = (l.map h).foldl (stepS p c) b
  | [], _, _ => rfl
  | x :: r, b, hh => by
    rw [List.flatMap_cons, List.foldl_append, List.map_cons, List.foldl_cons, fold_group (hh x List.mem_cons_self).1 (hh x List.mem_cons_self).2 b]
    exact fold_groups r _ fun y hy => hh y (List.mem_cons_of_mem _ hy)
/-- products: a row and one more -/
theorem Fst.prod {α β : Type} {rows : List (List α)} {r : List α} {c c2 : List α → Nat} {os : List α} {o : α} {e : α → Nat} (f1 : Fst rows r c) (f2 : Fst os o e) (hc : ∀ r ∈ rows, ∀ o ∈ os, c2 (r ++ [o]) = c r + e o) : Fst (rows.flatMap fun r => os.map fun o => r ++ [o]) (r ++ [o]) c2 := by
  obtain ⟨p1, q1, e1, h1⟩ := f1.split
  obtain ⟨p2, q2, e2, h2⟩ := f2.split
  have hr : r ∈ rows := by rw [e1]; exact List.mem_append_right _ List.mem_cons_self
  have ho : o ∈ os := by rw [e2]; exact List.mem_append_right _ List.mem_cons_self
  refine ⟨⟨(p1.flatMap fun r => os.map fun o => r ++ [o]) ++ p2.map (fun o => r ++ [o]), q2.map (fun o => r ++ [o]) ++ q1.flatMap fun r => os.map fun o => r ++ [o], ?_, fun y hy => ?_⟩, fun y hy => ?_⟩
  · conv => lhs; rw [e1]
    rw [List.flatMap_append, List.flatMap_cons]
    conv => lhs; rhs; lhs; rw [e2]
    rw [List.map_append, List.map_cons]
    simp only [List.append_assoc, List.cons_append]
  · rw [hc r hr o ho]
    rcases List.mem_append.mp hy with hy | hy
    · obtain ⟨r', hr', hy⟩ := List.mem_flatMap.mp hy
      obtain ⟨o', ho', rfl⟩ := List.mem_map.mp hy
      rw [hc r' (by rw [e1]; exact List.mem_append_left _ hr') o' ho']
      have := h1 r' hr'
      have := f2.least o' ho'
      omega
    · obtain ⟨o', ho', rfl⟩ := List.mem_map.mp hy
      rw [hc r hr o' (by rw [e2]; exact List.mem_append_left _ ho')]
      have := h2 o' ho'
      omega
  · obtain ⟨r', hr', hy⟩ := List.mem_flatMap.mp hy
    obtain ⟨o', ho', rfl⟩ := List.mem_map.mp hy
    rw [hc r hr o ho, hc r' hr' o' ho']
    have := f1.least r' hr'
    have := f2.least o' ho'
    omega
/-! ### dealings, orders of rooms -/
def dls (chs : List (List Nat)) : List (List Nat) := chs.foldl (fun rows ch => rows.flatMap fun r => ch.map fun x => r ++ [x]) [[]]
def grp (dl : List Nat) (r : Nat) : List Nat := (List.range dl.length).filter fun k => dl.getD k 0 == r
def rwP (dl : List Nat) : Nat → List (List (List Nat))
  | 0 => [[]]
  | i + 1 => (rwP dl i).flatMap fun row => (kp (grp dl i).length (grp dl i)).map fun o => row ++ [o]
def enP (ths : List (Nat × Nat)) (ss : List Nat) (os : List (List Nat)) : List Nat := (List.range os.length).map fun r => endf ths (ss.getD r 0) (os.getD r [])
def loP (ths : List (Nat × Nat)) (ss dl : List Nat) (i : Nat) : List (List Nat) := (List.range i).map fun r => fo ths (grp dl r).length (ss.getD r 0) (grp dl r)
theorem grp_nodup (dl : List Nat) (r : Nat) : (grp dl r).Nodup := List.Nodup.sublist List.filter_sublist List.nodup_range
theorem kp_first (ths : List (Nat × Nat)) (s : Nat) (ns : List Nat) : Fst (kp ns.length ns) (fo ths ns.length s ns) (endf ths s) := by
  have hf := fo_first (ths := ths) ns.length s ns rfl
  obtain ⟨hp, pre, post, e, hpre⟩ := List.find?_eq_some_iff_append.mp hf
  have he : endf ths s (fo ths ns.length s ns) = TT ths s ns := by simpa using hp
  have hle : ∀ y ∈ kp ns.length ns, TT ths s ns ≤ endf ths s y := fun y hy => TT_le ((kp_perm _ rfl).mp hy)
  refine ⟨⟨pre, post, e, fun y hy => ?_⟩, fun y hy => ?_⟩
  · have h1 := hpre y hy
    have h2 := hle y (by rw [e]; exact List.mem_append_left _ hy)
    have h3 : endf ths s y ≠ TT ths s ns := by simpa using h1
    omega
  · rw [he]
    exact hle y hy
theorem rwP_len {dl : List Nat} : ∀ (i : Nat) {os : List (List Nat)}, os ∈ rwP dl i → os.length = i
  | 0, os, h => by rw [List.mem_singleton.mp h]; rfl
  | i + 1, os, h => by
    obtain ⟨r, hr, h⟩ := List.mem_flatMap.mp h
    obtain ⟨o, _, rfl⟩ := List.mem_map.mp h
    rw [List.length_append, rwP_len i hr]
    rfl
theorem enP_snoc (ths : List (Nat × Nat)) (ss : List Nat) (os : List (List Nat)) (o : List Nat) : enP ths ss (os ++ [o]) = enP ths ss os ++ [endf ths (ss.getD os.length 0) o] := by
  unfold enP
  rw [List.length_append]
  show (List.range (os.length + 1)).map _ = _
  rw [List.range_succ, List.map_append]
  congr 1
  · refine List.map_congr_left fun i hi => ?_
    have := List.mem_range.mp hi
    rw [gL this]
  · show [endf ths (ss.getD os.length 0) ((os ++ [o]).getD os.length [])] = _
    rw [gR (Nat.le_refl _), Nat.sub_self]
    rfl
theorem loP_succ (ths : List (Nat × Nat)) (ss dl : List Nat) (i : Nat) : loP ths ss dl (i + 1) = loP ths ss dl i ++ [fo ths (grp dl i).length (ss.getD i 0) (grp dl i)] := by
  unfold loP
  rw [List.range_succ, List.map_append]
  rfl
theorem loP_len (ths : List (Nat × Nat)) (ss dl : List Nat) (i : Nat) : (loP ths ss dl i).length = i := by unfold loP; rw [List.length_map, List.length_range]
theorem rwP_first (ths : List (Nat × Nat)) (ss dl : List Nat) : ∀ i, Fst (rwP dl i) (loP ths ss dl i) fun os => (enP ths ss os).sum
  | 0 => ⟨⟨[], [], rfl, fun y h => by cases h⟩, fun y h => by rw [List.mem_singleton.mp h]; exact Nat.le_refl _⟩
  | i + 1 => by
    rw [loP_succ]
    refine Fst.prod (β := Nat) (rwP_first ths ss dl i) (kp_first ths (ss.getD i 0) (grp dl i)) fun r hr o _ => ?_
    rw [enP_snoc, List.sum_append, rwP_len i hr]
    simp
theorem rwP_ends {ths : List (Nat × Nat)} {ss dl : List Nat} : ∀ (i : Nat) {os : List (List Nat)}, os ∈ rwP dl i → ∀ r, r < i → (enP ths ss (loP ths ss dl i)).getD r 0 ≤ (enP ths ss os).getD r 0
  | 0, _, _, r, h => by omega
  | i + 1, os, h, r, hr => by
    obtain ⟨row, hrow, h⟩ := List.mem_flatMap.mp h
    obtain ⟨o, ho, rfl⟩ := List.mem_map.mp h
    have l1 := rwP_len i hrow
    have l2 := loP_len ths ss dl i
    have e1 : (enP ths ss (loP ths ss dl i)).length = i := by unfold enP; rw [List.length_map, List.length_range, l2]
    have e2 : (enP ths ss row).length = i := by unfold enP; rw [List.length_map, List.length_range, l1]
    rw [loP_succ, enP_snoc, enP_snoc, l1, l2]
    rcases Nat.lt_or_ge r i with z | z
    · rw [gL (by omega), gL (by omega)]
      exact rwP_ends i hrow r z
    · have : r = i := by omega
      subst this
      rw [gR (by omega), gR (by omega), e1, e2, Nat.sub_self]
      exact (kp_first ths (ss.getD r 0) (grp dl r)).least o ho
/-! sets as numbers -/
def smN (q : Nat → Bool) : Nat → Nat
  | 0 => 0
  | n + 1 => smN q n + if q n = true then 2 ^ n else 0
theorem smN_lt (q : Nat → Bool) : ∀ n, smN q n < 2 ^ n
  | 0 => Nat.one_pos
  | n + 1 => by
    have := smN_lt q n
    have e : 2 ^ (n + 1) = 2 ^ n + 2 ^ n := by rw [Nat.pow_succ]; omega
    show smN q n + _ < _
    split <;> omega
theorem smN_bit (q : Nat → Bool) : ∀ n k, k < n → smN q n / 2 ^ k % 2 = if q k = true then 1 else 0
  | 0, k, h => by omega
  | n + 1, k, h => by
    have hl := smN_lt q n
    have hp : 0 < 2 ^ k := Nat.two_pow_pos k
    show (smN q n + _) / 2 ^ k % 2 = _
    rcases Nat.lt_or_ge k n with z | z
    · rw [← smN_bit q n k z]
      split
      · obtain ⟨j, hj⟩ : ∃ j, n = k + 1 + j := ⟨n - k - 1, by omega⟩
        have e : 2 ^ n = 2 ^ k * (2 * 2 ^ j) := by rw [hj, Nat.pow_add, Nat.pow_succ, Nat.mul_assoc]
        rw [e, Nat.add_mul_div_left _ _ hp]
        omega
      · rfl
    · have : k = n := by omega
      subst this
      split
      · rw [Nat.add_div_right _ hp, Nat.div_eq_of_lt hl]
      · rw [Nat.add_zero, Nat.div_eq_of_lt hl]
theorem sum_pow (q : Nat → Bool) : ∀ n, (((List.range n).filter q).map fun k => 2 ^ k).sum = smN q n
  | 0 => rfl
  | n + 1 => by
    rw [List.range_succ, List.filter_append, List.map_append, List.sum_append, sum_pow q n]
    show _ = smN q n + _
    congr 1
    by_cases h : q n = true
    · rw [if_pos h, List.filter_cons_of_pos h]
      rfl
    · rw [if_neg h, List.filter_cons_of_neg h]
      rfl
theorem nums_smN (q : Nat → Bool) (n : Nat) : numsN (smN q n) n = (List.range n).filter q := by
  unfold numsN
  refine List.filter_congr fun k hk => ?_
  rw [smN_bit q n k (List.mem_range.mp hk)]
  cases q k <;> rfl
def chN (dl : List Nat) (r : Nat) : Nat := ((grp dl r).map fun k => 2 ^ k).sum
theorem chN_lt (dl : List Nat) (r : Nat) : chN dl r < 2 ^ dl.length := by
  unfold chN grp
  rw [sum_pow]
  exact smN_lt _ _
theorem nums_chN (dl : List Nat) (r : Nat) : numsN (chN dl r) dl.length = grp dl r := by
  unfold chN grp
  rw [sum_pow, nums_smN]
theorem Fst.map {α β : Type} {l : List α} {x : α} {c : α → Nat} {c2 : β → Nat} {g : α → β} (f : Fst l x c) (h : ∀ y, c2 (g y) = c y) : Fst (l.map g) (g x) c2 := by
  obtain ⟨pre, post, e, hp⟩ := f.split
  refine ⟨⟨pre.map g, post.map g, by rw [e, List.map_append, List.map_cons], fun y hy => ?_⟩, fun y hy => ?_⟩
  · obtain ⟨z, hz, rfl⟩ := List.mem_map.mp hy
    rw [h, h]
    exact hp z hz
  · obtain ⟨z, hz, rfl⟩ := List.mem_map.mp hy
    rw [h, h]
    exact f.least z hz
abbrev Pk := List Nat × List (List Nat)
def coP (ths : List (Nat × Nat)) (ss : List Nat) (q : Pk) : Nat := (enP ths ss q.2).sum
def wiP (ths : List (Nat × Nat)) (ss : List Nat) (ls : List Int) (q : Pk) : Bool := (List.range ls.length).all fun r => decide ((((enP ths ss q.2).getD r 0 : Nat) : Int) ≤ ls.getD r 0)
def allP (chs : List (List Nat)) (nr : Nat) : List Pk := (dls chs).flatMap fun dl => (rwP dl nr).map fun os => (dl, os)
def leaP (ths : List (Nat × Nat)) (ss : List Nat) (chs : List (List Nat)) (nr : Nat) : List Pk := (dls chs).map fun dl => (dl, loP ths ss dl nr)
theorem pack_same (ths : List (Nat × Nat)) (ss : List Nat) (ls : List Int) (chs : List (List Nat)) : (allP chs ls.length).foldl (stepS (wiP ths ss ls) (coP ths ss)) none = (leaP ths ss chs ls.length).foldl (stepS (wiP ths ss ls) (coP ths ss)) none := by
  refine fold_groups _ _ fun dl _ => ⟨(rwP_first ths ss dl ls.length).map fun _ => rfl, fun y hy hp => ?_⟩
  obtain ⟨os, hos, rfl⟩ := List.mem_map.mp hy
  refine List.all_eq_true.mpr fun r hr => ?_
  have h1 := of_decide_eq_true (List.all_eq_true.mp hp r hr)
  have h2 := rwP_ends (ths := ths) (ss := ss) ls.length hos r (List.mem_range.mp hr)
  exact decide_eq_true (Int.le_trans (Int.ofNat_le.mpr h2) h1)
end PT

/-! a try with several handlers, each with `as e` (the same name) -/
namespace RK
open PySem PySem.Spec PyProof.Rows L2
/-- the first handler whose class takes it -/
def wAs (K : PySem.W.Frag) (i : Nat) (D : Ends) : List (Value × (Addr → Value → Option Addr → TS)) → WX
  | [] => fun _ _ _ _ => False
  | (c, ts) :: r => fun cls d σ H => wHit K c i ts D cls d σ H ∨ (PySem.W.exmOne K cls c = some false ∧ wAs K i D r cls d σ H)
section
variable {X : Cx} {n : Str} {i : Nat} {body : List Stmt} {hds : List ExceptHandler} {pos : Pos} {tb : WX → TS} {pins : List (Addr × Obj)}
/-- the handlers and their readings -/
inductive AsH (X : Cx) (n : Str) : List ExceptHandler → List (Value × (Addr → Value → Option Addr → TS)) → Prop
  | nil : AsH X n [] []
  | cons {x : Str} {np pos' : Pos} {c : Value} {b₀ : Stmt} {suite : List Stmt} {hds : List ExceptHandler} {ts : Addr → Value → Option Addr → TS} {r : List (Value × (Addr → Value → Option Addr → TS))} (nc : Names X x c)
      (hS : ∀ (a : Addr) (o : Obj) (cls : Value) (d : Option Addr) (ps : List (Addr × Obj)), L2N.Zn cls d o → (∃ vs, o.data = .fields vs) → PSs (X.suite a ((a, o) :: ps)) (b₀ :: suite) (ts a cls d)) (t : AsH X n hds r) :
      AsH X n (.ExceptHandler (some (.Name x np)) (some n) (b₀ :: suite) pos' :: hds) ((c, ts) :: r)
theorem ps_try_asN {h : ExceptHandler} {r : List (Value × (Addr → Value → Option Addr → TS))} (st : X.stack = X.env :: X.outer) (fr : X.env.frame = some X.env.locals) (ndN : X.N.Nodup) (ni : X.N[i]? = some n) (nl : X.env.kindOf n = some .local) (hh : AsH X n (h :: hds) r)
    (hB : ∀ (W : WX) (ps : List (Addr × Obj)) (xe : Value → Shared → Prop), L2N.Takes (X.tr ps xe) W → PassesOwn (model X.prog X.w) X.A X.env xe → PSs (X.tr ps xe) body (tb W)) :
    PS X (.Try body (h :: hds) [] [] pos) (fun D σ H => tb (wAs X.K i D r) D σ H) := by
  refine ⟨fun pins s σ H D I h' => wpAny_Try_except ?_⟩
  have fr2 : X.A.frames = some (X.env :: X.outer) := I.ok.frames.trans (congrArg some st)
  refine wpAny_mono ((hB _ (X.pn ++ pins) (fun e s₁ => wpAny (model X.prog X.w) X.A (noteFrame e X.env) (fun _ s₂ => wpAny (model X.prog X.w) X.A (setFlight e none) (fun _ s₃ => wpAny (model X.prog X.w) X.A
    (handleBy e X.env (h :: hds)) (SP X pins D) X.xe s₃) X.xe s₂) X.xe s₁) (fun u t xx => ?_) PassesOwn.looking).run [] s σ H D (I.toTry _) h') (fun f t q => ?_) (fun _ _ z => z)
  case refine_2 =>
    have q' := flow_out (pins := pins) I.ok q
    cases f with
    | next => exact wpAny_execs_nil q'
    | _ => exact q'
  obtain ⟨a, B, t0, ps, σ1, H1, cls, d, eu, J0, nB, u1, sk, na, eo, bare, hw⟩ := xx
  subst eu
  have J := J0.ofTry I.ok
  rw [show (X.tr (X.pn ++ pins) _).stack = X.env :: X.outer from st] at sk
  refine L2N.Sky.land L2N.Zn.steady fr2 fr sk fun h3 f3 u3 => ?_
  generalize h :: hds = all at hh ⊢
  clear h'
  have J3 : Inv X pins σ1 H1 { t with heap := h3 } := J.landed nB f3.1 (u1.trans u3) eo bare
  obtain ⟨o3, v3, g3, z3, d3⟩ := f3.there
  have out := no_frame f3.2.2.1 g3 d3
  have aL : a ≠ X.env.locals := fun e => out (List.mem_filterMap.mpr ⟨X.env, .head _, by rw [e]; exact fr⟩)
  have aF : a ∉ X.fs := fun m => out (by rw [show frs (X.env :: X.outer) = X.env.locals :: frs X.outer from List.filterMap_cons_some fr]; exact .tail _ m)
  have look : PySem.W.Looks (model X.prog X.w) h3 (typeOf (.ref a)) cls := fun _ _ _ _ k z => wpAny_typeOf_ref (k _ _ g3) (by rw [z3.1]; exact z)
  induction hh with
  | nil => exact hw.elim
  | cons nc hS _ ih =>
    refine wpAny_handleBy_cons (codeAny_handlers_test (names_it nc (J3.suite g3 d3 na aL aF) ?_)) (by intro z; cases z)
    rcases hw with ⟨hit, go⟩ | ⟨miss, hw⟩
    · refine (PySem.W.exm_one (M := model X.prog X.w) J3.kIn look hit).here ?_
      refine codeAny_handlers_suite_as (HandSPX.lands_againZ f3 fun h4 f4 u4 => ?_)
      have J4 : Inv X pins σ1 H1 { t with heap := h4 } := J.landed nB f4.1 ((u1.trans u3).trans u4) eo bare
      obtain ⟨o4, v4, g4, z4, d4⟩ := f4.there
      refine store_ok (X := Cx.suite X a ((a, o4) :: (X.pn ++ pins))) (v := .ref a) (J4.suite g4 d4 na aL aF) ndN ni (.inl nl) rfl (fun t5 S5 => ?_) (.inr nl)
      refine wpAny_mono ((hS a o4 cls d (X.pn ++ pins) z4 ⟨_, d4⟩).run [] t5 _ H1 _ S5 (go a na)) (fun f t6 q => ?_) (fun _ _ z => z.elim)
      cases f with
      | ret u => exact let ⟨v6, σ6, H6, S6, r6, q6⟩ := q; gone_ok (S6.unsuite I.ok) ndN ni nl fun t7 J7 => ⟨v6, _, H6, J7, r6, q6⟩
      | next => exact let ⟨σ6, H6, S6, q6⟩ := q; gone_ok (S6.unsuite I.ok) ndN ni nl fun t7 J7 => ⟨_, H6, J7, q6⟩
      | brk => exact let ⟨σ6, H6, S6, q6⟩ := q; gone_ok (S6.unsuite I.ok) ndN ni nl fun t7 J7 => ⟨_, H6, J7, q6⟩
      | cont => exact let ⟨σ6, H6, S6, q6⟩ := q; gone_ok (S6.unsuite I.ok) ndN ni nl fun t7 J7 => ⟨_, H6, J7, q6⟩
    · refine (PySem.W.exm_one (M := model X.prog X.w) J3.kIn look miss).here ?_
      show wpAny _ X.A (handleBy (.ref a) X.env _) _ _ _
      exact ih hw
end
end RK
namespace DK
open PySem PySem.Spec PyProof.Rows L2
section
variable {X : Cx} {pins : List (Addr × Obj)} {σ : L2.St} {H : Hp} {s : Shared} {CX : CXT} {k : Nat} {f C : Addr} {sp : Sp}
/-- the callee runs below the running body; what leaves it may look at the slots -/
theorem run_subAt {E : XK} {A1 : Around} {Q : VK} {us : List Value} {vs : List V} (F : FnR X.prog X.w X.K X.mg X.base CX k f sp) (sb : Sub X k A1) (hx : PassesAt CX X σ E) (I : Inv X pins σ H s) (r : Vals vs us) (h : sp vs H Q E) :
    wpAny (model X.prog X.w) A1 (call (.ref f) us) (EP X pins σ Q) X.xe s := by
  have e0 : Env0 X.prog X.w X.K X.mg X.base A1 X.stack s H := by
    have e := I.env0
    exact ⟨by rw [sb.fr]; exact e.frames, e.mod, e.bs, e.bsz, e.funs, e.frf, e.hok, e.bare⟩
  refine wpAny_call (codeAny_mono (F A1 X.stack s H us vs Q E sb.room e0 r h) fun r s' hq => ?_)
  cases r with
  | error e => exact hx pins H s e s' I hq
  | ok fl =>
    cases fl with
    | ret u => exact I.after hq
    | next => exact False.elim hq
    | brk => exact False.elim hq
    | cont => exact False.elim hq
theorem passAt_of {E : XK} {σ : L2.St} (h : Passes CX X E) : PassesAt CX X σ E := fun pins H s e s' I c => h pins σ H s e s' I c
/-- x[i], by the own __getitem__ of x's class -/
def tIxO (C : Addr) (sp : Sp) (E : L2.St → XK) (ta tb : TE) : TE := fun σ H Q => ta σ H fun x H1 => tb σ H1 fun y H2 => ∃ o dx fs, x = V.ref o ∧ H2 o = some (.ins C dx fs) ∧ sp [.ref o, y] H2 Q (E σ)
theorem pe_ixO {E : L2.St → XK} {a b : Expr} {pos : Pos} {ta tb : TE} (ha : PE X a ta) (hb : PE X b tb) (own : Own X.K C "__getitem__" f) (hf : PySem.W.fnIn X.K f = true) (F : FnR X.prog X.w X.K X.mg X.base CX k f sp) (hx : ∀ σ, PassesAt CX X σ (E σ)) (hr : Room (k + 1) X.A)
    (hsl : ∀ (x : Addr) (i : Value), subscripted b true (.ref x) i = runValue (.builtin "lifetime.subscript" ⟨[.ref x, i], []⟩) := by intro _ _; with_unfolding_all rfl) : PE X (.Subscript a b pos) (tIxO C sp E ta tb) := by
  refine ⟨fun pins s σ H Q I h => ?_⟩
  refine Subscript_ (binT ha hb I h fun v u s2 x y H2 I2 rx ry q => ?_)
  obtain ⟨o, dx, fs, rfl, ho, hsp⟩ := q
  cases rx
  obtain ⟨mA, J, _⟩ := ins_get I2.hok ho
  obtain ⟨od, J, _⟩ := J.look
  obtain ⟨m, hF⟩ := I2.fr
  refine PySem.W.sub_K hF I2.ok.mod.kin J own.at_ hf own.fn ?_ (hsl o u)
  have sb : Sub X (k + 1) X.A := ⟨hr, rfl⟩
  exact run_subAt (us := [.ref o, u]) (vs := [V.ref o, y]) F sb.in1 (hx σ) I2 (.cons rfl (.cons ry .nil)) hsp
/-- o[i] = .., by the own __setitem__ of o's class -/
def gSubO (C : Addr) (sp : Sp) (E : L2.St → XK) (to ti : TE) : TG := fun v σ H Q => to σ H fun o H1 => ti σ H1 fun i H2 => ∃ a dx fs, o = V.ref a ∧ H2 a = some (.ins C dx fs) ∧ sp [.ref a, i, v] H2 (fun _ H3 => Q σ H3) (E σ)
theorem pg_subO {E : L2.St → XK} {o i : Expr} {pos : Pos} {to ti : TE} (ho : PE X o to) (hi : PE X i ti) (own : Own X.K C "__setitem__" f) (hq : PySem.W.noSeq X.K C = true) (F : FnR X.prog X.w X.K X.mg X.base CX k f sp) (hx : ∀ σ, PassesAt CX X σ (E σ)) (hr : Room k X.A)
    (ha : ∀ v, assign (.Subscript o i pos) X.env v = (do
      let ov ← holding [v] (eval o X.env)
      let iv ← holding [v, ov] (eval i X.env)
      standAt pos
      holding [v, ov, iv] (setItem ov iv v)
      release [v, ov, iv] []) := by intro _; rfl) : PG X (.Subscript o i pos) (gSubO C sp E to ti) := by
  refine ⟨fun pins s σ H v u Q I r h => ?_⟩
  rw [ha]
  refine wpAny_bind (wpAny_holding (thn (ho.run pins s σ H _ I h) fun ov s1 ⟨x, H1, I1, r1, q1⟩ => ?_))
  refine wpAny_bind (wpAny_holding (thn (hi.run pins s1 σ H1 _ I1 q1) fun iv s2 ⟨y, H2, I2, r2, q2⟩ => ?_))
  obtain ⟨a, dx, fs, rfl, hA, hsp⟩ := q2
  cases r1
  obtain ⟨mA, J, _⟩ := ins_get I2.hok hA
  obtain ⟨od, J, _⟩ := J.look
  obtain ⟨m, hF⟩ := I2.fr
  have sb : Sub X k X.A := ⟨hr, rfl⟩
  refine wpAny_bind (wpAny_standAt (wpAny_bind (wpAny_holding (PySem.W.ksp_setItem hF I2.ok.mod.kin J hq own.at_ own.fn (thn (run_subAt (us := [.ref a, iv, u]) (vs := [V.ref a, y, v]) F sb (hx σ) I2 (.cons rfl (.cons r2 (.cons r .nil))) hsp) fun rv s3 z => ?_)))))
  obtain ⟨w', H3, I3, _, q3⟩ := z
  exact wpAny_release ⟨σ, H3, I3, q3⟩
/-- x op y, both of the class at C, by its own method for op -/
theorem op_cmpO {op : CmpOp} {E : XK} (c : Own X.K C (cmpInfo op).2.1 f) (hop : ∀ v u, compareOp op v u = richCompare op v u) (F : FnR X.prog X.w X.K X.mg X.base CX k f sp) (hx : Passes CX X E) (hr : Room k X.A) : OpR X (compareOp op) (rEqO C sp E) := by
  intro pins s σ H x y v u Q I rx ry h
  obtain ⟨a, dx, fs, b, dy, gs, rfl, rfl, ha, hb, hsp⟩ := h
  cases rx
  cases ry
  obtain ⟨mA, J, _⟩ := ins_get I.hok ha
  obtain ⟨mB, J', _⟩ := ins_get I.hok hb
  obtain ⟨od, J, _⟩ := J.look
  obtain ⟨od', J', _⟩ := J'.look
  obtain ⟨m, hF⟩ := I.fr
  rw [hop]
  refine PySem.W.cmp_K (op := op) (tb := .ref C) hr.units0 hF I.ok.mod.kin J J'.type (by simp [PySem.W.notFirst]) c.at_ c.fn ?_
  refine wpAny_mono (run_sub (us := [.ref a, .ref b]) (vs := [V.ref a, V.ref b]) F ⟨hr, rfl⟩ hx I (.cons rfl (.cons rfl .nil)) hsp) (fun r s' hq => ?_) fun _ _ z => z
  obtain ⟨w', H', I', rv, b', rfl, q⟩ := hq
  cases rv
  exact ⟨.bl b', H', I', rfl, q⟩
/-- o.m(e, ..) where what is raised is wished for at the caller's slots -/
def tMethS (C : Addr) (m : Str) (sp : Sp) (E : L2.St → XK) (ta : TE) (t : TA) : TE := fun σ H Q => ta σ H fun x H1 => ∃ a dx fs, x = V.ref a ∧ H1 a = some (.ins C dx fs) ∧ fs.lookup m = Option.none ∧ t σ H1 fun vs H2 => sp (V.ref a :: vs) H2 Q (E σ)
theorem pe_methS {E : L2.St → XK} {m : Str} {o e : Expr} {es : List Expr} {apos pos : Pos} {ta : TE} {t : TA} {fd : FuncData} {ps : List Str} {pl : Sem Bool} (he : PE X o ta) (c : Cls X.K C) (hm : Meth X.K C m f) (F : FnOk X.prog X.w X.K X.mg X.base CX k f fd ps sp) (hr : Room k X.A) (hb : Binds X.K fd ps []) (hx : ∀ σ, PassesAt CX X σ (E σ)) (ha : PA X (e :: es) t)
    (hst : starEach (e :: es) X.env = (false, eval e X.env) :: starEach es X.env := by rfl) (hpl : (backTo pos (starEach es X.env)).any (·.1) = false := by rfl)
    (ht : eval (.Call (.Attribute o m apos) (e :: es) [] pos) X.env = (do let ov ← eval o X.env; standAt apos.atName; let (f, first) ← holding [ov] (getMethod ov m pl); callWith pos f first (backTo pos (starEach (e :: es) X.env)) (backToKw pos (keywordEach [] X.env))) := by rfl) :
    PE X (.Call (.Attribute o m apos) (e :: es) [] pos) (tMethS C m sp E ta t) := by
  refine ⟨fun pins s σ H Q I h => ?_⟩
  refine PySem.W.methodCall_KW (pl := pl) (thn (he.run pins s σ H _ I h) fun u s1 ⟨x, H1, I1, rx, a, dx, fs, ex, ea, l, q⟩ => ?_) ht
  cases ex
  cases rx
  refine getmeth_ok I1 ea c hm l ?_
  refine PySem.W.callWith_K (first := [Value.ref a]) (h₀ := X.base) I.ok.mod.kin hm.kp (thn (ha.run pos pins s1 σ H1 _ I1 q) fun us s2 ⟨vs, H2, I2, r, q2⟩ => ⟨I2.kIn, ?_⟩) hst hpl
  exact run_fnS (us := Value.ref a :: us) (vs := V.ref a :: vs) F hr hb (hx σ) I2 (.cons rfl r) q2
end
end DK

namespace RK
open PySem PySem.Spec PyProof.Rows L2
/-! ### zip of two tuples -/
def ItzT (K : PySem.W.Frag) (a b : Addr) : It :=
  ⟨fun i H => ∃ (xs ys : List V) (x y : V), SqT K H a xs ∧ SqT K H b ys ∧ xs[i]? = some x ∧ ys[i]? = some y,
    fun i H v H' => ∃ T x y, v = V.ref T ∧ H T = none ∧ H' = upd H T (.tup [x, y]) ∧ (∀ xs, SqT K H a xs → xs[i]? = some x) ∧ ∀ ys, SqT K H b ys → ys[i]? = some y,
    fun i H => ∃ xs ys : List V, SqT K H a xs ∧ SqT K H b ys ∧ (i = xs.length ∧ i ≤ ys.length ∨ i = ys.length ∧ i ≤ xs.length)⟩
theorem turn_zipT {P : Program} {w : World} {K : PySem.W.Frag} {elts : List Expr} {kk : Nat} {tpos : Pos} {a b z TI TO i1 i2 : Addr} (D : PySem.ZipSep2 z TI TO i1 i2 [i1, a] [i2, b]) :
    Turn P w K (.Tuple elts kk tpos) (ItzT K a b) [z, TI, TO, i1, i2] z (fun i h => IsZip h z TI TO .none ∧ PySem.IsTupOf2 h TI (.ref i1) (.ref i2) ∧ (∃ x y, PySem.IsTupOf2 h TO x y) ∧ h.IsTupleIter i1 a i ∧ h.IsTupleIter i2 b i) where
  mem := by simp
  obj := fun i h st c hc => by
    obtain ⟨hz, hTI, ⟨x, y, hTO⟩, ⟨o1, e1, _, d1⟩, ⟨o2, e2, _, d2⟩⟩ := st
    have e' : c = z ∨ c = TI ∨ c = TO ∨ c = i1 ∨ c = i2 := by simpa using hc
    rcases e' with q | q | q | q | q
    · rw [q]; exact ⟨_, hz, fun v q => nomatch q⟩
    · rw [q]; exact ⟨_, hTI, fun v q => nomatch q⟩
    · rw [q]; exact ⟨_, hTO, fun v q => nomatch q⟩
    · rw [q]; exact ⟨o1, e1, fun v q => by rw [d1] at q; cases q⟩
    · rw [q]; exact ⟨o2, e2, fun v q => by rw [d2] at q; cases q⟩
  keep := fun i h h' st k => by
    obtain ⟨hz, hTI, ⟨x, y, hTO⟩, ⟨o1, e1, r1⟩, ⟨o2, e2, r2⟩⟩ := st
    exact ⟨k z (by simp) _ hz, k TI (by simp) _ hTI, ⟨x, y, k TO (by simp) _ hTO⟩, ⟨o1, k i1 (by simp) o1 e1, r1⟩, ⟨o2, k i2 (by simp) o2 e2, r2⟩⟩
  item := by
    intro X hP hw hK hc i pins s σ H E I hf st hg
    subst hP hw hK
    obtain ⟨hz, hTI, ⟨x0, y0, hTO⟩, h1, h2⟩ := st
    obtain ⟨xs, ys, x, y, hqx, hqy, hx, hy⟩ := hg
    obtain ⟨its, rv, p, _⟩ := I.tuple hqx
    obtain ⟨its2, rv2, p2, _⟩ := I.tuple hqy
    have pl : s.heap.IsTuple a its.toArray := p
    have pl2 : s.heap.IsTuple b its2.toArray := p2
    obtain ⟨u, hu, ru⟩ := rv.get hx
    obtain ⟨u2, hu2, ru2⟩ := rv2.get hy
    have hzl : z < s.heap.objs.size := Heap.lt_size hz
    have hh : X.A.in1.handled = none := I.ok.hd hc
    have D1 := draws_tup (A := X.A.in1) (prog := X.prog) (w := X.w) hh i1 a (tup_ne h1 pl) its.toArray
    have D2 := draws_tup (A := X.A.in1) (prog := X.prog) (w := X.w) hh i2 b (tup_ne h2 pl2) its2.toArray
    have lt1 : i < its.toArray.size := by rw [List.size_toArray]; exact (List.getElem?_eq_some_iff.mp hu).1
    have lt2 : i < its2.toArray.size := by rw [List.size_toArray]; exact (List.getElem?_eq_some_iff.mp hu2).1
    have l1 : i1 < s.heap.objs.size := by obtain ⟨_, q, _⟩ := h1; exact Heap.lt_size q
    have l2 : i2 < s.heap.objs.size := by obtain ⟨_, q, _⟩ := h2; exact Heap.lt_size q
    have lI := Heap.lt_size hTI
    have lO := Heap.lt_size hTO
    refine PySem.wpAny_pyNext_zipD2_item D D1 D2 hz hTI hTO ⟨h1, pl⟩ ⟨h2, pl2⟩ lt1 lt2 fun x1 x2 h' tk q1 q2 z' TO' d1 d2 hT hsz hk => ?_
    have e1 : x1 = u := by
      have h1 : its[i]? = some x1 := by simpa using q1
      rw [hu] at h1
      exact (Option.some.inj h1).symm
    have e2 : x2 = u2 := by
      have h1 : its2[i]? = some x2 := by simpa using q2
      rw [hu2] at h1
      exact (Option.some.inj h1).symm
    subst e1 e2
    refine ⟨_, rfl, wpAny_letOwnedTupleGo_zip (s := { s with heap := h', toks := tk }) z' fun h'' z'' sb => ?_⟩
    have hT2 : h''.get? s.heap.objs.size = some { cls := .type "tuple", data := .seq #[x1, x2] } := (sb.2 _ (Nat.ne_of_gt hzl)).trans hT
    have new : ObjOk X.prog X.w (upd H s.heap.objs.size (.tup [x, y])) h'' s.heap.objs.size (.tup [x, y]) :=
      ⟨by show 2 ≤ sizeLine; decide, [x1, x2], .cons ru (.cons ru2 .nil), ⟨_, hT2, rfl, _, rfl⟩⟩
    have I1 : Inv X pins σ (upd H s.heap.objs.size (.tup [x, y])) { s with heap := h'', toks := tk } :=
      I.turnedNew (ch := [z, TI, TO, i1, i2]) (fun c o hb q => (sb.2 c (fun q' => hb (by simp [q']))).trans (hk c o (fun q' => hb (by simp [q'])) (fun q' => hb (by simp [q'])) (fun q' => hb (by simp [q'])) (fun q' => hb (by simp [q'])) q)) hf (Nat.le_refl _) new
    refine ⟨.ref s.heap.objs.size, _, I1, rfl, ⟨_, x, y, rfl, I.hok.fresh (Nat.le_refl _), rfl, fun l hl => by rw [I.tuple_inj hl hqx]; exact hx, fun l hl => by rw [I.tuple_inj hl hqy]; exact hy⟩, ⟨z'', ?_, ⟨x1, x2, ?_⟩, ?_, ?_⟩, fun c hcm => ?_⟩
    · exact (sb.2 _ D.TIz).trans (hk _ _ D.TIz D.TITO D.TIi1 D.TIi2 hTI)
    · exact (sb.2 _ D.TOz).trans TO'
    · obtain ⟨⟨o, ho, r⟩, _⟩ := d1
      exact ⟨o, (sb.2 _ (Ne.symm D.zi1)).trans ho, r⟩
    · obtain ⟨⟨o, ho, r⟩, _⟩ := d2
      exact ⟨o, (sb.2 _ (Ne.symm D.zi2)).trans ho, r⟩
    · have hlt : c < s.heap.objs.size := by
        have e' : c = z ∨ c = TI ∨ c = TO ∨ c = i1 ∨ c = i2 := by simpa using hcm
        rcases e' with q | q | q | q | q <;> (rw [q]; assumption)
      rw [upd_ne (Nat.ne_of_lt hlt)]
      exact (hf c hcm).1
  done := by
    intro X hP hw hK hc i pins s σ H E I hf st hg
    subst hP hw hK
    obtain ⟨hz, hTI, ⟨x0, y0, hTO⟩, h1, h2⟩ := st
    obtain ⟨xs, ys, hqx, hqy, hend⟩ := hg
    obtain ⟨its, rv, p, _⟩ := I.tuple hqx
    obtain ⟨its2, rv2, p2, _⟩ := I.tuple hqy
    have pl : s.heap.IsTuple a its.toArray := p
    have pl2 : s.heap.IsTuple b its2.toArray := p2
    have l1 := rv.length
    have l2 := rv2.length
    have hh : X.A.in1.handled = none := I.ok.hd hc
    have D1 := draws_tup (A := X.A.in1) (prog := X.prog) (w := X.w) hh i1 a (tup_ne h1 pl) its.toArray
    have D2 := draws_tup (A := X.A.in1) (prog := X.prog) (w := X.w) hh i2 b (tup_ne h2 pl2) its2.toArray
    exact PySem.wpAny_pyNext_zipD2_end D D1 D2 hz hTI hTO ⟨h1, pl⟩ ⟨h2, pl2⟩ (by rw [List.size_toArray]; omega) (by rw [List.size_toArray]; omega) (by rw [List.size_toArray, List.size_toArray]; omega) fun h' tk hk => ⟨rfl, I.turnedL (t' := tk) (ch := [z, TI, TO, i1, i2]) (fun c o hb q =>
      hk c o (fun q' => hb (by simp [q'])) (fun q' => hb (by simp [q'])) (fun q' => hb (by simp [q'])) (fun q' => hb (by simp [q'])) q) hf⟩
  self := fun A i s Q E st h => wpAny_pyIter_zip st.1 h
def iZipT (K : PySem.W.Frag) (ta : TA) : TI := fun σ H R => ta σ H fun vs H1 => ∃ a b xs ys, vs = [V.ref a, V.ref b] ∧ SqT K H1 a xs ∧ SqT K H1 b ys ∧ R (ItzT K a b) H1
theorem pi_zipT {X : Cx} {e e2 : Expr} {ta : TA} {p pos tpos : Pos} {elts : List Expr} {kk : Nat} (hg : Gl X "zip") (hm : X.mg "zip" = none) (ha : PA X [e, e2] ta)
    (hs : starEach [e, e2] X.env = (false, eval e X.env) :: starEach [e2] X.env := by rfl) (hpl : (backTo pos (starEach [e2] X.env)).any (·.1) = false := by rfl) :
    PI X (.Tuple elts kk tpos) (.Call (.Name "zip" p) [e, e2] [] pos) (iZipT X.K ta) := by
  refine ⟨fun pins s σ H R I h => ?_⟩
  refine Call_ (ld_blt I hg hm PyProof.Rows.boot_zip (PyProof.Rows.callWith_type1 (thn (ha.run pos pins s σ H _ I h) fun us s1 ⟨vs, H1, I1, r1, q1⟩ => ?_) hs hpl))
  obtain ⟨a, b, xs, ys, ex, hqx, hqy, q⟩ := q1
  subst ex
  cases r1 with
  | cons r rr =>
    cases rr with
    | cons r' rr =>
      cases rr
      cases r
      cases r'
      obtain ⟨its, rv, p1, _⟩ := I1.tuple hqx
      obtain ⟨its2, rv2, p2, _⟩ := I1.tuple hqy
      have pl : s1.heap.IsTuple a its.toArray := p1
      have pl2 : s1.heap.IsTuple b its2.toArray := p2
      have la : a < s1.heap.objs.size := by obtain ⟨_, q, _⟩ := pl; exact Heap.lt_size q
      have lb : b < s1.heap.objs.size := by obtain ⟨_, q, _⟩ := pl2; exact Heap.lt_size q
      refine PySem.zip_begins2 (PySem.begins_tuple a its.toArray) (PySem.begins_tuple b its2.toArray) pl pl2 fun h' hz hTI hTO h1 h2 hsz hk => wpAny_pyIter_zip hz ?_
      have I2 : Inv X pins σ H1 { s1 with heap := h' } := I1.kept (t' := s1.toks) hk
      refine ⟨s1.heap.objs.size + 4, [s1.heap.objs.size + 4, s1.heap.objs.size + 2, s1.heap.objs.size + 3, s1.heap.objs.size, s1.heap.objs.size + 1], _, _, H1, rfl, I2, turn_zipT (a := a) (b := b) (z := s1.heap.objs.size + 4) (TI := s1.heap.objs.size + 2) (TO := s1.heap.objs.size + 3) (i1 := s1.heap.objs.size) (i2 := s1.heap.objs.size + 1) ?_, ⟨hz, hTI, ⟨_, _, hTO⟩, ⟨_, h1, rfl, rfl⟩, ⟨_, h2, rfl, rfl⟩⟩, fun c hcm => ?_, q⟩
      · have na : ∀ n, s1.heap.objs.size + n ≠ a := fun n e => absurd (Nat.lt_of_lt_of_le la (Nat.le_trans (Nat.le_add_right _ n) (Nat.le_of_eq e))) (Nat.lt_irrefl _)
        have nb : ∀ n, s1.heap.objs.size + n ≠ b := fun n e => absurd (Nat.lt_of_lt_of_le lb (Nat.le_trans (Nat.le_add_right _ n) (Nat.le_of_eq e))) (Nat.lt_irrefl _)
        have ne : ∀ m n, m ≠ n → s1.heap.objs.size + m ≠ s1.heap.objs.size + n := fun m n h e => h (Nat.add_left_cancel e)
        have n0 : ∀ m, 0 < m → s1.heap.objs.size + m ≠ s1.heap.objs.size := fun m h e => by omega
        exact ⟨ne 2 4 (by decide), ne 3 4 (by decide), ne 2 3 (by decide), n0 2 (by decide), by simp, by simp [na], by simp [na], ne 2 1 (by decide), by simp, by simp [nb], by simp [nb], by
          have := nb 0
          simp at this
          simp [this], by
          have := na 1
          simp [this]⟩
      have e' : c = s1.heap.objs.size + 4 ∨ c = s1.heap.objs.size + 2 ∨ c = s1.heap.objs.size + 3 ∨ c = s1.heap.objs.size ∨ c = s1.heap.objs.size + 1 := by simpa using hcm
      have hle : s1.heap.objs.size ≤ c := by
        rcases e' with z | z | z | z | z
        · rw [z]; exact Nat.le_add_right _ _
        · rw [z]; exact Nat.le_add_right _ _
        · rw [z]; exact Nat.le_add_right _ _
        · rw [z]; exact Nat.le_refl _
        · rw [z]; exact Nat.le_add_right _ _
      exact I1.fpOk hle (I1.hok.fresh hle)
theorem walk_zipT {K : PySem.W.Frag} {a b : Addr} {xs ys : List V} (hl : xs.length = ys.length) : Walk (ItzT K a b) xs.length (fun H => SqT K H a xs ∧ SqT K H b ys) (fun i H v H' => ∃ T x y, v = V.ref T ∧ H T = none ∧ H' = upd H T (.tup [x, y]) ∧ xs[i]? = some x ∧ ys[i]? = some y) :=
  ⟨fun i H hi h => ⟨xs, ys, xs[i], ys[i], h.1, h.2, List.getElem?_eq_getElem hi, List.getElem?_eq_getElem (by omega)⟩, fun H h => ⟨xs, ys, h.1, h.2, .inl ⟨rfl, by omega⟩⟩, fun i H v H' _ h y => let ⟨T, x, y, a, b, c, d, e⟩ := y; ⟨T, x, y, a, b, c, d xs h.1, e ys h.2⟩⟩
theorem walk_zip {K : PySem.W.Frag} {a b : Addr} {xs ys : List V} (hl : xs.length = ys.length) : Walk (Itz K a b) xs.length (fun H => SqL K H a xs ∧ SqL K H b ys) (fun i H v H' => ∃ T x y, v = V.ref T ∧ H T = none ∧ H' = upd H T (.tup [x, y]) ∧ xs[i]? = some x ∧ ys[i]? = some y) :=
  ⟨fun i H hi h => ⟨xs, ys, xs[i], ys[i], h.1, h.2, List.getElem?_eq_getElem hi, List.getElem?_eq_getElem (by omega)⟩, fun H h => ⟨xs, ys, h.1, h.2, .inl (by omega)⟩, fun i H v H' _ h y => let ⟨T, x, y, a, b, c, d, e⟩ := y; ⟨T, x, y, a, b, c, d xs h.1, e ys h.2⟩⟩
/-- a comprehension over the pairs of a zip -/
theorem lc_zip {K : PySem.W.Frag} {J : It} {n : Nat} {G : Hp → Prop} {xs ys : List V} (w : Walk J n G (fun i H v H' => ∃ T x y, v = V.ref T ∧ H T = none ∧ H' = upd H T (.tup [x, y]) ∧ xs[i]? = some x ∧ ys[i]? = some y)) {te : TE} {σ : L2.St} {H1 : Hp} {D : Addr} {Qd : Hp → Prop} {k k1 : Nat} (hk : k ≠ k1) (f : Nat → V) (hD : H1 D = none) (hG : ∀ H, Same H1 H → G H) (hn : n ≤ 1000000)
    (hs : ∀ i x y H, i < n → Same H1 H → xs[i]? = some x → ys[i]? = some y → ∀ Q : VK, (∀ H3, Same H H3 → Q (f i) H3) → te ((((σ.set k1 none).set k none).set k (some x)).set k1 (some y)) H Q)
    (hd : ∀ H, Same H1 H → H D = some (.lst ((List.range n).map f)) → Qd H) :
    ∃ W : Nat → Nat → Hp → Prop, (∃ m, W 0 m (upd H1 D (.lst []))) ∧ ∀ i m H, W i m H →
      (J.stop i H ∧ Qd H) ∨ (J.go i H ∧ ∃ Nx : Hp → Prop, (∀ H', Nx H' → ∃ m', m' < m ∧ W (i + 1) m' H') ∧ ∀ x H', J.yld i H x H' → gTup K 2 (gCons (gName k) (gCons (gName k1) gNil)) x (wipe σ [k, k1]) H' fun σ2 H2 => wipe σ2 [k, k1] = wipe σ [k, k1] ∧ tYes σ2 H2 fun b H3 =>
        if b = true then te σ2 H3 fun y H4 => ∃ acc, H4 D = some (.lst acc) ∧ acc.length < sizeLine ∧ Nx (upd H4 D (.lst (acc ++ [y]))) else Nx H3) := by
  refine lc_it w (fun i H => Same H1 H ∧ H D = some (.lst ((List.range i).map f))) ⟨same_new hD, upd_same⟩ (fun i H _ h => hG H h.1) (fun i x H H' hi hp y => ?_) fun H h => hd H h.1 h.2
  obtain ⟨sm, e⟩ := hp
  obtain ⟨T, a, b, rfl, nT, rfl, ha, hb⟩ := y
  have sT := same_new (o := .tup [a, b]) nT
  refine ⟨T, _, rfl, SqT.of upd_same, rfl, _, _, rfl, _, _, rfl, rfl, ?_, ?_⟩
  · show ((((((σ.set k1 none).set k none).set k (some a)).set k1 (some b)).set k1 none).set k none) = (σ.set k1 none).set k none
    rw [List.set_set, List.set_set, List.set_comm _ _ hk, List.set_set, List.set_set]
  show te ((((σ.set k1 none).set k none).set k (some a)).set k1 (some b)) _ _
  refine hs i a b _ hi (sm.trans sT) ha hb _ fun H3 s3 => ?_
  have e3 := s3 _ _ (sT _ _ e)
  refine ⟨_, e3, ?_, same_mut (sm.trans (sT.trans s3)) hD, ?_⟩
  · rw [List.length_map, List.length_range]
    exact Nat.lt_of_lt_of_le (Nat.lt_of_lt_of_le hi hn) (by decide)
  · rw [upd_same, List.range_succ, List.map_append]
    rfl
end RK

/-! yield under `if` and `for` -/
namespace PySem
open Sem (wp)
section
variable {M : Model} {A : Around} {R : GenEnd} {Y : Protocol} {n : Nat} {s₀ : Shared} {c : Code} {fs : List Frame} {s : Shared} {env : Env}
  {K : Flow → Sem Fin} {H : Value → Sem Fin} {gd : Bool → Bool} {lv : List Value → List Value}
theorem seg_If {test : Expr} {body orelse : List Stmt} {pos : Pos}
    (h : wpAny M (A.over c fs) (isTrue test env (eval test env)) (fun b s' => if b = true then Seg M A R Y n s₀ c ((execs body env).wrap K H gd lv) fs s' else Seg M A R Y n s₀ c ((execs orelse env).wrap K H gd lv) fs s') (fun x s' => Seg M A R Y n s₀ c (H x) fs s') s) :
    Seg M A R Y n s₀ c ((exec (.If test body orelse pos) env).wrap K H gd lv) fs s := by
  show Seg M A R Y n s₀ c (.at pos fun _ => ((isTrue test env (eval test env)) >>= fun b => if b = true then execs body env else execs orelse env).wrap K H gd lv) fs s
  refine seg_at ?_
  rw [Sem.bind_eq_wrap', Sem.wrap_wrap]
  refine seg_wrap (wpAny_mono h (fun b s' hb => ?_) fun _ _ x => x)
  cases b with
  | true =>
    rw [if_pos rfl] at hb
    exact hb
  | false =>
    rw [if_neg Bool.false_ne_true] at hb
    exact hb
theorem seg_For {target iter : Expr} {body orelse : List Stmt} {pos : Pos}
    (h : wpAny M (A.over c fs) (eval iter env) (fun x s1 => wpAny M (A.over c fs) (pyIter x) (fun it s2 => ∀ p, Seg M A R Y n s₀ (.forLoop target it body orelse env) (M.den (.forLoop target it body orelse env))
      (.ret (fun r => ((match r with | .ok f => (.pure f : Sem Flow) | .error e => .raise e).onRaise fun (x : Value) => do
        if (← field x 1) == Value.none then unsupported "frame.own-activation:exception-without-traceback"
        setFlight x env.frame).wrap K H gd lv) none (gd false) (lv []) c p [] :: fs) s2) (fun e s' => Seg M A R Y n s₀ c (H e) fs s') s1) (fun e s' => Seg M A R Y n s₀ c (H e) fs s') s)
    (hs : ∀ x, foldedSetIterable iter env x = pure x := by intro _; rfl) :
    Seg M A R Y n s₀ c ((exec (.For target iter body orelse pos) env).wrap K H gd lv) fs s := by
  rw [exec_For]
  show Seg M A R Y n s₀ c (.at pos fun _ => (eval iter env >>= fun v => foldedSetIterable iter env v >>= fun x => (standAt iter.pos >>= fun _ => holding [x] (pyIter x) >>= fun it => runOwn (.forLoop target it body orelse env) env)).wrap K H gd lv) fs s
  refine seg_at ?_
  rw [Sem.bind_eq_wrap', Sem.wrap_wrap]
  refine seg_wrap (wpAny_mono h (fun x s1 h1 => ?_) fun _ _ x => x)
  rw [hs]
  show Seg M A R Y n s₀ c (.at iter.pos fun _ => (holding [x] (pyIter x) >>= fun it => runOwn (.forLoop target it body orelse env) env).wrap K H gd lv) fs s1
  refine seg_at ?_
  rw [Sem.bind_eq_wrap', Sem.wrap_wrap]
  refine seg_wrap (wpAny_holding (wpAny_mono h1 (fun it s2 h2 => ?_) fun _ _ x => x))
  exact seg_call h2
end
section
variable {prog : Program} {w : World} {A : Around} {R : GenEnd} {Y : Protocol} {n : Nat} {s₀ : Shared} {fs : List Frame} {s : Shared} {env : Env}
theorem seg_forLoop {target : Expr} {it : Value} {body orelse : List Stmt}
    (h : wpAny (model prog w) (A.over (.forLoop target it body orelse env) fs) (pyNext it) (fun r s1 => match r with
        | none => Seg (model prog w) A R Y n s₀ (.forLoop target it body orelse env) (.pure (.again (.block orelse env))) fs s1
        | some v => wpAny (model prog w) (A.over (.forLoop target it body orelse env) fs) (letOwnedTupleGo target it v) (fun _ s1' => wpAny (model prog w) (A.over (.forLoop target it body orelse env) fs) (assign target env v) (fun _ s2 =>
          Seg (model prog w) A R Y n s₀ (.forLoop target it body orelse env) ((execs body env).wrap (fun f => match f with
            | .next | .cont => .pure (.again (.forLoop target it body orelse env))
            | .brk => .pure (.done .next)
            | .ret v => .pure (.done (.ret v))) (fun e => (do noteFrame e env; theTreesLotGoes e : Sem Unit).wrap (fun _ => .raise e) .raise id id) id id) fs s2)
          (fun x s' => Seg (model prog w) A R Y n s₀ (.forLoop target it body orelse env) ((do noteFrame x env; theTreesLotGoes x : Sem Unit).wrap (fun _ => .raise x) .raise id id) fs s') s1')
          (fun x s' => Seg (model prog w) A R Y n s₀ (.forLoop target it body orelse env) ((do noteFrame x env; theTreesLotGoes x : Sem Unit).wrap (fun _ => .raise x) .raise id id) fs s') s1)
      (fun x s' => Seg (model prog w) A R Y n s₀ (.forLoop target it body orelse env) ((do noteFrame x env; theTreesLotGoes x : Sem Unit).wrap (fun _ => .raise x) .raise id id) fs s') s) :
    Seg (model prog w) A R Y n s₀ (.forLoop target it body orelse env) ((model prog w).den (.forLoop target it body orelse env)) fs s := by
  have eh : ∀ {x : Value} {s' : Shared}, Seg (model prog w) A R Y n s₀ (.forLoop target it body orelse env) ((do noteFrame x env; theTreesLotGoes x : Sem Unit).wrap (fun _ => .raise x) .raise id id) fs s' →
      Seg (model prog w) A R Y n s₀ (.forLoop target it body orelse env) ((do noteFrame x env; theTreesLotGoes x : Sem Unit).bind fun _ => (.raise x : Sem Fin)) fs s' := fun {x s'} hx => by
    rw [Sem.bind_eq_wrap]
    exact hx
  show Seg _ A R Y n s₀ _ ((forTurn target it body orelse env).onRaise (fun x => do noteFrame x env; theTreesLotGoes x)) fs s
  rw [Sem.onRaise_eq_wrap]
  show Seg _ A R Y n s₀ _ (.at target.pos fun _ => (((pyNext it).onRaise (fun _ => standAt { target.pos with line := 0 })) >>= fun r => (match r with
    | none => again (.block orelse env)
    | some v => letOwnedTupleGo target it v >>= fun _ => assign target env v >>= fun _ => execs body env >>= fun f => (match f with
      | .next | .cont => again (.forLoop target it body orelse env)
      | .brk => pure (.done .next)
      | .ret v => pure (.done (.ret v)) : Sem Fin) : Sem Fin)).wrap .pure (fun e => (do noteFrame e env; theTreesLotGoes e : Sem Unit).bind fun _ => .raise e) id id) fs s
  refine seg_at ?_
  rw [Sem.bind_eq_wrap', Sem.wrap_wrap, Sem.onRaise_eq_wrap, Sem.wrap_wrap]
  refine seg_wrap (wpAny_mono h (fun r s1 h1 => ?_) fun x s1 hx => ?_)
  · cases r with
    | none => exact h1
    | some v =>
      show Seg _ A R Y n s₀ _ ((letOwnedTupleGo target it v >>= fun _ => assign target env v >>= fun _ => execs body env >>= fun f => (match f with
        | .next | .cont => again (.forLoop target it body orelse env)
        | .brk => pure (.done .next)
        | .ret v => pure (.done (.ret v)) : Sem Fin)).wrap .pure (fun e => (do noteFrame e env; theTreesLotGoes e : Sem Unit).bind fun _ => .raise e) id id) fs s1
      rw [Sem.bind_eq_wrap', Sem.wrap_wrap]
      refine seg_wrap (wpAny_mono h1 (fun _ s1' h1' => ?_) fun x s2 hx => eh hx)
      show Seg _ A R Y n s₀ _ ((assign target env v >>= fun _ => execs body env >>= fun f => (match f with
        | .next | .cont => again (.forLoop target it body orelse env)
        | .brk => pure (.done .next)
        | .ret v => pure (.done (.ret v)) : Sem Fin)).wrap .pure (fun e => (do noteFrame e env; theTreesLotGoes e : Sem Unit).bind fun _ => .raise e) id id) fs s1'
      rw [Sem.bind_eq_wrap', Sem.wrap_wrap]
      refine seg_wrap (wpAny_mono h1' (fun _ s2 h2 => ?_) fun x s2 hx => eh hx)
      rw [Sem.bind_eq_wrap', Sem.wrap_wrap]
      rw [Sem.wrap_congr (execs body env) _ _ (K' := fun f => match f with
            | .next | .cont => .pure (.again (.forLoop target it body orelse env))
            | .brk => .pure (.done .next)
            | .ret v => .pure (.done (.ret v))) (H' := (fun e => (do noteFrame e env; theTreesLotGoes e : Sem Unit).wrap (fun _ => .raise e) .raise id id))
        (fun f => by cases f <;> rfl)
        (fun e => by first | exact Sem.bind_eq_wrap _ _ | (show (do noteFrame e env; theTreesLotGoes e : Sem Unit).bind (fun _ => .raise e) = _; rw [Sem.bind_eq_wrap]))]
      exact h2
  · show Seg _ A R Y n s₀ _ (.at { target.pos with line := 0 } fun _ => (do noteFrame x env; theTreesLotGoes x : Sem Unit).bind fun _ => (.raise x : Sem Fin)) fs s1
    exact seg_at (eh hx)
end
end PySem

namespace L2
open PySem PySem.Spec PyProof.Rows
section
variable {X : Cx}
/-- if with yields in it -/
def tGIf (c : TT) (t u : TGn) : TGn := fun D ys σ H => c σ H fun b H1 => if b = true then t D ys σ H1 else u D ys σ H1
theorem gs_if {test : Expr} {body orelse : List Stmt} {pos : Pos} {tc : TT} {tb to : TGn} (hc : PT X test tc) (hb : GSs X body tb) (ho : GSs X orelse to) : GS X (.If test body orelse pos) (tGIf tc tb to) := by
  refine ⟨fun A S ip R n ys s₀ c fs K J gd lv s σ H D g hn k hI ht => ?_⟩
  obtain ⟨acc, cc, r, I⟩ := hI
  refine seg_If ?_
  rw [g.over]
  refine wpAny_mono (hc.run _ s σ H _ I ht) (fun b s' hb' => ?_) fun x s' hx => k.exc n s₀ x s' hx
  obtain ⟨H2, I2, q2⟩ := hb'
  cases b with
  | true =>
    rw [if_pos rfl] at q2 ⊢
    exact hb.run A S ip R n ys s₀ c fs K J gd lv s' σ H2 D g hn k ⟨acc, cc, r, I2⟩ q2
  | false =>
    rw [if_neg Bool.false_ne_true] at q2 ⊢
    exact ho.run A S ip R n ys s₀ c fs K J gd lv s' σ H2 D g hn k ⟨acc, cc, r, I2⟩ q2
/-- for with yields in it -/
def tGFor (wi : TI) (g : TG) (tb : TGn) : TGn := fun D ys σ H => wi σ H fun J H2 => ∃ W : Nat → Nat → List V → St → Hp → Prop, (∃ m, W 0 m ys σ H2) ∧ ∀ i m ys σ H, W i m ys σ H →
  (J.stop i H ∧ D.nx ys σ H) ∨ (J.go i H ∧ ∃ N : List V → St → Hp → Prop, (∀ ys' σ' H', N ys' σ' H' → ∃ m', m' < m ∧ W (i + 1) m' ys' σ' H') ∧ ∀ x H', J.yld i H x H' → g x σ H' fun σ2 H2 => tb { D with nx := N, ct := N, bk := D.nx } ys σ2 H2)
theorem gs_for {tg iter : Expr} {body : List Stmt} {wi : TI} {g : TG} {tb : TGn} {pos : Pos} (hp : PassesOwn (model X.prog X.w) X.A X.env X.xe) (hc : X.calm = true) (hi : PI X tg iter wi) (hg : PG X tg g) (hb : GSs X body tb)
    (hs : ∀ x, foldedSetIterable iter X.env x = pure x := by intro _; rfl) : GS X (.For tg iter body [] pos) (tGFor wi g tb) := by
  refine ⟨fun A S ip R n ys s₀ c fs K J gd lv s σ H D g0 hn k hI ht => ?_⟩
  obtain ⟨acc0, cc0, r0', I⟩ := hI
  refine seg_For ?_ hs
  rw [g0.over]
  refine wpAny_mono (hi.run _ s σ H _ I ht) (fun v s1 h1 => wpAny_mono h1 (fun itv s2 h2 => ?_) fun x s' hx => k.exc n s₀ x s' hx) fun x s' hx => k.exc n s₀ x s' hx
  intro p
  obtain ⟨it, fp, tn, Jt, H2, e, I2, T, st2, f2, W, ⟨m0, w0⟩, turn⟩ := h2
  subst e
  have gl := fun (kk : Result → Sem PySem.Fin) => gc_loop (k := kk) (c' := .forLoop tg (.ref it) body [] X.env) (l := lv []) (kp := []) (p := p) g0 rfl rfl
  have loop : ∀ (m n : Nat) (ys : List V) (s₀ s : Shared) (σ : St) (H : Hp) (i : Nat), n + ys.length = sizeLine → W i m ys σ H → GI X S ip ys σ H s → tn i s.heap → (∀ b ∈ fp, H b = none) →
      Seg (model X.prog X.w) A R (GY X S) n s₀ (.forLoop tg (.ref it) body [] X.env) ((model X.prog X.w).den (.forLoop tg (.ref it) body [] X.env))
        (.ret (fun r => ((match r with | .ok f => (.pure f : Sem Flow) | .error e => .raise e).onRaise (cameBack X.env)).wrap K J gd lv) none (gd false) (lv []) c p [] :: fs) s := by
    intro m
    induction m using Nat.strongRecOn with
    | ind m ih =>
      intro n ys s₀ s3 σ3 H3 i hn w3 hI st3 fr3
      have ee : ∀ (n : Nat) (s₀ : Shared) (x : Value) (s' : Shared), X.xe x s' → Seg (model X.prog X.w) A R (GY X S) n s₀ (.forLoop tg (.ref it) body [] X.env)
          ((do noteFrame x X.env; theTreesLotGoes x : Sem Unit).wrap (fun _ => .raise x) .raise id id)
          (.ret (fun r => ((match r with | .ok f => (.pure f : Sem Flow) | .error e => .raise e).onRaise (cameBack X.env)).wrap K J gd lv) none (gd false) (lv []) c p [] :: fs) s' := fun n s₀ x s' hx => by
        refine seg_wrap ?_
        rw [(gl _).over]
        refine wpAny_bind (wpAny_mono (hp x s' hx) (fun _ s'' hcb => wpAny_theTreesLotGoes ?_) fun y s'' hcb => ?_)
        · exact seg_leaf (.error x) (seg_cameBack g0 k hcb)
        · exact seg_leaf (.error y) (seg_cameBack g0 k hcb)
      obtain ⟨acc, cc, r, I3⟩ := hI
      have stat : ∀ {H' : Hp}, (∀ b ∈ fp, H' b = none) → ∀ b ∈ fp, FpOk X ((S, lstObj acc cc) :: ip) H' b := fun hn b hb => by
        obtain ⟨_, q1, q2, q3, q4, q5⟩ := f2 b hb
        refine ⟨hn b hb, q1, q2, q3, q4, fun pp hpp => ?_⟩
        rcases List.mem_append.mp hpp with z | z
        · exact q5 pp (List.mem_append_left _ z)
        · rcases List.mem_cons.mp z with z | z
          · rw [z]
            exact (q5 (S, lstObj acc0 cc0) (List.mem_append_right _ List.mem_cons_self) : S ≠ b)
          · exact q5 pp (List.mem_append_right _ (List.mem_cons_of_mem _ z))
      refine seg_forLoop ?_
      rw [(gl _).over]
      rcases turn i m ys σ3 H3 w3 with ⟨stop, qn⟩ | ⟨go, N, hN, step⟩
      · refine wpAny_mono (T.done X rfl rfl rfl hc i _ s3 σ3 H3 X.xe I3 (stat fr3) st3 stop) (fun r0 s4 h4 => ?_) fun x s' hx => ee n s₀ x s' hx
        obtain ⟨hr, I4⟩ := h4
        subst hr
        refine seg_again rfl ?_
        exact seg_leaf (.ok .next) (k.ok n ys s₀ s4 .next hn ⟨σ3, H3, ⟨acc, cc, r, I4⟩, qn⟩)
      · refine wpAny_mono (T.item X rfl rfl rfl hc i _ s3 σ3 H3 X.xe I3 (stat fr3) st3 go) (fun r0 s4 h4 => ?_) fun x s' hx => ee n s₀ x s' hx
        obtain ⟨u, hr, h4⟩ := h4
        subst hr
        refine wpAny_mono h4 (fun _ s5 h5 => ?_) fun x s' hx => ee n s₀ x s' hx
        obtain ⟨x, H5, I5, r5, y5, st5, fr5⟩ := h5
        have I5' := I5.pinned (stat fr5) (T.obj _ _ st5)
        refine wpAny_mono (hg.run _ s5 σ3 H5 x u _ I5' r5 (step x H5 y5)) (fun _ s6 h6 => ?_) fun x s' hx => ee n s₀ x s' hx
        obtain ⟨σ6, H6, I6, q6⟩ := h6
        have gb : ∀ kk : Result → Sem PySem.Fin, GC X S (ip ++ pinsAt fp s5.heap) A (.forLoop tg (.ref it) body [] X.env) (.ret kk none (gd false) (lv []) c p [] :: fs) id := fun kk =>
          { gl kk with
            ip := fun pp hpp => by
              rcases List.mem_append.mp hpp with z | z
              · exact g0.ip pp z
              · obtain ⟨hb, _⟩ := of_pinsAt z
                exact fun z2 => (stat fr5 pp.1 hb).2.2.2.2.2 (S, lstObj acc cc) (List.mem_append_right _ List.mem_cons_self) z2.symm }
        have again : ∀ {n' : Nat} {ys' : List V} {s₀' s7 : Shared} {σ7 : St} {H7 : Hp}, n' + ys'.length = sizeLine → GI X S (ip ++ pinsAt fp s5.heap) ys' σ7 H7 s7 → N ys' σ7 H7 →
            Seg (model X.prog X.w) A R (GY X S) n' s₀' (.forLoop tg (.ref it) body [] X.env) (.pure (.again (.forLoop tg (.ref it) body [] X.env)))
              (.ret (fun r => ((match r with | .ok f => (.pure f : Sem Flow) | .error e => .raise e).onRaise (cameBack X.env)).wrap K J gd lv) none (gd false) (lv []) c p [] :: fs) s7 := fun {n' ys' s₀' s7 σ7 H7} hn' hI7 n7 => by
          obtain ⟨acc7, c7, r7, I7⟩ := hI7
          have I7 : Inv X (((S, lstObj acc7 c7) :: ip) ++ pinsAt fp s5.heap) σ7 H7 s7 := I7
          obtain ⟨m', hm, w7⟩ := hN ys' σ7 H7 n7
          refine seg_again rfl (ih m' hm n' ys' s₀' s7 σ7 H7 (i + 1) hn' w7 ⟨acc7, c7, r7, I7.unpinned⟩ (T.keep _ _ _ st5 fun b hb o e => (I7.pin (b, o) (List.mem_append_right _ (List.mem_append_right _ (mem_pinsAt hb e)))).1) fun b hb => ?_)
          obtain ⟨o, e, d⟩ := T.obj _ _ st5 b hb
          exact (I7.pin (b, o) (List.mem_append_right _ (List.mem_append_right _ (mem_pinsAt hb e)))).2.1
        refine hb.run A S (ip ++ pinsAt fp s5.heap) R n ys s₀ _ _ _ _ id id s6 σ6 H6 { D with nx := N, ct := N, bk := D.nx } (gb _) hn ⟨fun n' ys' s₀' s7 f hn' hs' => ?_, fun n' s₀' x s7 hx => ee n' s₀' x s7 hx⟩ ⟨acc, cc, r, I6⟩ q6
        cases f with
        | next =>
          obtain ⟨σ7, H7, I7, n7⟩ := hs'
          exact again hn' I7 n7
        | cont =>
          obtain ⟨σ7, H7, I7, n7⟩ := hs'
          exact again hn' I7 n7
        | brk =>
          obtain ⟨σ7, H7, ⟨acc7, c7, r7, I7⟩, q7⟩ := hs'
          have I7 : Inv X (((S, lstObj acc7 c7) :: ip) ++ pinsAt fp s5.heap) σ7 H7 s7 := I7
          exact seg_leaf (.ok .next) (k.ok n' ys' s₀' s7 .next hn' ⟨σ7, H7, ⟨acc7, c7, r7, I7.unpinned⟩, q7⟩)
        | ret v =>
          obtain ⟨x7, σ7, H7, ⟨acc7, c7, r7, I7⟩, rv, q7⟩ := hs'
          have I7 : Inv X (((S, lstObj acc7 c7) :: ip) ++ pinsAt fp s5.heap) σ7 H7 s7 := I7
          exact seg_leaf (.ok (.ret v)) (k.ok n' ys' s₀' s7 (.ret v) hn' ⟨x7, σ7, H7, ⟨acc7, c7, r7, I7.unpinned⟩, rv, q7⟩)
  exact loop m0 n ys s₀ s2 σ H2 0 hn w0 ⟨acc0, cc0, r0', I2⟩ st2 fun b hb => (f2 b hb).1
end
end L2

namespace RK
open PySem PySem.Spec PyProof.Rows L2
/-- a comprehension with two for, both targets names (at k and k1), a test behind the second -/
theorem lc2T_it {J : It} {n : Nat} {G : Hp → Prop} {Y : Nat → Hp → V → Hp → Prop} (w : Walk J n G Y) {wi1 : TI} {tt1 : TT} {te : TE} {σ : L2.St} {H1 : Hp} {D : Addr} {Qd : Hp → Prop} {k k1 : Nat} (hk : k ≠ k1) (Pv : Nat → Hp → Prop) (h0 : Pv 0 (upd H1 D (.lst []))) (hG : ∀ i H, i ≤ n → Pv i H → G H)
    (hs : ∀ (i : Nat) (x : V) (H H' : Hp), i < n → Pv i H → Y i H x H' → ∀ R : It → Hp → Prop, (∀ (J1 : It) (H4 : Hp) (n1 : Nat) (G1 : Hp → Prop) (Y1 : Nat → Hp → V → Hp → Prop) (P1 : Nat → Hp → Prop), Walk J1 n1 G1 Y1 → P1 0 H4 → (∀ j H, j ≤ n1 → P1 j H → G1 H) →
      (∀ (j : Nat) (y : V) (H H' : Hp), j < n1 → P1 j H → Y1 j H y H' → tt1 (((((σ.set k1 none).set k none).set k (some x)).set k1 none).set k1 (some y)) H' fun b H6 => if b = true then te (((((σ.set k1 none).set k none).set k (some x)).set k1 none).set k1 (some y)) H6 (fun z H7 => ∃ acc, H7 D = some (.lst acc) ∧ acc.length < sizeLine ∧ P1 (j + 1) (upd H7 D (.lst (acc ++ [z])))) else P1 (j + 1) H6) →
      (∀ H, P1 n1 H → Pv (i + 1) H) → R J1 H4) → wi1 (((σ.set k1 none).set k none).set k (some x)) H' R)
    (hd : ∀ H, Pv n H → Qd H) :
    ∃ W : Nat → Nat → Hp → Prop, (∃ m, W 0 m (upd H1 D (.lst []))) ∧ ∀ (i m : Nat) (H : Hp), W i m H → (J.stop i H ∧ Qd H) ∨ (J.go i H ∧ ∃ Nx : Hp → Prop, (∀ H', Nx H' → ∃ m', m' < m ∧ W (i + 1) m' H') ∧ ∀ (x : V) (H' : Hp), J.yld i H x H' →
      gName k x (wipe σ [k, k1]) H' fun σ2 H2 => wipe σ2 [k, k1] = wipe σ [k, k1] ∧ tYes σ2 H2 fun b H3 => if b = true then wi1 σ2 H3 fun J1 H4 => ∃ W1 : Nat → Nat → Hp → Prop, (∃ m, W1 0 m H4) ∧ ∀ (j k' : Nat) (H : Hp), W1 j k' H → (J1.stop j H ∧ Nx H) ∨ (J1.go j H ∧ ∃ Nx1 : Hp → Prop, (∀ H', Nx1 H' → ∃ k2, k2 < k' ∧ W1 (j + 1) k2 H') ∧
        ∀ (x : V) (H' : Hp), J1.yld j H x H' → gName k1 x (wipe σ2 [k1]) H' fun σ3 H5 => wipe σ3 [k1] = wipe σ2 [k1] ∧ tt1 σ3 H5 fun b H6 => if b = true then te σ3 H6 fun y H7 => ∃ acc, H7 D = some (.lst acc) ∧ acc.length < sizeLine ∧ Nx1 (upd H7 D (.lst (acc ++ [y]))) else Nx1 H6) else Nx H3) := by
  refine ⟨fun i m H => i ≤ n ∧ m = n - i ∧ Pv i H, ⟨n, Nat.zero_le _, rfl, h0⟩, fun i m H hW => ?_⟩
  obtain ⟨hi, rfl, hp⟩ := hW
  rcases Nat.lt_or_ge i n with hlt | hge
  · refine .inr ⟨w.goes i H hlt (hG i H hi hp), fun H' => Pv (i + 1) H', fun H' h => ⟨n - (i + 1), by omega, by omega, rfl, h⟩, fun x H' y => ?_⟩
    have y' := w.yields i H x H' hlt (hG i H hi hp) y
    refine ⟨?_, ?_⟩
    · show ((((σ.set k1 none).set k none).set k (some x)).set k1 none).set k none = (σ.set k1 none).set k none
      rw [List.set_set, List.set_comm _ _ hk, List.set_set, List.set_set]
    show wi1 (((σ.set k1 none).set k none).set k (some x)) H' _
    refine hs i x H H' hlt hp y' _ fun J1 H4 n1 G1 Y1 P1 w1 p0 hG1 st en => ?_
    refine ⟨fun j m H => j ≤ n1 ∧ m = n1 - j ∧ P1 j H, ⟨n1, Nat.zero_le _, rfl, p0⟩, fun j m Hj hW1 => ?_⟩
    obtain ⟨hj, rfl, hp1⟩ := hW1
    rcases Nat.lt_or_ge j n1 with hlt1 | hge1
    · refine .inr ⟨w1.goes j Hj hlt1 (hG1 j Hj hj hp1), fun H' => P1 (j + 1) H', fun H' h => ⟨n1 - (j + 1), by omega, by omega, rfl, h⟩, fun y H'' yy => ?_⟩
      have yy' := w1.yields j Hj y H'' hlt1 (hG1 j Hj hj hp1) yy
      refine ⟨?_, ?_⟩
      · show (((((σ.set k1 none).set k none).set k (some x)).set k1 none).set k1 (some y)).set k1 none = (((σ.set k1 none).set k none).set k (some x)).set k1 none
        rw [List.set_set, List.set_set]
      exact st j y Hj H'' hlt1 hp1 yy'
    · have : j = n1 := Nat.le_antisymm hj hge1
      subst this
      exact .inl ⟨w1.stops Hj (hG1 j Hj hj hp1), en Hj hp1⟩
  · have : i = n := Nat.le_antisymm hi hge
    subst this
    exact .inl ⟨w.stops H (hG i H hi hp), hd H hp⟩
end RK

/-! list(generator) that may raise, in a try; a def called while an error of an unknown context is handled -/
namespace RK
open PySem PySem.Spec PyProof.Rows L2
theorem fly_mono {B h : Heap} {l : List Env} {a : Addr} {Z Z' : Obj → Prop} (m : ∀ o, Z o → Z' o) (x : HandSPX.FlyingZ B l a Z h) : HandSPX.FlyingZ B l a Z' h :=
  ⟨x.1, x.2.1, x.2.2.1, let ⟨oe, vs, T, oT, ts, h1, h2, r⟩ := x.2.2.2; ⟨oe, vs, T, oT, ts, h1, m _ h2, r⟩⟩
theorem cx_n {P : Program} {w : World} {outer : List Env} {H : Hp} {s s' : Shared} {E : XK} {u : Value} (c : L2N.CX P w outer H s E u s') : L2.CX P w outer H s E u s' :=
  let ⟨a, B, H', cls, d, e, fl, r⟩ := c
  ⟨a, B, H', cls, d, e, fly_mono (fun _ z => z.zc) fl, r⟩
theorem passG {P : Program} {w : World} {K : PySem.W.Frag} {mg : Str → Option Value} {base : Heap} {N : List Str} {qual : Str} {scope : Scope} {f : Addr} {cd : Value} {A : Around} {outer : List Env} {s : Shared} {H : Hp} {E : XK} {pn : List (Addr × Obj)} :
    Passes (L2N.CX P w) (gcxOf P w K mg base N qual scope f cd A outer s H E pn) E := fun pins σ H' s1 e s' I c =>
  L2.passes_call (X := gcxOf P w K mg base N qual scope f cd A outer s H E pn) takes_gcx (fun _ _ _ _ h => h) pins σ H' s1 e s' I (cx_n c)
/-! ### a def called while an error is handled of whose context nothing is known -/
def Hot0 (A : Around) (p : Addr × Obj) : Prop := A.handled = some (.ref p.1) ∧ ∃ vs : Array Value, p.2.data = .fields vs
def HotZ (X : Cx) : Prop := ∃ p : Addr × Obj, Hot0 X.A p ∧ p ∈ X.pn
structure FnZ (P : Program) (w : World) (K : PySem.W.Frag) (mg : Str → Option Value) (base : Heap) (CX : CXT) (k : Nat) (f : Addr) (fd : FuncData) (ps : List Str) (sp : Sp) : Prop where
  len : ∀ vs H Q E, sp vs H Q E → vs.length = ps.length
  run : ∀ (A : Around) (outer : List Env) (s : Shared) (H : Hp) (args : Args) (us : List Value) (vs : List V) (Q : VK) (E : XK) (p : Addr × Obj), L2H.RoomH k A → Hot0 A p → L2H.PinOk outer H s p → Env0 P w K mg base A outer s H → BindsTo s fd args (ps.zip us) → Vals vs us → sp vs H Q E →
    codeAny (model P w) A (.call (.ref f) args) (CR CX outer P w H s Q E) s
theorem fn_ofZ {CX : CXT} {P : Program} {w : World} {K : PySem.W.Frag} {mg : Str → Option Value} {base : Heap} {k : Nat} {f : Addr} {name qual : Str} {params : Arguments} {body : List Stmt} {scope : Scope} {dV kV doc pm cdv ct oc : Value} {an od : Option Addr}
    {osl : Array (Option Value)} {N ps : List Str} {sp : Sp} (lk : K.lookup f = some ⟨oc, od, .func (PySem.W.fnOf name qual params body scope dV kV doc pm an cdv ct), osl⟩) (hcd : PySem.W.codeIn K cdv qual = true) (S : FnScope N ps scope) (hl : ∀ vs H Q E, sp vs H Q E → vs.length = ps.length)
    (hbody : ∀ (A : Around) (outer : List Env) (s : Shared) (H : Hp) (vs : List V) (Q : VK) (E : XK) (p : Addr × Obj), Hot0 A p → L2H.RoomH k (A.deeper (envOfC qual scope s.heap.objs.size f cdv)) → sp vs H Q E →
      ∃ t, PSs (L2H.cxH CX P w K mg base N qual scope f cdv A outer s H E p) body t ∧ t { nx := fun _ H' => Q .non H', rt := Q } (L2.start N vs) H) :
    FnZ P w K mg base CX (k + 1) f (PySem.W.fnOf name qual params body scope dV kV doc pm an cdv ct) ps sp := by
  refine ⟨hl, fun A outer s H args us vs Q E p hr hot hpin e0 hb r hsp => ?_⟩
  have kin : K.In s.heap := e0.mod.kin.keeps fun b o e => (e0.bs b o e).1
  have nlm : s.heap.NoLimit := e0.mod.nolimit.keeps fun b o e => (e0.bs b o e).1
  have kinds : ∀ y ∈ ps.zip us, scope.names.lookup y.1 = some .local ∨ (scope.names.lookup y.1 = some .cell ∧ ((cellsFrom (s.heap.objs.size + 1) scope.names []).lookup y.1).isSome = true) := by
    rintro ⟨n, v⟩ hy
    exact (S.par n (List.of_mem_zip hy).1).imp id fun q => ⟨q, PySem.W.cellsFrom_some _ _ _ (.inl q)⟩
  refine codeAny_call_function hr.depth (kin _ _ lk) rfl S.co S.gen rfl (PySem.W.codeRec_of kin hcd) (hb _ _ _ _ ?_)
  refine wpAny_newFunctionEnv_cells S.kind kinds fun env he s1 x => ?_
  subst he
  refine ⟨nlm.keeps x.toInCall.keep, codeAny_func ?_⟩
  obtain ⟨t, ht, hq⟩ := hbody A outer s H vs Q E p hot (hr.deeper _) hsp
  have I := L2H.inv_startH (CX := CX) (E := E) S hpin e0 (hl _ _ _ _ hsp) r x
  refine wpAny_mono (ht.run [] s1 (L2.start N vs) H _ I hq) (fun fl s' hs => ?_) fun e s' hs => hs
  cases fl with
  | ret u => exact let ⟨v, σ', H', J, rv, q⟩ := hs; ⟨v, H', J.os, J.bare, J.base, J.hok, rv, q⟩
  | next => exact let ⟨σ', H', J, q⟩ := hs; ⟨V.non, H', J.os, J.bare, J.base, J.hok, (show RelV V.non Value.none from rfl), q⟩
  | brk => exact let ⟨_, _, _, q⟩ := hs; q.elim
  | cont => exact let ⟨_, _, _, q⟩ := hs; q.elim
theorem Fun.okZ {P : Program} {w : World} {K : PySem.W.Frag} {mg : Str → Option Value} {base : Heap} {x qual : Str} {st : Stmt} {f : Addr} {fd : FuncData} {N ps : List Str} {k : Nat} {sp : Sp} (F : Fun K x qual st f fd) (S : FnScope N ps (defScope st))
    (len : ∀ vs H Q E, sp vs H Q E → vs.length = ps.length) (body : ∀ (cdv : Value) (A : Around) (outer : List Env) (s : Shared) (H : Hp) (vs : List V) (Q : VK) (E : XK) (p : Addr × Obj), Hot0 A p → L2H.RoomH k (A.deeper (envOfC qual (defScope st) s.heap.objs.size f cdv)) → sp vs H Q E →
      ∃ t, PSs (L2H.cxH CX0 P w K mg base N qual (defScope st) f cdv A outer s H E p).nox (defBody st) t ∧ t { nx := fun _ H' => Q .non H', rt := Q } (start N vs) H) : FnZ P w K mg base CX0 (k + 1) f fd ps sp := by
  obtain ⟨oc, od, kV, doc, pm, an, cdv, ct, osl, rfl, lk, hcd⟩ := F.ex
  refine fn_ofZ lk hcd S len fun A outer s H vs Q E p hot hr z => ?_
  obtain ⟨t, h1, h2⟩ := body cdv A outer s H vs Q E p hot hr z
  exact ⟨t, h1.nox, h2⟩
section
variable {X : Cx} {CX : CXT} {k : Nat} {f C : Addr} {fd : FuncData} {ps : List Str} {sp : Sp} {E : L2.St → XK} {x m : Str} {q pos apos : Pos} {e o : Expr} {es : List Expr} {ta : TE} {t : TA}
theorem run_fnZ {pins : List (Addr × Obj)} {σ : L2.St} {H : Hp} {s : Shared} {Q : VK} {us : List Value} {vs : List V} (F : FnZ X.prog X.w X.K X.mg X.base CX k f fd ps sp) (hr : L2H.RoomH k X.A) (hc : HotZ X) (hb : Binds X.K fd ps []) (hx : PassesAt CX X σ (E σ))
    (I : Inv X pins σ H s) (r : Vals vs us) (h : sp vs H Q (E σ)) : wpAny (model X.prog X.w) X.A (call (.ref f) us) (EP X pins σ Q) X.xe s := by
  obtain ⟨p, hot, hp⟩ := hc
  have b := hb s us I.kIn (by rw [List.append_nil, ← r.length]; exact F.len _ _ _ _ h)
  rw [List.append_nil] at b
  obtain ⟨g1, g2, g3, g4, g5⟩ := I.pin p (List.mem_append_left _ hp)
  refine wpAny_call (codeAny_mono (F.run X.A X.stack s H ⟨us, []⟩ us vs Q (E σ) p hr hot ⟨g1, g2, fun hm => (List.mem_cons.mp (I.stkSub p.1 hm)).elim g3 g4, g5⟩ I.env0 b r h) fun r s' hq => ?_)
  cases r with
  | error e => exact hx pins H s e s' I hq
  | ok fl =>
    cases fl with
    | ret u => exact I.after hq
    | next => exact hq.elim
    | brk => exact hq.elim
    | cont => exact hq.elim
theorem pe_callZ (F : FnZ X.prog X.w X.K X.mg X.base CX k f fd ps sp) (hr : L2H.RoomH k X.A) (hc : HotZ X) (hg : Gl X x) (hm : X.mg x = some (.ref f)) (hk : PySem.W.keepIn X.K (.ref f) = true) (hb : Binds X.K fd ps []) (hx : ∀ σ, PassesAt CX X σ (E σ))
    (ha : PA X (e :: es) t) (hdb : (x == ("__debug__" : Str)) = false := by decide) (he : starEach (e :: es) X.env = (false, eval e X.env) :: starEach es X.env := by rfl) (hpl : (backTo pos (starEach es X.env)).any (·.1) = false := by rfl) :
    PE X (.Call (.Name x q) (e :: es) [] pos) (tCallS sp E t) := by
  refine ⟨fun pins s σ H Q I h => wpAny_Call_Name_kw (ld_glob I hg hm ?_ hdb)⟩
  exact PySem.W.callWith_K (h₀ := X.base) I.ok.mod.kin hk (thn (ha.run pos pins s σ H _ I h) fun us s1 ⟨vs, H1, I1, r, q⟩ => ⟨I1.kIn, run_fnZ F hr hc hb (hx σ) I1 r q⟩) he hpl
end
/-! ### a try of L2 with several handlers, the first with `as e` -/
section
variable {X : Cx} {x n : Str} {c : Value} {i : Nat} {body suite : List Stmt} {hds : List ExceptHandler} {b₀ : Stmt} {np pos pos' : Pos} {tb : WX → TS} {ts : Addr → Value → Option Addr → TS} {pins : List (Addr × Obj)}
theorem ps_try_hitZ (st : X.stack = X.env :: X.outer) (fr : X.env.frame = some X.env.locals) (ndN : X.N.Nodup) (ni : X.N[i]? = some n) (nl : X.env.kindOf n = some .local) (nc : Names X x c)
    (hB : ∀ (W : WX) (ps : List (Addr × Obj)) (xe : Value → Shared → Prop), L2.Takes (X.tr ps xe) W → PassesOwn (model X.prog X.w) X.A X.env xe → PSs (X.tr ps xe) body (tb W))
    (hS : ∀ (a : Addr) (o : Obj) (cls : Value) (d : Option Addr) (ps : List (Addr × Obj)), Zc cls d o → (∃ vs, o.data = .fields vs) → PSs (X.suite a ((a, o) :: ps)) (b₀ :: suite) (ts a cls d)) :
    PS X (.Try body (.ExceptHandler (some (.Name x np)) (some n) (b₀ :: suite) pos' :: hds) [] [] pos) (fun D σ H => tb (wHit X.K c i ts D) D σ H) := by
  refine ⟨fun pins s σ H D I h => wpAny_Try_except ?_⟩
  have fr2 : X.A.frames = some (X.env :: X.outer) := I.ok.frames.trans (congrArg some st)
  refine wpAny_mono ((hB _ (X.pn ++ pins) (fun e s₁ => wpAny (model X.prog X.w) X.A (noteFrame e X.env) (fun _ s₂ => wpAny (model X.prog X.w) X.A (setFlight e none) (fun _ s₃ => wpAny (model X.prog X.w) X.A
    (handleBy e X.env (.ExceptHandler (some (.Name x np)) (some n) (b₀ :: suite) pos' :: hds)) (SP X pins D) X.xe s₃) X.xe s₂) X.xe s₁) (fun u t xx => ?_) PassesOwn.looking).run [] s σ H D (I.toTry _) h) (fun f t q => ?_) (fun _ _ z => z)
  case refine_2 =>
    have q' := flow_out (pins := pins) I.ok q
    cases f with
    | next => exact wpAny_execs_nil q'
    | _ => exact q'
  obtain ⟨a, B, t0, ps, σ1, H1, cls, d, eu, J0, nB, u1, sk, na, eo, bare, hit, go⟩ := xx
  subst eu
  have J := J0.ofTry I.ok
  rw [show (X.tr (X.pn ++ pins) _).stack = X.env :: X.outer from st] at sk
  refine L2.Sky.land Zc.steady fr2 fr sk fun h3 f3 u3 => ?_
  have J3 : Inv X pins σ1 H1 { t with heap := h3 } := J.landed nB f3.1 (u1.trans u3) eo bare
  obtain ⟨o3, v3, g3, z3, d3⟩ := f3.there
  have out := no_frame f3.2.2.1 g3 d3
  have aL : a ≠ X.env.locals := fun e => out (List.mem_filterMap.mpr ⟨X.env, .head _, by rw [e]; exact fr⟩)
  have aF : a ∉ X.fs := fun m => out (by rw [show frs (X.env :: X.outer) = X.env.locals :: frs X.outer from List.filterMap_cons_some fr]; exact .tail _ m)
  refine wpAny_handleBy_cons (codeAny_handlers_test (names_it nc (J3.suite g3 d3 na aL aF) ?_)) (by intro z; cases z)
  refine (PySem.W.exm_one (M := model X.prog X.w) J3.kIn (fun _ _ _ _ k z => wpAny_typeOf_ref (k _ _ g3) (by rw [z3.1]; exact z)) hit).here ?_
  refine codeAny_handlers_suite_as (HandSPX.lands_againZ f3 fun h4 f4 u4 => ?_)
  have J4 : Inv X pins σ1 H1 { t with heap := h4 } := J.landed nB f4.1 ((u1.trans u3).trans u4) eo bare
  obtain ⟨o4, v4, g4, z4, d4⟩ := f4.there
  refine store_ok (X := Cx.suite X a ((a, o4) :: (X.pn ++ pins))) (v := .ref a) (J4.suite g4 d4 na aL aF) ndN ni (.inl nl) rfl (fun t5 S5 => ?_) (.inr nl)
  refine wpAny_mono ((hS a o4 cls d (X.pn ++ pins) z4 ⟨_, d4⟩).run [] t5 _ H1 _ S5 (go a na)) (fun f t6 q => ?_) (fun _ _ z => z.elim)
  cases f with
  | ret u => exact let ⟨v6, σ6, H6, S6, r6, q6⟩ := q; gone_ok (S6.unsuite I.ok) ndN ni nl fun t7 J7 => ⟨v6, _, H6, J7, r6, q6⟩
  | next => exact let ⟨σ6, H6, S6, q6⟩ := q; gone_ok (S6.unsuite I.ok) ndN ni nl fun t7 J7 => ⟨_, H6, J7, q6⟩
  | brk => exact let ⟨σ6, H6, S6, q6⟩ := q; gone_ok (S6.unsuite I.ok) ndN ni nl fun t7 J7 => ⟨_, H6, J7, q6⟩
  | cont => exact let ⟨σ6, H6, S6, q6⟩ := q; gone_ok (S6.unsuite I.ok) ndN ni nl fun t7 J7 => ⟨_, H6, J7, q6⟩
theorem hot_suiteZ {a : Addr} {o : Obj} {cls : Value} {d : Option Addr} {ps : List (Addr × Obj)} (z : Zc cls d o) (h : ∃ vs, o.data = .fields vs) : HotZ (X.suite a ((a, o) :: ps)) :=
  ⟨(a, o), ⟨rfl, h⟩, List.mem_cons_self⟩
end
/-! ### list(g), what leaves it looks at the slots -/
section
variable {X : Cx} {k : Nat} {pos p : Pos}
theorem pe_listGS {e : Expr} {tg : L2.St → TGen} {E : L2.St → XK} {nm : Str} (h : ∀ σ, PGen X k e (tg σ) (E σ)) (hx : ∀ σ, PassesAt (L2.CX X.prog X.w) X σ (E σ)) (hns : ∀ σ, NoStop X.K (E σ)) (hr : Room (k + 3) X.A) (hg : Gl X nm) (hmg : X.mg nm = none) (hv : bootBuiltins nm = some (.type "list"))
    (hnm : nm ≠ "__name__" := by decide) (hdb : (nm == ("__debug__" : Str)) = false := by decide) (he : starEach [e] X.env = (false, eval e X.env) :: starEach [] X.env := by rfl) :
    PE X (.Call (.Name nm p) [e] [] pos) (fun σ H Q => tg σ σ H fun out H2 => ∀ p, H2 p = none → Q (.ref p) (upd H2 p (.lst out))) := by
  refine ⟨fun pins s σ H Q I hq => wpAny_Call_Name_kw (ld_blt I hg hmg hv ?_ hnm hdb)⟩
  refine PyProof.Rows.callWith_type1 ?_ he rfl
  rw [he]
  show wpAny _ _ (spliced ((false, eval e X.env) :: backTo pos (starEach [] X.env))) _ _ s
  refine Calls.spliced_cons (thn ((h σ).run pins s σ H _ I hq) fun u s1 ⟨H1, sc, ex, I1, hex, hG⟩ => Calls.spliced_nil ?_)
  have hsz : sc.heap.objs.size ≤ s1.heap.objs.size := by
    obtain ⟨a, g, c, _, h1, h2, _⟩ := hG
    exact Nat.le_trans h1 (Nat.le_of_lt h2)
  refine call_list_new hr I1.ok.frames hG (fun S s' acc c H' ys q0 q1 q2 hl q3 q4 q5 q6 q7 q8 => ⟨.ref S, upd H' S (.lst ys), I1.drained (Nat.le_trans hsz q0) hl q1 q2 hex q3 q4 q5 q6 q7, rfl, q8 S q7⟩) fun e s' g hc => ?_
  have kin : X.K.In s'.heap := by
    obtain ⟨a, B, H', cls, d, _, fl, _, ub, _⟩ := id hc
    refine I1.ok.mod.kin.keeps fun b o eb => fl.1 b o (ub.keep b o (I1.bs b o eb).1 (I1.bs b o eb).2 fun hm => ?_)
    refine (List.mem_cons.mp (I1.stkSub b hm)).elim (fun z => ?_) fun z => I1.ok.nofr eb z
    have h1 := Heap.lt_size eb
    rw [z] at h1
    exact absurd (Nat.lt_of_lt_of_le h1 (Nat.le_trans I1.ok.bsz I1.ok.above)) (Nat.lt_irrefl _)
  refine ⟨notStop_of (hns σ) kin hc, hx σ pins H1 sc e _ I1 ?_⟩
  obtain ⟨a, B, H', cls, d, z1, fl, z2, ub, z3, z4, z5, z6⟩ := hc
  exact ⟨a, B, H', cls, d, z1, fl, z2, ub, z3, z4, allBare_setGen z5 rfl, z6⟩
end
end RK

namespace RK
open PySem PySem.Spec PyProof.Rows L2
/-! ### zip of a list and a tuple -/
theorem lst_ne {h : Heap} {a it : Addr} {i : Nat} {items : Array Value} (hit : h.IsListIter it a i) (pl : h.IsList a items) : a ≠ it := fun z => by
  subst z
  obtain ⟨o, h1, c1, _⟩ := hit
  obtain ⟨o2, h2, c2, _⟩ := pl
  rw [h1] at h2
  cases h2
  rw [c1] at c2
  exact absurd c2 (by decide)
def ItzLT (K : PySem.W.Frag) (a b : Addr) : It :=
  ⟨fun i H => ∃ (xs ys : List V) (x y : V), SqL K H a xs ∧ SqT K H b ys ∧ xs[i]? = some x ∧ ys[i]? = some y,
    fun i H v H' => ∃ T x y, v = V.ref T ∧ H T = none ∧ H' = upd H T (.tup [x, y]) ∧ (∀ xs, SqL K H a xs → xs[i]? = some x) ∧ ∀ ys, SqT K H b ys → ys[i]? = some y,
    fun i H => ∃ xs ys : List V, SqL K H a xs ∧ SqT K H b ys ∧ (i = xs.length ∧ i ≤ ys.length ∨ i = ys.length ∧ i ≤ xs.length)⟩
theorem turn_zipLT {P : Program} {w : World} {K : PySem.W.Frag} {elts : List Expr} {kk : Nat} {tpos : Pos} {a b z TI TO i1 i2 : Addr} (D : PySem.ZipSep2 z TI TO i1 i2 [i1, a] [i2, b]) :
    Turn P w K (.Tuple elts kk tpos) (ItzLT K a b) [z, TI, TO, i1, i2] z (fun i h => IsZip h z TI TO .none ∧ PySem.IsTupOf2 h TI (.ref i1) (.ref i2) ∧ (∃ x y, PySem.IsTupOf2 h TO x y) ∧ h.IsListIter i1 a i ∧ h.IsTupleIter i2 b i) where
  mem := by simp
  obj := fun i h st c hc => by
    obtain ⟨hz, hTI, ⟨x, y, hTO⟩, ⟨o1, e1, _, d1⟩, ⟨o2, e2, _, d2⟩⟩ := st
    have e' : c = z ∨ c = TI ∨ c = TO ∨ c = i1 ∨ c = i2 := by simpa using hc
    rcases e' with q | q | q | q | q
    · rw [q]; exact ⟨_, hz, fun v q => nomatch q⟩
    · rw [q]; exact ⟨_, hTI, fun v q => nomatch q⟩
    · rw [q]; exact ⟨_, hTO, fun v q => nomatch q⟩
    · rw [q]; exact ⟨o1, e1, fun v q => by rw [d1] at q; cases q⟩
    · rw [q]; exact ⟨o2, e2, fun v q => by rw [d2] at q; cases q⟩
  keep := fun i h h' st k => by
    obtain ⟨hz, hTI, ⟨x, y, hTO⟩, ⟨o1, e1, r1⟩, ⟨o2, e2, r2⟩⟩ := st
    exact ⟨k z (by simp) _ hz, k TI (by simp) _ hTI, ⟨x, y, k TO (by simp) _ hTO⟩, ⟨o1, k i1 (by simp) o1 e1, r1⟩, ⟨o2, k i2 (by simp) o2 e2, r2⟩⟩
  item := by
    intro X hP hw hK hc i pins s σ H E I hf st hg
    subst hP hw hK
    obtain ⟨hz, hTI, ⟨x0, y0, hTO⟩, h1, h2⟩ := st
    obtain ⟨xs, ys, x, y, hqx, hqy, hx, hy⟩ := hg
    obtain ⟨its, rv, p, _⟩ := I.list hqx
    obtain ⟨its2, rv2, p2, _⟩ := I.tuple hqy
    have pl : s.heap.IsList a its.toArray := p.isList
    have pl2 : s.heap.IsTuple b its2.toArray := p2
    obtain ⟨u, hu, ru⟩ := rv.get hx
    obtain ⟨u2, hu2, ru2⟩ := rv2.get hy
    have hzl : z < s.heap.objs.size := Heap.lt_size hz
    have hh : X.A.in1.handled = none := I.ok.hd hc
    have D1 := Draws.list (A := X.A.in1) (prog := X.prog) (w := X.w) hh i1 a (lst_ne h1 pl) its.toArray
    have D2 := draws_tup (A := X.A.in1) (prog := X.prog) (w := X.w) hh i2 b (tup_ne h2 pl2) its2.toArray
    have lt1 : i < its.toArray.size := by rw [List.size_toArray]; exact (List.getElem?_eq_some_iff.mp hu).1
    have lt2 : i < its2.toArray.size := by rw [List.size_toArray]; exact (List.getElem?_eq_some_iff.mp hu2).1
    have l1 : i1 < s.heap.objs.size := by obtain ⟨_, q, _⟩ := h1; exact Heap.lt_size q
    have l2 : i2 < s.heap.objs.size := by obtain ⟨_, q, _⟩ := h2; exact Heap.lt_size q
    have lI := Heap.lt_size hTI
    have lO := Heap.lt_size hTO
    refine PySem.wpAny_pyNext_zipD2_item D D1 D2 hz hTI hTO ⟨h1, pl⟩ ⟨h2, pl2⟩ lt1 lt2 fun x1 x2 h' tk q1 q2 z' TO' d1 d2 hT hsz hk => ?_
    have e1 : x1 = u := by
      have h1 : its[i]? = some x1 := by simpa using q1
      rw [hu] at h1
      exact (Option.some.inj h1).symm
    have e2 : x2 = u2 := by
      have h1 : its2[i]? = some x2 := by simpa using q2
      rw [hu2] at h1
      exact (Option.some.inj h1).symm
    subst e1 e2
    refine ⟨_, rfl, wpAny_letOwnedTupleGo_zip (s := { s with heap := h', toks := tk }) z' fun h'' z'' sb => ?_⟩
    have hT2 : h''.get? s.heap.objs.size = some { cls := .type "tuple", data := .seq #[x1, x2] } := (sb.2 _ (Nat.ne_of_gt hzl)).trans hT
    have new : ObjOk X.prog X.w (upd H s.heap.objs.size (.tup [x, y])) h'' s.heap.objs.size (.tup [x, y]) :=
      ⟨by show 2 ≤ sizeLine; decide, [x1, x2], .cons ru (.cons ru2 .nil), ⟨_, hT2, rfl, _, rfl⟩⟩
    have I1 : Inv X pins σ (upd H s.heap.objs.size (.tup [x, y])) { s with heap := h'', toks := tk } :=
      I.turnedNew (ch := [z, TI, TO, i1, i2]) (fun c o hb q => (sb.2 c (fun q' => hb (by simp [q']))).trans (hk c o (fun q' => hb (by simp [q'])) (fun q' => hb (by simp [q'])) (fun q' => hb (by simp [q'])) (fun q' => hb (by simp [q'])) q)) hf (Nat.le_refl _) new
    refine ⟨.ref s.heap.objs.size, _, I1, rfl, ⟨_, x, y, rfl, I.hok.fresh (Nat.le_refl _), rfl, fun l hl => by rw [I.list_inj hl hqx]; exact hx, fun l hl => by rw [I.tuple_inj hl hqy]; exact hy⟩, ⟨z'', ?_, ⟨x1, x2, ?_⟩, ?_, ?_⟩, fun c hcm => ?_⟩
    · exact (sb.2 _ D.TIz).trans (hk _ _ D.TIz D.TITO D.TIi1 D.TIi2 hTI)
    · exact (sb.2 _ D.TOz).trans TO'
    · obtain ⟨⟨o, ho, r⟩, _⟩ := d1
      exact ⟨o, (sb.2 _ (Ne.symm D.zi1)).trans ho, r⟩
    · obtain ⟨⟨o, ho, r⟩, _⟩ := d2
      exact ⟨o, (sb.2 _ (Ne.symm D.zi2)).trans ho, r⟩
    · have hlt : c < s.heap.objs.size := by
        have e' : c = z ∨ c = TI ∨ c = TO ∨ c = i1 ∨ c = i2 := by simpa using hcm
        rcases e' with q | q | q | q | q <;> (rw [q]; assumption)
      rw [upd_ne (Nat.ne_of_lt hlt)]
      exact (hf c hcm).1
  done := by
    intro X hP hw hK hc i pins s σ H E I hf st hg
    subst hP hw hK
    obtain ⟨hz, hTI, ⟨x0, y0, hTO⟩, h1, h2⟩ := st
    obtain ⟨xs, ys, hqx, hqy, hend⟩ := hg
    obtain ⟨its, rv, p, _⟩ := I.list hqx
    obtain ⟨its2, rv2, p2, _⟩ := I.tuple hqy
    have pl : s.heap.IsList a its.toArray := p.isList
    have pl2 : s.heap.IsTuple b its2.toArray := p2
    have l1 := rv.length
    have l2 := rv2.length
    have hh : X.A.in1.handled = none := I.ok.hd hc
    have D1 := Draws.list (A := X.A.in1) (prog := X.prog) (w := X.w) hh i1 a (lst_ne h1 pl) its.toArray
    have D2 := draws_tup (A := X.A.in1) (prog := X.prog) (w := X.w) hh i2 b (tup_ne h2 pl2) its2.toArray
    exact PySem.wpAny_pyNext_zipD2_end D D1 D2 hz hTI hTO ⟨h1, pl⟩ ⟨h2, pl2⟩ (by rw [List.size_toArray]; omega) (by rw [List.size_toArray]; omega) (by rw [List.size_toArray, List.size_toArray]; omega) fun h' tk hk => ⟨rfl, I.turnedL (t' := tk) (ch := [z, TI, TO, i1, i2]) (fun c o hb q =>
      hk c o (fun q' => hb (by simp [q'])) (fun q' => hb (by simp [q'])) (fun q' => hb (by simp [q'])) (fun q' => hb (by simp [q'])) q) hf⟩
  self := fun A i s Q E st h => wpAny_pyIter_zip st.1 h
def iZipLT (K : PySem.W.Frag) (ta : TA) : TI := fun σ H R => ta σ H fun vs H1 => ∃ a b xs ys, vs = [V.ref a, V.ref b] ∧ SqL K H1 a xs ∧ SqT K H1 b ys ∧ R (ItzLT K a b) H1
theorem pi_zipLT {X : Cx} {e e2 : Expr} {ta : TA} {p pos tpos : Pos} {elts : List Expr} {kk : Nat} (hg : Gl X "zip") (hm : X.mg "zip" = none) (ha : PA X [e, e2] ta)
    (hs : starEach [e, e2] X.env = (false, eval e X.env) :: starEach [e2] X.env := by rfl) (hpl : (backTo pos (starEach [e2] X.env)).any (·.1) = false := by rfl) :
    PI X (.Tuple elts kk tpos) (.Call (.Name "zip" p) [e, e2] [] pos) (iZipLT X.K ta) := by
  refine ⟨fun pins s σ H R I h => ?_⟩
  refine Call_ (ld_blt I hg hm PyProof.Rows.boot_zip (PyProof.Rows.callWith_type1 (thn (ha.run pos pins s σ H _ I h) fun us s1 ⟨vs, H1, I1, r1, q1⟩ => ?_) hs hpl))
  obtain ⟨a, b, xs, ys, ex, hqx, hqy, q⟩ := q1
  subst ex
  cases r1 with
  | cons r rr =>
    cases rr with
    | cons r' rr =>
      cases rr
      cases r
      cases r'
      obtain ⟨its, rv, p1, _⟩ := I1.list hqx
      obtain ⟨its2, rv2, p2, _⟩ := I1.tuple hqy
      have pl : s1.heap.IsList a its.toArray := p1.isList
      have pl2 : s1.heap.IsTuple b its2.toArray := p2
      have la : a < s1.heap.objs.size := by obtain ⟨_, q, _⟩ := pl; exact Heap.lt_size q
      have lb : b < s1.heap.objs.size := by obtain ⟨_, q, _⟩ := pl2; exact Heap.lt_size q
      refine PySem.zip_begins2 (PySem.begins_list a its.toArray) (PySem.begins_tuple b its2.toArray) pl pl2 fun h' hz hTI hTO h1 h2 hsz hk => wpAny_pyIter_zip hz ?_
      have I2 : Inv X pins σ H1 { s1 with heap := h' } := I1.kept (t' := s1.toks) hk
      refine ⟨s1.heap.objs.size + 4, [s1.heap.objs.size + 4, s1.heap.objs.size + 2, s1.heap.objs.size + 3, s1.heap.objs.size, s1.heap.objs.size + 1], _, _, H1, rfl, I2, turn_zipLT (a := a) (b := b) (z := s1.heap.objs.size + 4) (TI := s1.heap.objs.size + 2) (TO := s1.heap.objs.size + 3) (i1 := s1.heap.objs.size) (i2 := s1.heap.objs.size + 1) ?_, ⟨hz, hTI, ⟨_, _, hTO⟩, ⟨_, h1, rfl, rfl⟩, ⟨_, h2, rfl, rfl⟩⟩, fun c hcm => ?_, q⟩
      · have na : ∀ n, s1.heap.objs.size + n ≠ a := fun n e => absurd (Nat.lt_of_lt_of_le la (Nat.le_trans (Nat.le_add_right _ n) (Nat.le_of_eq e))) (Nat.lt_irrefl _)
        have nb : ∀ n, s1.heap.objs.size + n ≠ b := fun n e => absurd (Nat.lt_of_lt_of_le lb (Nat.le_trans (Nat.le_add_right _ n) (Nat.le_of_eq e))) (Nat.lt_irrefl _)
        have ne : ∀ m n, m ≠ n → s1.heap.objs.size + m ≠ s1.heap.objs.size + n := fun m n h e => h (Nat.add_left_cancel e)
        have n0 : ∀ m, 0 < m → s1.heap.objs.size + m ≠ s1.heap.objs.size := fun m h e => by omega
        exact ⟨ne 2 4 (by decide), ne 3 4 (by decide), ne 2 3 (by decide), n0 2 (by decide), by simp, by simp [na], by simp [na], ne 2 1 (by decide), by simp, by simp [nb], by simp [nb], by
          have := nb 0
          simp at this
          simp [this], by
          have := na 1
          simp [this]⟩
      have e' : c = s1.heap.objs.size + 4 ∨ c = s1.heap.objs.size + 2 ∨ c = s1.heap.objs.size + 3 ∨ c = s1.heap.objs.size ∨ c = s1.heap.objs.size + 1 := by simpa using hcm
      have hle : s1.heap.objs.size ≤ c := by
        rcases e' with z | z | z | z | z
        · rw [z]; exact Nat.le_add_right _ _
        · rw [z]; exact Nat.le_add_right _ _
        · rw [z]; exact Nat.le_add_right _ _
        · rw [z]; exact Nat.le_refl _
        · rw [z]; exact Nat.le_add_right _ _
      exact I1.fpOk hle (I1.hok.fresh hle)
theorem walk_zipLT {K : PySem.W.Frag} {a b : Addr} {xs ys : List V} (hl : xs.length = ys.length) : Walk (ItzLT K a b) xs.length (fun H => SqL K H a xs ∧ SqT K H b ys) (fun i H v H' => ∃ T x y, v = V.ref T ∧ H T = none ∧ H' = upd H T (.tup [x, y]) ∧ xs[i]? = some x ∧ ys[i]? = some y) :=
  ⟨fun i H hi h => ⟨xs, ys, xs[i], ys[i], h.1, h.2, List.getElem?_eq_getElem hi, List.getElem?_eq_getElem (by omega)⟩, fun H h => ⟨xs, ys, h.1, h.2, .inl ⟨rfl, by omega⟩⟩, fun i H v H' _ h y => let ⟨T, x, y, a, b, c, d, e⟩ := y; ⟨T, x, y, a, b, c, d xs h.1, e ys h.2⟩⟩
end RK

namespace RK
open PySem PySem.Spec PyProof.Rows L2
/-! ### zip of a tuple and a list -/
def ItzTL (K : PySem.W.Frag) (a b : Addr) : It :=
  ⟨fun i H => ∃ (xs ys : List V) (x y : V), SqT K H a xs ∧ SqL K H b ys ∧ xs[i]? = some x ∧ ys[i]? = some y,
    fun i H v H' => ∃ T x y, v = V.ref T ∧ H T = none ∧ H' = upd H T (.tup [x, y]) ∧ (∀ xs, SqT K H a xs → xs[i]? = some x) ∧ ∀ ys, SqL K H b ys → ys[i]? = some y,
    fun i H => ∃ xs ys : List V, SqT K H a xs ∧ SqL K H b ys ∧ (i = xs.length ∧ i ≤ ys.length ∨ i = ys.length ∧ i ≤ xs.length)⟩
theorem turn_zipTL {P : Program} {w : World} {K : PySem.W.Frag} {elts : List Expr} {kk : Nat} {tpos : Pos} {a b z TI TO i1 i2 : Addr} (D : PySem.ZipSep2 z TI TO i1 i2 [i1, a] [i2, b]) :
    Turn P w K (.Tuple elts kk tpos) (ItzTL K a b) [z, TI, TO, i1, i2] z (fun i h => IsZip h z TI TO .none ∧ PySem.IsTupOf2 h TI (.ref i1) (.ref i2) ∧ (∃ x y, PySem.IsTupOf2 h TO x y) ∧ h.IsTupleIter i1 a i ∧ h.IsListIter i2 b i) where
  mem := by simp
  obj := fun i h st c hc => by
    obtain ⟨hz, hTI, ⟨x, y, hTO⟩, ⟨o1, e1, _, d1⟩, ⟨o2, e2, _, d2⟩⟩ := st
    have e' : c = z ∨ c = TI ∨ c = TO ∨ c = i1 ∨ c = i2 := by simpa using hc
    rcases e' with q | q | q | q | q
    · rw [q]; exact ⟨_, hz, fun v q => nomatch q⟩
    · rw [q]; exact ⟨_, hTI, fun v q => nomatch q⟩
    · rw [q]; exact ⟨_, hTO, fun v q => nomatch q⟩
    · rw [q]; exact ⟨o1, e1, fun v q => by rw [d1] at q; cases q⟩
    · rw [q]; exact ⟨o2, e2, fun v q => by rw [d2] at q; cases q⟩
  keep := fun i h h' st k => by
    obtain ⟨hz, hTI, ⟨x, y, hTO⟩, ⟨o1, e1, r1⟩, ⟨o2, e2, r2⟩⟩ := st
    exact ⟨k z (by simp) _ hz, k TI (by simp) _ hTI, ⟨x, y, k TO (by simp) _ hTO⟩, ⟨o1, k i1 (by simp) o1 e1, r1⟩, ⟨o2, k i2 (by simp) o2 e2, r2⟩⟩
  item := by
    intro X hP hw hK hc i pins s σ H E I hf st hg
    subst hP hw hK
    obtain ⟨hz, hTI, ⟨x0, y0, hTO⟩, h1, h2⟩ := st
    obtain ⟨xs, ys, x, y, hqx, hqy, hx, hy⟩ := hg
    obtain ⟨its, rv, p, _⟩ := I.tuple hqx
    obtain ⟨its2, rv2, p2, _⟩ := I.list hqy
    have pl : s.heap.IsTuple a its.toArray := p
    have pl2 : s.heap.IsList b its2.toArray := p2.isList
    obtain ⟨u, hu, ru⟩ := rv.get hx
    obtain ⟨u2, hu2, ru2⟩ := rv2.get hy
    have hzl : z < s.heap.objs.size := Heap.lt_size hz
    have hh : X.A.in1.handled = none := I.ok.hd hc
    have D1 := draws_tup (A := X.A.in1) (prog := X.prog) (w := X.w) hh i1 a (tup_ne h1 pl) its.toArray
    have D2 := Draws.list (A := X.A.in1) (prog := X.prog) (w := X.w) hh i2 b (lst_ne h2 pl2) its2.toArray
    have lt1 : i < its.toArray.size := by rw [List.size_toArray]; exact (List.getElem?_eq_some_iff.mp hu).1
    have lt2 : i < its2.toArray.size := by rw [List.size_toArray]; exact (List.getElem?_eq_some_iff.mp hu2).1
    have l1 : i1 < s.heap.objs.size := by obtain ⟨_, q, _⟩ := h1; exact Heap.lt_size q
    have l2 : i2 < s.heap.objs.size := by obtain ⟨_, q, _⟩ := h2; exact Heap.lt_size q
    have lI := Heap.lt_size hTI
    have lO := Heap.lt_size hTO
    refine PySem.wpAny_pyNext_zipD2_item D D1 D2 hz hTI hTO ⟨h1, pl⟩ ⟨h2, pl2⟩ lt1 lt2 fun x1 x2 h' tk q1 q2 z' TO' d1 d2 hT hsz hk => ?_
    have e1 : x1 = u := by
      have h1 : its[i]? = some x1 := by simpa using q1
      rw [hu] at h1
      exact (Option.some.inj h1).symm
    have e2 : x2 = u2 := by
      have h1 : its2[i]? = some x2 := by simpa using q2
      rw [hu2] at h1
      exact (Option.some.inj h1).symm
    subst e1 e2
    refine ⟨_, rfl, wpAny_letOwnedTupleGo_zip (s := { s with heap := h', toks := tk }) z' fun h'' z'' sb => ?_⟩
    have hT2 : h''.get? s.heap.objs.size = some { cls := .type "tuple", data := .seq #[x1, x2] } := (sb.2 _ (Nat.ne_of_gt hzl)).trans hT
    have new : ObjOk X.prog X.w (upd H s.heap.objs.size (.tup [x, y])) h'' s.heap.objs.size (.tup [x, y]) :=
      ⟨by show 2 ≤ sizeLine; decide, [x1, x2], .cons ru (.cons ru2 .nil), ⟨_, hT2, rfl, _, rfl⟩⟩
    have I1 : Inv X pins σ (upd H s.heap.objs.size (.tup [x, y])) { s with heap := h'', toks := tk } :=
      I.turnedNew (ch := [z, TI, TO, i1, i2]) (fun c o hb q => (sb.2 c (fun q' => hb (by simp [q']))).trans (hk c o (fun q' => hb (by simp [q'])) (fun q' => hb (by simp [q'])) (fun q' => hb (by simp [q'])) (fun q' => hb (by simp [q'])) q)) hf (Nat.le_refl _) new
    refine ⟨.ref s.heap.objs.size, _, I1, rfl, ⟨_, x, y, rfl, I.hok.fresh (Nat.le_refl _), rfl, fun l hl => by rw [I.tuple_inj hl hqx]; exact hx, fun l hl => by rw [I.list_inj hl hqy]; exact hy⟩, ⟨z'', ?_, ⟨x1, x2, ?_⟩, ?_, ?_⟩, fun c hcm => ?_⟩
    · exact (sb.2 _ D.TIz).trans (hk _ _ D.TIz D.TITO D.TIi1 D.TIi2 hTI)
    · exact (sb.2 _ D.TOz).trans TO'
    · obtain ⟨⟨o, ho, r⟩, _⟩ := d1
      exact ⟨o, (sb.2 _ (Ne.symm D.zi1)).trans ho, r⟩
    · obtain ⟨⟨o, ho, r⟩, _⟩ := d2
      exact ⟨o, (sb.2 _ (Ne.symm D.zi2)).trans ho, r⟩
    · have hlt : c < s.heap.objs.size := by
        have e' : c = z ∨ c = TI ∨ c = TO ∨ c = i1 ∨ c = i2 := by simpa using hcm
        rcases e' with q | q | q | q | q <;> (rw [q]; assumption)
      rw [upd_ne (Nat.ne_of_lt hlt)]
      exact (hf c hcm).1
  done := by
    intro X hP hw hK hc i pins s σ H E I hf st hg
    subst hP hw hK
    obtain ⟨hz, hTI, ⟨x0, y0, hTO⟩, h1, h2⟩ := st
    obtain ⟨xs, ys, hqx, hqy, hend⟩ := hg
    obtain ⟨its, rv, p, _⟩ := I.tuple hqx
    obtain ⟨its2, rv2, p2, _⟩ := I.list hqy
    have pl : s.heap.IsTuple a its.toArray := p
    have pl2 : s.heap.IsList b its2.toArray := p2.isList
    have l1 := rv.length
    have l2 := rv2.length
    have hh : X.A.in1.handled = none := I.ok.hd hc
    have D1 := draws_tup (A := X.A.in1) (prog := X.prog) (w := X.w) hh i1 a (tup_ne h1 pl) its.toArray
    have D2 := Draws.list (A := X.A.in1) (prog := X.prog) (w := X.w) hh i2 b (lst_ne h2 pl2) its2.toArray
    exact PySem.wpAny_pyNext_zipD2_end D D1 D2 hz hTI hTO ⟨h1, pl⟩ ⟨h2, pl2⟩ (by rw [List.size_toArray]; omega) (by rw [List.size_toArray]; omega) (by rw [List.size_toArray, List.size_toArray]; omega) fun h' tk hk => ⟨rfl, I.turnedL (t' := tk) (ch := [z, TI, TO, i1, i2]) (fun c o hb q =>
      hk c o (fun q' => hb (by simp [q'])) (fun q' => hb (by simp [q'])) (fun q' => hb (by simp [q'])) (fun q' => hb (by simp [q'])) q) hf⟩
  self := fun A i s Q E st h => wpAny_pyIter_zip st.1 h
def iZipTL (K : PySem.W.Frag) (ta : TA) : TI := fun σ H R => ta σ H fun vs H1 => ∃ a b xs ys, vs = [V.ref a, V.ref b] ∧ SqT K H1 a xs ∧ SqL K H1 b ys ∧ R (ItzTL K a b) H1
theorem pi_zipTL {X : Cx} {e e2 : Expr} {ta : TA} {p pos tpos : Pos} {elts : List Expr} {kk : Nat} (hg : Gl X "zip") (hm : X.mg "zip" = none) (ha : PA X [e, e2] ta)
    (hs : starEach [e, e2] X.env = (false, eval e X.env) :: starEach [e2] X.env := by rfl) (hpl : (backTo pos (starEach [e2] X.env)).any (·.1) = false := by rfl) :
    PI X (.Tuple elts kk tpos) (.Call (.Name "zip" p) [e, e2] [] pos) (iZipTL X.K ta) := by
  refine ⟨fun pins s σ H R I h => ?_⟩
  refine Call_ (ld_blt I hg hm PyProof.Rows.boot_zip (PyProof.Rows.callWith_type1 (thn (ha.run pos pins s σ H _ I h) fun us s1 ⟨vs, H1, I1, r1, q1⟩ => ?_) hs hpl))
  obtain ⟨a, b, xs, ys, ex, hqx, hqy, q⟩ := q1
  subst ex
  cases r1 with
  | cons r rr =>
    cases rr with
    | cons r' rr =>
      cases rr
      cases r
      cases r'
      obtain ⟨its, rv, p1, _⟩ := I1.tuple hqx
      obtain ⟨its2, rv2, p2, _⟩ := I1.list hqy
      have pl : s1.heap.IsTuple a its.toArray := p1
      have pl2 : s1.heap.IsList b its2.toArray := p2.isList
      have la : a < s1.heap.objs.size := by obtain ⟨_, q, _⟩ := pl; exact Heap.lt_size q
      have lb : b < s1.heap.objs.size := by obtain ⟨_, q, _⟩ := pl2; exact Heap.lt_size q
      refine PySem.zip_begins2 (PySem.begins_tuple a its.toArray) (PySem.begins_list b its2.toArray) pl pl2 fun h' hz hTI hTO h1 h2 hsz hk => wpAny_pyIter_zip hz ?_
      have I2 : Inv X pins σ H1 { s1 with heap := h' } := I1.kept (t' := s1.toks) hk
      refine ⟨s1.heap.objs.size + 4, [s1.heap.objs.size + 4, s1.heap.objs.size + 2, s1.heap.objs.size + 3, s1.heap.objs.size, s1.heap.objs.size + 1], _, _, H1, rfl, I2, turn_zipTL (a := a) (b := b) (z := s1.heap.objs.size + 4) (TI := s1.heap.objs.size + 2) (TO := s1.heap.objs.size + 3) (i1 := s1.heap.objs.size) (i2 := s1.heap.objs.size + 1) ?_, ⟨hz, hTI, ⟨_, _, hTO⟩, ⟨_, h1, rfl, rfl⟩, ⟨_, h2, rfl, rfl⟩⟩, fun c hcm => ?_, q⟩
      · have na : ∀ n, s1.heap.objs.size + n ≠ a := fun n e => absurd (Nat.lt_of_lt_of_le la (Nat.le_trans (Nat.le_add_right _ n) (Nat.le_of_eq e))) (Nat.lt_irrefl _)
        have nb : ∀ n, s1.heap.objs.size + n ≠ b := fun n e => absurd (Nat.lt_of_lt_of_le lb (Nat.le_trans (Nat.le_add_right _ n) (Nat.le_of_eq e))) (Nat.lt_irrefl _)
        have ne : ∀ m n, m ≠ n → s1.heap.objs.size + m ≠ s1.heap.objs.size + n := fun m n h e => h (Nat.add_left_cancel e)
        have n0 : ∀ m, 0 < m → s1.heap.objs.size + m ≠ s1.heap.objs.size := fun m h e => by omega
        exact ⟨ne 2 4 (by decide), ne 3 4 (by decide), ne 2 3 (by decide), n0 2 (by decide), by simp, by simp [na], by simp [na], ne 2 1 (by decide), by simp, by simp [nb], by simp [nb], by
          have := nb 0
          simp at this
          simp [this], by
          have := na 1
          simp [this]⟩
      have e' : c = s1.heap.objs.size + 4 ∨ c = s1.heap.objs.size + 2 ∨ c = s1.heap.objs.size + 3 ∨ c = s1.heap.objs.size ∨ c = s1.heap.objs.size + 1 := by simpa using hcm
      have hle : s1.heap.objs.size ≤ c := by
        rcases e' with z | z | z | z | z
        · rw [z]; exact Nat.le_add_right _ _
        · rw [z]; exact Nat.le_add_right _ _
        · rw [z]; exact Nat.le_add_right _ _
        · rw [z]; exact Nat.le_refl _
        · rw [z]; exact Nat.le_add_right _ _
      exact I1.fpOk hle (I1.hok.fresh hle)
theorem walk_zipTL {K : PySem.W.Frag} {a b : Addr} {xs ys : List V} (hl : xs.length = ys.length) : Walk (ItzTL K a b) xs.length (fun H => SqT K H a xs ∧ SqL K H b ys) (fun i H v H' => ∃ T x y, v = V.ref T ∧ H T = none ∧ H' = upd H T (.tup [x, y]) ∧ xs[i]? = some x ∧ ys[i]? = some y) :=
  ⟨fun i H hi h => ⟨xs, ys, xs[i], ys[i], h.1, h.2, List.getElem?_eq_getElem hi, List.getElem?_eq_getElem (by omega)⟩, fun H h => ⟨xs, ys, h.1, h.2, .inl ⟨rfl, by omega⟩⟩, fun i H v H' _ h y => let ⟨T, x, y, a, b, c, d, e⟩ := y; ⟨T, x, y, a, b, c, d xs h.1, e ys h.2⟩⟩
end RK

/-! tables of sets up to 512 slots whose entries are known to be new: only the shape is kept -/
namespace DT
open PySem PySem.Spec PyProof.Rows L2
/-! ### 512 slots -/
def orb : Nat → Nat → List Nat
  | 0, _ => []
  | n + 1, x => x :: orb n ((x * 5 + 1) % 512)
theorem orb_at : ∀ (n a k : Nat), k < n → (orb n (lcgN 511 a))[k]? = some (lcgN 511 (a + k))
  | 0, _, _, h => absurd h (Nat.not_lt_zero _)
  | n + 1, a, 0, _ => rfl
  | n + 1, a, k + 1, h => by
    have q := orb_at n (a + 1) k (Nat.lt_of_succ_lt_succ h)
    rw [show a + 1 + k = a + (k + 1) by omega] at q
    exact q
theorem orb_all : ((List.range 512).all fun j => (orb 512 0).contains j) = true := by decide +kernel
theorem orb_len : ∀ n x, (orb n x).length = n
  | 0, _ => rfl
  | n + 1, x => congrArg Nat.succ (orb_len n _)
theorem back511 : lcgN 511 512 = 0 := by decide +kernel
theorem cyc511 : ∀ k, lcgN 511 (512 + k) = lcgN 511 k
  | 0 => back511
  | k + 1 => congrArg (fun z => (z * 5 + 1) % 512) (cyc511 k)
theorem hit511 {j : Nat} (h : j ≤ 511) : ∃ b, b ≤ 511 ∧ lcgN 511 b = j := by
  have q := List.all_eq_true.mp orb_all j (List.mem_range.mpr (by omega))
  obtain ⟨b, hb, e⟩ := List.mem_iff_getElem.mp (List.contains_iff_mem.mp q)
  rw [orb_len] at hb
  have e2 := orb_at 512 0 b hb
  rw [show lcgN 511 0 = 0 from rfl, List.getElem?_eq_getElem (by rw [orb_len]; exact hb), e, Nat.zero_add] at e2
  exact ⟨b, by omega, (Option.some.inj e2).symm⟩
def MkG (m : Nat) : Prop := MaskOk m ∨ m = 511
theorem mk_le {m : Nat} (h : MkG m) : m ≤ 511 := by
  rcases h with (e | e | e) | e <;> omega
theorem mk_odd {m : Nat} (h : MkG m) : m % 2 = 1 := by
  rcases h with (e | e | e) | e <;> subst e <;> rfl
/-- every slot begins a run -/
theorem begins {m : Nat} (hm : MkG m) (h : Int) {j : Nat} (hj : j ≤ m) : ∃ n, n ≤ m + 12 ∧ runI m (SetTable.bits h) n = j := by
  rcases hm with hm | rfl
  · exact run_meets hm h hj
  · obtain ⟨a, a1, a2⟩ := hit511 (runI_le 511 (SetTable.bits h) 12)
    obtain ⟨b, b1, b2⟩ := hit511 hj
    have key : ∀ k, lcgN 511 (a + k) = j → k ≤ 511 → ∃ n, n ≤ 511 + 12 ∧ runI 511 (SetTable.bits h) n = j := fun k e hk =>
      ⟨12 + k, by omega, by rw [runI_tail (bits_lt h), ← a2, lcgN_add]; exact e⟩
    by_cases c : a ≤ b
    · exact key (b - a) (by rw [show a + (b - a) = b by omega]; exact b2) (by omega)
    · exact key (512 + b - a) (by rw [show a + (512 + b - a) = 512 + b by omega, cyc511]; exact b2) (by omega)
theorem reaches {m : Nat} (hm : MkG m) (h : Int) {j : Nat} (hj : j ≤ m) : ∃ k, k < 10 * SetTable.turns m ∧ way m h k = j := by
  obtain ⟨n, hn, e⟩ := begins hm h hj
  obtain ⟨k, hk, e2⟩ := run_nth m (SetTable.bits h) n
  exact ⟨k, by unfold SetTable.turns; omega, by show (nth m _ k).j = j; rw [e2]; exact e⟩
theorem way_in (m : Nat) (h : Int) (k : Nat) : way m h k ≤ m := by
  have hi : SetTable.bits h % (m + 1) < m + 1 := Nat.mod_lt _ (Nat.succ_pos _)
  have r := runEnd_bd (Nat.le_of_lt_succ hi)
  have q := nth_in (m := m) k (runAt m (SetTable.bits h % (m + 1)) (SetTable.bits h)) (by unfold runAt; dsimp only; omega)
  exact Nat.le_trans (Nat.le_add_right _ _) q
/-! ### the shape of a table -/
structure Sh (t : SetTable) (n : Nat) : Prop where
  ris : Ris t.place.toList
  dm : t.dummies = #[]
  sz : t.place.size = n
  mok : MkG t.mask
  bd : ∀ x ∈ t.place.toList, x ≤ t.mask
  pl : t.plain = true
theorem Sh.fits {t : SetTable} {n : Nat} (T : Sh t n) (h : n ≤ t.mask) : t.fits n = true := by
  unfold SetTable.fits SetTable.fill
  rw [T.dm, T.sz, beq_self_eq_true, Bool.true_and]
  exact decide_eq_true h
theorem Sh.gw {t : SetTable} {n : Nat} (T : Sh t n) : t.gaveWay ≠ true := by
  unfold SetTable.gaveWay
  rw [mk_odd T.mok]
  decide
/-- the first free slot of a way -/
theorem Sh.free {t : SetTable} {n : Nat} (T : Sh t n) (h : n ≤ t.mask) (k : Int) : ∃ K, K < 10 * SetTable.turns t.mask ∧ way t.mask k K ∉ t.place.toList ∧ ∀ c, c < K → way t.mask k c ∈ t.place.toList := by
  obtain ⟨j, hj, hn⟩ := st_missing t.place.toList (t.mask + 1) (by rw [Array.length_toList, T.sz]; exact Nat.lt_succ_of_le h)
  obtain ⟨c, hc, e⟩ := reaches T.mok k (Nat.le_of_lt_succ hj)
  obtain ⟨K, h1, h2, h3⟩ := st_least (p := fun c => way t.mask k c ∉ t.place.toList) c (fun z => hn (e ▸ z))
  exact ⟨K, Nat.lt_of_le_of_lt h1 hc, h2, fun c' hc' => Classical.byContradiction (h3 c' hc')⟩
theorem Sh.put {t : SetTable} {n j : Nat} (T : Sh t n) (hj : j ≤ t.mask) (hn : j ∉ t.place.toList) :
    ∃ p, (t.put j).2 = p ∧ p ≤ n ∧ Sh (t.put j).1 (n + 1) ∧ (t.put j).1.mask = t.mask ∧ (t.put j).1.led = t.led ∧ (t.put j).1.fill = n + 1 := by
  have hle : SetTable.below t.place j ≤ t.place.size := (below_cut T.ris j).1
  have e := put_place t j
  have hz : (t.put j).1.place.size = n + 1 := by
    rw [← Array.length_toList, e, len_ins _ (by rw [Array.length_toList]; exact hle), Array.length_toList, T.sz]
  refine ⟨_, rfl, by rw [← T.sz]; exact hle, ⟨?_, put_dm T.dm j, hz, T.mok, fun x hx => ?_, T.pl⟩, rfl, rfl, ?_⟩
  · exact ris_insert T.ris fun z => hn (List.mem_of_getElem? (by rw [Array.getElem?_toList]; exact z))
  · rw [e] at hx
    exact (mem_ins.mp hx).elim (fun z => z ▸ hj) (T.bd x)
  · unfold SetTable.fill
    rw [hz, put_dm T.dm j]
    rfl
/-! ### laid anew -/
structure Ows (m n : Nat) (owner : Array (Option Nat)) : Prop where
  sz : owner.size = m + 1
  all : ∀ k, k < n → ∃ j, j ≤ m ∧ oAt owner j = some k
  seats : ∃ ps : List Nat, ps.length = n ∧ ∀ j, j ≤ m → oAt owner j ≠ none → j ∈ ps
theorem finds {m : Nat} (hm : MkG m) (owner : Array (Option Nat)) (h : Int) {j : Nat} (hj : j ≤ m) (hf : oAt owner j = none) :
    ∃ i, i ≤ m ∧ SetTable.layClean.free m owner (SetTable.turns m) (SetTable.bits h % (m + 1)) (SetTable.bits h) = some i ∧ oAt owner i = none := by
  obtain ⟨n, hn, e⟩ := begins hm h hj
  have hw : way m h (off m (SetTable.bits h % (m + 1)) (SetTable.bits h) n) = j := by
    show (nth m (runAt m _ _) _).j = j
    rw [nth_off, itL_run]
    exact e
  obtain ⟨K, k1, k2, k3⟩ := st_least (p := fun k => oAt owner (way m h k) = none) _ (hw.symm ▸ hf)
  refine ⟨way m h K, way_in m h K, free_spec m owner _ n _ _ K (by unfold SetTable.turns; omega) k1 (fun k hk => ?_) (congrArg Option.isNone k2), k2⟩
  cases z : oAt owner (way m h k) with
  | none => exact (k3 k hk z).elim
  | some v => rfl
theorem Ows.next {m n : Nat} (hm : MkG m) {owner : Array (Option Nat)} (W : Ows m n owner) (hl : n ≤ m) (h : Int) :
    ∃ j, SetTable.layClean.free m owner (SetTable.turns m) (SetTable.bits h % (m + 1)) (SetTable.bits h) = some j ∧ Ows m (n + 1) (owner.setIfInBounds j (some n)) := by
  obtain ⟨ps, l1, l2⟩ := W.seats
  obtain ⟨j0, a1, a2⟩ := st_missing ps (m + 1) (by omega)
  have f0 : oAt owner j0 = none := Classical.byContradiction fun z => a2 (l2 j0 (Nat.le_of_lt_succ a1) z)
  obtain ⟨i, i1, i2, i3⟩ := finds hm owner h (Nat.le_of_lt_succ a1) f0
  have self := oAt_set_self (owner := owner) (some n) (show i < owner.size by rw [W.sz]; omega)
  refine ⟨i, i2, by rw [Array.size_setIfInBounds]; exact W.sz, fun k hk => ?_, i :: ps, congrArg Nat.succ l1, fun j hj e => ?_⟩
  · rcases Nat.lt_or_ge k n with c | c
    · obtain ⟨j, j1, j2⟩ := W.all k c
      exact ⟨j, j1, (oAt_set_ne _ fun z => by rw [z, i3] at j2; cases j2).trans j2⟩
    · exact ⟨i, i1, by rw [self, show k = n by omega]⟩
  · rcases Decidable.em (j = i) with c | c
    · exact c ▸ List.mem_cons_self
    · exact List.mem_cons_of_mem _ (l2 j hj (by rw [← oAt_set_ne (some n) c]; exact e))
theorem laysAll {m : Nat} (hm : MkG m) : ∀ (rest : List Int) (n : Nat) (owner : Array (Option Nat)), Ows m n owner → n + rest.length ≤ m → ∃ owner', rest.foldl (stepF m) (some (owner, n)) = some (owner', n + rest.length) ∧ Ows m (n + rest.length) owner'
  | [], n, owner, W, _ => ⟨owner, rfl, W⟩
  | h :: rest, n, owner, W, hl => by
    have hl : n + (rest.length + 1) ≤ m := hl
    obtain ⟨j, e, W1⟩ := W.next hm (by omega) h
    obtain ⟨ow, f, W2⟩ := laysAll hm rest (n + 1) _ W1 (by omega)
    rw [show n + 1 + rest.length = n + (rest.length + 1) by omega] at f W2
    exact ⟨ow, by rw [List.foldl_cons, stepF_some e]; exact f, W2⟩
theorem relays (t : SetTable) {hs : Array Int} {wanted M : Nat} (hw : SetTable.sizeAbove wanted - 1 = M) (hM : MkG M) (hn : hs.size ≤ M) (pl : t.plain = true) :
    ∃ t' order, t.relaid hs wanted = some (t', order) ∧ order.toList.Perm (List.range hs.size) ∧ Sh t' hs.size ∧ t'.mask = M ∧ t'.led = t.led := by
  have e0 : Ows M 0 (Array.replicate (M + 1) none) := ⟨by simp, fun k hk => absurd hk (Nat.not_lt_zero _), [], rfl, fun j hj z => absurd (oAt_init hj) z⟩
  obtain ⟨owner, f, W⟩ := laysAll hM hs.toList 0 _ e0 (by rw [Array.length_toList]; omega)
  rw [Nat.zero_add, Array.length_toList] at f W
  have hr : t.relaid hs wanted = some (tabOf t M owner, ((liveOf M owner).map (·.2)).toArray) := by
    rw [relaid_eq, hw, layClean_eq, f]
    rfl
  obtain ⟨r1, r2⟩ := ris_live (fun j => owner.getD j none) (List.range (M + 1)) (by unfold Ris; exact List.pairwise_lt_range)
  have r1 : Ris ((liveOf M owner).map (·.1)) := r1
  have r2 : ∀ x ∈ (liveOf M owner).map (·.1), x ∈ List.range (M + 1) := r2
  have lo : ∀ k, k < hs.size → k ∈ (liveOf M owner).map (·.2) := fun k hk => by
    obtain ⟨j, b1, b2⟩ := W.all k hk
    exact List.mem_map.mpr ⟨(j, k), (mem_live W.sz).mpr ⟨b1, b2⟩, rfl⟩
  have hlen : (liveOf M owner).length = hs.size := by
    obtain ⟨ps, p1, p2⟩ := W.seats
    have nd : ((liveOf M owner).map (·.1)).Nodup := List.Pairwise.imp (fun {a b} (h : a < b) => Nat.ne_of_lt h) r1
    have a := nat_nodup_len ((liveOf M owner).map (·.1)) ps nd fun x hx => by
      obtain ⟨⟨y, k⟩, hq, rfl⟩ := List.mem_map.mp hx
      obtain ⟨b1, b2⟩ := (mem_live W.sz).mp hq
      exact p2 y b1 (by rw [b2]; exact fun z => nomatch z)
    have b := nat_nodup_len (List.range hs.size) ((liveOf M owner).map (·.2)) List.nodup_range fun k hk => lo k (List.mem_range.mp hk)
    rw [List.length_map] at a b
    rw [List.length_range] at b
    omega
  refine ⟨tabOf t M owner, _, hr, perm_range hs.size _ (by show ((liveOf M owner).map (·.2)).length = _; rw [List.length_map]; exact hlen) lo, ⟨r1, rfl, ?_, hM, fun x hx => Nat.le_of_lt_succ (List.mem_range.mp (r2 x hx)), pl⟩, rfl, rfl⟩
  show ((liveOf M owner).map (·.1)).toArray.size = hs.size
  rw [List.size_toArray, List.length_map]
  exact hlen
theorem sz512 : SetTable.sizeAbove (SetTable.grown 77) = 512 := by decide +kernel
end DT

/-! sets of tuples of ints that are all different: what comes is new -/
namespace DT
open PySem PySem.Spec PyProof.Rows L2
abbrev h0 (m : Nat) (h : Int) : SetTable.Probe := runAt m (SetTable.bits h % (m + 1)) (SetTable.bits h)
structure TD (P : Program) (w : World) (h : Heap) (a : Addr) (L : List (Addr × List Int)) (es : Array (Int × Value)) (ep : Nat) (t : SetTable) : Prop where
  ob : ∃ o, h.get? a = some o ∧ o.ExactSet ∧ o.data = .set es ep t
  rows : es.toList = rowsOf P w L
  sh : Sh t L.length
  led : w.params.followText "set-order" = true ∨ t.led = true
  room : L.length * 5 < t.mask * 3
theorem nth_dummy (m : Nat) : ∀ (n : Nat) (p : SetTable.Probe), p.dummy = none → (nth m p n).dummy = none
  | 0, _, h => h
  | n + 1, p, h => nth_dummy m n (adv m p) (by unfold adv; split <;> exact h)
section
variable {P : Program} {w : World} {A : Around} {E : Value → Shared → Prop} {s : Shared} {a : Addr} {L L' : List (Addr × List Int)} {es : Array (Int × Value)} {ep : Nat} {t : SetTable}
theorem rows_len (h : es.toList = rowsOf P w L) : es.size = L.length := by
  rw [← Array.length_toList, h]
  exact List.length_map _
theorem rows_at (h : es.toList = rowsOf P w L) {i : Nat} {p : Addr × List Int} (e : L[i]? = some p) : es[i]? = some (thash P w p.2, Value.ref p.1) := by
  rw [← Array.getElem?_toList, h]
  show (L.map _)[i]? = _
  rw [List.getElem?_map, e]
  rfl
theorem TD.fits (R : TD P w s.heap a L es ep t) : t.fits es.size = true := by
  have := R.room
  rw [rows_len R.rows]
  exact R.sh.fits (by omega)
/-- a search for what is not there: the first free slot of its way -/
theorem seeks (R : TD P w s.heap a L es ep t) (tup : ∀ p ∈ L, IsT P w s.heap p.2 p.1) {x : Addr} {k : List Int} (hx : IsT P w s.heap k x) (hu : A.units < cLine) (new : k ∉ L.map (·.2)) {K : Nat} (hKf : K < 10 * SetTable.turns t.mask) (hK : way t.mask (thash P w k) K ∉ t.place.toList)
    (hKb : ∀ c, c < K → way t.mask (thash P w k) c ∈ t.place.toList) {Q : SetFound → Shared → Prop} (q : Q (.free (way t.mask (thash P w k) K) false) s) :
    ∀ (f c : Nat) (stand : Option SetTable.Probe), stand.getD (t.probeStart (thash P w k)) = nth t.mask (h0 t.mask (thash P w k)) c → c ≤ K → K - c < f → wpAny (model P w) A (setSearchFrom a (.ref x) (thash P w k) true f stand) Q E s := by
  intro f
  induction f with
  | zero => intro c stand _ _ h; exact absurd h (Nat.not_lt_zero _)
  | succ f ih =>
    intro c stand hst hc hf
    obtain ⟨o, ho, hex, hd⟩ := R.ob
    rw [setSearchFrom_succ]
    refine wpAny_bind (wpAny_setState_of ho hd R.fits ?_)
    dsimp only
    refine wp_if_neg R.sh.gw ?_
    try refine wpAny_bind (wpAny_pure ?_)
    have go : ∀ y, nth t.mask (nth t.mask (h0 t.mask (thash P w k)) c) y = nth t.mask (h0 t.mask (thash P w k)) (c + y) := fun y => (nth_add t.mask c _ y).symm
    have goj : ∀ y, (nth t.mask (nth t.mask (h0 t.mask (thash P w k)) c) y).j = way t.mask (thash P w k) (c + y) := fun y => congrArg SetTable.Probe.j (go y)
    have eK : c + (K - c) = K := by omega
    rcases go_spec t R.sh.ris R.sh.dm (fun i => (es[i]?.map (·.1)).getD 0) (thash P w k) (10 * SetTable.turns t.mask) (K - c) _ (nth_dummy t.mask c _ rfl) (by omega) (fun y hy => by rw [goj]; exact hKb _ (by omega)) (by rw [goj, eK]; exact hK) with ⟨y, i, hy, hi, _, _, hpr⟩ | ⟨_, hpr⟩
    · rw [goj, go] at hpr
      rw [goj] at hi
      rw [hst, show t.probe _ _ _ = _ from hpr]
      dsimp only
      have hil : i < L.length := by
        have h1 := (List.getElem?_eq_some_iff.mp hi).1
        rw [Array.length_toList, R.sh.sz] at h1
        exact h1
      have hp : L[i]? = some L[i] := List.getElem?_eq_getElem hil
      have hm : L[i] ∈ L := List.getElem_mem hil
      generalize L[i] = p at hp hm
      have ne : p.2 ≠ k := fun z => new (List.mem_map.mpr ⟨p, hm, z⟩)
      have hsl : t.slot (way t.mask (thash P w k) (c + y)) = .live i := slot_live R.sh.ris hi
      have rest : wpAny (model P w) A (searchRest a (.ref x) (thash P w k) true f es t (way t.mask (thash P w k) (c + y)) i (nth t.mask (h0 t.mask (thash P w k)) (c + (y + 1)))) Q E s := by
        unfold searchRest
        rw [rows_at R.rows hp]
        dsimp only
        refine wpAny_bind (wpAny_holding (wpAny_eqBool_tuple hu (tup p hm) hx ?_))
        refine wpAny_bind (wpAny_setState_of ho hd R.fits ?_)
        dsimp only
        refine wp_if_neg (by simp [ne]) ?_
        try refine wpAny_bind (wpAny_pure ?_)
        rw [sameMem]
        simp only [if_true, hsl, rows_at R.rows hp]
        refine wpAny_bind (wpAny_isSame_ref_self (wpAny_bind (wpAny_pure ?_)))
        simp only [if_true]
        refine wp_if_neg (by simp [ne]) ?_
        exact ih (c + (y + 1)) _ rfl (by omega) (by omega)
      by_cases hl : t.led = true
      · refine wp_if_neg (by simp [hl]) ?_
        try refine wpAny_bind (wpAny_pure ?_)
        exact rest
      · refine wp_if_pos (by simp [hl]) ?_
        refine wpAny_bind (seen_tup hx (fun v hv => ?_) ?_)
        · obtain ⟨e, he, ee⟩ := List.mem_map.mp hv
          have he2 : e ∈ es.toList := by
            have : e ∈ es ∧ e.1 = thash P w k := by simpa using he
            simpa using this.1
          rw [R.rows] at he2
          obtain ⟨r, hr, er⟩ := List.mem_map.mp he2
          exact ⟨r.2, r.1, by rw [← ee, ← er], tup r hr⟩
        · refine wp_if_neg (by decide) ?_
          try refine wpAny_bind (wpAny_pure ?_)
          exact rest
    · rw [goj, eK] at hpr
      rw [hst, show t.probe _ _ _ = _ from hpr]
      exact wpAny_pure q
/-- what the object at a is does not matter to a tuple -/
theorem perm_rows (pm : L.Perm L') (tup : ∀ p ∈ L', IsT P w s.heap p.2 p.1) : ∀ p ∈ L, IsT P w s.heap p.2 p.1 := fun p hp => tup p (pm.mem_iff.mp hp)
/-- laid anew -/
theorem anew {o : Obj} (ho : s.heap.get? a = some o) (hex : o.ExactSet) (hd : o.data = .set es ep t) (rows : es.toList = rowsOf P w L) (sh : Sh t L.length) (ld : w.params.followText "set-order" = true ∨ t.led = true) (hfl : L.length ≤ t.mask) {wanted M : Nat}
    (hw : SetTable.sizeAbove wanted = M + 1) (hM : MkG M) (hn : L.length * 5 < M * 3) {Q : Unit → Shared → Prop}
    (hQ : ∀ h' L' es' ep' t', Heap.SameBut a s.heap h' → TD P w h' a L' es' ep' t' → L'.Perm L → Q () { s with heap := h' }) : wpAny (model P w) A (setRelay a wanted) Q E s := by
  have hM5 := mk_le hM
  have hz := rows_len rows
  obtain ⟨t', order, e, hp, T, em, el⟩ := relays t (hs := es.map (·.1)) (wanted := wanted) (M := M) (by omega) hM (by rw [Array.size_map, hz]; omega) sh.pl
  rw [Array.size_map, hz] at hp T
  obtain ⟨L2, r1, r2, _⟩ := order_rows L es order rows hp
  have hs2 : (order.filterMap (es[·]?)).size = es.size := by rw [rows_len r1, r2.length_eq, hz]
  rw [setRelay_eq]
  refine wpAny_bind (wpAny_setState_of ho hd (by rw [hz]; exact sh.fits hfl) ?_)
  dsimp only
  refine wp_if_neg (by rw [sizeLine_eq, hw]; omega) ?_
  try refine wpAny_bind (wpAny_pure ?_)
  rw [e]
  dsimp only
  refine wpAny_bind ?_
  refine wp_if_neg (by rw [hs2]; simp) ?_
  try refine wpAny_bind (wpAny_pure ?_)
  refine wpAny_pure ?_
  dsimp only
  refine wpAny_storeSet_of ho hd ?_ (by rw [hs2, hz, sizeLine_eq]; omega)
  refine hQ _ L2 _ (ep + 1) t' (Heap.SameBut.update ..) ⟨⟨_, store_at ho hd, ⟨hex.1, hex.2.1, hex.2.2⟩, rfl⟩, r1, by rw [r2.length_eq]; exact T, by rw [el]; exact ld, by rw [r2.length_eq, em]; exact hn⟩ r2
/-- one more -/
theorem adds (R : TD P w s.heap a L es ep t) (tup : ∀ p ∈ L, IsT P w s.heap p.2 p.1) {x : Addr} {k : List Int} (hx : IsT P w s.heap k x) (hu : A.units < cLine) (new : k ∉ L.map (·.2)) (hfew : L.length < 300) {Q : Bool → Shared → Prop}
    (hQ : ∀ h' L' es' ep' t', Heap.SameBut a s.heap h' → TD P w h' a L' es' ep' t' → L'.Perm ((x, k) :: L) → Q true { s with heap := h' }) : wpAny (model P w) A (setAddHashed a (.ref x) (thash P w k)) Q E s := by
  obtain ⟨o, ho, hex, hd⟩ := R.ob
  have hz := rows_len R.rows
  have hroom := R.room
  have hm5 := mk_le R.sh.mok
  unfold setAddHashed
  refine wpAny_holding ?_
  rw [show (100000 : Nat) = 99999 + 1 from rfl, setAddHashedIn_succ]
  refine wpAny_bind (wpAny_setState_of ho hd R.fits ?_)
  dsimp only
  refine wp_if_neg (by simp [byScan, Value.scannable]) ?_
  try refine wpAny_bind (wpAny_pure ?_)
  obtain ⟨K, k1, k2, k3⟩ := R.sh.free (by omega) (thash P w k)
  unfold setSearch
  refine wpAny_bind (seeks R tup hx hu new k1 k2 k3 ?_ 100000 0 none rfl (Nat.zero_le _) (by unfold SetTable.turns at k1; omega))
  dsimp only
  refine wpAny_bind (wpAny_setState_of ho hd R.fits ?_)
  dsimp only
  obtain ⟨p, q1, q2, q3, q4, q5, q6⟩ := R.sh.put (way_in t.mask (thash P w k) K) k2
  generalize t.put (way t.mask (thash P w k) K) = pt at q1 q3 q4 q5 q6 ⊢
  obtain ⟨t1, p1⟩ := pt
  dsimp only at q1 q3 q4 q5 q6 ⊢
  subst q1
  first
    | (refine wpAny_bind ?_; refine wp_if_pos q3.pl ?_; refine hashBy_tup hx ?_)
    | refine wp_if_pos q3.pl (wpAny_bind (hashBy_tup hx ?_))
  simp only [if_true]
  have pm := put_perm L p1 (x, k)
  have hin : (SetTable.insertAt es p1 (thash P w k, Value.ref x)).toList = rowsOf P w (L.take p1 ++ (x, k) :: L.drop p1) := by rw [SetTable.toList_insertAt, rows_put, R.rows]
  generalize SetTable.insertAt es p1 (thash P w k, Value.ref x) = es1 at hin ⊢
  generalize L.take p1 ++ (x, k) :: L.drop p1 = L1 at pm hin
  have hl1 : L1.length = L.length + 1 := pm.length_eq
  have hz1 := rows_len hin
  rw [← hl1] at q3 q6
  refine wpAny_bind (wpAny_storeSet_of ho hd ?_ (by rw [hz1, hl1, sizeLine_eq]; omega))
  have sb : Heap.SameBut a s.heap (s.heap.update a (Obj.putSet es1 t1)) := Heap.SameBut.update ..
  have ho1 := store_at (es' := es1) (t' := t1) ho hd
  generalize s.heap.update a (Obj.putSet es1 t1) = h1 at sb ho1 ⊢
  have ld1 : w.params.followText "set-order" = true ∨ t1.led = true := by rw [q5]; exact R.led
  by_cases hf : t1.tooFull = true
  · first
      | (refine wpAny_bind ?_; refine wp_if_pos (by simp [hf]) ?_)
      | (refine wp_if_pos (by simp [hf]) ?_; refine wpAny_bind ?_)
    have hfull : L1.length * 5 ≥ t1.mask * 3 := by
      have h := hf
      unfold SetTable.tooFull at h
      rw [decide_eq_true_eq, q6] at h
      exact h
    rw [hz]
    have cs : (t.mask = 7 ∧ L.length = 4) ∨ (t.mask = 31 ∧ L.length = 18) ∨ (t.mask = 127 ∧ L.length = 76) := by
      rw [q4] at hfull
      rcases R.sh.mok with (e | e | e) | e
      · exact .inl ⟨e, by omega⟩
      · exact .inr (.inl ⟨e, by omega⟩)
      · exact .inr (.inr ⟨e, by omega⟩)
      · exfalso; omega
    have go : ∀ M, SetTable.sizeAbove (SetTable.grown (L.length + 1)) = M + 1 → MkG M → L1.length * 5 < M * 3 →
        wpAny (model P w) A (setRelay a (SetTable.grown (L.length + 1))) (fun _ s' => wpAny (model P w) A (pure true) Q E s') E { s with heap := h1 } := fun M g1 g2 g3 =>
      anew (s := { s with heap := h1 }) ho1 ⟨hex.1, hex.2.1, hex.2.2⟩ rfl hin q3 ld1 (by omega) g1 g2 g3 fun h2 L2 es2 ep2 t2 sb2 R2 pm2 => wpAny_pure (hQ h2 L2 es2 ep2 t2 (sb.trans sb2) R2 (pm2.trans pm))
    rcases cs with ⟨_, e2⟩ | ⟨_, e2⟩ | ⟨_, e2⟩
    · exact go 31 (by rw [e2]; exact size_20) (.inl (.inr (.inl rfl))) (by omega)
    · exact go 127 (by rw [e2]; exact size_76) (.inl (.inr (.inr rfl))) (by omega)
    · exact go 511 (by rw [e2]; exact sz512) (.inr rfl) (by omega)
  · first
      | refine wp_if_neg (by simp [hf]) ?_
      | (refine wpAny_bind ?_; refine wp_if_neg (by simp [hf]) ?_; refine wpAny_pure ?_)
    refine wpAny_pure (hQ h1 L1 es1 (ep + 1) t1 sb ⟨⟨_, ho1, ⟨hex.1, hex.2.1, hex.2.2⟩, rfl⟩, hin, q3, ld1, ?_⟩ pm)
    have h := hf
    unfold SetTable.tooFull at h
    rw [decide_eq_true_eq, q6] at h
    omega
end
end DT

/-! set(l), l a list of different tuples of ints -/
namespace DT
open PySem PySem.Spec PyProof.Rows L2
/-- the set of these tuples at a -/
def TsS (P : Program) (w : World) (h : Heap) (a : Addr) (L : List (Addr × List Int)) : Prop := ∃ es ep t L', TD P w h a L' es ep t ∧ L'.Perm L
section
variable {P : Program} {w : World} {h h' : Heap} {a : Addr} {L L' : List (Addr × List Int)}
theorem TsS.at (R : TsS P w h a L) (k : ∀ o, h.get? a = some o → h'.get? a = some o) : TsS P w h' a L := by
  obtain ⟨es, ep, t, L1, ⟨⟨o, ho, r⟩, r1, r2, r3, r4⟩, pm⟩ := R
  exact ⟨es, ep, t, L1, ⟨⟨o, k o ho, r⟩, r1, r2, r3, r4⟩, pm⟩
theorem TsS.lt (R : TsS P w h a L) : a < h.objs.size := by
  obtain ⟨es, ep, t, L1, ⟨⟨o, ho, r⟩, _⟩, _⟩ := R
  exact Heap.lt_size ho
theorem TsS.perm (R : TsS P w h a L) (p : L.Perm L') : TsS P w h a L' := let ⟨es, ep, t, L1, r, pm⟩ := R; ⟨es, ep, t, L1, r, pm.trans p⟩
abbrev newSet (w : World) : Obj := { cls := .type "set", dict := none, data := .set #[] 0 (.fresh 0 0 (!w.params.followText "set-order")) }
theorem tsS_new (ho : h.get? a = some (newSet w)) : TsS P w h a [] := by
  refine ⟨#[], 0, _, [], ⟨⟨_, ho, ⟨rfl, rfl, rfl⟩, rfl⟩, rfl, ⟨List.Pairwise.nil, rfl, rfl, .inl (.inl rfl), fun x hx => (by cases hx), rfl⟩, ?_, by show 0 * 5 < 7 * 3; decide⟩, .refl _⟩
  show _ ∨ (!w.params.followText "set-order") = true
  cases w.params.followText "set-order" <;> simp
end
theorem take_more {α : Type} {l : List α} {i : Nat} {x : α} (h : l[i]? = some x) : (x :: l.take i).Perm (l.take (i + 1)) := by
  rw [List.take_add_one, h]
  exact (List.perm_append_singleton x (l.take i)).symm
theorem fresh_at {ks : List (Addr × List Int)} (hn : (ks.map (·.2)).Nodup) {i : Nat} {x : Addr × List Int} (h : ks[i]? = some x) : x.2 ∉ (ks.take i).map (·.2) := fun m => by
  rw [List.map_take] at m
  obtain ⟨j, hj, e⟩ := List.mem_iff_getElem.mp m
  rw [List.length_take] at hj
  rw [List.getElem_take] at e
  obtain ⟨hi, e2⟩ := List.getElem?_eq_some_iff.mp h
  have e3 : (ks.map (·.2))[i]'(by rw [List.length_map]; exact hi) = x.2 := by rw [List.getElem_map, e2]
  have := (List.getElem_inj hn).mp (e.trans e3.symm)
  omega
section
variable {P : Program} {w : World} {A : Around} {E : Value → Shared → Prop} {s : Shared}
theorem tsS_add {a : Addr} {L : List (Addr × List Int)} (R : TsS P w s.heap a L) (tup : ∀ p ∈ L, IsT P w s.heap p.2 p.1) {x : Addr × List Int} (hx : IsT P w s.heap x.2 x.1) (hu : A.units < cLine) (new : x.2 ∉ L.map (·.2)) (hfew : L.length < 300) {Q : Bool → Shared → Prop}
    (hQ : ∀ h', Heap.SameBut a s.heap h' → TsS P w h' a (x :: L) → Q true { s with heap := h' }) : wpAny (model P w) A (setAddHashed a (.ref x.1) (thash P w x.2)) Q E s := by
  obtain ⟨es, ep, t, L1, T, pm⟩ := R
  exact adds T (fun p hp => tup p (pm.mem_iff.mp hp)) hx hu (fun m => new ((pm.map _).mem_iff.mp m)) (by rw [pm.length_eq]; exact hfew) fun h' L' es' ep' t' sb T' pm' => hQ h' sb ⟨es', ep', t', L', T', pm'.trans (pm.cons x)⟩
theorem tsS_loop {I : Addr} {fp wr : List Addr} {G : Array GenState → Array GenState → Prop} {n : Nat} {Pv : Nat → Value → Prop} {St : Nat → Shared → Prop} {R : Result → Shared → Prop} (W : WalksS P w A.in1 I fp wr G n Pv St) (S : Addr) (hSf : S ∉ fp) (ks : List (Addr × List Int)) (hd : (ks.map (·.2)).Nodup) (hn : n = ks.length) (hb : ks.length ≤ 300)
    (hval : ∀ i v, Pv i v → ∃ p, ks[i]? = some p ∧ v = .ref p.1) (hu : A.in1.units < cLine) (g0 : Heap) (hk : ∀ p ∈ ks, IsT P w g0 p.2 p.1) (gS : g0.get? S = none) (gw : ∀ b ∈ wr, g0.get? b = none) : ∀ (k i : Nat) (s : Shared), n - i = k → i ≤ n → St i s → (∀ b o, g0.get? b = some o → s.heap.get? b = some o) → TsS P w s.heap S (ks.take i) →
      (∀ s', Moved (S :: wr) G s s' → TsS P w s'.heap S ks → R (.ok (.ret .none)) s') → codeAny (model P w) A (.builtin "set.update.loop" ⟨[.ref S, .ref I], []⟩) R s := by
  have hSw : S ∉ wr := fun z => hSf (W.sub _ z)
  have up : ∀ b ∈ wr, b ∈ S :: wr := fun b hb => List.mem_cons_of_mem _ hb
  intro k
  induction k with
  | zero =>
    intro i s hk' hi hst hg hS hR
    have hin : i = ks.length := by omega
    refine codeAny_builtin F.entry_set_update_loop ?_; rw [Around.under_plainId F.plain_set_update_loop _]
    show wpAny _ A.in1 (pyNext (.ref I) >>= _) _ _ s
    rw [hin, ← hn] at hst
    refine wpAny_bind (W.done s _ _ hst fun s' hm => ?_)
    rw [List.take_of_length_le (by omega)] at hS
    exact wpAny_pure (hR s' (hm.mono up) (hS.at fun o e => hm.heap S o hSw e))
  | succ k ih =>
    intro i s hk' hi hst hg hS hR
    refine codeAny_builtin F.entry_set_update_loop ?_; rw [Around.under_plainId F.plain_set_update_loop _]
    show wpAny _ A.in1 (pyNext (.ref I) >>= _) _ _ s
    refine wpAny_bind (W.item i s _ _ (by omega) hst fun v s' hP hst' hm => ?_)
    obtain ⟨p, hp, rfl⟩ := hval i v hP
    have hg' : ∀ b o, g0.get? b = some o → s'.heap.get? b = some o := fun b o e => hm.heap b o (fun m => by rw [gw b m] at e; cases e) (hg b o e)
    have hS' : TsS P w s'.heap S (ks.take i) := hS.at fun o e => hm.heap S o hSw e
    have hx : IsT P w s'.heap p.2 p.1 := isT_keep (hk p (List.mem_of_getElem? hp)) hg'
    show wpAny _ A.in1 (holding [Value.ref p.1] (setAdd S (.ref p.1)) >>= _) _ _ s'
    unfold setAdd
    refine wpAny_bind (wpAny_holding (wpAny_holding (wpAny_bind (wpAny_pyHash_tuple hu hx ?_))))
    refine tsS_add (s := { s' with toks := s'.toks + (p.2.length + 1) }) hS' (fun r hr => isT_keep (hk r (List.mem_of_mem_take hr)) hg') hx hu (fresh_at hd hp) (by rw [List.length_take]; omega) fun h' hsb hS2 => ?_
    refine wpAny_pure ⟨plainId_quiet F.plain_set_update_loop _, ih (i + 1) _ (by omega) (by omega) (W.frame _ s' _ _ hst' (Nat.le_add_right _ _) fun b hb o e => ?_) (fun b o e => ?_) (hS2.perm (take_more hp)) fun s2 hm2 hS3 => ?_⟩
    · rw [hsb.2 b fun z => hSf (z ▸ hb)]
      exact e
    · show h'.get? b = some o
      rw [hsb.2 b fun z => by rw [z, gS] at e; cases e]
      exact hg' b o e
    · refine hR s2 (Moved.trans W.gtrans ((hm.mono up).then_heap (Nat.le_add_right _ _) fun b o hb e => ?_) hm2) hS3
      rw [hsb.2 b fun z => hb (z ▸ List.mem_cons_self)]
      exact e
set_option maxHeartbeats 6400000 in
theorem call_setD {l : Addr} {items : Array Value} (ks : List (Addr × List Int)) {Q : Value → Shared → Prop} (hh : A.handled = none) (hl : s.heap.IsList l items) (hit : items.toList = ks.map fun p => Value.ref p.1) (hk : ∀ p ∈ ks, IsT P w s.heap p.2 p.1) (hd : (ks.map (·.2)).Nodup) (hb : ks.length ≤ 300) (hu : A.units + 3 < cLine)
    (q : ∀ (h' : Heap) (tk : Nat), TsS P w h' s.heap.objs.size ks → (∀ b o, s.heap.get? b = some o → h'.get? b = some o) → Q (.ref s.heap.objs.size) { s with heap := h', toks := tk }) : wpAny (model P w) A (call (.type "set") [.ref l]) Q E s := by
  have hisz : items.size = ks.length := by rw [← Array.length_toList, hit, List.length_map]
  obtain ⟨c, tl, hmro⟩ := F.called_set.mro
  have hmade := F.called_set.made
  have hsub := F.called_set.sub
  refine wpAny_call (codeAny_of_tree ?_)
  show wpAny _ _ (callAny (.type "set") _) _ _ _
  refine wpAny_pure ⟨Code.quiet_builtin _ (by decide +kernel), codeAny_builtin F.entry_type_call ?_⟩; rw [Around.under_plain (weight_type_call_type "set" [.ref l] []) rfl]
  have h1 := F.called_set.notType
  have h2 := F.called_set.canCreate
  have hct := F.typeCall_set_1 (.ref l)
  repeat (any_goals (first | assumption | wp_step))
  refine codeAny_mono (code_set_led1 (.ref l) (E := E) (Q₁ := fun ob s₁ => ob = .ref s.heap.objs.size ∧ s₁ = { s with heap := s.heap.push (newSet w) }) ⟨rfl, rfl⟩) fun r s₁ hr => ?_
  cases r with
  | error e => exact hr
  | ok fl =>
    cases fl with
    | ret obj =>
      obtain ⟨rfl, rfl⟩ := hr
      have hS : (s.heap.push (newSet w)).get? s.heap.objs.size = some (newSet w) := Heap.get?_push_size _ rfl
      have hT : Shared.TypeIs { s with heap := s.heap.push (newSet w) } (.ref s.heap.objs.size) "set" := ⟨_, hS, rfl⟩
      have hli := F.called_set.init.lookup
      have hbi := F.called_set.init.bind (.ref s.heap.objs.size)
      repeat (any_goals (first | assumption | wp_step))
      refine codeAny_mono (codeAny_call_builtin (R := wants (fun r s₂ => r = .none ∧ ∃ h' tk, s₂ = { s with heap := h', toks := tk } ∧ TsS P w h' s.heap.objs.size ks ∧ ∀ b o, s.heap.get? b = some o → h'.get? b = some o) E) F.called_set.init.plain F.entry_set_init (check_set_init_1 hT ?_)) fun r₂ s₂ hr₂ => ?_
      · obtain ⟨⟨ocls, odict, odata, oslots⟩, hol, hcl, nl, hdl⟩ := hl
        simp only at hcl hdl
        subst hcl; subst hdl
        have hsls := F.sub_list_set
        have hslf := F.sub_list_frozenset
        have hne : (Value.type "list" == Value.type "dict") = false := by decide
        have hol' : (s.heap.push (newSet w)).get? l = some { cls := .type "list", dict := odict, data := .seq items nl, slots := oslots } := Heap.get?_push_of_some _ hol
        have hl1 : (s.heap.push (newSet w)).IsList l items := ⟨_, hol', rfl, nl, rfl⟩
        unfold Builtin.«set.__init__» noKeywords Builtin.Frozenset.updateFrom
        generalize hPI : pyIter = PI
        wp_walk
        subst hPI
        refine wpAny_pyIter_list hl1 (wpAny_bind (wpAny_runValue ?_))
        have hlS : l < s.heap.objs.size := Heap.lt_size hol
        have hz : (s.heap.push (newSet w)).objs.size = s.heap.objs.size + 1 := Heap.size_push ..
        have none_at : ∀ b, s.heap.objs.size ≤ b → s.heap.get? b = none := fun b hb => by
          cases c : s.heap.get? b with
          | none => rfl
          | some o => exact absurd (Heap.lt_size c) (Nat.not_lt_of_le hb)
        refine tsS_loop ((Walks.list (by simp [hh]) _ l (by rw [hz]; exact Nat.ne_of_lt (Nat.lt_succ_of_lt hlS)) items).toS) s.heap.objs.size (fun m => ?_) ks hd hisz hb (fun i v hv => ?_) ?_ s.heap hk (none_at _ (Nat.le_refl _)) (fun b hb => ?_) (items.size - 0) 0 _ (by omega) (Nat.zero_le _)
          ⟨⟨_, Heap.get?_push_size _ rfl, rfl, rfl⟩, (hl1.push _)⟩ (fun b o e => Heap.get?_push_of_some _ (Heap.get?_push_of_some _ e)) (tsS_new (Heap.get?_push_of_some _ hS)) fun s' hm hS' => ?_
        · rw [hz] at m
          rcases List.mem_cons.mp m with z | z
          · exact absurd z (Nat.ne_of_lt (Nat.lt_succ_self _))
          · exact absurd (List.mem_singleton.mp z) (Nat.ne_of_gt hlS)
        · have hi : i < ks.length := by rw [← hisz]; exact (Array.getElem?_eq_some_iff.mp hv).1
          have e : (ks.map fun p => Value.ref p.1)[i]? = some v := by rw [← hit, Array.getElem?_toList]; exact hv
          rw [List.getElem?_map, List.getElem?_eq_getElem hi] at e
          exact ⟨ks[i], List.getElem?_eq_getElem hi, (Option.some.inj e).symm⟩
        · simp
          omega
        · rw [List.mem_singleton.mp hb, hz]
          exact none_at _ (Nat.le_succ _)
        · obtain ⟨h', g', d', tk', os'⟩ := s'
          obtain rfl : g' = s.gens := hm.gens
          obtain rfl : d' = s.drawn := hm.drawn
          obtain rfl : os' = s.os := hm.os
          show wpAny _ _ _ _ _ _
          refine wpAny_pure (wpAny_pure ⟨rfl, h', tk', rfl, hS', fun b o e => ?_⟩)
          have hb0 : b < s.heap.objs.size := Heap.lt_size e
          refine hm.heap b o (fun m => ?_) (Heap.get?_push_of_some _ (Heap.get?_push_of_some _ e))
          rw [hz] at m
          rcases List.mem_cons.mp m with z | z
          · exact absurd z (Nat.ne_of_lt hb0)
          · exact absurd (List.mem_singleton.mp z) (Nat.ne_of_lt (Nat.lt_succ_of_lt hb0))
      · cases r₂ with
        | error e => exact hr₂
        | ok fl₂ =>
          cases fl₂ with
          | ret r =>
            obtain ⟨rfl, h', tk, rfl, hS', hk'⟩ := hr₂
            repeat (any_goals (first | assumption | wp_step))
            exact q _ _ hS' hk'
          | _ => exact hr₂.elim
    | _ => exact hr.elim
end
end DT

/-! sorted(s) of such a set, in the order of the tuples -/
namespace DT
open PySem PySem.Spec PyProof.Rows L2 SrtO
/-! ### the order of lists of ints -/
theorem lex_asym : ∀ a b, HT.lexLt a b = true → HT.lexLt b a = false
  | [], [], h => rfl
  | [], _ :: _, _ => rfl
  | _ :: _, [], h => by cases h
  | x :: a, y :: b, h => by
    unfold HT.lexLt at h ⊢
    by_cases e : x = y
    · rw [if_pos e] at h
      rw [if_pos e.symm]
      exact lex_asym a b h
    · rw [if_neg e] at h
      rw [if_neg (Ne.symm e)]
      have := of_decide_eq_true h
      exact decide_eq_false (by omega)
theorem lex_tr : ∀ a b c, HT.lexLt b a = false → HT.lexLt c b = false → HT.lexLt c a = false
  | [], _, [], _, _ => rfl
  | [], _, _ :: _, _, _ => rfl
  | _ :: _, [], _, h, _ => by cases h
  | _ :: _, _ :: _, [], _, h => by cases h
  | x :: a, y :: b, z :: c, h1, h2 => by
    unfold HT.lexLt at h1 h2 ⊢
    by_cases e : y = x
    · rw [if_pos e] at h1
      by_cases e2 : z = y
      · rw [if_pos e2] at h2
        rw [if_pos (e2.trans e)]
        exact lex_tr a b c h1 h2
      · rw [if_neg e2] at h2
        rw [if_neg (fun q => e2 (q.trans e.symm)), ← e]
        exact h2
    · rw [if_neg e] at h1
      have n1 := of_decide_eq_false h1
      by_cases e2 : z = y
      · rw [e2, if_neg e]
        exact h1
      · rw [if_neg e2] at h2
        have n2 := of_decide_eq_false h2
        rw [if_neg (by omega)]
        exact decide_eq_false (by omega)
theorem lex_tot : ∀ a b : List Int, a ≠ b → HT.lexLt b a = false → HT.lexLt a b = true
  | [], [], h, _ => absurd rfl h
  | [], _ :: _, _, _ => rfl
  | _ :: _, [], _, h => by cases h
  | x :: a, y :: b, h, g => by
    unfold HT.lexLt at g ⊢
    by_cases e : x = y
    · rw [if_pos e.symm] at g
      rw [if_pos e]
      exact lex_tot a b (fun z => h (by rw [e, z])) g
    · rw [if_neg (Ne.symm e)] at g
      rw [if_neg e]
      have := of_decide_eq_false g
      exact decide_eq_true (by omega)
theorem swo_key (k : Value → List Int) : Swo fun v u => HT.lexLt (k v) (k u) := ⟨fun x y h => lex_asym _ _ h, fun x y z h1 h2 => lex_tr _ _ _ h1 h2⟩
section
variable {P : Program} {w : World} {A : Around} {E : Value → Shared → Prop} {s : Shared}
theorem kat_rest {fin : Bool} {Q : Bool → Shared → Prop} : ∀ {us : List Value} {k : List Int}, IntsAre us k → ∀ {vs : List Value} {l : List Int}, IntsAre vs l → k.length = l.length → fin = false → ∀ i, Q (HT.lexLt k l) s → PySem.W.KatLex P w A true fin Q (us.zip vs) (i + 1) s
  | _, _, .nil, _, _, .nil, _, hf, i, q => PySem.W.kat_nil (by rw [hf]; exact q)
  | _, _, .nil, _, _, .cons _ _ _, h, _, _, _ => by cases h
  | _, _, .cons _ _ _, _, _, .nil, h, _, _, _ => by cases h
  | _, _, .cons x t r, _, _, .cons y u r', h, hf, i, q => by
    refine PySem.W.kat_cons (SeqAt.EqAt.int_int x t y u P w _ _ ?_)
    refine PySem.W.kat_go (fun e1 => ?_) (fun e1 => ?_)
    · have ex : x = y := by simpa using e1
      unfold HT.lexLt at q
      rw [if_pos ex] at q
      exact PySem.W.kat_yes (kat_rest r r' (Nat.succ.inj h) hf (i + 1) q)
    · have ex : ¬ x = y := by simpa using e1
      unfold HT.lexLt at q
      rw [if_neg ex] at q
      exact PySem.W.kat_no (PySem.W.kat_one _ _ (PyProof.Rows.lt_int q))
theorem kat_ints {fin : Bool} {Q : Bool → Shared → Prop} {us vs : List Value} {k l : List Int} (h1 : IntsAre us k) (h2 : IntsAre vs l) (hl : k.length = l.length) (hf : fin = false) (q : Q (HT.lexLt k l) s) : PySem.W.KatLex P w A true fin Q (us.zip vs) 0 s := by
  cases h1 with
  | nil =>
    cases h2 with
    | nil => exact PySem.W.kat_nil (by rw [hf]; exact q)
    | cons _ _ _ => cases hl
  | cons x t r =>
    cases h2 with
    | nil => cases hl
    | cons y u r' =>
      refine PySem.W.kat_cons (SeqAt.EqAt.int_int x t y u P w _ _ ?_)
      refine PySem.W.kat_go (fun e1 => ?_) (fun e1 => ?_)
      · have ex : x = y := by simpa using e1
        unfold HT.lexLt at q
        rw [if_pos ex] at q
        exact PySem.W.kat_yes (kat_rest r r' (Nat.succ.inj hl) hf 0 q)
      · have ex : ¬ x = y := by simpa using e1
        unfold HT.lexLt at q
        rw [if_neg ex] at q
        exact PySem.W.kat_no (oneLt_int q)
/-! ### what a value of the set is -/
def kOf (L : List (Addr × List Int)) : Value → List Int
  | .ref b => ((L.find? fun p => p.1 == b).map (·.2)).getD []
  | _ => []
theorem kOf_at {h : Heap} {L : List (Addr × List Int)} (tup : ∀ p ∈ L, IsT P w h p.2 p.1) {p : Addr × List Int} (hp : p ∈ L) : kOf L (.ref p.1) = p.2 := by
  show ((L.find? fun r => r.1 == p.1).map (·.2)).getD [] = p.2
  cases e : L.find? fun r => r.1 == p.1 with
  | none => exact absurd (List.find?_eq_none.mp e p hp) (by simp)
  | some r =>
    have hr := List.mem_of_find?_eq_some e
    have e1 : r.1 = p.1 := by simpa using List.find?_some e
    have a1 := tup r hr
    rw [e1] at a1
    exact a1.inj (tup p hp)
theorem len_ints {us : List Value} {k : List Int} (h : IntsAre us k) : us.length = k.length := by
  induction h with
  | nil => rfl
  | cons _ _ _ ih => exact congrArg Nat.succ ih
theorem cmpD {L : List (Addr × List Int)} {h : Heap} (tup : ∀ p ∈ L, IsT P w h p.2 p.1) {d : Nat} (hd : ∀ p ∈ L, p.2.length = d) {vs : List Value} (hv : ∀ v ∈ vs, ∃ p ∈ L, v = .ref p.1) (s : Shared) : Cmp P w A { s with heap := h } (tuples' true) (fun p => p.1 ∈ vs) (lt2 fun v u => HT.lexLt (kOf L v) (kOf L u)) := by
  intro p q hm hm'
  obtain ⟨r, hr, er⟩ := hv _ hm
  obtain ⟨r', hr', er'⟩ := hv _ hm'
  show wpAny (model P w) A (keyLt' (tuples' true) p.1 q.1) (fun b s' => s' = { s with heap := h } ∧ b = HT.lexLt (kOf L p.1) (kOf L q.1)) (fun _ _ => False) { s with heap := h }
  rw [er, er', kOf_at tup hr, kOf_at tup hr']
  obtain ⟨o, xs, n, ho, hc, hdt, hi⟩ := tup r hr
  obtain ⟨o', ys, n', ho', hc', hdt', hi'⟩ := tup r' hr'
  have i1 := ints_of_items hi
  have i2 := ints_of_items hi'
  have l1 := len_ints i1
  have l2 := len_ints i2
  rw [Array.length_toList, hd r hr] at l1
  rw [Array.length_toList, hd r' hr'] at l2
  refine PySem.W.kat_lt ho hdt ho' hdt' (kat_ints i1 i2 (by rw [hd r hr, hd r' hr']) (decide_eq_false (by omega)) ⟨rfl, rfl⟩)
theorem katTups {h : Heap} : ∀ (vs : List Value), (∀ v ∈ vs, ∃ p : Addr × List Int, v = .ref p.1 ∧ IsT P w h p.2 p.1 ∧ 1 ≤ p.2.length) → ∃ fs, PySem.W.KatTups h vs fs ∧ fs.length = vs.length ∧ ∀ f ∈ fs, ∃ x t, f = Value.int x t
  | [], _ => ⟨[], trivial, rfl, fun f hf => by cases hf⟩
  | v :: vs, hv => by
    obtain ⟨fs, f1, f2, f3⟩ := katTups vs fun u hu => hv u (List.mem_cons_of_mem _ hu)
    obtain ⟨p, rfl, ⟨o, xs, n, ho, hc, hdt, hi⟩, h1⟩ := hv v List.mem_cons_self
    have ii := ints_of_items hi
    generalize hk : p.2 = k at ii h1
    generalize hus : xs.toList = us at ii
    cases ii with
    | nil => cases h1
    | cons x t r =>
      refine ⟨.int x t :: fs, PySem.W.KatTups.cons ho hc hdt (by rw [← Array.getElem?_toList, hus]; rfl) f1, congrArg Nat.succ f2, fun f hf => ?_⟩
      rcases List.mem_cons.mp hf with z | z
      · exact ⟨x, t, z⟩
      · exact f3 f z
theorem sortableD {a : Addr} {L : List (Addr × List Int)} (tup : ∀ p ∈ L, IsT P w s.heap p.2 p.1) {d : Nat} (hd1 : 1 ≤ d) (hd : ∀ p ∈ L, p.2.length = d) {vs : List Value} (h0 : 0 < vs.length) (hv : ∀ v ∈ vs, ∃ p ∈ L, v = .ref p.1) (ha : ∀ o, s.heap.get? a = some o → o.cls ≠ .type "tuple") : SortableO P w A s a vs fun v u => HT.lexLt (kOf L v) (kOf L u) := by
  intro h' keep
  have tup' : ∀ p ∈ L, IsT P w h' p.2 p.1 := fun p hp => by
    obtain ⟨o, xs, n, ho, hc, r⟩ := tup p hp
    exact ⟨o, xs, n, keep _ _ (fun z => ha o (z ▸ ho) hc) ho, hc, r⟩
  obtain ⟨fs, f1, f2, f3⟩ := katTups (P := P) (w := w) (h := h') vs fun v hm => let ⟨p, hp, e⟩ := hv v hm; ⟨p, e, tup' p hp, by rw [hd p hp]; exact hd1⟩
  refine ⟨tuples' true, fun Q E hq => ?_, cmpD tup' hd hv s⟩
  refine PySem.W.kat_kind (T := .type "int") f1 (by omega) (fun f hm => ?_) (by rfl) ?_
  · obtain ⟨x, t, rfl⟩ := f3 f hm
    exact PySem.W.Looks.now
  · have e : (Value.type "int" != Value.type "tuple") = true := by first | decide +kernel | rfl | decide
    rw [e]
    exact hq
/-- sorted(s) -/
theorem sorted_setD {a : Addr} {L : List (Addr × List Int)} {Q : Value → Shared → Prop} (R : TsS P w s.heap a L) (tup : ∀ p ∈ L, IsT P w s.heap p.2 p.1) (nd : (L.map (·.2)).Nodup) {d : Nat} (hd : ∀ p ∈ L, p.2.length = d) (hb : L.length ≤ 300) (hh : A.handled = none)
    (hQ : ∀ s' p (out : Array Value) (c : Nat) (L' : List (Addr × List Int)), (∀ b o, s.heap.get? b = some o → s'.heap.get? b = some o) → s'.gens = s.gens → s'.os = s.os → s.heap.objs.size ≤ p → s'.heap.get? p = some (seqObj "list" out c) → out.toList = L'.map (fun q => Value.ref q.1) → L'.Perm L → L'.Pairwise (fun q r => HT.lexLt q.2 r.2 = true) → Q (.ref p) s') :
    wpAny (model P w) A (call (.builtin "sorted") [.ref a]) Q E s := by
  obtain ⟨es, ep, t, L1, T, pm0⟩ := R
  obtain ⟨o, ho, hex, hdt⟩ := T.ob
  have hz := rows_len T.rows
  have hl1 := pm0.length_eq
  refine Calls.call_function_entry kind_sorted plain_sorted entry_sorted (args_sorted1 _) ?_
  unfold Builtin.«sorted»
  refine wpAny_bind (m := checkCount "sorted" 1 1 _) (wpAny_pure ?_)
  refine wpAny_bind (collect_set (A := A.in1) hh ⟨o, ho, hex.1, hdt⟩ T.fits (by unfold scanBound; omega) T.sh.ris T.led fun s1 vs k1 hz1 g1 o1 pm => ?_)
  have pmv : vs.Perm (L.map fun q => Value.ref q.1) := by
    rw [T.rows] at pm
    unfold rowsOf at pm
    rw [List.map_map] at pm
    exact pm.trans (pm0.map _)
  have hvl : vs.length ≤ 300 := by rw [pmv.length_eq, List.length_map]; exact hb
  have hv : ∀ v ∈ vs, ∃ p ∈ L, v = Value.ref p.1 := fun v hv => let ⟨p, hp, e⟩ := List.mem_map.mp (pmv.mem_iff.mp hv); ⟨p, hp, e.symm⟩
  refine wpAny_bind (wpAny_newList ?_ (by rw [sizeLine_eq]; omega))
  have hoL : (s1.heap.push (seqObj "list" vs.toArray 0)).get? s1.heap.objs.size = some (seqObj "list" vs.toArray 0) := Heap.get?_push_size _ rfl
  have tk : ∀ q ∈ L, IsT P w (s1.heap.push (seqObj "list" vs.toArray 0)) q.2 q.1 := fun q hq => isT_keep (tup q hq) fun b u e => Heap.get?_push_of_some _ (k1 b u e)
  have one : ∀ q ∈ L, ∀ r ∈ L, q.2 = r.2 → q = r := fun q hq r hr e => by
    obtain ⟨i, hi, rfl⟩ := List.mem_iff_getElem.mp hq
    obtain ⟨j, hj, rfl⟩ := List.mem_iff_getElem.mp hr
    have e2 : (L.map (·.2))[i]'(by rw [List.length_map]; exact hi) = (L.map (·.2))[j]'(by rw [List.length_map]; exact hj) := by rw [List.getElem_map, List.getElem_map]; exact e
    have := (List.getElem_inj nd).mp e2
    subst this
    rfl
  have long : 2 ≤ vs.length → 1 ≤ d := fun h2 => by
    rw [pmv.length_eq, List.length_map] at h2
    rcases Nat.eq_zero_or_pos d with z | z
    · have e0 : (L.map (·.2))[0]'(by rw [List.length_map]; omega) = (L.map (·.2))[1]'(by rw [List.length_map]; omega) := by
        rw [List.getElem_map, List.getElem_map, List.length_eq_zero_iff.mp ((hd _ (List.getElem_mem _)).trans z), List.length_eq_zero_iff.mp ((hd _ (List.getElem_mem _)).trans z)]
      have := (List.getElem_inj nd).mp e0
      omega
    · exact z
  refine wpAny_bind (wpAny_holding (wpAny_call_entry slot_list_sort ⟨_, hoL, rfl⟩ entry_list_sort (list_sort_ord (swo_key (kOf L)) hoL (by rw [sizeLine_eq]; omega) (fun h2 => sortableD (s := { s1 with heap := s1.heap.push (seqObj "list" vs.toArray 0) }) tk (long h2) hd (by omega) hv fun o e => ?_) fun out hs hb2 => ⟨_, rfl, ?_⟩) (args_list_sort _)))
  · have e' : some o = some (seqObj "list" vs.toArray 0) := e.symm.trans hoL
    cases e'
    intro c
    exact absurd (Value.type.inj c) (by decide)
  obtain ⟨c, hc⟩ := sortedHeap_at (vs := vs) (out := out.toArray) hoL
  have pmo : out.Perm (L.map fun q => Value.ref q.1) := hb2.perm.trans pmv
  have ex : ∃ L' : List (Addr × List Int), out = L'.map (fun q => Value.ref q.1) ∧ L'.Perm L := by
    have back : ∀ v ∈ out, ∃ p ∈ L, v = Value.ref p.1 := fun v hv => let ⟨p, hp, e⟩ := List.mem_map.mp (pmo.mem_iff.mp hv); ⟨p, hp, e.symm⟩
    have mk : ∀ l : List Value, (∀ v ∈ l, ∃ p ∈ L, v = Value.ref p.1) → l = (l.map fun v => (match v with | .ref b => (b, kOf L v) | _ => (0, []))).map fun q => Value.ref q.1 := fun l hl => by
      rw [List.map_map]
      conv => lhs; rw [← List.map_id l]
      refine List.map_congr_left fun v hv => ?_
      obtain ⟨p, hp, rfl⟩ := hl v hv
      rfl
    refine ⟨_, mk out back, ?_⟩
    refine (pmo.map _).trans ?_
    rw [List.map_map]
    conv => rhs; rw [← List.map_id L]
    refine List.Perm.of_eq (List.map_congr_left fun p hp => ?_)
    show (p.1, kOf L (.ref p.1)) = p
    rw [kOf_at tup hp]
  obtain ⟨L', e', pL⟩ := ex
  have nd' : (L'.map (·.2)).Nodup := (pL.map _).nodup_iff.mpr nd
  have pw : L'.Pairwise (fun q r => HT.lexLt q.2 r.2 = true) := by
    have p1 : L'.Pairwise (fun q r => HT.lexLt r.2 q.2 = false) := by
      rw [e'] at hs
      refine List.Pairwise.imp_of_mem (fun {q r} hq hr h => ?_) (List.pairwise_map.mp hs)
      have h : HT.lexLt (kOf L (.ref r.1)) (kOf L (.ref q.1)) = false := h
      rw [kOf_at tup (pL.mem_iff.mp hq), kOf_at tup (pL.mem_iff.mp hr)] at h
      exact h
    have p2 : L'.Pairwise (fun q r => q.2 ≠ r.2) := List.pairwise_map.mp nd'
    exact (p1.and p2).imp fun h => lex_tot _ _ h.2 h.1
  refine wpAny_pure ⟨_, rfl, hQ _ s1.heap.objs.size out.toArray c L' (fun b u e => ?_) g1 o1 hz1 hc e' pL pw⟩
  have q := k1 b u e
  have hlt := Heap.lt_size q
  show (sortedHeap (s1.heap.push (seqObj "list" vs.toArray 0)) s1.heap.objs.size vs _).get? b = some u
  rw [sortedHeap_old (Nat.ne_of_lt hlt) (by rw [size_push']; exact Nat.lt_succ_of_lt hlt)]
  exact Heap.get?_push_of_some _ q
end
/-! ### readings -/
/-- the set of these tuples, as an object; the tuples themselves stand elsewhere -/
def TsO (P : Program) (w : World) (a : Addr) (L : List (Addr × List Int)) : HO := .ext fun h => TsS P w h a L
section
variable {X : Cx}
theorem tsO_new {P : Program} {w : World} {H : Hp} {h : Heap} {a : Addr} {L : List (Addr × List Int)} (R : TsS P w h a L) : ObjOk P w H h a (TsO P w a L) := by
  obtain ⟨o, ho⟩ : ∃ o, h.get? a = some o := let ⟨_, _, _, _, T, _⟩ := R; let ⟨o, ho, _⟩ := T.ob; ⟨o, ho⟩
  exact ⟨R, ⟨o, ho⟩, fun h1 h2 p k => TsS.at p k⟩
theorem tsO_get {pins : List (Addr × Obj)} {σ : L2.St} {H : Hp} {s : Shared} {a : Addr} {L : List (Addr × List Int)} (I : Inv X pins σ H s) (ha : H a = some (TsO X.prog X.w a L)) : TsS X.prog X.w s.heap a L := (I.hok a _ ha).1
/-- set(l), tuples of ints that are all different -/
def rSetD (P : Program) (w : World) (K : PySem.W.Frag) : List V → Hp → VK → Prop := fun vs H Q => ∃ (l : Addr) (L : List (Addr × List Int)), vs = [V.ref l] ∧ SqL K H l (L.map fun p => V.ref p.1) ∧ (∀ p ∈ L, SqT K H p.1 (p.2.map V.int)) ∧ (L.map (·.2)).Nodup ∧ L.length ≤ 300 ∧ ∀ p, H p = none → Q (.ref p) (upd H p (TsO P w p L))
theorem cr_setD (hc : X.calm = true) (hu : X.A.units + 3 < cLine) : CallR X (.type "set") (rSetD X.prog X.w X.K) := by
  intro pins s σ H vs us Q I r h
  obtain ⟨l, L, rfl, hl, ht, hd, hn, q⟩ := h
  obtain ⟨its, rv, pl, _⟩ := I.list hl
  rw [Vals.ref1 r]
  refine call_setD L (I.ok.hd hc) pl.isList (refs_of_vals rv) (fun p hp => I.isT (ht p hp)) hd hn hu fun h' tk new k => ?_
  exact ⟨.ref _, upd H s.heap.objs.size (TsO X.prog X.w s.heap.objs.size L), I.laid (t' := tk) k (Nat.le_refl _) (tsO_new new), rfl, q _ (I.hok.fresh (Nat.le_refl _))⟩
/-- sorted(s) of such a set -/
def rSortD (P : Program) (w : World) (K : PySem.W.Frag) : List V → Hp → VK → Prop := fun vs H Q => ∃ (a : Addr) (L : List (Addr × List Int)) (d : Nat), vs = [V.ref a] ∧ H a = some (TsO P w a L) ∧ (∀ p ∈ L, SqT K H p.1 (p.2.map V.int)) ∧ (L.map (·.2)).Nodup ∧ L.length ≤ 300 ∧ (∀ p ∈ L, p.2.length = d) ∧
  ∀ (L' : List (Addr × List Int)) (p : Addr), L'.Perm L → L'.Pairwise (fun q r => HT.lexLt q.2 r.2 = true) → H p = none → Q (.ref p) (upd H p (.lst (L'.map fun q => V.ref q.1)))
theorem cr_sortD (hc : X.calm = true) : CallR X (.builtin "sorted") (rSortD X.prog X.w X.K) := by
  intro pins s σ H vs us Q I r h
  obtain ⟨a, L, d, rfl, ha, ht, hd, hn, hk, q⟩ := h
  rw [Vals.ref1 r]
  refine sorted_setD (tsO_get I ha) (fun p hp => I.isT (ht p hp)) hd hk hn (I.ok.hd hc) fun s' p out c L' k g o hp hg hi hs hm => ?_
  have hlen : (L'.map fun q => V.ref q.1).length ≤ sizeLine := by rw [List.length_map, hs.length_eq]; exact Nat.le_trans hn (by decide)
  have hnp : H p = none := I.hok.fresh hp
  have J : Inv X pins σ (upd H p (.lst (L'.map fun q => V.ref q.1))) { s with heap := s'.heap, gens := s'.gens, drawn := s'.drawn, toks := s'.toks } := I.call (ch := []) (Un.laid k hp hnp) (I.hok.laid k hp ⟨hlen, out.toList, c, by rw [hi]; exact vals_of_refs L', hg⟩) (by rw [g]; exact I.bare) (fun _ z => nomatch z)
  have e : s' = { s with heap := s'.heap, gens := s'.gens, drawn := s'.drawn, toks := s'.toks } := by
    cases s'
    cases s
    cases o
    rfl
  rw [e]
  exact ⟨.ref p, _, J, rfl, q L' p hs hm hnp⟩
end
end DT

/-! setdefault at a tuple -/
namespace DT
open PySem PySem.Spec PyProof.Rows L2
section
variable {X : Cx} {pins : List (Addr × Obj)} {σ : L2.St} {H : Hp} {s : Shared} {a b : Addr} {r : Value} {d : V} {k : List Key} {A : Around} {E : Value → Shared → Prop}
theorem setd_at {kvs : List (List Key × V)} {Q : Value → Shared → Prop} (hu : A.units + 1 < cLine) (I : Inv X pins σ H s) (e : H a = some (.dT kvs)) (eb : H b = some (.tup (k.map kV))) (rd : RelV d r) (hl : kvs.length < sizeLine)
    (h1 : ∀ v, valV kvs k = some v → ∀ (w' : Value) (s' : Shared), Inv X pins σ H s' → RelV v w' → Q w' s') (h2 : valV kvs k = none → ∀ (w' : Value) (s' : Shared), Inv X pins σ (upd H a (.dT (putK kvs k d))) s' → RelV d w' → Q w' s') :
    wpAny (model X.prog X.w) A (call (.builtin "dict.setdefault") [.ref a, .ref b, r]) Q E s := by
  obtain ⟨z, hd, xs, rel, dd⟩ := dt_of I.hok e
  have hz : xs.length ≤ sizeLine := by rw [← Paired.length rel]; exact z
  have rv := rel.val k
  refine call_setdefault_heap (tupleKind_room_in1 hu) (key_of I.hok eb) hd dd (fun p hp => ?_) (fun hn h' dd' hs => ?_) hz
  · rw [hp] at rv
    cases q0 : valV kvs k with
    | none => rw [q0] at rv; exact (show False from rv).elim
    | some v0 =>
      rw [q0] at rv
      exact h1 v0 q0 _ _ (I.tok _) rv
  · rw [hn] at rv
    cases q0 : valV kvs k with
    | some v0 => rw [q0] at rv; exact (show False from rv).elim
    | none =>
      have hl2 : (putK kvs k d).length ≤ sizeLine := by have := length_putK kvs k d; omega
      obtain ⟨q, es, ep, hq, g2, g3, g4, _, g5⟩ := dd'
      refine h2 q0 _ _ (d_write (t' := _) I (by rw [e]; exact True.intro) hs ⟨q, hq⟩ ⟨hl2, hd, _, (rel.put k eb rd).keeps fun c ys ec => ?_, q, es, ep, hq, g2, g3, g4, g5⟩) rd
      rw [upd_ne (ne_of ec e (fun z => nomatch z))]
      exact ec
end
/-- d.setdefault(y, z), y a tuple -/
def tSetdT (td ty tx : TE) : TE := fun σ H Q => td σ H fun x H1 => ∃ a, x = .ref a ∧ IsD H1 a ∧ ty σ H1 fun y H2 => tx σ H2 fun z H3 => ∃ (kvs : List (List Key × V)) (k : List Key) (b : Addr), H3 a = some (.dT kvs) ∧ y = .ref b ∧ H3 b = some (.tup (k.map kV)) ∧ kvs.length < sizeLine ∧
  (∀ v, valV kvs k = some v → Q v H3) ∧ (valV kvs k = none → Q z (upd H3 a (.dT (putK kvs k z))))
section
variable {X : Cx} {o e f : Expr} {td ty tx : TE} {apos cpos : Pos}
theorem pe_setdT (hu : X.A.units + 1 < cLine) (ho : PE X o td) (he : PE X e ty) (hf : PE X f tx) (m : M2 X o "setdefault" apos e f cpos) : PE X (.Call (.Attribute o "setdefault" apos) [e, f] [] cpos) (tSetdT td ty tx) := by
  refine ⟨fun pins s σ H Q I h => ?_⟩
  refine wpAny_Call_method m.base m.few m.line PySem.F.plainAttrs_dict PySem.F.slot_dict_setdefault PySem.F.type_dict_setdefault (thn (ho.run pins s σ H _ I h) fun u s1 ⟨x, H1, I1, rx, a, ex, d, q1⟩ => ?_)
  subst ex
  obtain rfl : u = Value.ref a := rx
  obtain ⟨t1, t2, _⟩ := isD_at I1 d
  refine ⟨t1, t2, ?_⟩
  rw [m.trees]
  refine Calls.callWith_builtin rfl (Calls.evalArgs_plain (Calls.spliced_cons (thn (he.run pins s1 σ H1 _ I1 q1) fun iv s2 ⟨y, H2, I2, ry, q2⟩ =>
    Calls.spliced_cons (thn (hf.run pins s2 σ H2 _ I2 q2) fun fv s3 ⟨z, H3, I3, rz, kvs, k, b, ea, ey, eb, hl, q3, q4⟩ => Calls.spliced_nil ?_))))
  subst ey
  cases (show iv = Value.ref b from ry)
  exact setd_at hu I3 ea eb rz hl (fun v hv w' s4 I4 rw' => ⟨v, _, I4, rw', q3 v hv⟩) fun hn w' s4 I4 rw' => ⟨z, _, I4, rw', q4 hn⟩
end
end DT

/-! least lengths, in pure terms -/
namespace PT
/-! ### at most, place by place -/
def leI (a b : List Int) : Bool := (List.range a.length).all fun i => decide (a.getD i 0 ≤ b.getD i 0)
theorem leI_iff {a b : List Int} : leI a b = true ↔ ∀ i, i < a.length → a.getD i 0 ≤ b.getD i 0 := by
  unfold leI
  rw [List.all_eq_true]
  exact ⟨fun h i hi => of_decide_eq_true (h i (List.mem_range.mpr hi)), fun h i hi => decide_eq_true (h i (List.mem_range.mp hi))⟩
theorem leI_refl (a : List Int) : leI a a = true := leI_iff.mpr fun _ _ => Int.le_refl _
theorem leI_trans {a b c : List Int} (h : a.length = b.length) (h1 : leI a b = true) (h2 : leI b c = true) : leI a c = true := leI_iff.mpr fun i hi => Int.le_trans (leI_iff.mp h1 i hi) (leI_iff.mp h2 i (by omega))
theorem ext_getD {a b : List Int} (h : a.length = b.length) (e : ∀ i, i < a.length → a.getD i 0 = b.getD i 0) : a = b := by
  refine List.ext_getElem h fun i h1 h2 => ?_
  have := e i h1
  rw [List.getD_eq_getElem?_getD, List.getD_eq_getElem?_getD, List.getElem?_eq_getElem h1, List.getElem?_eq_getElem h2] at this
  exact this
theorem leI_anti {a b : List Int} (h : a.length = b.length) (h1 : leI a b = true) (h2 : leI b a = true) : a = b := ext_getD h fun i hi => Int.le_antisymm (leI_iff.mp h1 i hi) (leI_iff.mp h2 i (by omega))
theorem leI_lex : ∀ {a b : List Int}, a.length = b.length → leI a b = true → a ≠ b → HT.lexLt a b = true
  | [], [], _, _, n => absurd rfl n
  | [], _ :: _, h, _, _ => by cases h
  | _ :: _, [], h, _, _ => by cases h
  | x :: a, y :: b, h, l, n => by
    have l' := leI_iff.mp l
    have h0 : x ≤ y := l' 0 (Nat.succ_pos _)
    rw [HT.lexLt_cons]
    by_cases e : x = y
    · rw [if_pos e]
      refine leI_lex (Nat.succ.inj h) (leI_iff.mpr fun i hi => ?_) fun z => n (by rw [e, z])
      exact l' (i + 1) (Nat.succ_lt_succ hi)
    · rw [if_neg e]
      exact decide_eq_true (by omega)
/-! ### the least of ascending rows -/
def stepC (found : List (List Int)) (k : List Int) : List (List Int) := if found.any (fun c => leI c k) = true then found else found ++ [k]
structure Crn (n : Nat) (keys pre found : List (List Int)) : Prop where
  sub : ∀ c ∈ found, c ∈ pre
  cov : ∀ k ∈ pre, ∃ c ∈ found, leI c k = true
  least : ∀ c ∈ found, ∀ k ∈ keys, leI k c = true → k = c
  asc : found.Pairwise fun a b => HT.lexLt a b = true
theorem crn_step {n : Nat} {keys : List (List Int)} (hn : ∀ k ∈ keys, k.length = n) (hs : keys.Pairwise fun a b => HT.lexLt a b = true) : ∀ (post pre found : List (List Int)), pre ++ post = keys → Crn n keys pre found → Crn n keys keys (post.foldl stepC found)
  | [], pre, found, e, C => by
    rw [List.append_nil] at e
    subst e
    exact C
  | k :: post, pre, found, e, C => by
    have hk : k ∈ keys := by rw [← e]; exact List.mem_append_right _ List.mem_cons_self
    refine crn_step hn hs post (pre ++ [k]) (stepC found k) (by rw [List.append_assoc]; exact e) ?_
    have hp : ∀ x ∈ pre, x ∈ keys := fun x hx => by rw [← e]; exact List.mem_append_left _ hx
    unfold stepC
    by_cases c : found.any (fun c => leI c k) = true
    · rw [if_pos c]
      refine ⟨fun x hx => List.mem_append_left _ (C.sub x hx), fun x hx => ?_, C.least, C.asc⟩
      rcases List.mem_append.mp hx with z | z
      · exact C.cov x z
      · rw [List.mem_singleton.mp z]
        obtain ⟨y, hy, l⟩ := List.any_eq_true.mp c
        exact ⟨y, hy, l⟩
    · rw [if_neg c]
      have no : ∀ y ∈ found, leI y k ≠ true := fun y hy l => c (List.any_eq_true.mpr ⟨y, hy, l⟩)
      have ord : ∀ x ∈ pre, HT.lexLt x k = true := fun x hx => by
        rw [← e] at hs
        exact (List.pairwise_append.mp hs).2.2 x hx k List.mem_cons_self
      have behind : ∀ x ∈ post, HT.lexLt k x = true := fun x hx => by
        rw [← e] at hs
        exact (List.pairwise_cons.mp (List.pairwise_append.mp hs).2.1).1 x hx
      refine ⟨fun x hx => ?_, fun x hx => ?_, fun x hx y hy l => ?_, ?_⟩
      · rcases List.mem_append.mp hx with z | z
        · exact List.mem_append_left _ (C.sub x z)
        · exact List.mem_append_right _ z
      · rcases List.mem_append.mp hx with z | z
        · obtain ⟨w, hw, l⟩ := C.cov x z
          exact ⟨w, List.mem_append_left _ hw, l⟩
        · rw [List.mem_singleton.mp z]
          exact ⟨k, List.mem_append_right _ List.mem_cons_self, leI_refl k⟩
      · rcases List.mem_append.mp hx with z | z
        · exact C.least x z y hy l
        · rw [List.mem_singleton.mp z] at l ⊢
          refine Classical.byContradiction fun ne => ?_
          have hl := leI_lex ((hn y hy).trans (hn k hk).symm) l ne
          rw [← e] at hy
          rcases List.mem_append.mp hy with w | w
          · obtain ⟨u, hu, lu⟩ := C.cov y w
            have hul := hn u (hp u (C.sub u hu))
            exact no u hu (leI_trans (hul.trans (hn y (hp y w)).symm) lu l)
          · rcases List.mem_cons.mp w with v | v
            · exact ne v
            · have b := behind y v
              have as : ∀ a b : List Int, HT.lexLt a b = true → HT.lexLt b a = true → False := fun a b => by
                induction a generalizing b with
                | nil =>
                  intro h1 h2
                  cases b with
                  | nil => cases h1
                  | cons _ _ => cases h2
                | cons x a ih =>
                  intro h1 h2
                  cases b with
                  | nil => cases h1
                  | cons y b =>
                    rw [HT.lexLt_cons] at h1 h2
                    by_cases q : x = y
                    · rw [if_pos q] at h1
                      rw [if_pos q.symm] at h2
                      exact ih b h1 h2
                    · rw [if_neg q] at h1
                      rw [if_neg (Ne.symm q)] at h2
                      have := of_decide_eq_true h1
                      have := of_decide_eq_true h2
                      omega
              exact as _ _ b hl
      · refine List.pairwise_append.mpr ⟨C.asc, List.pairwise_singleton _ _, fun x hx y hy => ?_⟩
        rw [List.mem_singleton.mp hy]
        exact ord x (C.sub x hx)
theorem crn_all {n : Nat} {keys : List (List Int)} (hn : ∀ k ∈ keys, k.length = n) (hs : keys.Pairwise fun a b => HT.lexLt a b = true) : Crn n keys keys (keys.foldl stepC []) :=
  crn_step hn hs keys [] [] rfl ⟨(fun c h => by cases h), (fun k h => by cases h), (fun c h => by cases h), List.Pairwise.nil⟩
/-! ### lengths of packings -/
def lenP (ths : List (Nat × Nat)) (ss : List Nat) (q : Pk) : List Int := (List.range ss.length).map fun r => (((enP ths ss q.2).getD r 0 : Nat) : Int) - ((ss.getD r 0 : Nat) : Int)
theorem lenP_len (ths : List (Nat × Nat)) (ss : List Nat) (q : Pk) : (lenP ths ss q).length = ss.length := by unfold lenP; rw [List.length_map, List.length_range]
theorem lenP_at (ths : List (Nat × Nat)) (ss : List Nat) (q : Pk) {r : Nat} (h : r < ss.length) : (lenP ths ss q).getD r 0 = (((enP ths ss q.2).getD r 0 : Nat) : Int) - ((ss.getD r 0 : Nat) : Int) := by
  unfold lenP
  rw [List.getD_eq_getElem?_getD, List.getElem?_map, List.getElem?_range h]
  rfl
theorem enP_of_len {ths : List (Nat × Nat)} {ss : List Nat} {q q' : Pk} (h1 : q.2.length = ss.length) (h2 : q'.2.length = ss.length) (e : lenP ths ss q = lenP ths ss q') : enP ths ss q.2 = enP ths ss q'.2 := by
  have l1 : (enP ths ss q.2).length = ss.length := by unfold enP; rw [List.length_map, List.length_range, h1]
  have l2 : (enP ths ss q'.2).length = ss.length := by unfold enP; rw [List.length_map, List.length_range, h2]
  refine List.ext_getElem (l1.trans l2.symm) fun r a b => ?_
  have hr : r < ss.length := by omega
  have := congrArg (fun l => l.getD r 0) e
  rw [lenP_at _ _ _ hr, lenP_at _ _ _ hr, List.getD_eq_getElem?_getD, List.getElem?_eq_getElem a, List.getD_eq_getElem?_getD (l := enP ths ss q'.2), List.getElem?_eq_getElem b] at this
  have : (((enP ths ss q.2)[r] : Nat) : Int) - _ = (((enP ths ss q'.2)[r] : Nat) : Int) - _ := this
  omega
theorem lo_le {ths : List (Nat × Nat)} {ss dl : List Nat} {os : List (List Nat)} (h : os ∈ rwP dl ss.length) : leI (lenP ths ss (dl, loP ths ss dl ss.length)) (lenP ths ss (dl, os)) = true := leI_iff.mpr fun r hr => by
  rw [lenP_len] at hr
  rw [lenP_at _ _ _ hr, lenP_at _ _ _ hr]
  have := rwP_ends (ths := ths) (ss := ss) ss.length h r hr
  show (((enP ths ss (loP ths ss dl ss.length)).getD r 0 : Nat) : Int) - _ ≤ (((enP ths ss os).getD r 0 : Nat) : Int) - _
  omega
theorem lo_mem (ths : List (Nat × Nat)) (ss dl : List Nat) : loP ths ss dl ss.length ∈ rwP dl ss.length := by
  obtain ⟨pre, post, e, _⟩ := (rwP_first ths ss dl ss.length).split
  rw [e]
  exact List.mem_append_right _ List.mem_cons_self
theorem all_low {ths : List (Nat × Nat)} {ss : List Nat} {chs : List (List Nat)} {q : Pk} (h : q ∈ allP chs ss.length) : ∃ q' ∈ leaP ths ss chs ss.length, leI (lenP ths ss q') (lenP ths ss q) = true := by
  obtain ⟨dl, hdl, h⟩ := List.mem_flatMap.mp h
  obtain ⟨os, hos, rfl⟩ := List.mem_map.mp h
  exact ⟨_, List.mem_map.mpr ⟨dl, hdl, rfl⟩, lo_le hos⟩
theorem lea_all {ths : List (Nat × Nat)} {ss : List Nat} {chs : List (List Nat)} {q : Pk} (h : q ∈ leaP ths ss chs ss.length) : q ∈ allP chs ss.length := by
  obtain ⟨dl, hdl, rfl⟩ := List.mem_map.mp h
  exact List.mem_flatMap.mpr ⟨dl, hdl, List.mem_map.mpr ⟨_, lo_mem ths ss dl, rfl⟩⟩
theorem find_same {ths : List (Nat × Nat)} {ss : List Nat} {l : List Int} : ∀ ds : List (List Nat), (∀ q ∈ ds.flatMap (fun dl => (rwP dl ss.length).map fun os => (dl, os)), leI (lenP ths ss q) l = true → lenP ths ss q = l) →
    (ds.flatMap fun dl => (rwP dl ss.length).map fun os => ((dl, os) : Pk)).find? (fun q => decide (lenP ths ss q = l)) = (ds.map fun dl => ((dl, loP ths ss dl ss.length) : Pk)).find? (fun q => decide (lenP ths ss q = l))
  | [], _ => rfl
  | dl :: ds, h => by
    have ih := find_same ds fun q hq => h q (by rw [List.flatMap_cons]; exact List.mem_append_right _ hq)
    rw [List.flatMap_cons, List.find?_append, ih, List.map_cons, List.find?_cons]
    have hd : ∀ os ∈ rwP dl ss.length, leI (lenP ths ss (dl, os)) l = true → lenP ths ss (dl, os) = l := fun os hos => h _ (by rw [List.flatMap_cons]; exact List.mem_append_left _ (List.mem_map.mpr ⟨os, hos, rfl⟩))
    by_cases c : lenP ths ss (dl, loP ths ss dl ss.length) = l
    · rw [decide_eq_true c]
      obtain ⟨pre, post, e, lt⟩ := (rwP_first ths ss dl ss.length).split
      have e1 : ((rwP dl ss.length).map fun os => ((dl, os) : Pk)).find? (fun q => decide (lenP ths ss q = l)) = some (dl, loP ths ss dl ss.length) := by
        rw [e, List.map_append, List.map_cons, List.find?_append, List.find?_eq_none.mpr, List.find?_cons, decide_eq_true c]
        · rfl
        · intro q hq z
          obtain ⟨os, hos, rfl⟩ := List.mem_map.mp hq
          have hm : os ∈ rwP dl ss.length := by rw [e]; exact List.mem_append_left _ hos
          have := enP_of_len (ths := ths) (q := (dl, os)) (q' := (dl, loP ths ss dl ss.length)) (rwP_len _ hm) (loP_len _ _ _ _) ((of_decide_eq_true z).trans c.symm)
          have l := lt os hos
          rw [show enP ths ss os = enP ths ss (loP ths ss dl ss.length) from this] at l
          exact Nat.lt_irrefl _ l
      rw [e1]
      rfl
    · rw [decide_eq_false c]
      have e1 : ((rwP dl ss.length).map fun os => ((dl, os) : Pk)).find? (fun q => decide (lenP ths ss q = l)) = none := List.find?_eq_none.mpr fun q hq z => by
        obtain ⟨os, hos, rfl⟩ := List.mem_map.mp hq
        have z := of_decide_eq_true z
        refine c (hd _ (lo_mem ths ss dl) ?_)
        rw [← z]
        exact lo_le hos
      rw [e1]
      rfl
end PT

namespace R1
open PySem PySem.Spec PyProof.Rows L2 RK
local macro_rules | `(tactic| walk_at "sq") => `(tactic| first
  | exact SqL.of upd_same | exact upd_same | exact SqL.of (by assumption) | exact SqL.of (by rw [upd_ne (by assumption)]; assumption) | assumption)
local macro_rules | `(tactic| walk_at "sd") => `(tactic| first
  | assumption | omega | (refine Or.inl ⟨?_, ?_⟩ <;> omega) | (show _ ∧ _; constructor <;> omega) | (show _ ≠ _; simp; omega) | (exact Or.inl ⟨by decide, by decide⟩) | (exact Or.inr ⟨by decide, by decide⟩) | (show _ < _; decide) | (show _ ≤ _; decide))
local macro_rules | `(tactic| walk_at "at") => `(tactic| first | rfl | (refine atI_intV ?_ ?_ <;> omega) | assumption)
local macro_rules | `(tactic| walk_at "s1") => `(tactic| first
  | refine ⟨_, rfl, ?_⟩ | refine ⟨_, _, rfl, rfl, ?_⟩ | refine ⟨rfl, ?_⟩
  | refine ⟨_, _, _, _, rfl, rfl, by walk_at "sq", by walk_at "at", ?_⟩
  | refine Or.inl ⟨_, rfl, ?_⟩
  | refine ⟨_, _, rfl, Or.inl (by walk_at "sq"), ?_⟩
  | refine And.intro (by walk_at "sd") ?_)
local macro_rules | `(tactic| walk_at "s") => `(tactic| repeat walk_at "s1")

def topS (i : Nat) : Stmt := PySem.Challenge.pw_romwright_k43_whole_corners.main.body.getD i (.Pass ⟨0, 0, 0, 0⟩)
abbrev s_TooMany_init : Stmt := inClass (topS 2) 0
abbrev N_TooMany_init : List Str := ["self", "limit"]
theorem sc_TooMany_init : FnScope N_TooMany_init ["self", "limit"] (defScope s_TooMany_init) := ⟨rfl, rfl, rfl, by decide +kernel, rfl, by decide +kernel, by decide +kernel⟩
abbrev s_NoFit_init : Stmt := inClass (topS 3) 0
abbrev N_NoFit_init : List Str := ["self", "count"]
theorem sc_NoFit_init : FnScope N_NoFit_init ["self", "count"] (defScope s_NoFit_init) := ⟨rfl, rfl, rfl, by decide +kernel, rfl, by decide +kernel, by decide +kernel⟩
abbrev s_ascending : Stmt := topS 5
abbrev N_ascending : List Str := ["rows", "counts", "row", "_"]
theorem sc_ascending : FnScope N_ascending ["rows"] (defScope s_ascending) := ⟨rfl, rfl, rfl, by decide +kernel, rfl, by decide +kernel, by decide +kernel⟩
abbrev s_least_of : Stmt := topS 6
abbrev N_least_of : List Str := ["numbers", "least", "number"]
theorem sc_least_of : FnScope N_least_of ["numbers"] (defScope s_least_of) := ⟨rfl, rfl, rfl, by decide +kernel, rfl, by decide +kernel, by decide +kernel⟩
abbrev s_aligned : Stmt := topS 8
abbrev N_aligned : List Str := ["address", "align"]
theorem sc_aligned : FnScope N_aligned ["address", "align"] (defScope s_aligned) := ⟨rfl, rfl, rfl, by decide +kernel, rfl, by decide +kernel, by decide +kernel⟩
abbrev s_Packing_init : Stmt := inClass (topS 10) 0
abbrev N_Packing_init : List Str := ["self", "starts", "things", "dealing", "orders", "start", "order"]
theorem sc_Packing_init : FnScope N_Packing_init ["self", "starts", "things", "dealing", "orders"] (defScope s_Packing_init) := ⟨rfl, rfl, rfl, by decide +kernel, rfl, by decide +kernel, by decide +kernel⟩
abbrev s_laid_behind : Stmt := topS 11
abbrev N_laid_behind : List Str := ["end", "thing"]
theorem sc_laid_behind : FnScope N_laid_behind ["end", "thing"] (defScope s_laid_behind) := ⟨rfl, rfl, rfl, by decide +kernel, rfl, by decide +kernel, by decide +kernel⟩
abbrev s_end_of_order : Stmt := topS 12
abbrev N_end_of_order : List Str := ["start", "things", "order", "end", "number"]
theorem sc_end_of_order : FnScope N_end_of_order ["start", "things", "order"] (defScope s_end_of_order) := ⟨rfl, rfl, rfl, by decide +kernel, rfl, by decide +kernel, by decide +kernel⟩
abbrev s_least_ends : Stmt := topS 13
abbrev N_least_ends : List Str := ["start", "things", "ends", "chosen"]
theorem sc_least_ends : FnScope N_least_ends ["start", "things"] (defScope s_least_ends) := ⟨rfl, rfl, rfl, by decide +kernel, rfl, by decide +kernel, by decide +kernel⟩
abbrev s_numbers_in : Stmt := topS 14
abbrev N_numbers_in : List Str := ["chosen", "count", "number"]
theorem sc_numbers_in : FnScope N_numbers_in ["chosen", "count"] (defScope s_numbers_in) := ⟨rfl, rfl, rfl, by decide +kernel, rfl, by decide +kernel, by decide +kernel⟩
abbrev s_least_behind : Stmt := topS 15
abbrev N_least_behind : List Str := ["things", "ends", "chosen", "number"]
theorem sc_least_behind : FnScope N_least_behind ["things", "ends", "chosen"] (defScope s_least_behind) := ⟨rfl, rfl, rfl, by decide +kernel, rfl, by decide +kernel, by decide +kernel⟩
abbrev s_first_order : Stmt := topS 16
abbrev N_first_order : List Str := ["start", "things", "chosen", "least", "order", "end", "number", "behind"]
theorem sc_first_order : FnScope N_first_order ["start", "things", "chosen"] (defScope s_first_order) := ⟨rfl, rfl, rfl, by decide +kernel, rfl, by decide +kernel, by decide +kernel⟩
abbrev s_dealings : Stmt := topS 17
abbrev N_dealings : List Str := ["choices", "rows", "choice", "row", "room"]
theorem sc_dealings : FnScope N_dealings ["choices"] (defScope s_dealings) := ⟨rfl, rfl, rfl, by decide +kernel, rfl, by decide +kernel, by decide +kernel⟩
abbrev s_dealt_to : Stmt := topS 18
abbrev N_dealt_to : List Str := ["dealing", "room", "number", "each"]
theorem sc_dealt_to : FnScope N_dealt_to ["dealing", "room"] (defScope s_dealt_to) := ⟨rfl, rfl, rfl, by decide +kernel, rfl, by decide +kernel, by decide +kernel⟩
abbrev s_check_counts : Stmt := topS 19
abbrev N_check_counts : List Str := ["rooms", "things"]
theorem sc_check_counts : FnScope N_check_counts ["rooms", "things"] (defScope s_check_counts) := ⟨rfl, rfl, rfl, by decide +kernel, rfl, by decide +kernel, by decide +kernel⟩
abbrev s_least_packings : Stmt := topS 20
abbrev N_least_packings : List Str := ["starts", "things", "choices", "known", "rows", "dealing", "orders", "room", "start", "number", "chosen"]
theorem sc_least_packings : FnScope N_least_packings ["starts", "things", "choices"] (defScope s_least_packings) := ⟨rfl, rfl, rfl, by decide +kernel, rfl, by decide +kernel, by decide +kernel⟩
abbrev s_is_at_most : Stmt := topS 21
abbrev N_is_at_most : List Str := ["first", "second", "one", "other"]
theorem sc_is_at_most : FnScope N_is_at_most ["first", "second"] (defScope s_is_at_most) := ⟨rfl, rfl, rfl, by decide +kernel, rfl, by decide +kernel, by decide +kernel⟩
abbrev s_corners : Stmt := topS 22
abbrev N_corners : List Str := ["starts", "things", "choices", "firsts", "packing", "start", "end", "lengths", "found", "corner", "_"]
theorem sc_corners : FnScope N_corners ["starts", "things", "choices"] (defScope s_corners) := ⟨rfl, rfl, rfl, by decide +kernel, rfl, by decide +kernel, by decide +kernel⟩
abbrev s_law_source : Stmt := topS 24
abbrev N_law_source : List Str := ["_law_script", "_law_cell", "_law_cells", "_law_mixed"]
theorem sc_law_source : FnScope N_law_source ["_law_script"] (defScope s_law_source) := ⟨rfl, rfl, rfl, by decide +kernel, rfl, by decide +kernel, by decide +kernel⟩
abbrev s_law_draw : Stmt := topS 25
abbrev N_law_draw : List Str := ["_law_source_here", "_law_limit", "_law_cells", "_law_place", "_law_digits", "_law_count", "_law_seed", "_law_number"]
theorem sc_law_draw : FnScope N_law_draw ["_law_source_here", "_law_limit"] (defScope s_law_draw) := ⟨rfl, rfl, rfl, by decide +kernel, rfl, by decide +kernel, by decide +kernel⟩
abbrev s_law_is_number : Stmt := topS 26
abbrev N_law_is_number : List Str := ["_law_thing"]
theorem sc_law_is_number : FnScope N_law_is_number ["_law_thing"] (defScope s_law_is_number) := ⟨rfl, rfl, rfl, by decide +kernel, rfl, by decide +kernel, by decide +kernel⟩
abbrev s_law_plain : Stmt := topS 27
abbrev N_law_plain : List Str := ["_law_thing", "_law_one"]
theorem sc_law_plain : FnScope N_law_plain ["_law_thing"] (defScope s_law_plain) := ⟨rfl, rfl, rfl, by decide +kernel, rfl, by decide +kernel, by decide +kernel⟩
abbrev s_law_things : Stmt := topS 28
abbrev N_law_things : List Str := ["_law_source_here", "_law_count", "_law_biggest", "_law_rows", "_law_k", "_law_size"]
theorem sc_law_things : FnScope N_law_things ["_law_source_here", "_law_count"] (defScope s_law_things) := ⟨rfl, rfl, rfl, by decide +kernel, rfl, by decide +kernel, by decide +kernel⟩
abbrev s_law_orders : Stmt := topS 29
abbrev N_law_orders : List Str := ["_law_numbers", "_law_found", "_law_step", "_law_longer", "_law_order", "_law_number"]
theorem sc_law_orders : FnScope N_law_orders ["_law_numbers"] (defScope s_law_orders) := ⟨rfl, rfl, rfl, by decide +kernel, rfl, by decide +kernel, by decide +kernel⟩
abbrev s_law_end : Stmt := topS 30
abbrev N_law_end : List Str := ["_law_start", "_law_things_here", "_law_order", "_law_end_here", "_law_number", "_law_unit"]
theorem sc_law_end : FnScope N_law_end ["_law_start", "_law_things_here", "_law_order"] (defScope s_law_end) := ⟨rfl, rfl, rfl, by decide +kernel, rfl, by decide +kernel, by decide +kernel⟩
abbrev s_law_choice : Stmt := topS 31
abbrev N_law_choice : List Str := ["_law_source_here", "_law_count", "_law_left", "_law_picked", "_law_step"]
theorem sc_law_choice : FnScope N_law_choice ["_law_source_here", "_law_count"] (defScope s_law_choice) := ⟨rfl, rfl, rfl, by decide +kernel, rfl, by decide +kernel, by decide +kernel⟩
abbrev s_law_dealings : Stmt := topS 32
abbrev N_law_dealings : List Str := ["_law_choices", "_law_found", "_law_choice_here", "_law_longer", "_law_dealing", "_law_room"]
theorem sc_law_dealings : FnScope N_law_dealings ["_law_choices"] (defScope s_law_dealings) := ⟨rfl, rfl, rfl, by decide +kernel, rfl, by decide +kernel, by decide +kernel⟩
abbrev s_law_packings : Stmt := topS 33
abbrev N_law_packings : List Str := ["_law_starts", "_law_things_here", "_law_choices", "_law_found", "_law_dealing", "_law_rows", "_law_room", "_law_k", "_law_orders_here", "_law_order", "_law_ends", "_law_longer", "_law_row"]
theorem sc_law_packings : FnScope N_law_packings ["_law_starts", "_law_things_here", "_law_choices"] (defScope s_law_packings) := ⟨rfl, rfl, rfl, by decide +kernel, rfl, by decide +kernel, by decide +kernel⟩
abbrev s_law_lot : Stmt := topS 34
abbrev N_law_lot : List Str := ["_law_source_here", "_law_most", "_law_k", "_law_starts", "_law_choices", "_law_at", "_law_rooms", "_law_count"]
theorem sc_law_lot : FnScope N_law_lot ["_law_source_here", "_law_most"] (defScope s_law_lot) := ⟨rfl, rfl, rfl, by decide +kernel, rfl, by decide +kernel, by decide +kernel⟩
abbrev s_law_same : Stmt := topS 35
abbrev N_law_same : List Str := ["_law_packing", "_law_row", "_law_starts"]
theorem sc_law_same : FnScope N_law_same ["_law_packing", "_law_row", "_law_starts"] (defScope s_law_same) := ⟨rfl, rfl, rfl, by decide +kernel, rfl, by decide +kernel, by decide +kernel⟩
abbrev s_law_firsts : Stmt := topS 36
abbrev N_law_firsts : List Str := ["_law_starts", "_law_found", "_law_firsts_here", "_law_row", "_law_room", "_law_lengths"]
theorem sc_law_firsts : FnScope N_law_firsts ["_law_starts", "_law_found"] (defScope s_law_firsts) := ⟨rfl, rfl, rfl, by decide +kernel, rfl, by decide +kernel, by decide +kernel⟩
abbrev s_law_at_most : Stmt := topS 37
abbrev N_law_at_most : List Str := ["_law_one", "_law_other", "_law_room"]
theorem sc_law_at_most : FnScope N_law_at_most ["_law_one", "_law_other"] (defScope s_law_at_most) := ⟨rfl, rfl, rfl, by decide +kernel, rfl, by decide +kernel, by decide +kernel⟩
abbrev s_law_is_corner : Stmt := topS 38
abbrev N_law_is_corner : List Str := ["_law_pair", "_law_starts", "_law_firsts_here", "_law_length", "_law_lengths"]
theorem sc_law_is_corner : FnScope N_law_is_corner ["_law_pair", "_law_starts", "_law_firsts_here"] (defScope s_law_is_corner) := ⟨rfl, rfl, rfl, by decide +kernel, rfl, by decide +kernel, by decide +kernel⟩
abbrev s_law_asked : Stmt := topS 39
abbrev N_law_asked : List Str := ["_law_lot_here", "_law_firsts_here", "_law_told", "_law_pair", "_law_k", "_law_lengths"]
theorem sc_law_asked : FnScope N_law_asked ["_law_lot_here", "_law_firsts_here"] (defScope s_law_asked) := ⟨rfl, rfl, rfl, by decide +kernel, rfl, by decide +kernel, by decide +kernel⟩
abbrev s_law_refused : Stmt := topS 40
abbrev N_law_refused : List Str := ["_law_starts", "_law_things_here", "_law_due", "_law_thing", "e"]
theorem sc_law_refused : FnScope N_law_refused ["_law_starts", "_law_things_here", "_law_due"] (defScope s_law_refused) := ⟨rfl, rfl, rfl, by decide +kernel, rfl, by decide +kernel, by decide +kernel⟩
abbrev s_law : Stmt := topS 41
abbrev N_law : List Str := ["_law_script", "_law_source_here", "_law_first", "_law_firsts_here", "_law_second", "_law_others", "_law_k", "_law_things_here", "_law_starts"]
theorem sc_law : FnScope N_law ["_law_script"] (defScope s_law) := ⟨rfl, rfl, rfl, by decide +kernel, rfl, by decide +kernel, by decide +kernel⟩
/-- where things stand -/
structure Ads where
  a_ascending : Addr
  d_ascending : FuncData
  a_least_of : Addr
  d_least_of : FuncData
  a_aligned : Addr
  d_aligned : FuncData
  a_laid_behind : Addr
  d_laid_behind : FuncData
  a_end_of_order : Addr
  d_end_of_order : FuncData
  a_least_ends : Addr
  d_least_ends : FuncData
  a_numbers_in : Addr
  d_numbers_in : FuncData
  a_least_behind : Addr
  d_least_behind : FuncData
  a_first_order : Addr
  d_first_order : FuncData
  a_dealings : Addr
  d_dealings : FuncData
  a_dealt_to : Addr
  d_dealt_to : FuncData
  a_check_counts : Addr
  d_check_counts : FuncData
  a_least_packings : Addr
  d_least_packings : FuncData
  a_is_at_most : Addr
  d_is_at_most : FuncData
  a_corners : Addr
  d_corners : FuncData
  a_law_source : Addr
  d_law_source : FuncData
  a_law_draw : Addr
  d_law_draw : FuncData
  a_law_is_number : Addr
  d_law_is_number : FuncData
  a_law_plain : Addr
  d_law_plain : FuncData
  a_law_things : Addr
  d_law_things : FuncData
  a_law_orders : Addr
  d_law_orders : FuncData
  a_law_end : Addr
  d_law_end : FuncData
  a_law_choice : Addr
  d_law_choice : FuncData
  a_law_dealings : Addr
  d_law_dealings : FuncData
  a_law_packings : Addr
  d_law_packings : FuncData
  a_law_lot : Addr
  d_law_lot : FuncData
  a_law_same : Addr
  d_law_same : FuncData
  a_law_firsts : Addr
  d_law_firsts : FuncData
  a_law_at_most : Addr
  d_law_at_most : FuncData
  a_law_is_corner : Addr
  d_law_is_corner : FuncData
  a_law_asked : Addr
  d_law_asked : FuncData
  a_law_refused : Addr
  d_law_refused : FuncData
  a_law : Addr
  d_law : FuncData
  c_TooMany : Addr
  a_TooMany_init : Addr
  d_TooMany_init : FuncData
  c_NoFit : Addr
  a_NoFit_init : Addr
  d_NoFit_init : FuncData
  c_Packing : Addr
  a_Packing_init : Addr
  d_Packing_init : FuncData
structure Txt (K : PySem.W.Frag) (mg : Str → Option Value) (A : Ads) : Prop where
  F_ascending : Fun K "ascending" "ascending" s_ascending A.a_ascending A.d_ascending
  g_ascending : mg "ascending" = some (.ref A.a_ascending)
  b_ascending : Binds K A.d_ascending ["rows"] []
  F_least_of : Fun K "least_of" "least_of" s_least_of A.a_least_of A.d_least_of
  g_least_of : mg "least_of" = some (.ref A.a_least_of)
  b_least_of : Binds K A.d_least_of ["numbers"] []
  F_aligned : Fun K "aligned" "aligned" s_aligned A.a_aligned A.d_aligned
  g_aligned : mg "aligned" = some (.ref A.a_aligned)
  b_aligned : Binds K A.d_aligned ["address", "align"] []
  F_laid_behind : Fun K "laid_behind" "laid_behind" s_laid_behind A.a_laid_behind A.d_laid_behind
  g_laid_behind : mg "laid_behind" = some (.ref A.a_laid_behind)
  b_laid_behind : Binds K A.d_laid_behind ["end", "thing"] []
  F_end_of_order : Fun K "end_of_order" "end_of_order" s_end_of_order A.a_end_of_order A.d_end_of_order
  g_end_of_order : mg "end_of_order" = some (.ref A.a_end_of_order)
  b_end_of_order : Binds K A.d_end_of_order ["start", "things", "order"] []
  F_least_ends : Fun K "least_ends" "least_ends" s_least_ends A.a_least_ends A.d_least_ends
  g_least_ends : mg "least_ends" = some (.ref A.a_least_ends)
  b_least_ends : Binds K A.d_least_ends ["start", "things"] []
  F_numbers_in : Fun K "numbers_in" "numbers_in" s_numbers_in A.a_numbers_in A.d_numbers_in
  g_numbers_in : mg "numbers_in" = some (.ref A.a_numbers_in)
  b_numbers_in : Binds K A.d_numbers_in ["chosen", "count"] []
  F_least_behind : Fun K "least_behind" "least_behind" s_least_behind A.a_least_behind A.d_least_behind
  g_least_behind : mg "least_behind" = some (.ref A.a_least_behind)
  b_least_behind : Binds K A.d_least_behind ["things", "ends", "chosen"] []
  F_first_order : Fun K "first_order" "first_order" s_first_order A.a_first_order A.d_first_order
  g_first_order : mg "first_order" = some (.ref A.a_first_order)
  b_first_order : Binds K A.d_first_order ["start", "things", "chosen"] []
  F_dealings : Fun K "dealings" "dealings" s_dealings A.a_dealings A.d_dealings
  g_dealings : mg "dealings" = some (.ref A.a_dealings)
  b_dealings : Binds K A.d_dealings ["choices"] []
  F_dealt_to : Fun K "dealt_to" "dealt_to" s_dealt_to A.a_dealt_to A.d_dealt_to
  g_dealt_to : mg "dealt_to" = some (.ref A.a_dealt_to)
  b_dealt_to : Binds K A.d_dealt_to ["dealing", "room"] []
  F_check_counts : Fun K "check_counts" "check_counts" s_check_counts A.a_check_counts A.d_check_counts
  g_check_counts : mg "check_counts" = some (.ref A.a_check_counts)
  b_check_counts : Binds K A.d_check_counts ["rooms", "things"] []
  F_least_packings : Fun K "least_packings" "least_packings" s_least_packings A.a_least_packings A.d_least_packings
  g_least_packings : mg "least_packings" = some (.ref A.a_least_packings)
  b_least_packings : Binds K A.d_least_packings ["starts", "things", "choices"] []
  F_is_at_most : Fun K "is_at_most" "is_at_most" s_is_at_most A.a_is_at_most A.d_is_at_most
  g_is_at_most : mg "is_at_most" = some (.ref A.a_is_at_most)
  b_is_at_most : Binds K A.d_is_at_most ["first", "second"] []
  F_corners : Fun K "corners" "corners" s_corners A.a_corners A.d_corners
  g_corners : mg "corners" = some (.ref A.a_corners)
  b_corners : Binds K A.d_corners ["starts", "things", "choices"] []
  F_law_source : Fun K "_law_source" "_law_source" s_law_source A.a_law_source A.d_law_source
  g_law_source : mg "_law_source" = some (.ref A.a_law_source)
  b_law_source : Binds K A.d_law_source ["_law_script"] []
  F_law_draw : Fun K "_law_draw" "_law_draw" s_law_draw A.a_law_draw A.d_law_draw
  g_law_draw : mg "_law_draw" = some (.ref A.a_law_draw)
  b_law_draw : Binds K A.d_law_draw ["_law_source_here", "_law_limit"] []
  F_law_is_number : Fun K "_law_is_number" "_law_is_number" s_law_is_number A.a_law_is_number A.d_law_is_number
  g_law_is_number : mg "_law_is_number" = some (.ref A.a_law_is_number)
  b_law_is_number : Binds K A.d_law_is_number ["_law_thing"] []
  F_law_plain : Fun K "_law_plain" "_law_plain" s_law_plain A.a_law_plain A.d_law_plain
  g_law_plain : mg "_law_plain" = some (.ref A.a_law_plain)
  b_law_plain : Binds K A.d_law_plain ["_law_thing"] []
  F_law_things : Fun K "_law_things" "_law_things" s_law_things A.a_law_things A.d_law_things
  g_law_things : mg "_law_things" = some (.ref A.a_law_things)
  b_law_things : Binds K A.d_law_things ["_law_source_here", "_law_count"] []
  F_law_orders : Fun K "_law_orders" "_law_orders" s_law_orders A.a_law_orders A.d_law_orders
  g_law_orders : mg "_law_orders" = some (.ref A.a_law_orders)
  b_law_orders : Binds K A.d_law_orders ["_law_numbers"] []
  F_law_end : Fun K "_law_end" "_law_end" s_law_end A.a_law_end A.d_law_end
  g_law_end : mg "_law_end" = some (.ref A.a_law_end)
  b_law_end : Binds K A.d_law_end ["_law_start", "_law_things_here", "_law_order"] []
  F_law_choice : Fun K "_law_choice" "_law_choice" s_law_choice A.a_law_choice A.d_law_choice
  g_law_choice : mg "_law_choice" = some (.ref A.a_law_choice)
  b_law_choice : Binds K A.d_law_choice ["_law_source_here", "_law_count"] []
  F_law_dealings : Fun K "_law_dealings" "_law_dealings" s_law_dealings A.a_law_dealings A.d_law_dealings
  g_law_dealings : mg "_law_dealings" = some (.ref A.a_law_dealings)
  b_law_dealings : Binds K A.d_law_dealings ["_law_choices"] []
  F_law_packings : Fun K "_law_packings" "_law_packings" s_law_packings A.a_law_packings A.d_law_packings
  g_law_packings : mg "_law_packings" = some (.ref A.a_law_packings)
  b_law_packings : Binds K A.d_law_packings ["_law_starts", "_law_things_here", "_law_choices"] []
  F_law_lot : Fun K "_law_lot" "_law_lot" s_law_lot A.a_law_lot A.d_law_lot
  g_law_lot : mg "_law_lot" = some (.ref A.a_law_lot)
  b_law_lot : Binds K A.d_law_lot ["_law_source_here", "_law_most"] []
  F_law_same : Fun K "_law_same" "_law_same" s_law_same A.a_law_same A.d_law_same
  g_law_same : mg "_law_same" = some (.ref A.a_law_same)
  b_law_same : Binds K A.d_law_same ["_law_packing", "_law_row", "_law_starts"] []
  F_law_firsts : Fun K "_law_firsts" "_law_firsts" s_law_firsts A.a_law_firsts A.d_law_firsts
  g_law_firsts : mg "_law_firsts" = some (.ref A.a_law_firsts)
  b_law_firsts : Binds K A.d_law_firsts ["_law_starts", "_law_found"] []
  F_law_at_most : Fun K "_law_at_most" "_law_at_most" s_law_at_most A.a_law_at_most A.d_law_at_most
  g_law_at_most : mg "_law_at_most" = some (.ref A.a_law_at_most)
  b_law_at_most : Binds K A.d_law_at_most ["_law_one", "_law_other"] []
  F_law_is_corner : Fun K "_law_is_corner" "_law_is_corner" s_law_is_corner A.a_law_is_corner A.d_law_is_corner
  g_law_is_corner : mg "_law_is_corner" = some (.ref A.a_law_is_corner)
  b_law_is_corner : Binds K A.d_law_is_corner ["_law_pair", "_law_starts", "_law_firsts_here"] []
  F_law_asked : Fun K "_law_asked" "_law_asked" s_law_asked A.a_law_asked A.d_law_asked
  g_law_asked : mg "_law_asked" = some (.ref A.a_law_asked)
  b_law_asked : Binds K A.d_law_asked ["_law_lot_here", "_law_firsts_here"] []
  F_law_refused : Fun K "_law_refused" "_law_refused" s_law_refused A.a_law_refused A.d_law_refused
  g_law_refused : mg "_law_refused" = some (.ref A.a_law_refused)
  b_law_refused : Binds K A.d_law_refused ["_law_starts", "_law_things_here", "_law_due"] []
  F_law : Fun K "law" "law" s_law A.a_law A.d_law
  g_law : mg "law" = some (.ref A.a_law)
  b_law : Binds K A.d_law ["_law_script"] []
  F_TooMany_init : Fun K "__init__" "TooMany.__init__" s_TooMany_init A.a_TooMany_init A.d_TooMany_init
  x_TooMany : ErrC K mg "TooMany" "limit" A.c_TooMany A.a_TooMany_init A.d_TooMany_init
  F_NoFit_init : Fun K "__init__" "NoFit.__init__" s_NoFit_init A.a_NoFit_init A.d_NoFit_init
  x_NoFit : ErrC K mg "NoFit" "count" A.c_NoFit A.a_NoFit_init A.d_NoFit_init
  F_Packing_init : Fun K "__init__" "Packing.__init__" s_Packing_init A.a_Packing_init A.d_Packing_init
  b_Packing_init : Binds K A.d_Packing_init ["self", "starts", "things", "dealing", "orders"] []
  m_Packing : Mk K A.c_Packing A.a_Packing_init
  cl_Packing : Cls K A.c_Packing
  na_Packing_dealing : NoAttr K A.c_Packing "dealing"
  na_Packing_orders : NoAttr K A.c_Packing "orders"
  na_Packing_ends : NoAttr K A.c_Packing "ends"
  na_Packing_words : NoAttr K A.c_Packing "words"
  ty_Packing : ∀ {H : Hp} {a dx : Addr} {fs : List (Str × V)}, H a = some (HO.ins A.c_Packing dx fs) → TyX K H (.ref a) (.ref A.c_Packing)
  g_TooMany : mg "TooMany" = some (.ref A.c_TooMany)
  g_NoFit : mg "NoFit" = some (.ref A.c_NoFit)
  g_Packing : mg "Packing" = some (.ref A.c_Packing)
  k_Packing_Packing : PySem.W.kitOne K (.ref A.c_Packing) (.ref A.c_Packing) = some true
  k_TooMany_NoFit : PySem.W.kitOne K (.ref A.c_TooMany) (.ref A.c_NoFit) = some false
  k_NoFit_TooMany : PySem.W.kitOne K (.ref A.c_NoFit) (.ref A.c_TooMany) = some false
  k_NoFit_ValueError : PySem.W.kitOne K (.ref A.c_NoFit) (.type "ValueError") = some true
  n_abs : mg "abs" = none
  n_all : mg "all" = none
  n_any : mg "any" = none
  n_bool : mg "bool" = none
  n_enumerate : mg "enumerate" = none
  n_int : mg "int" = none
  n_isinstance : mg "isinstance" = none
  n_len : mg "len" = none
  n_list : mg "list" = none
  n_max : mg "max" = none
  n_min : mg "min" = none
  n_range : mg "range" = none
  n_set : mg "set" = none
  n_sorted : mg "sorted" = none
  n_sum : mg "sum" = none
  n_tuple : mg "tuple" = none
  n_zip : mg "zip" = none
theorem ok_TooMany_init {P : Program} {w : World} {K : PySem.W.Frag} {mg : Str → Option Value} {base : Heap} {A : Ads} (T : Txt K mg A) : FnOk P w K mg base CX0 1 A.a_TooMany_init A.d_TooMany_init ["self", "limit"] (spKeep "limit" A.c_TooMany) := by
  refine T.F_TooMany_init.ok sc_TooMany_init (fun vs H Q E h => ?_) (fun cdv B outer s H vs Q E hr h => ?_)
  · obtain ⟨a, v, rfl, _⟩ := h
    rfl
  · obtain ⟨a, v, rfl, e, q⟩ := h
    refine ⟨_, pss_one (ps_ost (pv 0) (pv 1)), ?_⟩
    exact ⟨_, rfl, _, rfl, a, A.c_TooMany, rfl, T.x_TooMany.ox, T.x_TooMany.no, .inl ⟨e, q⟩⟩
theorem ok_NoFit_init {P : Program} {w : World} {K : PySem.W.Frag} {mg : Str → Option Value} {base : Heap} {A : Ads} (T : Txt K mg A) : FnOk P w K mg base CX0 1 A.a_NoFit_init A.d_NoFit_init ["self", "count"] (spKeep "count" A.c_NoFit) := by
  refine T.F_NoFit_init.ok sc_NoFit_init (fun vs H Q E h => ?_) (fun cdv B outer s H vs Q E hr h => ?_)
  · obtain ⟨a, v, rfl, _⟩ := h
    rfl
  · obtain ⟨a, v, rfl, e, q⟩ := h
    refine ⟨_, pss_one (ps_ost (pv 0) (pv 1)), ?_⟩
    exact ⟨_, rfl, _, rfl, a, A.c_NoFit, rfl, T.x_NoFit.ox, T.x_NoFit.no, .inl ⟨e, q⟩⟩

/-! ### the law's source of draws -/
def Src (c : Addr) (H : Hp) (p : Addr) : Prop := ∃ (cs : List Int) (pl dg ct mx : Int), H p = some (.lst [.ref c, .int pl, .int dg, .int ct, .int mx]) ∧ H c = some (.lst (cs.map V.int)) ∧ 0 < cs.length ∧ 0 ≤ pl
theorem src_ne {H : Hp} {c p : Addr} (h : Src c H p) : H p ≠ none := by
  obtain ⟨cs, pl, dg, ct, mx, e, _⟩ := h
  rw [e]
  exact fun z => nomatch z
theorem src_cne {H : Hp} {c p : Addr} (h : Src c H p) : H c ≠ none := by
  obtain ⟨cs, pl, dg, ct, mx, _, e, _⟩ := h
  rw [e]
  exact fun z => nomatch z
theorem src_up {H H' : Hp} {c p : Addr} (h : Src c H p) (e : Same H H') : Src c H' p := by
  obtain ⟨cs, pl, dg, ct, mx, h1, h2, h3⟩ := h
  exact ⟨cs, pl, dg, ct, mx, e _ _ h1, e _ _ h2, h3⟩
/-- what is neither of its two lists may change -/
theorem src_put {H : Hp} {c p D : Addr} {o : HO} (h : Src c H p) (hp : D ≠ p) (hc : D ≠ c) : Src c (upd H D o) p := by
  obtain ⟨cs, pl, dg, ct, mx, h1, h2, h3⟩ := h
  exact ⟨cs, pl, dg, ct, mx, by rw [upd_ne (Ne.symm hp)]; exact h1, by rw [upd_ne (Ne.symm hc)]; exact h2, h3⟩
/-- a list of numbers is not the source -/
theorem src_ints {H : Hp} {c p D : Addr} {l : List Nat} (h : Src c H p) (e : H D = some (.lst (intV l))) : D ≠ p := fun z => by
  obtain ⟨cs, pl, dg, ct, mx, h1, _⟩ := h
  subst z
  rw [e] at h1
  have := HO.lst.inj (Option.some.inj h1)
  cases l with
  | nil => cases this
  | cons a r =>
    have := (List.cons.inj this).1
    cases this
def spDraw : Sp := fun vs H Q _ => ∃ (c p : Addr) (b : Int), vs = [.ref p, .int b] ∧ Src c H p ∧ 0 < b ∧ b < 1000000000 ∧ ∀ H' (r : Nat), (r : Int) < b → Src c H' p → But p H H' → Q (.int (r : Int)) H'
def spSource (K : PySem.W.Frag) : Sp := fun vs H Q _ => ∃ (a : Addr) (ns : List Int), vs = [.ref a] ∧ SqL K H a (ns.map V.int) ∧ ns.length ≤ 63 ∧ ∀ H' c p, Same H H' → H c = none → H p = none → Src c H' p → Q (.ref p) H'
theorem get_int {cs : List Int} {i : Int} (h0 : 0 ≤ i) (h1 : i < cs.length) : ∃ z, atI (cs.map V.int) i = some (.int z) := by
  obtain ⟨j, rfl⟩ : ∃ j : Nat, i = (j : Int) := ⟨i.toNat, by omega⟩
  have hj : j < cs.length := by omega
  exact ⟨cs[j], atI_nat (by rw [List.getElem?_map, List.getElem?_eq_getElem hj]; rfl)⟩
/-! plain: a value with what tells its kind -/
mutual
def plD : PyData → PyData
  | .list xs => .tuple [.bool true, .list (plA xs)]
  | .tuple xs => .tuple [.bool false, .list (plA xs)]
  | .bool b => .tuple [.bool true, .bool b]
  | .none => .tuple [.bool false, .none]
  | .int i => .tuple [.bool false, .int i]
  | .str x => .tuple [.bool false, .str x]
  | .dict kvs => .tuple [.bool false, .dict kvs]
def plA : List PyData → List PyData
  | [] => []
  | x :: r => plD x :: plA r
end
theorem plA_map : ∀ xs : List PyData, plA xs = xs.map plD
  | [] => rfl
  | x :: r => by
    show plD x :: plA r = plD x :: r.map plD
    rw [plA_map r]
mutual
theorem plD_depth : ∀ d : PyData, (plD d).depth ≤ 2 * d.depth + 1
  | .list xs => by
    have h := plA_depth xs
    show max 0 (max (PyData.depthAll (plA xs) + 1) 0) + 1 ≤ 2 * (PyData.depthAll xs + 1) + 1
    omega
  | .tuple xs => by
    have h := plA_depth xs
    show max 0 (max (PyData.depthAll (plA xs) + 1) 0) + 1 ≤ 2 * (PyData.depthAll xs + 1) + 1
    omega
  | .bool b => by show 1 ≤ 1; omega
  | .none => by show 1 ≤ 1; omega
  | .int i => by show 1 ≤ 1; omega
  | .str x => by show 1 ≤ 1; omega
  | .dict kvs => by
    show max 0 (max (PyData.depthKv kvs + 1) 0) + 1 ≤ 2 * (PyData.depthKv kvs + 1) + 1
    omega
theorem plA_depth : ∀ ds : List PyData, (PyData.depthAll (plA ds)) ≤ 2 * (PyData.depthAll ds) + 1
  | [] => Nat.zero_le _
  | x :: r => by
    have h1 := plD_depth x
    have h2 := plA_depth r
    show max (plD x).depth (PyData.depthAll (plA r)) ≤ 2 * (max x.depth (PyData.depthAll r)) + 1
    omega
end
mutual
theorem plD_lay : ∀ d : PyData, d.canLay0 = true → (plD d).canLay0 = true
  | .list xs, h => by
    show (true && (PyData.canLayAll0 (plA xs) && true)) = true
    rw [plA_lay xs h]
    rfl
  | .tuple xs, h => by
    show (true && (PyData.canLayAll0 (plA xs) && true)) = true
    rw [plA_lay xs h]
    rfl
  | .bool b, h => rfl
  | .none, h => rfl
  | .int i, h => rfl
  | .str x, h => by
    show (true && ((PyData.str x).canLay0 && true)) = true
    rw [h]
    rfl
  | .dict kvs, h => by cases h
theorem plA_lay : ∀ ds : List PyData, PyData.canLayAll0 ds = true → PyData.canLayAll0 (plA ds) = true
  | [], _ => rfl
  | x :: r, h => by
    have h' := Bool.and_eq_true_iff.mp h
    show ((plD x).canLay0 && PyData.canLayAll0 (plA r)) = true
    rw [plD_lay x h'.1, plA_lay r h'.2]
    rfl
end
theorem plD_shaped {d : PyData} (h : d.canLay0 = true) (hd : d.depth ≤ 20) : SeqAt.shaped (plD d) = true := by
  have h2 := plD_depth d
  unfold SeqAt.shaped
  rw [plD_lay d h, Bool.true_and]
  exact decide_eq_true (by omega)
def spPlain (K : PySem.W.Frag) : Nat → Sp
  | 0 => fun _ _ _ _ => False
  | n + 1 => fun vs H Q _ => ∃ (v : V) (d : PyData) (S : ASet), vs = [v] ∧ (∀ a, S a → H a ≠ none) ∧ Dx K H S v d ∧ d.depth ≤ n ∧ wdB d = true ∧ ∀ H' v', Same H H' → Dx K H' S v' (plD d) → Q v' H'

section
variable {P : Program} {w : World} {K : PySem.W.Frag} {mg : Str → Option Value} {base : Heap} {A : Ads}
theorem ok_law_draw (T : Txt K mg A) : FnOk P w K mg base CX0 1 A.a_law_draw A.d_law_draw ["_law_source_here", "_law_limit"] spDraw := by
  refine T.F_law_draw.ok sc_law_draw (fun vs H Q E h => ?_) (fun cdv B outer s H vs Q E hr h => ?_)
  · obtain ⟨c, p, b, rfl, _⟩ := h
    rfl
  · obtain ⟨c, p, b, rfl, ⟨cs, pl, dg, ct, mx, hp, hc, hn, hpl⟩, hb, hb2, q⟩ := h
    refine ⟨_, (pss_cons (ps_set (i := 2) sc_law_draw.nd rfl (.inl rfl) (pe_ix ix_list (pv 0) pe_int (fun _ _ => rfl)))
    (pss_cons (ps_set (i := 3) sc_law_draw.nd rfl (.inl rfl) (pe_ix ix_list (pv 0) pe_int (fun _ _ => rfl)))
    (pss_cons (ps_set (i := 4) sc_law_draw.nd rfl (.inl rfl) (pe_ix ix_list (pv 0) pe_int (fun _ _ => rfl)))
    (pss_cons (ps_set (i := 5) sc_law_draw.nd rfl (.inl rfl) (pe_ix ix_list (pv 0) pe_int (fun _ _ => rfl)))
    (pss_cons (ps_asg (pe_op op_add (pv 5) pe_int) (pg_sub (pv 0) pe_int set_list))
    (pss_cons (ps_if (PW.pt (pw_and (pt_cmpR op_eq (pe_ix ix_list (pv 0) pe_int (fun _ _ => rfl)) pe_int (nomark _)) (pw_and1 (pt_cmpR op_lt (pv 3) (pe_callB len_seq (by rfl) T.n_len (by decide +kernel) (pa_cons (pv 2) pa_nil)) (nomark _))))) (pss_cons (ps_asg (pe_op op_fdivN (pv 4) (pv 1)) (pg_sub (pv 0) pe_int set_list))
    (pss_cons (ps_if (pt_cmpR op_eq (pe_ix ix_list (pv 0) pe_int (fun _ _ => rfl)) pe_int (nomark _)) (pss_cons (ps_asg (pe_op op_add (pv 3) pe_int) (pg_sub (pv 0) pe_int set_list))
    (pss_one (ps_if (pt_cmpR op_lt (pe_op op_add (pv 3) pe_int) (pe_callB len_seq (by rfl) T.n_len (by decide +kernel) (pa_cons (pv 2) pa_nil)) (nomark _)) (pss_one (ps_asg (pe_ix ix_list (pv 2) (pe_op op_add (pv 3) pe_int) (fun _ _ => rfl)) (pg_sub (pv 0) pe_int set_list))) pss_nil))) pss_nil)
    (pss_one (ps_ret (pe_op op_modN (pe_callTy call_int1 (by rfl) T.n_int (by decide +kernel) (pa_cons (pv 4) pa_nil)) (pv 1)))))) pss_nil)
    (pss_cons (ps_set (i := 6) sc_law_draw.nd rfl (.inl rfl) (pe_op op_add (pe_op op_add (pe_ix ix_list (pv 2) (pe_op op_modN (pe_callTy call_int1 (by rfl) T.n_int (by decide +kernel) (pa_cons (pv 5) pa_nil)) (pe_callB len_seq (by rfl) T.n_len (by decide +kernel) (pa_cons (pv 2) pa_nil))) (fun _ _ => rfl)) (pe_op op_mul pe_int (pv 5))) pe_int))
    (pss_cons (ps_set (i := 7) sc_law_draw.nd rfl (.inl rfl) (pe_op op_mod (pe_callTy call_int1 (by rfl) T.n_int (by decide +kernel) (pa_cons (pe_op op_add (pe_op op_mul (pv 6) pe_int) (pe_op op_mul (pe_op op_add (pv 5) pe_int) pe_int)) pa_nil)) pe_int))
    (pss_cons (ps_set (i := 7) sc_law_draw.nd rfl (.inl rfl) (pe_op op_mod (pe_callTy call_int1 (by rfl) T.n_int (by decide +kernel) (pa_cons (pe_op op_add (pe_op op_mul (pv 7) (pe_op op_add (pe_op op_add (pe_op op_mod (pe_callTy call_int1 (by rfl) T.n_int (by decide +kernel) (pa_cons (pv 7) pa_nil)) pe_int) (pv 5)) pe_int)) (pv 6)) pa_nil)) pe_int))
    (pss_one (ps_ret (pe_op op_modN (pe_callTy call_int1 (by rfl) T.n_int (by decide +kernel) (pa_cons (pe_op op_fdiv (pv 7) pe_int) pa_nil)) (pv 1))))))))))))), ?_⟩
    have nc : c ≠ p := ne_of hc hp (by intro z; have := HO.lst.inj z; cases cs with | nil => cases hn | cons a r => cases this)
    have hmod : ∀ i : Int, 0 ≤ i.fmod b ∧ i.fmod b < b := fun i => ⟨Int.fmod_nonneg_of_pos _ hb, Int.fmod_lt_of_pos _ hb⟩
    have cat : ∀ {H1}, But p H H1 → H1 c = some (.lst (cs.map V.int)) := fun h => h c _ nc hc
    have fin : ∀ {H1} {x1 x2 x3 x4 : Int} (i : Int), But p H H1 → 0 ≤ x1 → H1 p = some (.lst [.ref c, .int x1, .int x2, .int x3, .int x4]) → Q (.int (i.fmod b)) H1 := fun i bt h e => by
      have := q _ (i.fmod b).toNat (by have := hmod i; omega) ⟨cs, _, _, _, _, e, cat bt, hn, h⟩ bt
      rw [Int.toNat_of_nonneg (hmod i).1] at this
      exact this
    have hb3 : b ≠ 0 ∧ b.natAbs < 1073741824 := ⟨by omega, by omega⟩
    have hl : 0 < (cs.map V.int).length := by rw [List.length_map]; exact hn
    have tail : ∀ i : Int, 0 ≤ i.fmod ((cs.map V.int).length : Int) ∧ i.fmod ((cs.map V.int).length : Int) < cs.length := fun i => by
      rw [List.length_map]
      exact ⟨Int.fmod_nonneg_of_pos _ (by omega), Int.fmod_lt_of_pos _ (by omega)⟩
    obtain ⟨z, hz⟩ := get_int (cs := cs) (tail ct).1 (tail ct).2
    walk_at "s"
    have b1 : ∀ o, But p H (upd H p o) := fun o => (But.refl p H).upd
    have c1 : ∀ o, SqL K (upd H p o) c (cs.map V.int) := fun o => SqL.of (cat (b1 o))
    refine ite2 (fun e => ?_) (fun e => ?_)
    · refine ⟨_, rfl, .ref c, rfl, c, _, rfl, .inl (c1 _), ?_⟩
      walk_at "s"
      refine ite2 (fun e => ?_) (fun e => ?_)
      · walk_at "s"
        refine ite2 (fun e => ?_) (fun e => ?_)
        · walk_at "s"
          refine ⟨c, _, rfl, .inl (SqL.of (cat (b1 _).upd.upd)), ?_⟩
          walk_at "s"
          refine ite2 (fun e3 => ?_) (fun e3 => ?_)
          · have e4 : pl + 1 < ((cs.map V.int).length : Int) := of_decide_eq_true e3
            obtain ⟨z2, hz2⟩ := get_int (cs := cs) (i := pl + 1) (by omega) (by rw [List.length_map] at e4; exact e4)
            walk_at "s"
            refine ⟨_, _, _, _, rfl, rfl, SqL.of (cat (b1 _).upd.upd), hz2, ?_⟩
            walk_at "s"
            exact fin _ (b1 _).upd.upd.upd (by omega) upd_same
          · walk_at "s"
            exact fin _ (b1 _).upd.upd (by omega) upd_same
        · walk_at "s"
          exact fin _ (b1 _).upd hpl upd_same
      · walk_at "s"
        try (refine ⟨_, _, _, _, rfl, rfl, c1 _, hz, ?_⟩)
        walk_at "s"
        exact fin _ (b1 _) hpl upd_same
    · walk_at "s"
      try (refine ⟨_, _, _, _, rfl, rfl, c1 _, hz, ?_⟩)
      walk_at "s"
      exact fin _ (b1 _) hpl upd_same

theorem ok_law_source (T : Txt K mg A) : FnOk P w K mg base CX0 1 A.a_law_source A.d_law_source ["_law_script"] (spSource K) := by
  refine T.F_law_source.ok sc_law_source (fun vs H Q E h => ?_) (fun cdv A outer s H vs Q E hr h => ?_)
  · obtain ⟨a, ns, rfl, _⟩ := h
    rfl
  · obtain ⟨a, ns, rfl, hS, hl, q⟩ := h
    refine ⟨_, (pss_cons (ps_setLc (i := 2) (own := [("_law_cell", 1)]) rfl sc_law_source.nd rfl rfl (sw_true rfl rfl rfl (by decide +kernel)) (pi_list (pv 0)) (blkOk_by (own := [("_law_cell", 1)]) (N := N_law_source) (sc := defScope s_law_source) (by decide +kernel)) (fun _ _ _ _ _ => pg_name (i := 1) sc_law_source.nd rfl (Or.inl rfl)) (fun _ _ _ _ _ => pts_nil) (fun _ _ _ _ _ => by exact (pe_callB call_abs (by rfl) T.n_abs (by decide +kernel) (pa_cons (pe_callTy call_int1 (by rfl) T.n_int (by decide +kernel) (pa_cons (pv 1) pa_nil)) pa_nil))))
    (pss_cons (ps_if (pt_cmpR op_eq (pe_callB len_seq (by rfl) T.n_len (by decide +kernel) (pa_cons (pv 2) pa_nil)) pe_int (nomark _)) (pss_one (ps_set (i := 2) sc_law_source.nd rfl (.inl rfl) (pe_lst (pa_cons pe_int pa_nil)))) pss_nil)
    (pss_cons (ps_set (i := 3) sc_law_source.nd rfl (.inl rfl) pe_int)
    (pss_cons (ps_if (pt_cmpR op_lt (pe_ix ix_list (pv 2) pe_int (fun _ _ => rfl)) (pe_op op_pow pe_int pe_int) (nomark _)) (pss_one (ps_set (i := 3) sc_law_source.nd rfl (.inl rfl) (pe_op op_mod (pe_callTy call_int1 (by rfl) T.n_int (by decide +kernel) (pa_cons (pe_ix ix_list (pv 2) pe_int (fun _ _ => rfl)) pa_nil)) pe_int))) pss_nil)
    (pss_one (ps_ret (pe_lst (pa_cons (pv 2) (pa_cons pe_int (pa_cons (pe_ix ix_list (pv 2) pe_int (fun _ _ => rfl)) (pa_cons pe_int (pa_cons (pv 3) pa_nil)))))))))))), ?_⟩
    have w := walk_list (K := K) (a := a) (xs := ns.map V.int)
    refine ⟨_, rfl, a, rfl, ⟨_, hS⟩, fun D hD => ?_⟩
    have hx : ∀ {i : Nat} {x : V}, (ns.map V.int)[i]? = some x → x = .int (ns.getD i 0) := fun {i x} e => by
      rw [List.getElem?_map] at e
      cases h : ns[i]? with
      | none => rw [h] at e; cases e
      | some z =>
        rw [h] at e
        rw [List.getD_eq_getElem?_getD, h]
        exact (Option.some.inj e).symm
    refine lc_vals w (fun i x => (ns.map V.int)[i]? = some x) (fun i => .int (if ns.getD i 0 < 0 then -ns.getD i 0 else ns.getD i 0)) hD (fun H' e => e.seq hS) (by rw [List.length_map]; omega) (fun i H x H' _ y => y) (fun i x H' hi sm e Q q => ?_) (fun H1 s1 e1 => ?_)
    · rw [hx e]
      exact ⟨_, rfl, .inl ⟨_, rfl, _, rfl, q _ (Same.refl _)⟩⟩
    have e2 : H1 D = some (.lst (((List.range ns.length).map fun i => if ns.getD i 0 < 0 then -ns.getD i 0 else ns.getD i 0).map V.int)) := by
      rw [e1, List.map_map, List.length_map]
      rfl
    generalize hcs : ((List.range ns.length).map fun i => if ns.getD i 0 < 0 then -ns.getD i 0 else ns.getD i 0) = cs at e2
    clear hcs e1
    refine ⟨_, rfl, D, _, rfl, .inl (SqL.of e2), rfl, _, rfl, ite2 (fun e => ?_) (fun e => ?_)⟩
    · refine ⟨by decide, fun c hc => ?_⟩
      generalize hH : upd H1 c (.lst [V.int 5]) = H2
      have fc : H c = none := s1.free hc
      have ec : H2 c = some (.lst (([5] : List Int).map V.int)) := by rw [← hH]; exact upd_same
      have s2 : Same H1 H2 := by rw [← hH]; exact same_new hc
      have sm : Same H H2 := s1.trans s2
      have hl : 0 < ([5] : List Int).length := by decide
      generalize ([5] : List Int) = cs at ec hl
      clear hH hc
      obtain ⟨z, h0⟩ := get_int (cs := cs) (i := 0) (Int.le_refl 0) (by omega)
      have fin : ∀ (x1 x2 x3 x4 : Int) {H3 : Hp}, 0 ≤ x1 → Same H1 H3 → H3 = H2 → ∀ p, H3 p = none → Q (.ref p) (upd H3 p (.lst [.ref c, .int x1, .int x2, .int x3, .int x4])) := fun x1 x2 x3 x4 H3 h1 s3 e3 p hp => by
        subst e3
        exact q _ c _ (sm.trans (same_new hp)) fc (sm.free hp) ⟨cs, x1, x2, x3, x4, upd_same, by rw [upd_ne (ne_of_none ec hp)]; exact ec, hl, h1⟩
      refine ⟨.ref c, rfl, c, _, _, _, rfl, rfl, SqL.of ec, h0, _, _, rfl, rfl, ⟨by decide, by decide, by decide⟩, _, _, rfl, rfl, _, rfl, ite2 (fun e => ?_) (fun e => ?_)⟩
      · refine ⟨.ref c, rfl, c, _, _, _, rfl, rfl, SqL.of ec, h0, .inl ⟨_, rfl, _, _, rfl, rfl, (by show (0 : Int) < 2; decide), ?_⟩⟩
        refine ⟨.ref c, rfl, .ref c, rfl, c, _, _, _, rfl, rfl, SqL.of ec, h0, _, rfl, lenOk (n := 5) rfl (by decide), fun p hp => ?_⟩
        exact fin _ _ _ _ (Int.le_refl 0) s2 rfl p hp
      · refine ⟨.ref c, rfl, .ref c, rfl, c, _, _, _, rfl, rfl, SqL.of ec, h0, _, rfl, lenOk (n := 5) rfl (by decide), fun p hp => ?_⟩
        exact fin _ _ _ _ (Int.le_refl 0) s2 rfl p hp
    · have hl : 0 < cs.length := by
        cases cs with
        | nil => exact absurd (decide_eq_true rfl) e
        | cons => exact Nat.succ_pos _
      have ec := e2
      have fc : H D = none := hD
      generalize D = c at ec fc
      generalize hH : H1 = H2 at ec
      have s2 : Same H1 H2 := by rw [← hH]; exact Same.refl _
      have sm : Same H H2 := s1.trans s2
      obtain ⟨z, h0⟩ := get_int (cs := cs) (i := 0) (Int.le_refl 0) (by omega)
      have fin : ∀ (x1 x2 x3 x4 : Int) {H3 : Hp}, 0 ≤ x1 → Same H1 H3 → H3 = H2 → ∀ p, H3 p = none → Q (.ref p) (upd H3 p (.lst [.ref c, .int x1, .int x2, .int x3, .int x4])) := fun x1 x2 x3 x4 H3 h1 s3 e3 p hp => by
        subst e3
        exact q _ c _ (sm.trans (same_new hp)) fc (sm.free hp) ⟨cs, x1, x2, x3, x4, upd_same, by rw [upd_ne (ne_of_none ec hp)]; exact ec, hl, h1⟩
      refine ⟨.ref c, rfl, c, _, _, _, rfl, rfl, SqL.of ec, h0, _, _, rfl, rfl, ⟨by decide, by decide, by decide⟩, _, _, rfl, rfl, _, rfl, ite2 (fun e => ?_) (fun e => ?_)⟩
      · refine ⟨.ref c, rfl, c, _, _, _, rfl, rfl, SqL.of ec, h0, .inl ⟨_, rfl, _, _, rfl, rfl, (by show (0 : Int) < 2; decide), ?_⟩⟩
        refine ⟨.ref c, rfl, .ref c, rfl, c, _, _, _, rfl, rfl, SqL.of ec, h0, _, rfl, lenOk (n := 5) rfl (by decide), fun p hp => ?_⟩
        exact fin _ _ _ _ (Int.le_refl 0) s2 rfl p hp
      · refine ⟨.ref c, rfl, .ref c, rfl, c, _, _, _, rfl, rfl, SqL.of ec, h0, _, rfl, lenOk (n := 5) rfl (by decide), fun p hp => ?_⟩
        exact fin _ _ _ _ (Int.le_refl 0) s2 rfl p hp
def spNone : Sp := fun _ _ _ _ => False
theorem ok_plain (T : Txt K mg A) : ∀ n : Nat, FnOk P w K mg base CX0 n A.a_law_plain A.d_law_plain ["_law_thing"] (spPlain K n)
  | 0 => ⟨fun _ _ _ _ h => h.elim, fun _ _ _ _ _ _ _ _ _ _ _ _ _ h => h.elim⟩
  | n + 1 => by
    have G0 : FnOk P w K mg base CX0 n A.a_law_plain A.d_law_plain ["_law_thing"] (spPlain K n) := ok_plain T n
    refine T.F_law_plain.ok sc_law_plain (fun vs H Q E h => ?_) (fun cdv A outer s H vs Q E hr h => ?_)
    · obtain ⟨v, d, S, rfl, _⟩ := h
      rfl
    · obtain ⟨v, d, S, rfl, hS, hd, hn, hw, q⟩ := h
      refine ⟨_, (pss_cons (ps_if (pt_val (pe_callB call_isiT (by rfl) T.n_isinstance (by decide +kernel) (pa_cons (pv 0) (pa_cons (pe_tup (pa_cons (pe_bltn (v := .ty "list") (u := .type "list") (by rfl) T.n_list (by decide +kernel) rfl) (pa_cons (pe_bltn (v := .ty "tuple") (u := .type "tuple") (by rfl) T.n_tuple (by decide +kernel) rfl) pa_nil))) pa_nil)))) (pss_one (ps_ret (pe_tup (pa_cons (pe_callB call_isi (by rfl) T.n_isinstance (by decide +kernel) (pa_cons (pv 0) (pa_cons (pe_bltn (v := .ty "list") (u := .type "list") (by rfl) T.n_list (by decide +kernel) rfl) pa_nil))) (pa_cons (pe_lc (own := [("_law_one", 1)]) rfl sc_law_plain.nd (PI_or (pi_list (pv 0)) (pi_tup (pv 0))) (blkOk_by (own := [("_law_one", 1)]) (N := N_law_plain) (sc := defScope s_law_plain) (by decide +kernel)) (fun _ _ _ _ _ => pg_name (i := 1) sc_law_plain.nd rfl (Or.inl rfl)) (fun _ _ _ _ _ => pts_nil) (fun _ _ _ _ _ => by exact (pe_call G0 (hr.mono (by omega)) rfl T.g_law_plain T.F_law_plain.kp T.b_law_plain .nil pass0 (pa_cons (pv 1) pa_nil)))) pa_nil))))) pss_nil)
    (pss_one (ps_ret (pe_tup (pa_cons (pe_callB call_isi (by rfl) T.n_isinstance (by decide +kernel) (pa_cons (pv 0) (pa_cons (pe_bltn (v := .ty "bool") (u := .type "bool") (by rfl) T.n_bool (by decide +kernel) rfl) pa_nil))) (pa_cons (pv 0) pa_nil)))))), ?_⟩
      have out : ∀ (b : Bool), tn d ≠ "list" → tn d ≠ "tuple" → b = isB (tn d) "bool" → plD d = .tuple [.bool b, d] := fun b h1 h2 h3 => by
        subst h3
        cases hd with
        | non => rfl
        | bl => rfl
        | int => rfl
        | str => rfl
        | lst _ _ => exact absurd rfl h1
        | tup _ _ => exact absurd rfl h2
      refine ⟨_, rfl, lenOk rfl (by decide), fun tp htp => ?_⟩
      have hd1 : Dx K _ S v d := Dx.up (Out.of (same_new (o := .tup (["list", "tuple"].map V.ty)) htp)) hd
      refine ⟨v, tp, _, _, _, _, rfl, upd_same, paired_ty ["list", "tuple"], dp_ty hd1.dp, kit_any (dp_tn hd1.dp) ["list", "tuple"] (by decide), ?_⟩
      have sm0 : Same H (upd H tp (.tup [V.ty "list", V.ty "tuple"])) := same_new htp
      refine ⟨_, rfl, ite2 (fun e => ?_) (fun e => ?_)⟩
      · refine ⟨_, rfl, v, .ty "list", _, _, _, rfl, .ty "list", dp_ty hd1.dp, kit_ty (kitT _ (dp_tn hd1.dp) "list" (by decide)), ?_⟩
        have htt : tn d = "list" ∨ tn d = "tuple" := by
          have hb := dp_tn hd.dp
          rcases List.mem_cons.mp hb with h | hb
          · rw [h] at e; exact absurd e (by decide)
          rcases List.mem_cons.mp hb with h | hb
          · rw [h] at e; exact absurd e (by decide)
          rcases List.mem_cons.mp hb with h | hb
          · rw [h] at e; exact absurd e (by decide)
          rcases List.mem_cons.mp hb with h | hb
          · rw [h] at e; exact absurd e (by decide)
          rcases List.mem_cons.mp hb with h | hb
          · exact .inl h
          · exact .inr (List.mem_singleton.mp hb)
        generalize hH1 : upd H tp (.tup (["list", "tuple"].map V.ty)) = H1 at hd1
        have hH2 : upd H tp (.tup [V.ty "list", V.ty "tuple"]) = H1 := hH1
        rw [hH2] at sm0 ⊢
        have hS1 : ∀ a, S a → H1 a ≠ none := fun a z y => hS a z (sm0.free y)
        cases n with
        | zero =>
          cases hd with
          | lst h t => exact absurd hn (Nat.not_succ_le_zero _)
          | tup h t => exact absurd hn (Nat.not_succ_le_zero _)
          | non => rcases htt with z | z <;> exact absurd z (by show ¬ "NoneType" = _; decide)
          | bl => rcases htt with z | z <;> exact absurd z (by show ¬ "bool" = _; decide)
          | int => rcases htt with z | z <;> exact absurd z (by show ¬ "int" = _; decide)
          | str => rcases htt with z | z <;> exact absurd z (by show ¬ "str" = _; decide)
        | succ n =>
          cases hd1 with
          | non => rcases htt with z | z <;> exact absurd z (by show ¬ "NoneType" = _; decide)
          | bl => rcases htt with z | z <;> exact absurd z (by show ¬ "bool" = _; decide)
          | int => rcases htt with z | z <;> exact absurd z (by show ¬ "int" = _; decide)
          | str => rcases htt with z | z <;> exact absurd z (by show ¬ "str" = _; decide)
          | @lst a xs ds h t =>
            have hw' : wdA ds = true := (Bool.and_eq_true_iff.mp hw).2
            have hl : xs.length ≤ 1000000 := by
              have := of_decide_eq_true (Bool.and_eq_true_iff.mp hw).1
              rw [dxAll_len t]
              omega
            refine .inl ⟨_, rfl, a, rfl, ⟨_, h.sq⟩, fun D hD => ?_⟩
            refine lc_data (S := S) (K := K) (walk_list (K := K) (a := a) (xs := xs)) (fun i x => xs[i]? = some x) (fun i => plD (ds.getD i .none)) hS1 hD (fun H' e => (h.up (Out.of e)).sq) hl (fun i H x H' _ y => y) (fun i x H' hi sm hDn e Q q => ?_) (fun H2 s2 d2 => ?_)
            · obtain ⟨di, h1, h2⟩ := dxAll_get (DxAll.up (Out.of sm) t) e
              have h3 : di.depth ≤ n := by
                have := depth_get h1
                have hn' : PyData.depthAll ds + 1 ≤ n + 1 := hn
                omega
              refine ⟨_, rfl, x, di, inS S D, rfl, fun a z => ?_, ?_, h3, wdA_get hw' h1, fun H' v' s3 d3 => ?_⟩
              · rcases z with z | z
                · exact fun y => hS1 a z (sm.free y)
                · rw [z]; exact hDn
              · exact Dx.up (Out.of sm) (Dx.add hD (Dx.of_get t e h1))
              · refine q _ _ s3 ?_
                rw [List.getD_eq_getElem?_getD, h1]
                exact d3
            refine ⟨lenOk (n := 2) rfl (by decide), fun l hl2 => ?_⟩
            have hSl : ¬ S l := fun z => hS l z (((sm0.trans s2)).free hl2)
            refine q _ _ ((sm0.trans s2).trans (same_new hl2)) ?_
            have e3 : (List.range xs.length).map (fun i => plD (ds.getD i .none)) = plA ds := by
              rw [dxAll_len t, range_getD plD .none ds, plA_map]
            rw [e3] at d2
            exact .tup (XT.of upd_same hSl) (.cons (.bl _) (.cons (Dx.up (Out.of (same_new hl2)) d2) .nil))
          | @tup a xs ds h t =>
            have hw' : wdA ds = true := (Bool.and_eq_true_iff.mp hw).2
            have hl : xs.length ≤ 1000000 := by
              have := of_decide_eq_true (Bool.and_eq_true_iff.mp hw).1
              rw [dxAll_len t]
              omega
            refine .inr ⟨_, rfl, a, rfl, ⟨_, h.sq⟩, fun D hD => ?_⟩
            refine lc_data (S := S) (K := K) (walk_tup (K := K) (a := a) (xs := xs)) (fun i x => xs[i]? = some x) (fun i => plD (ds.getD i .none)) hS1 hD (fun H' e => (h.up (Out.of e)).sq) hl (fun i H x H' _ y => y) (fun i x H' hi sm hDn e Q q => ?_) (fun H2 s2 d2 => ?_)
            · obtain ⟨di, h1, h2⟩ := dxAll_get (DxAll.up (Out.of sm) t) e
              have h3 : di.depth ≤ n := by
                have := depth_get h1
                have hn' : PyData.depthAll ds + 1 ≤ n + 1 := hn
                omega
              refine ⟨_, rfl, x, di, inS S D, rfl, fun a z => ?_, ?_, h3, wdA_get hw' h1, fun H' v' s3 d3 => ?_⟩
              · rcases z with z | z
                · exact fun y => hS1 a z (sm.free y)
                · rw [z]; exact hDn
              · exact Dx.up (Out.of sm) (Dx.add hD (Dx.of_get t e h1))
              · refine q _ _ s3 ?_
                rw [List.getD_eq_getElem?_getD, h1]
                exact d3
            refine ⟨lenOk (n := 2) rfl (by decide), fun l hl2 => ?_⟩
            have hSl : ¬ S l := fun z => hS l z (((sm0.trans s2)).free hl2)
            refine q _ _ ((sm0.trans s2).trans (same_new hl2)) ?_
            have e3 : (List.range xs.length).map (fun i => plD (ds.getD i .none)) = plA ds := by
              rw [dxAll_len t, range_getD plD .none ds, plA_map]
            rw [e3] at d2
            exact .tup (XT.of upd_same hSl) (.cons (.bl _) (.cons (Dx.up (Out.of (same_new hl2)) d2) .nil))
      · refine ⟨_, rfl, v, .ty "bool", _, _, _, rfl, .ty "bool", dp_ty hd1.dp, kit_ty (kitT _ (dp_tn hd1.dp) "bool" (by decide)), _, rfl, lenOk (n := 2) rfl (by decide), fun l hl => ?_⟩
        have n1 : tn d ≠ "list" := fun z => e (by rw [z]; decide)
        have n2 : tn d ≠ "tuple" := fun z => e (by rw [z]; decide)
        have hS2 : ¬ S l := fun z => hS l z (sm0.free hl)
        refine q _ _ (sm0.trans (same_new hl)) ?_
        rw [out _ n1 n2 rfl]
        exact .tup (XT.of upd_same hS2) (.cons (.bl _) (.cons (Dx.up (Out.of (same_new hl)) hd1) .nil))
theorem okH_plain (T : Txt K mg A) : ∀ n : Nat, L2H.FnH P w K mg base CX0 n A.a_law_plain A.d_law_plain ["_law_thing"] (spPlain K n)
  | 0 => ⟨fun _ _ _ _ h => h.elim, fun _ _ _ _ _ _ _ _ _ _ _ _ _ _ _ _ h => h.elim⟩
  | n + 1 => by
    have G0 : L2H.FnH P w K mg base CX0 n A.a_law_plain A.d_law_plain ["_law_thing"] (spPlain K n) := okH_plain T n
    refine Fun.okH T.F_law_plain sc_law_plain (fun vs H Q E h => ?_) (fun cdv A outer s H vs Q E p hot hr h => ?_)
    · obtain ⟨v, d, S, rfl, _⟩ := h
      rfl
    · obtain ⟨v, d, S, rfl, hS, hd, hn, hw, q⟩ := h
      refine ⟨_, (pss_cons (ps_if (pt_val (pe_callB (r := rIsiT K) call_isiT (by rfl) T.n_isinstance (by decide +kernel) (pa_cons (pv 0) (pa_cons (pe_tup (pa_cons (pe_bltn (v := .ty "list") (u := .type "list") (by rfl) T.n_list (by decide +kernel) rfl) (pa_cons (pe_bltn (v := .ty "tuple") (u := .type "tuple") (by rfl) T.n_tuple (by decide +kernel) rfl) pa_nil))) pa_nil)))) (pss_one (ps_ret (pe_tup (pa_cons (pe_callB (r := rIsi K) call_isi (by rfl) T.n_isinstance (by decide +kernel) (pa_cons (pv 0) (pa_cons (pe_bltn (v := .ty "list") (u := .type "list") (by rfl) T.n_list (by decide +kernel) rfl) pa_nil))) (pa_cons (pe_lcH (own := [("_law_one", 1)]) rfl hot List.mem_cons_self sc_law_plain.nd (PIH_or (pi_listH (pv 0)) (pi_tupH (pv 0))) (blkOk_by (own := [("_law_one", 1)]) (N := N_law_plain) (sc := defScope s_law_plain) (by decide +kernel)) (fun _ _ _ _ _ => pg_name (i := 1) sc_law_plain.nd rfl (Or.inl rfl)) (fun _ _ _ _ _ => pts_nil) (fun _ _ _ _ _ => by exact (L2H.pe_callH G0 (hr.mono (by omega)) ⟨p, hot, List.mem_cons_self⟩ rfl T.g_law_plain T.F_law_plain.kp T.b_law_plain (fun _ => pass_at0) (pa_cons (pv 1) pa_nil)))) pa_nil))))) pss_nil)
    (pss_one (ps_ret (pe_tup (pa_cons (pe_callB (r := rIsi K) call_isi (by rfl) T.n_isinstance (by decide +kernel) (pa_cons (pv 0) (pa_cons (pe_bltn (v := .ty "bool") (u := .type "bool") (by rfl) T.n_bool (by decide +kernel) rfl) pa_nil))) (pa_cons (pv 0) pa_nil)))))), ?_⟩
      have out : ∀ (b : Bool), tn d ≠ "list" → tn d ≠ "tuple" → b = isB (tn d) "bool" → plD d = .tuple [.bool b, d] := fun b h1 h2 h3 => by
        subst h3
        cases hd with
        | non => rfl
        | bl => rfl
        | int => rfl
        | str => rfl
        | lst _ _ => exact absurd rfl h1
        | tup _ _ => exact absurd rfl h2
      refine ⟨_, rfl, lenOk rfl (by decide), fun tp htp => ?_⟩
      have hd1 : Dx K _ S v d := Dx.up (Out.of (same_new (o := .tup (["list", "tuple"].map V.ty)) htp)) hd
      refine ⟨v, tp, _, _, _, _, rfl, upd_same, paired_ty ["list", "tuple"], dp_ty hd1.dp, kit_any (dp_tn hd1.dp) ["list", "tuple"] (by decide), ?_⟩
      have sm0 : Same H (upd H tp (.tup [V.ty "list", V.ty "tuple"])) := same_new htp
      refine ⟨_, rfl, ite2 (fun e => ?_) (fun e => ?_)⟩
      · refine ⟨_, rfl, v, .ty "list", _, _, _, rfl, .ty "list", dp_ty hd1.dp, kit_ty (kitT _ (dp_tn hd1.dp) "list" (by decide)), ?_⟩
        have htt : tn d = "list" ∨ tn d = "tuple" := by
          have hb := dp_tn hd.dp
          rcases List.mem_cons.mp hb with h | hb
          · rw [h] at e; exact absurd e (by decide)
          rcases List.mem_cons.mp hb with h | hb
          · rw [h] at e; exact absurd e (by decide)
          rcases List.mem_cons.mp hb with h | hb
          · rw [h] at e; exact absurd e (by decide)
          rcases List.mem_cons.mp hb with h | hb
          · rw [h] at e; exact absurd e (by decide)
          rcases List.mem_cons.mp hb with h | hb
          · exact .inl h
          · exact .inr (List.mem_singleton.mp hb)
        generalize hH1 : upd H tp (.tup (["list", "tuple"].map V.ty)) = H1 at hd1
        have hH2 : upd H tp (.tup [V.ty "list", V.ty "tuple"]) = H1 := hH1
        rw [hH2] at sm0 ⊢
        have hS1 : ∀ a, S a → H1 a ≠ none := fun a z y => hS a z (sm0.free y)
        cases n with
        | zero =>
          cases hd with
          | lst h t => exact absurd hn (Nat.not_succ_le_zero _)
          | tup h t => exact absurd hn (Nat.not_succ_le_zero _)
          | non => rcases htt with z | z <;> exact absurd z (by show ¬ "NoneType" = _; decide)
          | bl => rcases htt with z | z <;> exact absurd z (by show ¬ "bool" = _; decide)
          | int => rcases htt with z | z <;> exact absurd z (by show ¬ "int" = _; decide)
          | str => rcases htt with z | z <;> exact absurd z (by show ¬ "str" = _; decide)
        | succ n =>
          cases hd1 with
          | non => rcases htt with z | z <;> exact absurd z (by show ¬ "NoneType" = _; decide)
          | bl => rcases htt with z | z <;> exact absurd z (by show ¬ "bool" = _; decide)
          | int => rcases htt with z | z <;> exact absurd z (by show ¬ "int" = _; decide)
          | str => rcases htt with z | z <;> exact absurd z (by show ¬ "str" = _; decide)
          | @lst a xs ds h t =>
            have hw' : wdA ds = true := (Bool.and_eq_true_iff.mp hw).2
            have hl : xs.length ≤ 1000000 := by
              have := of_decide_eq_true (Bool.and_eq_true_iff.mp hw).1
              rw [dxAll_len t]
              omega
            refine .inl ⟨_, rfl, a, rfl, ⟨_, h.sq⟩, fun D hD => ?_⟩
            refine lc_data (S := S) (K := K) (walk_list (K := K) (a := a) (xs := xs)) (fun i x => xs[i]? = some x) (fun i => plD (ds.getD i .none)) hS1 hD (fun H' e => (h.up (Out.of e)).sq) hl (fun i H x H' _ y => y) (fun i x H' hi sm hDn e Q q => ?_) (fun H2 s2 d2 => ?_)
            · obtain ⟨di, h1, h2⟩ := dxAll_get (DxAll.up (Out.of sm) t) e
              have h3 : di.depth ≤ n := by
                have := depth_get h1
                have hn' : PyData.depthAll ds + 1 ≤ n + 1 := hn
                omega
              refine ⟨_, rfl, x, di, inS S D, rfl, fun a z => ?_, ?_, h3, wdA_get hw' h1, fun H' v' s3 d3 => ?_⟩
              · rcases z with z | z
                · exact fun y => hS1 a z (sm.free y)
                · rw [z]; exact hDn
              · exact Dx.up (Out.of sm) (Dx.add hD (Dx.of_get t e h1))
              · refine q _ _ s3 ?_
                rw [List.getD_eq_getElem?_getD, h1]
                exact d3
            refine ⟨lenOk (n := 2) rfl (by decide), fun l hl2 => ?_⟩
            have hSl : ¬ S l := fun z => hS l z (((sm0.trans s2)).free hl2)
            refine q _ _ ((sm0.trans s2).trans (same_new hl2)) ?_
            have e3 : (List.range xs.length).map (fun i => plD (ds.getD i .none)) = plA ds := by
              rw [dxAll_len t, range_getD plD .none ds, plA_map]
            rw [e3] at d2
            exact .tup (XT.of upd_same hSl) (.cons (.bl _) (.cons (Dx.up (Out.of (same_new hl2)) d2) .nil))
          | @tup a xs ds h t =>
            have hw' : wdA ds = true := (Bool.and_eq_true_iff.mp hw).2
            have hl : xs.length ≤ 1000000 := by
              have := of_decide_eq_true (Bool.and_eq_true_iff.mp hw).1
              rw [dxAll_len t]
              omega
            refine .inr ⟨_, rfl, a, rfl, ⟨_, h.sq⟩, fun D hD => ?_⟩
            refine lc_data (S := S) (K := K) (walk_tup (K := K) (a := a) (xs := xs)) (fun i x => xs[i]? = some x) (fun i => plD (ds.getD i .none)) hS1 hD (fun H' e => (h.up (Out.of e)).sq) hl (fun i H x H' _ y => y) (fun i x H' hi sm hDn e Q q => ?_) (fun H2 s2 d2 => ?_)
            · obtain ⟨di, h1, h2⟩ := dxAll_get (DxAll.up (Out.of sm) t) e
              have h3 : di.depth ≤ n := by
                have := depth_get h1
                have hn' : PyData.depthAll ds + 1 ≤ n + 1 := hn
                omega
              refine ⟨_, rfl, x, di, inS S D, rfl, fun a z => ?_, ?_, h3, wdA_get hw' h1, fun H' v' s3 d3 => ?_⟩
              · rcases z with z | z
                · exact fun y => hS1 a z (sm.free y)
                · rw [z]; exact hDn
              · exact Dx.up (Out.of sm) (Dx.add hD (Dx.of_get t e h1))
              · refine q _ _ s3 ?_
                rw [List.getD_eq_getElem?_getD, h1]
                exact d3
            refine ⟨lenOk (n := 2) rfl (by decide), fun l hl2 => ?_⟩
            have hSl : ¬ S l := fun z => hS l z (((sm0.trans s2)).free hl2)
            refine q _ _ ((sm0.trans s2).trans (same_new hl2)) ?_
            have e3 : (List.range xs.length).map (fun i => plD (ds.getD i .none)) = plA ds := by
              rw [dxAll_len t, range_getD plD .none ds, plA_map]
            rw [e3] at d2
            exact .tup (XT.of upd_same hSl) (.cons (.bl _) (.cons (Dx.up (Out.of (same_new hl2)) d2) .nil))
      · refine ⟨_, rfl, v, .ty "bool", _, _, _, rfl, .ty "bool", dp_ty hd1.dp, kit_ty (kitT _ (dp_tn hd1.dp) "bool" (by decide)), _, rfl, lenOk (n := 2) rfl (by decide), fun l hl => ?_⟩
        have n1 : tn d ≠ "list" := fun z => e (by rw [z]; decide)
        have n2 : tn d ≠ "tuple" := fun z => e (by rw [z]; decide)
        have hS2 : ¬ S l := fun z => hS l z (sm0.free hl)
        refine q _ _ (sm0.trans (same_new hl)) ?_
        rw [out _ n1 n2 rfl]
        exact .tup (XT.of upd_same hS2) (.cons (.bl _) (.cons (Dx.up (Out.of (same_new hl)) hd1) .nil))
end
end R1

namespace R1
open PySem PySem.Spec PyProof.Rows L2 RK PT
local macro_rules | `(tactic| walk_at "sq") => `(tactic| first
  | exact SqL.of upd_same | exact upd_same | exact SqL.of (by assumption) | exact SqL.of (by rw [upd_ne (by assumption)]; assumption) | assumption)
local macro_rules | `(tactic| walk_at "sd") => `(tactic| first
  | assumption | omega | (refine Or.inl ⟨?_, ?_⟩ <;> omega) | (show _ ∧ _; constructor <;> omega) | (show _ ≠ _; simp; omega) | (exact Or.inl ⟨by decide, by decide⟩) | (exact Or.inr ⟨by decide, by decide⟩) | (show _ < _; decide) | (show _ ≤ _; decide))
local macro_rules | `(tactic| walk_at "at") => `(tactic| first | rfl | (refine atI_intV ?_ ?_ <;> omega) | assumption)
local macro_rules | `(tactic| walk_at "s1") => `(tactic| first
  | refine ⟨_, rfl, ?_⟩ | refine ⟨_, _, rfl, rfl, ?_⟩ | refine ⟨rfl, ?_⟩
  | refine ⟨_, _, _, _, rfl, rfl, by walk_at "sq", by walk_at "at", ?_⟩
  | refine Or.inl ⟨_, rfl, ?_⟩
  | refine ⟨_, _, rfl, Or.inl (by walk_at "sq"), ?_⟩
  | refine And.intro (by walk_at "sd") ?_)
local macro_rules | `(tactic| walk_at "s") => `(tactic| repeat walk_at "s1")

def ThK (K : PySem.W.Frag) (H : Hp) (a : Addr) (ths : List (Nat × Nat)) : Prop := (∃ xs : List V, SqT K H a xs ∧ xs.length = ths.length ∧ ∀ (k : Nat) (t : Nat × Nat), ths[k]? = some t → ∃ p : Addr, xs[k]? = some (V.ref p) ∧ H p = some (.tup [.int (t.1 : Int), .int (t.2 : Int)])) ∧ ths.length ≤ 7 ∧ ∀ t ∈ ths, 1 ≤ t.2 ∧ t.2 ≤ 16
theorem ThK.up {K : PySem.W.Frag} {H H' : Hp} {a : Addr} {ths : List (Nat × Nat)} (h : ThK K H a ths) (e : Same H H') : ThK K H' a ths := by
  obtain ⟨⟨xs, h1, h2, h3⟩, h4⟩ := h
  exact ⟨⟨xs, sqT_up h1 e, h2, fun k t ht => let ⟨p, a1, a2⟩ := h3 k t ht; ⟨p, a1, e _ _ a2⟩⟩, h4⟩
def spAligned : Sp := fun vs H Q _ => ∃ e a : Nat, vs = [.int (e : Int), .int (a : Int)] ∧ 1 ≤ a ∧ a ≤ 16 ∧ Q (.int ((alN e a : Nat) : Int)) H
def spLaid : Sp := fun vs H Q _ => ∃ (e : Nat) (p : Addr) (t : Nat × Nat), vs = [.int (e : Int), .ref p] ∧ H p = some (.tup [.int (t.1 : Int), .int (t.2 : Int)]) ∧ 1 ≤ t.2 ∧ t.2 ≤ 16 ∧ Q (.int ((lb e t : Nat) : Int)) H
def spNumbers : Sp := fun vs H Q _ => ∃ m n : Nat, vs = [.int (m : Int), .int (n : Int)] ∧ n ≤ 1000 ∧ ∀ H' l, Same H H' → H l = none → H' l = some (.lst (intV (numsN m n))) → Q (.ref l) H'
def spLeastB (K : PySem.W.Frag) : Sp := fun vs H Q _ => ∃ (a e : Addr) (ths : List (Nat × Nat)) (es : List Nat) (m : Nat), vs = [.ref a, .ref e, .int (m : Int)] ∧ ThK K H a ths ∧ H e = some (.lst (intV es)) ∧ 0 < m ∧ m < 2 ^ ths.length ∧ m ≤ es.length ∧ ∀ H', Same H H' → Q (.int ((lbm ths es m : Nat) : Int)) H'
def spLeastE (K : PySem.W.Frag) : Sp := fun vs H Q _ => ∃ (a : Addr) (ths : List (Nat × Nat)) (s : Nat), vs = [.int (s : Int), .ref a] ∧ ThK K H a ths ∧ ∀ H' l, Same H H' → H l = none → H' l = some (.lst (intV (tabT ths s (2 ^ ths.length - 1)))) → Q (.ref l) H'
theorem pow7 {n : Nat} (h : n ≤ 7) : (∀ m, m = n → (2 : Int) ^ m = ((2 ^ m : Nat) : Int)) ∧ 1 ≤ 2 ^ n ∧ 2 ^ n ≤ 128 := by
  refine ⟨fun m _ => by rw [Int.natCast_pow]; rfl, Nat.two_pow_pos n, ?_⟩
  have := Nat.pow_le_pow_right (n := 2) (by decide) h
  exact this
def spLeastOf : Sp := fun vs H Q _ => ∃ (D : Addr) (L : List Nat), vs = [.ref D] ∧ H D = some (.lst (intV L)) ∧ L ≠ [] ∧ L.length ≤ 1000 ∧ Q (.int ((minL L : Nat) : Int)) H
section
variable {P : Program} {w : World} {K : PySem.W.Frag} {mg : Str → Option Value} {base : Heap} {A : Ads}
theorem ok_least_of (T : Txt K mg A) : FnOk P w K mg base CX0 1 A.a_least_of A.d_least_of ["numbers"] spLeastOf := by
  refine T.F_least_of.ok sc_least_of (fun vs H Q E h => ?_) (fun cdv B outer s H vs Q E hr h => ?_)
  · obtain ⟨D, L, rfl, _⟩ := h
    rfl
  · obtain ⟨D, L, rfl, hD, hne, hl, q⟩ := h
    refine ⟨_, (pss_cons (ps_set (i := 1) sc_least_of.nd rfl (.inl rfl) (pe_ix ix_list (pv 0) pe_int (fun _ _ => rfl)))
    (pss_cons (ps_for PassesOwn.never rfl (pi_list (pv 0)) (pg_name (i := 2) sc_least_of.nd rfl (.inl rfl))
      (pss_one (ps_if (pt_cmpR op_lt (pv 2) (pv 1) (nomark _)) (pss_one (ps_set (i := 1) sc_least_of.nd rfl (.inl rfl) (pv 2))) pss_nil)))
    (pss_one (ps_ret (pv 1))))), ?_⟩
    have hL0 : 0 < L.length := List.length_pos_iff.mpr hne
    have hat : ∀ j (hj : j < L.length), (intV L)[j]? = some (.int ((L[j] : Nat) : Int)) := fun j hj => by
      unfold intV
      rw [List.getElem?_map, List.getElem?_eq_getElem hj]
      rfl
    refine ⟨_, rfl, D, _, 0, _, rfl, rfl, SqL.of hD, atI_nat (j := 0) (hat 0 hL0), _, rfl, D, rfl, ⟨_, SqL.of hD⟩, ?_⟩
    have hil : (intV L).length = L.length := List.length_map ..
    refine for_it (walk_list (K := K) (a := D) (xs := intV L)) (fun i σ Hc => ∃ (x : Nat) (o3 : Option V), σ = [some (.ref D), some (.int (x : Int)), o3] ∧ Hc = H ∧ x ∈ L ∧ ∀ y ∈ L.take i, x ≤ y) ⟨_, _, rfl, rfl, List.getElem_mem hL0, fun y hy => by cases hy⟩ (fun i σ Hc _ y => ?_) (fun i x σ H7 H8 hi y e => ?_) (fun σ H7 y => ?_)
    · obtain ⟨_, _, _, rfl, _⟩ := y
      exact SqL.of hD
    · obtain ⟨rfl, e⟩ := e
      obtain ⟨m, o3, rfl, rfl, hm, hle⟩ := y
      rw [hil] at hi
      rw [hat i hi] at e
      cases e
      have htk : ∀ y ∈ L.take (i + 1), y ∈ L.take i ∨ y = L[i] := fun y hy => by
        rw [List.take_add_one, List.getElem?_eq_getElem hi] at hy
        rcases List.mem_append.mp hy with h | h
        · exact .inl h
        · exact .inr (by simpa using h)
      refine ⟨_, rfl, _, rfl, _, _, rfl, rfl, _, rfl, ifB (fun e => ?_) (fun e => ?_)⟩
      · have e := of_decide_eq_true e
        refine ⟨_, rfl, L[i], _, rfl, rfl, List.getElem_mem hi, fun y hy => ?_⟩
        rcases htk y hy with h | h
        · have := hle y h
          omega
        · omega
      · have e := of_decide_eq_false e
        refine ⟨m, _, rfl, rfl, hm, fun y hy => ?_⟩
        rcases htk y hy with h | h
        · exact hle y h
        · omega
    · obtain ⟨m, o3, rfl, rfl, hm, hle⟩ := y
      have h1 : m ≤ minL L := hle _ (by rw [hil, List.take_length]; exact minL_mem hne)
      have h2 : minL L ≤ m := minL_le hm
      have h3 : m = minL L := Nat.le_antisymm h1 h2
      rw [h3]
      exact ⟨_, rfl, q⟩
end
section
variable {P : Program} {w : World} {K : PySem.W.Frag} {mg : Str → Option Value} {base : Heap} {A : Ads}
theorem ok_aligned (T : Txt K mg A) : FnOk P w K mg base CX0 1 A.a_aligned A.d_aligned ["address", "align"] spAligned := by
  refine T.F_aligned.ok sc_aligned (fun vs H Q E h => ?_) (fun cdv B outer s H vs Q E hr h => ?_)
  · obtain ⟨e, a, rfl, _⟩ := h
    rfl
  · obtain ⟨e, a, rfl, h1, h16, q⟩ := h
    refine ⟨_, (pss_one (ps_ret (pe_op op_mul (pe_op op_fdivN (pe_op op_sub (pe_op op_add (pv 0) (pv 1)) pe_int) (pv 1)) (pv 1)))), ?_⟩
    walk_at "s"
    refine ⟨.inr ⟨by omega, by omega⟩, ?_⟩
    have e1 : (((e : Int) + (a : Int) - 1).fdiv (a : Int)) * (a : Int) = ((alN e a : Nat) : Int) := by
      unfold alN
      rw [show (e : Int) + (a : Int) - 1 = ((e + a - 1 : Nat) : Int) by omega, Int.fdiv_eq_ediv_of_nonneg _ (by omega)]
      exact congrArg (· * (a : Int)) (Int.natCast_ediv _ _).symm
    rw [← e1] at q
    exact q
theorem ok_laid_behind (T : Txt K mg A) : FnOk P w K mg base CX0 2 A.a_laid_behind A.d_laid_behind ["end", "thing"] spLaid := by
  refine T.F_laid_behind.ok sc_laid_behind (fun vs H Q E h => ?_) (fun cdv B outer s H vs Q E hr h => ?_)
  · obtain ⟨e, p, t, rfl, _⟩ := h
    rfl
  · obtain ⟨e, p, t, rfl, hp, h1, h16, q⟩ := h
    refine ⟨_, (pss_one (ps_ret (pe_op op_add (pe_call (ok_aligned T) (hr.mono (by omega)) rfl T.g_aligned T.F_aligned.kp T.b_aligned .nil pass0 (pa_cons (pv 0) (pa_cons (pe_ix ix_tup (pv 1) pe_int (fun _ _ => rfl)) pa_nil))) (pe_ix ix_tup (pv 1) pe_int (fun _ _ => rfl))))), ?_⟩
    refine ⟨_, rfl, _, rfl, p, _, 1, _, rfl, rfl, SqT.of hp, atI_nat (j := 1) rfl, e, t.2, rfl, h1, h16, ?_⟩
    exact ⟨_, rfl, p, _, 0, _, rfl, rfl, SqT.of hp, atI_nat (j := 0) rfl, _, _, rfl, rfl, q⟩
theorem ok_numbers_in (T : Txt K mg A) : FnOk P w K mg base CX0 1 A.a_numbers_in A.d_numbers_in ["chosen", "count"] spNumbers := by
  refine T.F_numbers_in.ok sc_numbers_in (fun vs H Q E h => ?_) (fun cdv B outer s H vs Q E hr h => ?_)
  · obtain ⟨e, p, rfl, _⟩ := h
    rfl
  · obtain ⟨m, n, rfl, hn, q⟩ := h
    refine ⟨_, (pss_one (ps_ret (pe_lc (own := [("number", 2)]) rfl sc_numbers_in.nd (pi_range1 (by rfl) T.n_range (pa_cons (pv 1) pa_nil)) (blkOk_by (own := [("number", 2)]) (N := N_numbers_in) (sc := defScope s_numbers_in) (by decide +kernel)) (fun _ _ _ _ _ => pg_name (i := 2) sc_numbers_in.nd rfl (Or.inl rfl)) (fun _ _ _ _ _ => pts_one (by exact (pt_cmpR op_eq (pe_op op_odd (pe_op op_shrN (pv 0) (pv 2)) pe_int) pe_int (nomark _)))) (fun _ _ _ _ _ => by exact (pv 2))))), ?_⟩
    refine ⟨_, rfl, (n : Int), rfl, by omega, by omega, fun D hD => ?_⟩
    rw [Int.toNat_natCast]
    refine lc_filt (walk_range (lo := 0) (n := n)) (fun i v => v = .int (i : Int)) (fun i => m / 2 ^ i % 2 == 1) (fun i => .int (i : Int)) hD (fun _ _ => trivial) (by omega) (fun i H1 v H2 hi y => ?_) (fun i v H4 hi sm hv Q q => ?_) (fun i v H4 hi hc sm hv Q q => ?_) (fun H4 s4 e4 => ?_)
    · refine ⟨y.1, ?_⟩
      rw [y.2]
      exact congrArg V.int (by omega)
    · subst hv
      refine ⟨_, rfl, _, rfl, (m : Int), i, rfl, rfl, m / 2 ^ i, ?_, rfl, rfl, _, rfl, ?_⟩
      · exact congrArg V.int (by rw [Int.natCast_ediv, Int.natCast_pow]; rfl)
      · have e1 : decide (V.int ((m / 2 ^ i % 2 : Nat) : Int) = V.int 1) = (m / 2 ^ i % 2 == 1) := by
          rw [Bool.eq_iff_iff, decide_eq_true_iff, beq_iff_eq]
          exact ⟨fun z => by have := V.int.inj z; omega, fun z => by rw [z]; rfl⟩
        rw [e1]
        exact q
    · subst hv
      exact ⟨_, rfl, q _ (Same.refl _)⟩
    · exact q _ _ s4 hD e4
theorem ok_least_behind (T : Txt K mg A) : FnOk P w K mg base CX0 3 A.a_least_behind A.d_least_behind ["things", "ends", "chosen"] (spLeastB K) := by
  refine T.F_least_behind.ok sc_least_behind (fun vs H Q E h => ?_) (fun cdv B outer s H vs Q E hr h => ?_)
  · obtain ⟨a, e, ths, es, m, rfl, _⟩ := h
    rfl
  · obtain ⟨a, e, ths, es, m, rfl, ht, he, hm0, hm, hml, q⟩ := h
    refine ⟨_, (pss_one (ps_ret (pe_call (ok_least_of T) (hr.mono (by omega)) rfl T.g_least_of T.F_least_of.kp T.b_least_of .nil pass0 (pa_cons (pe_lc (own := [("number", 3)]) rfl sc_least_behind.nd (pi_list (pe_call (ok_numbers_in T) (hr.mono (by omega)) rfl T.g_numbers_in T.F_numbers_in.kp T.b_numbers_in .nil pass0 (pa_cons (pv 2) (pa_cons (pe_callB len_seq (by rfl) T.n_len (by decide +kernel) (pa_cons (pv 0) pa_nil)) pa_nil)))) (blkOk_by (own := [("number", 3)]) (N := N_least_behind) (sc := defScope s_least_behind) (by decide +kernel)) (fun _ _ _ _ _ => pg_name (i := 3) sc_least_behind.nd rfl (Or.inl rfl)) (fun _ _ _ _ _ => pts_nil) (fun _ _ _ _ _ => by exact (pe_call (ok_laid_behind T) (hr.mono (by omega)) rfl T.g_laid_behind T.F_laid_behind.kp T.b_laid_behind .nil pass0 (pa_cons (pe_ix (r := rIxL K) ix_list (pv 1) (pe_op op_sub (pv 2) (pe_op op_oneShl pe_int (pv 3))) (fun _ _ => rfl)) (pa_cons (pe_ix (r := rIxT K) ix_tup (pv 0) (pv 3) (fun _ _ => rfl)) pa_nil))))) pa_nil)))), ?_⟩
    obtain ⟨⟨xs, hx, hxl, hxe⟩, h7, hgood⟩ := ht
    walk_at "s"
    refine ⟨a, xs, rfl, .inr hx, m, xs.length, rfl, by omega, fun H1 l s1 n1 e1 => ⟨l, rfl, ⟨_, SqL.of e1⟩, fun D hD => ?_⟩⟩
    rw [hxl] at e1
    have hnl : ∀ k ∈ numsN m ths.length, k < ths.length := fun k hk => List.mem_range.mp (List.mem_filter.mp hk).1
    have hpw := fun k (hk : k ∈ numsN m ths.length) => pow_le_of hk
    have hne := numsN_ne hm0 hm
    have hlbm : lbm ths es m = minL ((numsN m ths.length).map fun k => lb (es.getD (m - 2 ^ k) 0) (th ths k)) := rfl
    rw [hlbm] at q
    have hl7 : (numsN m ths.length).length ≤ 7 := by
      refine Nat.le_trans (List.length_filter_le _ _) ?_
      rw [List.length_range]
      exact h7
    generalize numsN m ths.length = nums at *
    have hll : (intV nums).length = nums.length := List.length_map ..
    have hat : ∀ i (hi : i < nums.length), (intV nums)[i]? = some (.int ((nums[i] : Nat) : Int)) := fun i hi => by
      unfold intV
      rw [List.getElem?_map, List.getElem?_eq_getElem hi]
      rfl
    refine lc_vals (walk_list (K := K) (a := l) (xs := intV nums)) (fun i v => (intV nums)[i]? = some v) (fun i => .int ((lb (es.getD (m - 2 ^ (nums.getD i 0)) 0) (th ths (nums.getD i 0)) : Nat) : Int)) hD (fun H4 s4 => SqL.of (s4 _ _ e1)) (by omega) (fun i H1 v H2 hi y => y) (fun i v H4 hi sm hv Q q => ?_) (fun H4 s4 e4 => ?_)
    · rw [hll] at hi
      rw [hat i hi] at hv
      cases hv
      have hk : nums[i] ∈ nums := List.getElem_mem hi
      have hgd : nums.getD i 0 = nums[i] := by rw [List.getD_eq_getElem?_getD, List.getElem?_eq_getElem hi]; rfl
      rw [hgd] at q
      generalize nums[i] = k at hk q
      have hkl := hnl k hk
      have hkp := hpw k hk
      have h2k : 0 < 2 ^ k := Nat.two_pow_pos k
      obtain ⟨pt, ep1, ep2⟩ := hxe k (th ths k) (by unfold th; rw [List.getD_eq_getElem?_getD, List.getElem?_eq_getElem hkl]; rfl)
      have hg := hgood (th ths k) (by unfold th; rw [List.getD_eq_getElem?_getD, List.getElem?_eq_getElem hkl]; exact List.getElem_mem hkl)
      have hsub : (m : Int) - 2 ^ k = ((m - 2 ^ k : Nat) : Int) := by
        have : ((2 : Int) ^ k) = ((2 ^ k : Nat) : Int) := by rw [Int.natCast_pow]; rfl
        rw [this]
        omega
      have hae : atI (intV es) ((m : Int) - 2 ^ k) = some (.int ((es.getD (m - 2 ^ k) 0 : Nat) : Int)) := by
        rw [hsub]
        refine atI_nat ?_
        unfold intV
        rw [List.getElem?_map, List.getElem?_eq_getElem (by omega), List.getD_eq_getElem?_getD, List.getElem?_eq_getElem (by omega)]
        rfl
      have s14 := s1.trans sm
      refine ⟨_, rfl, _, rfl, _, rfl, k, rfl, rfl, by omega, _, _, rfl, rfl, e, intV es, _, _, rfl, rfl, SqL.of (s14 _ _ he), hae, ?_⟩
      exact ⟨_, rfl, _, rfl, a, xs, _, _, rfl, rfl, sqT_up hx s14, atI_nat ep1, _, pt, th ths k, rfl, s14 _ _ ep2, hg.1, hg.2, q _ (Same.refl _)⟩
    · let L : List Nat := nums.map fun k => lb (es.getD (m - 2 ^ k) 0) (th ths k)
      have e5 : H4 D = some (.lst ((L.map fun n : Nat => (n : Int)).map V.int)) := by
        rw [e4, hll]
        show _ = some (HO.lst ((((nums.map fun k => lb (es.getD (m - 2 ^ k) 0) (th ths k))).map fun n : Nat => (n : Int)).map V.int))
        rw [List.map_map, List.map_map]
        exact congrArg (fun x => some (HO.lst x)) (range_getD (fun k => V.int ((lb (es.getD (m - 2 ^ k) 0) (th ths k) : Nat) : Int)) 0 nums)
      have hL : L ≠ [] := by simpa [L] using hne
      rw [← intV_ints] at e5
      exact ⟨D, L, rfl, e5, hL, by simp only [L, List.length_map]; omega, q _ (s1.trans s4)⟩
theorem ok_least_ends (T : Txt K mg A) : FnOk P w K mg base CX0 4 A.a_least_ends A.d_least_ends ["start", "things"] (spLeastE K) := by
  refine T.F_least_ends.ok sc_least_ends (fun vs H Q E h => ?_) (fun cdv B outer s H vs Q E hr h => ?_)
  · obtain ⟨a, ths, s, rfl, _⟩ := h
    rfl
  · obtain ⟨a, ths, s0, rfl, ht, q⟩ := h
    refine ⟨_, (pss_cons (ps_set (i := 2) sc_least_ends.nd rfl (.inl rfl) (pe_lst (pa_cons (pv 0) pa_nil)))
    (pss_cons (ps_for PassesOwn.never rfl (pi_range2 (by rfl) T.n_range (pa_cons pe_int (pa_cons (pe_op op_oneShl pe_int (pe_callB len_seq (by rfl) T.n_len (by decide +kernel) (pa_cons (pv 1) pa_nil))) pa_nil))) (pg_name (i := 3) sc_least_ends.nd rfl (.inl rfl))
      (pss_one (ps_expr (pe_bm PySem.F.plainAttrs_list PySem.F.slot_list_append PySem.F.type_list_append mt_append (pv 2) (pa_cons (pe_call (ok_least_behind T) (hr.mono (by omega)) rfl T.g_least_behind T.F_least_behind.kp T.b_least_behind .nil pass0 (pa_cons (pv 1) (pa_cons (pv 2) (pa_cons (pv 3) pa_nil)))) pa_nil)))))
    (pss_one (ps_ret (pv 2))))), ?_⟩
    have ht0 := ht
    obtain ⟨⟨xs, hx, hxl, hxe⟩, h7, hgood⟩ := ht
    walk_at "s"
    refine ⟨lenOk (n := 1) rfl (by decide), fun l hl => ?_⟩
    generalize hH1 : upd H l _ = H1
    have s1 : Same H H1 := by rw [← hH1]; exact same_new hl
    have e1 : H1 l = some (.lst (intV (tabT ths s0 0))) := by rw [← hH1, tab_zero]; exact upd_same
    clear hH1
    obtain ⟨hp, hp1, hp2⟩ := pow7 h7
    have hp := hp _ hxl
    refine ⟨_, rfl, a, xs, rfl, .inr (sqT_up hx s1), xs.length, rfl, rfl, by omega, 1, _, rfl, ⟨by decide, by decide, by rw [hp, hxl]; omega, by rw [hp, hxl]; omega⟩, ?_⟩
    rw [hp, show (((2 ^ xs.length : Nat) : Int) - 1).toNat = 2 ^ ths.length - 1 by rw [hxl]; omega]
    refine for_it (walk_range (lo := 1) (n := 2 ^ ths.length - 1)) (fun i σ Hc => ∃ o3, σ = [some (.int (s0 : Int)), some (.ref a), some (.ref l), o3] ∧ Same H Hc ∧ Hc l = some (.lst (intV (tabT ths s0 i)))) ⟨_, rfl, s1, e1⟩ (fun _ _ _ _ _ => trivial) (fun i x σ H7 H8 hi y e => ?_) (fun σ H7 y => ?_)
    · obtain ⟨rfl, rfl⟩ := e
      obtain ⟨o3, rfl, sm, el⟩ := y
      have hlen : (tabT ths s0 i).length = i + 1 := by unfold tabT; rw [List.length_map, List.length_range]
      refine ⟨_, rfl, .inl ⟨rfl, _, SqL.of el⟩, _, rfl, _, rfl, _, rfl, a, l, ths, tabT ths s0 i, i + 1, congrArg (fun z => [V.ref a, V.ref l, V.int z]) (by omega), ht0.up sm, el, by omega, by omega, by rw [hlen]; exact Nat.le_refl _, fun H9 s9 => ?_⟩
      rw [tab_next (fun m hm => tab_get hm) (by omega)]
      refine ⟨l, _, _, rfl, rfl, s9 _ _ el, ?_, _, rfl, same_mut (sm.trans s9) hl, ?_⟩
      · unfold intV
        rw [List.length_map, hlen]
        exact Nat.lt_of_lt_of_le (show i + 1 < 200 by omega) (by decide)
      · rw [tab_snoc]
        unfold intV
        rw [List.map_append]
        exact upd_same
    · obtain ⟨o3, rfl, sm, el⟩ := y
      exact ⟨_, rfl, q _ l sm hl el⟩
end
end R1

namespace R1
open PySem PySem.Spec PyProof.Rows L2 RK PT
local macro_rules | `(tactic| walk_at "sq") => `(tactic| first
  | exact SqL.of upd_same | exact upd_same | exact SqL.of (by assumption) | exact SqL.of (by rw [upd_ne (by assumption)]; assumption) | assumption)
local macro_rules | `(tactic| walk_at "sd") => `(tactic| first
  | assumption | omega | (refine Or.inl ⟨?_, ?_⟩ <;> omega) | (show _ ∧ _; constructor <;> omega) | (show _ ≠ _; simp; omega) | (exact Or.inl ⟨by decide, by decide⟩) | (exact Or.inr ⟨by decide, by decide⟩) | (show _ < _; decide) | (show _ ≤ _; decide))
local macro_rules | `(tactic| walk_at "at") => `(tactic| first | rfl | (refine atI_intV ?_ ?_ <;> omega) | assumption)
local macro_rules | `(tactic| walk_at "s1") => `(tactic| first
  | refine ⟨_, rfl, ?_⟩ | refine ⟨_, _, rfl, rfl, ?_⟩ | refine ⟨rfl, ?_⟩
  | refine ⟨_, _, _, _, rfl, rfl, by walk_at "sq", by walk_at "at", ?_⟩
  | refine Or.inl ⟨_, rfl, ?_⟩
  | refine ⟨_, _, rfl, Or.inl (by walk_at "sq"), ?_⟩
  | refine And.intro (by walk_at "sd") ?_)
local macro_rules | `(tactic| walk_at "s") => `(tactic| repeat walk_at "s1")

def foN (ths : List (Nat × Nat)) (s m : Nat) : List Nat := fo ths (numsN m ths.length).length s (numsN m ths.length)
def spFirstO (K : PySem.W.Frag) : Sp := fun vs H Q _ => ∃ (a : Addr) (ths : List (Nat × Nat)) (s m : Nat), vs = [.int (s : Int), .ref a, .int (m : Int)] ∧ ThK K H a ths ∧ m < 2 ^ ths.length ∧ ∀ H' p, Same H H' → SqT K H' p (intV (foN ths s m)) → Q (.ref p) H'
theorem fo_step {ths : List (Nat × Nat)} {s x : Nat} {ns : List Nat} (hf : ns.find? (fun y => TT ths (lb s (th ths y)) (ns.erase y) == TT ths s ns) = some x) : fo ths ns.length s ns = x :: fo ths (ns.erase x).length (lb s (th ths x)) (ns.erase x) := by
  have hx : x ∈ ns := List.mem_of_find?_eq_some hf
  obtain ⟨f, hl⟩ : ∃ f, ns.length = f + 1 := ⟨ns.length - 1, by have := List.length_pos_of_mem hx; omega⟩
  rw [List.length_erase_of_mem hx, hl]
  show (match ns.find? fun x => TT ths (lb s (th ths x)) (ns.erase x) == TT ths s ns with
    | some x => x :: fo ths f (lb s (th ths x)) (ns.erase x)
    | none => []) = _
  rw [hf]
  rfl
theorem nums_len {m n : Nat} : (numsN m n).length ≤ n := Nat.le_trans (List.length_filter_le _ _) (by rw [List.length_range]; exact Nat.le_refl _)
theorem tab_at {ths : List (Nat × Nat)} {s m : Nat} (h : m < 2 ^ ths.length) : atI (intV (tabT ths s (2 ^ ths.length - 1))) (m : Int) = some (.int ((TT ths s (numsN m ths.length) : Nat) : Int)) := by
  have hlen : (tabT ths s (2 ^ ths.length - 1)).length = 2 ^ ths.length := by unfold tabT; rw [List.length_map, List.length_range]; omega
  refine atI_nat ?_
  unfold intV
  rw [List.getElem?_map, List.getElem?_eq_getElem (by omega)]
  have := tab_get (ths := ths) (s := s) (j := 2 ^ ths.length - 1) (m := m) (by omega)
  rw [List.getD_eq_getElem?_getD, List.getElem?_eq_getElem (by omega)] at this
  show some (V.int _) = _
  rw [← this]
  rfl
section
variable {P : Program} {w : World} {K : PySem.W.Frag} {mg : Str → Option Value} {base : Heap} {A : Ads}
theorem ok_first_order (T : Txt K mg A) : FnOk P w K mg base CX0 5 A.a_first_order A.d_first_order ["start", "things", "chosen"] (spFirstO K) := by
  refine T.F_first_order.ok sc_first_order (fun vs H Q E h => ?_) (fun cdv B outer s H vs Q E hr h => ?_)
  · obtain ⟨a, ths, s0, m, rfl, _⟩ := h
    rfl
  · obtain ⟨a, ths, s0, m, rfl, ht, hm, q⟩ := h
    refine ⟨_, (pss_cons (ps_set (i := 3) sc_first_order.nd rfl (.inl rfl) (pe_ix ix_list (pe_call (ok_least_ends T) (hr.mono (by omega)) rfl T.g_least_ends T.F_least_ends.kp T.b_least_ends .nil pass0 (pa_cons (pv 0) (pa_cons (pv 1) pa_nil))) (pv 2) (fun _ _ => rfl)))
    (pss_cons (ps_set (i := 4) sc_first_order.nd rfl (.inl rfl) (pe_tup pa_nil))
    (pss_cons (ps_set (i := 5) sc_first_order.nd rfl (.inl rfl) (pv 0))
    (pss_cons (ps_while PassesOwn.never (pt_cmpR op_gt (pv 2) pe_int (nomark _)) (pss_cons (ps_for PassesOwn.never rfl (pi_list (pe_call (ok_numbers_in T) (hr.mono (by omega)) rfl T.g_numbers_in T.F_numbers_in.kp T.b_numbers_in .nil pass0 (pa_cons (pv 2) (pa_cons (pe_callB len_seq (by rfl) T.n_len (by decide +kernel) (pa_cons (pv 1) pa_nil)) pa_nil)))) (pg_name (i := 6) sc_first_order.nd rfl (.inl rfl))
      (pss_cons (ps_set (i := 7) sc_first_order.nd rfl (.inl rfl) (pe_call (ok_laid_behind T) (hr.mono (by omega)) rfl T.g_laid_behind T.F_laid_behind.kp T.b_laid_behind .nil pass0 (pa_cons (pv 5) (pa_cons (pe_ix ix_tup (pv 1) (pv 6) (fun _ _ => rfl)) pa_nil))))
    (pss_one (ps_if (pt_cmpR op_eq (pe_ix ix_list (pe_call (ok_least_ends T) (hr.mono (by omega)) rfl T.g_least_ends T.F_least_ends.kp T.b_least_ends .nil pass0 (pa_cons (pv 7) (pa_cons (pv 1) pa_nil))) (pe_op op_sub (pv 2) (pe_op op_oneShl pe_int (pv 6))) (fun _ _ => rfl)) (pv 3) (nomark _)) (pss_one ps_break) pss_nil))))
    (pss_cons (ps_set (i := 4) sc_first_order.nd rfl (.inl rfl) (pe_op op_catA (pv 4) (pe_tup (pa_cons (pv 6) pa_nil))))
    (pss_cons (ps_set (i := 5) sc_first_order.nd rfl (.inl rfl) (pv 7))
    (pss_one (ps_aug (i := 2) sc_first_order.nd rfl (.inl rfl) (pe_op op_oneShl pe_int (pv 6)) ip_sub))))))
    (pss_one (ps_ret (pv 4))))))), ?_⟩
    have ht0 := ht
    obtain ⟨⟨xs, hx, hxl, hxe⟩, h7, hgood⟩ := ht
    walk_at "s"
    refine ⟨a, ths, s0, rfl, ht0, fun H1 l s1 nl el => ?_⟩
    refine ⟨_, rfl, l, _, _, _, rfl, rfl, SqL.of el, tab_at hm, ?_⟩
    refine ⟨lenOk (n := 0) rfl (by decide), fun p0 n0 => ?_⟩
    generalize hH2 : upd H1 p0 _ = H2
    have s2 : Same H H2 := by rw [← hH2]; exact s1.trans (same_new n0)
    have f2 : SqT K H2 p0 (intV []) := by rw [← hH2]; exact SqT.of upd_same
    clear hH2 n0 s1 el nl
    refine ⟨_, rfl, ?_⟩
    generalize hleast : TT ths s0 (numsN m ths.length) = least
    refine ⟨fun m' σ Hc => ∃ po O e o6 o7, σ = [some (.int (s0 : Int)), some (.ref a), some (.int (m' : Int)), some (.int (least : Int)), some (.ref po), some (.int ((e : Nat) : Int)), o6, o7] ∧ Same H Hc ∧ m' < 2 ^ ths.length ∧ SqT K Hc po (intV O) ∧ TT ths e (numsN m' ths.length) = least ∧ O ++ foN ths e m' = foN ths s0 m ∧ O.length + (numsN m' ths.length).length ≤ 7, ⟨m, p0, [], s0, _, _, rfl, s2, hm, f2, hleast, rfl, by rw [List.length_nil]; have := nums_len (m := m) (n := ths.length); omega⟩, fun m' σ Hc y => ?_⟩
    obtain ⟨po, O, e, o6, o7, rfl, sm, hm', fo', hT, hO, hl7⟩ := y
    refine ⟨_, rfl, _, _, rfl, rfl, _, rfl, ite2 (fun c0 => ?_) (fun c0 => ?_)⟩
    · have hm0 : 0 < m' := by
        have : (0 : Int) < (m' : Int) := of_decide_eq_true c0
        omega
      refine ⟨_, fun σ' H' z => z, ?_⟩
      refine ⟨_, rfl, _, rfl, a, xs, rfl, .inr (sqT_up hx sm), m', xs.length, rfl, by omega, fun H3 l3 s3 n3 e3 => ?_⟩
      rw [hxl] at e3
      have hne := numsN_ne hm0 hm'
      have hoff := fun k (hk : k ∈ numsN m' ths.length) => numsN_off hk
      have hpw := fun k (hk : k ∈ numsN m' ths.length) => pow_le_of hk
      have hnl : ∀ k ∈ numsN m' ths.length, k < ths.length := fun k hk => List.mem_range.mp (List.mem_filter.mp hk).1
      have hfo : foN ths e m' = fo ths (numsN m' ths.length).length e (numsN m' ths.length) := rfl
      generalize hN : numsN m' ths.length = nums at *
      have hll : (intV nums).length = nums.length := List.length_map ..
      refine ⟨l3, rfl, ⟨_, SqL.of e3⟩, for_it (walk_list (K := K) (a := l3) (xs := intV nums)) (fun i σ Hd => ∃ o6 o7, σ = [some (.int (s0 : Int)), some (.ref a), some (.int (m' : Int)), some (.int (least : Int)), some (.ref po), some (.int ((e : Nat) : Int)), o6, o7] ∧ Same H3 Hd ∧ ∀ j (hj : j < i) (hj2 : j < nums.length), TT ths (lb e (th ths nums[j])) (nums.erase nums[j]) ≠ least) ⟨_, _, rfl, Same.refl _, fun j hj => absurd hj (Nat.not_lt_zero j)⟩ (fun i σ Hd _ y => ?_) (fun i x σ Hd He hi y ee => ?_) (fun σ Hd y => ?_)⟩
      · obtain ⟨_, _, _, sn, _⟩ := y
        exact SqL.of (sn _ _ e3)
      · obtain ⟨o6, o7, rfl, sn, hno⟩ := y
        obtain ⟨rfl, ex⟩ := ee
        rw [hll] at hi
        have hxe2 : (intV nums)[i]? = some (.int ((nums[i] : Nat) : Int)) := by
          unfold intV
          rw [List.getElem?_map, List.getElem?_eq_getElem hi]
          rfl
        rw [hxe2] at ex
        cases ex
        have hk : nums[i] ∈ nums := List.getElem_mem hi
        have hkl := hnl _ hk
        have hkp := hpw _ hk
        have h2k : 0 < 2 ^ nums[i] := Nat.two_pow_pos _
        obtain ⟨pt, ep1, ep2⟩ := hxe nums[i] (th ths nums[i]) (by unfold th; rw [List.getD_eq_getElem?_getD, List.getElem?_eq_getElem hkl]; rfl)
        have hg := hgood (th ths nums[i]) (by unfold th; rw [List.getD_eq_getElem?_getD, List.getElem?_eq_getElem hkl]; exact List.getElem_mem hkl)
        have st := (sm.trans s3).trans sn
        refine ⟨_, rfl, _, rfl, _, rfl, a, xs, _, _, rfl, rfl, sqT_up hx st, atI_nat ep1, e, pt, th ths nums[i], rfl, st _ _ ep2, hg.1, hg.2, ?_⟩
        refine ⟨_, rfl, _, rfl, a, ths, lb e (th ths nums[i]), rfl, ht0.up st, fun H4 l4 s4 n4 e4 => ?_⟩
        have hsub : (m' : Int) - 2 ^ nums[i] = ((m' - 2 ^ nums[i] : Nat) : Int) := by
          have : ((2 : Int) ^ nums[i]) = ((2 ^ nums[i] : Nat) : Int) := by rw [Int.natCast_pow]; rfl
          rw [this]
          omega
        have hat := tab_at (ths := ths) (s := lb e (th ths nums[i])) (m := m' - 2 ^ nums[i]) (by omega)
        rw [hoff _ hk] at hat
        rw [← hsub] at hat
        refine ⟨_, rfl, _, rfl, nums[i], rfl, rfl, by omega, _, _, rfl, rfl, l4, _, _, _, rfl, rfl, SqL.of e4, hat, _, rfl, rfl, _, rfl, ifB (fun c => ?_) (fun c => ?_)⟩
        · have hc : TT ths (lb e (th ths nums[i])) (nums.erase nums[i]) = least := by
            have := V.int.inj (of_decide_eq_true c)
            omega
          have hfd : nums.find? (fun y => TT ths (lb e (th ths y)) (nums.erase y) == TT ths e nums) = some nums[i] := by
            rw [List.find?_eq_some_iff_getElem]
            refine ⟨by rw [hc, hT]; exact beq_self_eq_true _, i, hi, rfl, fun j hj => ?_⟩
            have := hno j hj (by omega)
            rw [hT]
            exact Bool.not_eq_true' _ |>.mpr (beq_false_of_ne this)
          have hstep := fo_step hfd
          refine ⟨_, rfl, _, rfl, lenOk (n := 1) rfl (by decide), fun pq npq => catA_of (sqT_up fo' (((s3.trans sn).trans s4).trans (same_new npq))) (SqT.of upd_same) (by unfold intV; rw [List.length_map]; show O.length + 1 ≤ 100000; omega) fun pn H5 s5 fp => ?_⟩
          have fp2 : SqT K H5 pn (intV (O ++ [nums[i]])) := by
            unfold intV at fp ⊢
            rw [List.map_append]
            exact fp
          have hxl7 : (nums.erase nums[i]).length = nums.length - 1 := List.length_erase_of_mem hk
          have hnp : 0 < nums.length := by omega
          have hle7 : nums[i] ≤ 7 := by omega
          have hnl7 : nums.length ≤ 7 := by omega
          have hcx : ∀ y : Nat, y ≤ 7 → y ≤ 134217727 := fun y hy => by omega
          refine ⟨_, rfl, _, rfl, _, rfl, nums[i], rfl, rfl, hcx _ hle7, _, _, rfl, rfl, ?_⟩
          refine ⟨m' - 2 ^ nums[i], by omega, pn, O ++ [nums[i]], lb e (th ths nums[i]), _, _, by rw [← hsub]; rfl, (((sm.trans s3).trans sn).trans s4).trans ((same_new npq).trans s5), by omega, fp2, ?_, ?_, ?_⟩
          · rw [hoff _ hk]
            exact hc
          · have e2 : foN ths (lb e (th ths nums[i])) (m' - 2 ^ nums[i]) = fo ths (nums.erase nums[i]).length (lb e (th ths nums[i])) (nums.erase nums[i]) := by
              unfold foN
              rw [hoff _ hk]
            rw [e2, ← hO, hfo, hstep, List.append_assoc]
            rfl
          · rw [hoff _ hk, hxl7, List.length_append]
            show O.length + 1 + (nums.length - 1) ≤ 7
            omega
        · have hc : ¬ TT ths (lb e (th ths nums[i])) (nums.erase nums[i]) = least := fun z => of_decide_eq_false c (by rw [z])
          refine ⟨_, _, rfl, sn.trans s4, fun j hj hj2 => ?_⟩
          rcases Nat.lt_or_ge j i with z | z
          · exact hno j z hj2
          · have : j = i := by omega
            subst this
            exact hc
      · obtain ⟨o6, o7, rfl, sn, hno⟩ := y
        obtain ⟨x, hx1, hx2⟩ := TT_first (ths := ths) (s := e) hne
        obtain ⟨j, hj, rfl⟩ := List.getElem_of_mem hx1
        exact absurd (hx2.trans hT) (hno j (by omega) hj)
    · have hm0 : m' = 0 := by
        have : ¬ (0 : Int) < (m' : Int) := fun z => c0 (decide_eq_true z)
        omega
      subst hm0
      have he : foN ths e 0 = [] := by
        unfold foN
        rw [numsN_zero]
        rfl
      rw [he, List.append_nil] at hO
      rw [← hO] at q
      exact ⟨_, rfl, q _ po sm fo'⟩
end
end R1

namespace R1
open PySem PySem.Spec PyProof.Rows L2 RK PT
local macro_rules | `(tactic| walk_at "sq") => `(tactic| first
  | exact SqL.of upd_same | exact upd_same | exact SqL.of (by assumption) | exact SqL.of (by rw [upd_ne (by assumption)]; assumption) | assumption)
local macro_rules | `(tactic| walk_at "sd") => `(tactic| first
  | assumption | omega | (refine Or.inl ⟨?_, ?_⟩ <;> omega) | (show _ ∧ _; constructor <;> omega) | (show _ ≠ _; simp; omega) | (exact Or.inl ⟨by decide, by decide⟩) | (exact Or.inr ⟨by decide, by decide⟩) | (show _ < _; decide) | (show _ ≤ _; decide))
local macro_rules | `(tactic| walk_at "at") => `(tactic| first | rfl | (refine atI_intV ?_ ?_ <;> omega) | assumption)
local macro_rules | `(tactic| walk_at "s1") => `(tactic| first
  | refine ⟨_, rfl, ?_⟩ | refine ⟨_, _, rfl, rfl, ?_⟩ | refine ⟨rfl, ?_⟩
  | refine ⟨_, _, _, _, rfl, rfl, by walk_at "sq", by walk_at "at", ?_⟩
  | refine Or.inl ⟨_, rfl, ?_⟩
  | refine ⟨_, _, rfl, Or.inl (by walk_at "sq"), ?_⟩
  | refine And.intro (by walk_at "sd") ?_)
local macro_rules | `(tactic| walk_at "s") => `(tactic| repeat walk_at "s1")

def spIsNum : Sp := fun vs H Q _ => ∃ i : Int, vs = [.int i] ∧ Q (.bl true) H
def spThings (K : PySem.W.Frag) : Sp := fun vs H Q _ => ∃ (c p : Addr) (n : Nat), vs = [.ref p, .int (n : Int)] ∧ Src c H p ∧ n ≤ 7 ∧ ∀ H' a ths, ths.length = n → ThK K H' a ths → Src c H' p → But p H H' → Q (.ref a) H'
def spEnd (K : PySem.W.Frag) : Sp := fun vs H Q _ => ∃ (a po : Addr) (ths : List (Nat × Nat)) (s : Nat) (o : List Nat), vs = [.int (s : Int), .ref a, .ref po] ∧ ThK K H a ths ∧ SqT K H po (intV o) ∧ (∀ k ∈ o, k < ths.length) ∧ Q (.int ((endf ths s o : Nat) : Int)) H
def RowsK (H : Hp) (xs : List V) (ths : List (Nat × Nat)) : Prop := xs.length = ths.length ∧ ∀ (k : Nat) (t : Nat × Nat), ths[k]? = some t → ∃ p : Addr, xs[k]? = some (V.ref p) ∧ H p = some (.tup [.int (t.1 : Int), .int (t.2 : Int)])
theorem RowsK.up {H H' : Hp} {xs : List V} {ths : List (Nat × Nat)} (h : RowsK H xs ths) (e : ∀ p o, H p = some (.tup o) → H' p = some (.tup o)) : RowsK H' xs ths := ⟨h.1, fun k t ht => let ⟨p, a, b⟩ := h.2 k t ht; ⟨p, a, e _ _ b⟩⟩
theorem src_tup {c p b : Addr} {H H' : Hp} {o : List V} (h : Src c H p) (bt : But p H H') (e : H b = some (.tup o)) : H' b = some (.tup o) := bt _ _ (fun z => by
  obtain ⟨_, _, _, _, _, y, _⟩ := h
  rw [← z, e] at y
  cases y) e
section
variable {P : Program} {w : World} {K : PySem.W.Frag} {mg : Str → Option Value} {base : Heap} {A : Ads}
theorem ok_law_is_number (T : Txt K mg A) : FnOk P w K mg base CX0 1 A.a_law_is_number A.d_law_is_number ["_law_thing"] spIsNum := by
  refine T.F_law_is_number.ok sc_law_is_number (fun vs H Q E h => ?_) (fun cdv B outer s H vs Q E hr h => ?_)
  · obtain ⟨i, rfl, _⟩ := h
    rfl
  · obtain ⟨i, rfl, q⟩ := h
    refine ⟨_, (pss_one (ps_ret (pe_and (pe_callB call_isi (by rfl) T.n_isinstance (by decide +kernel) (pa_cons (pv 0) (pa_cons (pe_bltn (v := .ty "int") (u := .type "int") (by rfl) T.n_int (by decide +kernel) rfl) pa_nil))) (pe_one (pe_not (pe_callB call_isi (by rfl) T.n_isinstance (by decide +kernel) (pa_cons (pv 0) (pa_cons (pe_bltn (v := .ty "bool") (u := .type "bool") (by rfl) T.n_bool (by decide +kernel) rfl) pa_nil)))))))), ?_⟩
    refine ⟨_, rfl, .int i, .ty "int", _, _, _, rfl, .ty "int", dp_ty (K := K) (.int i), kit_ty (kitT _ (dp_tn (K := K) (H := H) (.int i)) "int" (by decide)), _, rfl, ?_⟩
    refine ifT rfl ⟨_, rfl, .int i, .ty "bool", _, _, _, rfl, .ty "bool", dp_ty (K := K) (.int i), kit_ty (kitT _ (dp_tn (K := K) (H := H) (.int i)) "bool" (by decide)), _, rfl, q⟩
theorem ok_law_end (T : Txt K mg A) : FnOk P w K mg base CX0 1 A.a_law_end A.d_law_end ["_law_start", "_law_things_here", "_law_order"] (spEnd K) := by
  refine T.F_law_end.ok sc_law_end (fun vs H Q E h => ?_) (fun cdv B outer s H vs Q E hr h => ?_)
  · obtain ⟨a, po, ths, s, o, rfl, _⟩ := h
    rfl
  · obtain ⟨a, po, ths, s0, o, rfl, ht, ho, hk, q⟩ := h
    refine ⟨_, (pss_cons (ps_set (i := 3) sc_law_end.nd rfl (.inl rfl) (pv 0))
    (pss_cons (ps_for PassesOwn.never rfl (pi_tup (pv 2)) (pg_name (i := 4) sc_law_end.nd rfl (.inl rfl))
      (pss_cons (ps_set (i := 5) sc_law_end.nd rfl (.inl rfl) (pe_ix ix_tup (pe_ix ix_tup (pv 1) (pv 4) (fun _ _ => rfl)) pe_int (fun _ _ => rfl)))
    (pss_one (ps_set (i := 3) sc_law_end.nd rfl (.inl rfl) (pe_op op_add (pe_op op_mul (pe_op op_fdivN (pe_op op_sub (pe_op op_add (pv 3) (pv 5)) pe_int) (pv 5)) (pv 5)) (pe_ix ix_tup (pe_ix ix_tup (pv 1) (pv 4) (fun _ _ => rfl)) pe_int (fun _ _ => rfl)))))))
    (pss_one (ps_ret (pv 3))))), ?_⟩
    obtain ⟨⟨xs, hx, hxl, hxe⟩, h7, hgood⟩ := ht
    have hnl : (intV o).length = o.length := List.length_map ..
    walk_at "s"
    refine ⟨⟨_, ho⟩, for_it (walk_tup (K := K) (a := po) (xs := intV o)) (fun i σ Hc => ∃ o4 o5, σ = [some (.int (s0 : Int)), some (.ref a), some (.ref po), some (.int ((endf ths s0 (o.take i) : Nat) : Int)), o4, o5] ∧ Hc = H) ⟨_, _, rfl, rfl⟩ (fun i σ Hc _ y => ?_) (fun i x σ Hc Hd hi y e => ?_) (fun σ Hc y => ?_)⟩
    · obtain ⟨_, _, _, rfl⟩ := y
      exact ho
    · obtain ⟨o4, o5, rfl, rfl⟩ := y
      obtain ⟨rfl, ex⟩ := e
      rw [hnl] at hi
      have hx2 : (intV o)[i]? = some (.int ((o[i] : Nat) : Int)) := by
        unfold intV
        rw [List.getElem?_map, List.getElem?_eq_getElem hi]
        rfl
      rw [hx2] at ex
      cases ex
      have hkl := hk _ (List.getElem_mem hi)
      have htk : endf ths s0 (o.take (i + 1)) = lb (endf ths s0 (o.take i)) (th ths o[i]) := by
        rw [List.take_add_one, List.getElem?_eq_getElem hi]
        exact endf_snoc
      generalize o[i] = k at *
      obtain ⟨pt, ep1, ep2⟩ := hxe k (th ths k) (by unfold th; rw [List.getD_eq_getElem?_getD, List.getElem?_eq_getElem hkl]; rfl)
      have hg := hgood (th ths k) (by unfold th; rw [List.getD_eq_getElem?_getD, List.getElem?_eq_getElem hkl]; exact List.getElem_mem hkl)
      generalize endf ths s0 (o.take i) = e0 at *
      refine ⟨_, rfl, _, rfl, a, xs, _, _, rfl, rfl, hx, atI_nat ep1, pt, _, 1, _, rfl, rfl, SqT.of ep2, atI_nat (j := 1) rfl, ?_⟩
      walk_at "s"
      refine ⟨.inr ⟨by omega, by omega⟩, ?_⟩
      refine ⟨_, rfl, _, rfl, a, xs, _, _, rfl, rfl, hx, atI_nat ep1, pt, _, 0, _, rfl, rfl, SqT.of ep2, atI_nat (j := 0) rfl, ?_⟩
      refine ⟨_, _, rfl, rfl, some (.int (k : Int)), some (.int (((th ths k).2 : Nat) : Int)), ?_, rfl⟩
      rw [htk]
      have e1 : (((e0 : Int) + ((th ths k).2 : Int) - 1).fdiv ((th ths k).2 : Int)) * ((th ths k).2 : Int) + ((th ths k).1 : Int) = ((lb e0 (th ths k) : Nat) : Int) := by
        unfold lb alN
        rw [show (e0 : Int) + ((th ths k).2 : Int) - 1 = ((e0 + (th ths k).2 - 1 : Nat) : Int) by omega, Int.fdiv_eq_ediv_of_nonneg _ (by omega), Int.natCast_add, Int.natCast_mul, Int.natCast_ediv]
      rw [← e1]
      rfl
    · obtain ⟨o4, o5, rfl, rfl⟩ := y
      rw [hnl, List.take_length]
      exact ⟨_, rfl, q⟩
theorem ok_law_things (T : Txt K mg A) : FnOk P w K mg base CX0 2 A.a_law_things A.d_law_things ["_law_source_here", "_law_count"] (spThings K) := by
  refine T.F_law_things.ok sc_law_things (fun vs H Q E h => ?_) (fun cdv B outer s H vs Q E hr h => ?_)
  · obtain ⟨c, p, n, rfl, _⟩ := h
    rfl
  · obtain ⟨c, p, n, rfl, hs, hn, q⟩ := h
    refine ⟨_, (pss_cons (ps_set (i := 2) sc_law_things.nd rfl (.inl rfl) (pe_ix ix_tup (pe_tup (pa_cons pe_int (pa_cons pe_int (pa_cons pe_int pa_nil)))) (pe_call (ok_law_draw T) (hr.mono (by omega)) rfl T.g_law_draw T.F_law_draw.kp T.b_law_draw .nil pass0 (pa_cons (pv 0) (pa_cons pe_int pa_nil))) (fun _ _ => rfl)))
    (pss_cons (ps_set (i := 3) sc_law_things.nd rfl (.inr rfl) (pe_lst pa_nil))
    (pss_cons (ps_for PassesOwn.never rfl (pi_range1 (by rfl) T.n_range (pa_cons (pv 1) pa_nil)) (pg_name (i := 4) sc_law_things.nd rfl (.inl rfl))
      (pss_cons (ps_set (i := 5) sc_law_things.nd rfl (.inl rfl) (pe_call (ok_law_draw T) (hr.mono (by omega)) rfl T.g_law_draw T.F_law_draw.kp T.b_law_draw .nil pass0 (pa_cons (pv 0) (pa_cons (pv 2) pa_nil))))
    (pss_one (ps_expr (pe_bm PySem.F.plainAttrs_list PySem.F.slot_list_append PySem.F.type_list_append mt_append (pv 3) (pa_cons (pe_tup (pa_cons (pv 5) (pa_cons (pe_ix ix_tup (pe_tup (pa_cons pe_int (pa_cons pe_int (pa_cons pe_int (pa_cons pe_int (pa_cons pe_int pa_nil)))))) (pe_call (ok_law_draw T) (hr.mono (by omega)) rfl T.g_law_draw T.F_law_draw.kp T.b_law_draw .nil pass0 (pa_cons (pv 0) (pa_cons pe_int pa_nil))) (fun _ _ => rfl)) pa_nil))) pa_nil))))))
    (pss_cons (ps_if (PW.pt (pw_and (pt_cmpR op_gt (pv 1) pe_int (nomark _)) (pw_and1 (pt_cmpR op_eq (pe_call (ok_law_draw T) (hr.mono (by omega)) rfl T.g_law_draw T.F_law_draw.kp T.b_law_draw .nil pass0 (pa_cons (pv 0) (pa_cons pe_int pa_nil))) pe_int (nomark _))))) (pss_one (ps_set (i := 3) sc_law_things.nd rfl (.inr rfl) (pe_op op_cat (pe_lc (own := [("_law_k", 4)]) rfl sc_law_things.nd (pi_range1 (by rfl) T.n_range (pa_cons (pe_op op_sub (pv 1) pe_int) pa_nil)) (blkOk_by (own := [("_law_k", 4)]) (N := N_law_things) (sc := defScope s_law_things) (by decide +kernel)) (fun _ _ _ _ _ => pg_name (i := 4) sc_law_things.nd rfl (Or.inl rfl)) (fun _ _ _ _ _ => pts_nil) (fun _ _ _ _ _ => by exact (pe_ix (r := rIxL K) ix_list (pv 3) pe_int (fun _ _ => rfl)))) (pe_lst (pa_cons (pe_ix ix_list (pv 3) (pe_op op_sub (pv 1) pe_int) (fun _ _ => rfl)) pa_nil))))) pss_nil)
    (pss_one (ps_ret (pe_callTy tuple_of (by rfl) T.n_tuple (by decide +kernel) (pa_cons (pv 3) pa_nil)))))))), ?_⟩
    walk_at "s"
    intro tp ntp
    have s1 := same_new (o := .tup [V.int 10, V.int 10, V.int 121]) ntp
    refine ⟨_, rfl, c, p, 3, rfl, src_up hs s1, by decide, by decide, fun H2 k lk hs2 b2 => ?_⟩
    obtain ⟨b, hb0, hb1, hat⟩ : ∃ b : Nat, 0 < b ∧ b ≤ 121 ∧ atI [V.int 10, V.int 10, V.int 121] (k : Int) = some (.int (b : Int)) := by
      match k, lk with
      | 0, _ => exact ⟨10, by decide, by decide, rfl⟩
      | 1, _ => exact ⟨10, by decide, by decide, rfl⟩
      | 2, _ => exact ⟨121, by decide, by decide, rfl⟩
      | n + 3, h => exact absurd h (by omega)
    have tp2 := src_tup (src_up hs s1) b2 (show (upd H tp (.tup [V.int 10, V.int 10, V.int 121])) tp = some (.tup [V.int 10, V.int 10, V.int 121]) from upd_same)
    refine ⟨_, _, _, _, rfl, rfl, SqT.of tp2, hat, ?_⟩
    have b12 := (But.of (p := p) s1).trans b2
    clear tp2 b2 s1 hs ntp
    walk_at "s"
    intro D nD
    have hDp : D ≠ p := fun z => by rw [z] at nD; exact src_ne hs2 nD
    have hDc : D ≠ c := fun z => by rw [z] at nD; exact src_cne hs2 nD
    have hHD : H D = none := by
      cases hh : H D with
      | none => rfl
      | some o => rw [b12 _ _ hDp hh] at nD; cases nD
    generalize hH3 : upd H2 D _ = H3
    have s3 : Same H2 H3 := by rw [← hH3]; exact same_new nD
    have e3 : H3 D = some (.lst []) := by rw [← hH3]; exact upd_same
    clear hH3
    have hs3 := src_up hs2 s3
    have b13 := b12.trans (But.of s3)
    clear s3 hs2 b12 lk hat
    refine ⟨_, rfl, (n : Int), rfl, by omega, by omega, ?_⟩
    rw [Int.toNat_natCast]
    refine for_it (walk_range (lo := 0) (n := n)) (fun i σ Hc => ∃ xs ths o4 o5, σ = [some (.ref p), some (.int (n : Int)), some (.int (b : Int)), some (.ref D), o4, o5] ∧ Src c Hc p ∧ But p H Hc ∧ Hc D = some (.lst xs) ∧ RowsK Hc xs ths ∧ ths.length = i ∧ ∀ t ∈ ths, 1 ≤ t.2 ∧ t.2 ≤ 16) ⟨[], [], _, _, rfl, hs3, b13, e3, ⟨rfl, fun k t h => by cases h⟩, rfl, fun t h => by cases h⟩ (fun _ _ _ _ _ => trivial) (fun i x σ H7 H8 hi y e => ?_) (fun σ H7 y => ?_)
    · obtain ⟨rfl, rfl⟩ := e
      obtain ⟨xs, ths, o4, o5, rfl, hs4, b4, e4, hr4, hl4, hg4⟩ := y
      refine ⟨_, rfl, _, rfl, c, p, b, rfl, hs4, by omega, by omega, fun H5 sz lsz hs5 b5 => ?_⟩
      have e5 := b5 _ _ hDp e4
      refine ⟨_, rfl, .inl ⟨rfl, _, SqL.of e5⟩, _, rfl, lenOk (n := 5) rfl (by decide), fun tq ntq => ?_⟩
      have s6 := same_new (o := .tup [V.int 1, V.int 2, V.int 4, V.int 8, V.int 16]) ntq
      refine ⟨_, rfl, c, p, 5, rfl, src_up hs5 s6, by decide, by decide, fun H6 k5 l5 hs6 b6 => ?_⟩
      obtain ⟨al, ha1, ha2, hat⟩ : ∃ b : Nat, 1 ≤ b ∧ b ≤ 16 ∧ atI [V.int 1, V.int 2, V.int 4, V.int 8, V.int 16] (k5 : Int) = some (.int (b : Int)) := by
        match k5, l5 with
        | 0, _ => exact ⟨1, by decide, by decide, rfl⟩
        | 1, _ => exact ⟨2, by decide, by decide, rfl⟩
        | 2, _ => exact ⟨4, by decide, by decide, rfl⟩
        | 3, _ => exact ⟨8, by decide, by decide, rfl⟩
        | 4, _ => exact ⟨16, by decide, by decide, rfl⟩
        | n + 5, h => exact absurd h (by omega)
      have tq2 := src_tup (src_up hs5 s6) b6 (show (upd H5 tq (.tup [V.int 1, V.int 2, V.int 4, V.int 8, V.int 16])) tq = some (.tup [V.int 1, V.int 2, V.int 4, V.int 8, V.int 16]) from upd_same)
      refine ⟨tq, _, _, _, rfl, rfl, SqT.of tq2, hat, lenOk (n := 2) rfl (by decide), fun tr ntr => ?_⟩
      have e6 := b6 _ _ hDp (s6 _ _ e5)
      have b46 := (b5.trans (But.of s6)).trans b6
      have hr6 : RowsK H6 xs ths := hr4.up fun _ _ h => src_tup hs4 b46 h
      clear hr4 e4 e5 tq2 hat s6 b5 b6 hs5 hs4 ntq
      have hDr : tr ≠ D := fun z => by rw [z, e6] at ntr; cases ntr
      refine ⟨D, xs, V.ref tr, rfl, rfl, (same_new ntr) _ _ e6, ?_, xs ++ [V.ref tr], ths ++ [(sz, al)], _, _, rfl, src_put (src_up hs6 (same_new ntr)) hDp hDc, but_new ((b4.trans b46).trans (But.of (same_new ntr))) hHD, upd_same, ⟨?_, fun k t ht => ?_⟩, ?_, fun t ht => ?_⟩
      · rw [hr6.1, hl4]
        exact Nat.lt_of_lt_of_le (show i < 100 by omega) (by decide)
      · rw [List.length_append, List.length_append, hr6.1]
        rfl
      · rcases Nat.lt_or_ge k ths.length with z | z
        · rw [List.getElem?_append_left z] at ht
          obtain ⟨pk, a1, a2⟩ := hr6.2 k t ht
          refine ⟨pk, ?_, ?_⟩
          · rw [List.getElem?_append_left (by rw [hr6.1]; exact z)]
            exact a1
          · rw [upd_ne (fun y => by rw [y, e6] at a2; cases a2)]
            exact (same_new ntr) _ _ a2
        · rw [List.getElem?_append_right z] at ht
          have hk0 : k - ths.length = 0 := by
            rcases Nat.eq_zero_or_pos (k - ths.length) with y | y
            · exact y
            · rw [List.getElem?_eq_none (by show 1 ≤ _; omega)] at ht
              cases ht
          rw [hk0] at ht
          cases ht
          refine ⟨tr, ?_, ?_⟩
          · rw [List.getElem?_append_right (by rw [hr6.1]; exact z), hr6.1, hk0]
            rfl
          · rw [upd_ne hDr]
            exact upd_same
      · rw [List.length_append, hl4]
        rfl
      · rcases List.mem_append.mp ht with z | z
        · exact hg4 t z
        · rw [List.mem_singleton.mp z]
          exact ⟨ha1, ha2⟩
    · obtain ⟨xs, ths, o4, o5, rfl, hs4, b4, e4, hr4, hl4, hg4⟩ := y
      have hxl : xs.length = n := by rw [hr4.1, hl4]
      have fin : ∀ (H9 : Hp) (D9 : Addr) (ys : List V) (t9 : List (Nat × Nat)), Src c H9 p → But p H H9 → H9 D9 = some (.lst ys) → RowsK H9 ys t9 → t9.length = n → (∀ t ∈ t9, 1 ≤ t.2 ∧ t.2 ≤ 16) → ∀ wt, H9 wt = none → Q (.ref wt) (upd H9 wt (.tup ys)) := fun H9 D9 ys t9 hs9 b9 e9 hr9 hl9 hg9 wt hwt =>
        q _ wt t9 hl9 ⟨⟨ys, SqT.of upd_same, hr9.1, (hr9.up fun _ _ h => (same_new hwt) _ _ h).2⟩, by omega, hg9⟩ (src_up hs9 (same_new hwt)) (b9.trans (But.of (same_new hwt)))
      refine ⟨_, rfl, _, _, rfl, rfl, _, rfl, ite2 (fun c1 => ?_) (fun c1 => ?_)⟩
      · have hn1 : 1 < n := by
          have : (1 : Int) < (n : Int) := of_decide_eq_true c1
          omega
        refine ⟨_, rfl, c, p, 3, rfl, hs4, by decide, by decide, fun H8 r lr hs8 b8 => ⟨rfl, _, rfl, ifB (fun c2 => ?_) (fun c2 => ?_)⟩⟩
        · have e8 := b8 _ _ hDp e4
          have hr8 : RowsK H8 xs ths := hr4.up fun _ _ h => src_tup hs4 b8 h
          have h0 : 0 < ths.length := by omega
          have hz : n - 1 < ths.length := by omega
          obtain ⟨p0, x0, g0⟩ := hr8.2 0 ths[0] (List.getElem?_eq_getElem h0)
          obtain ⟨p1, x1, g1⟩ := hr8.2 (n - 1) ths[n - 1] (List.getElem?_eq_getElem hz)
          have q0 := hg4 ths[0] (List.getElem_mem h0)
          have q1 := hg4 ths[n - 1] (List.getElem_mem hz)
          generalize ths[0] = t0 at g0 q0
          generalize ths[n - 1] = t1 at g1 q1
          have hat1 : atI xs ((n : Int) - 1) = some (.ref p1) := by
            rw [show (n : Int) - 1 = ((n - 1 : Nat) : Int) by omega]
            exact atI_nat x1
          refine ⟨_, rfl, _, _, rfl, rfl, (n : Int) - 1, rfl, by omega, by omega, fun D2 nD2 => ?_⟩
          rw [show ((n : Int) - 1).toNat = n - 1 by omega]
          refine lc_vals (walk_range (lo := 0) (n := n - 1)) (fun i v => True) (fun i => .ref p0) nD2 (fun _ _ => trivial) (by omega) (fun i H1 v H2 hi y => ⟨y.1, trivial⟩) (fun i v H9 hi sm hv Q q => ?_) (fun H9 s9 e9 => ?_)
          · exact ⟨_, rfl, D, xs, 0, _, rfl, rfl, SqL.of (sm _ _ e8), atI_nat (j := 0) x0, q _ (Same.refl _)⟩
          refine ⟨_, rfl, _, rfl, _, _, rfl, rfl, D, xs, _, _, rfl, rfl, SqL.of (s9 _ _ e8), hat1, lenOk (n := 1) rfl (by decide), fun D3 nD3 => ?_⟩
          have hly : ((List.range (n - 1)).map fun _ => V.ref p0).length = n - 1 := by rw [List.length_map, List.length_range]
          refine ⟨D2, D3, _, _, rfl, rfl, (same_new nD3) _ _ e9, upd_same, ?_, fun D4 nD4 => ?_⟩
          · rw [hly]
            exact Nat.le_trans (show n - 1 + 1 ≤ 100 by omega) (by decide)
          have sA := s9.trans ((same_new (o := .lst [V.ref p1]) nD3).trans (same_new (o := .lst (((List.range (n - 1)).map fun _ => V.ref p0) ++ [V.ref p1])) nD4))
          have eA : (upd (upd H9 D3 (.lst [V.ref p1])) D4 (.lst (((List.range (n - 1)).map fun _ => V.ref p0) ++ [V.ref p1]))) D4 = some (.lst (((List.range (n - 1)).map fun _ => V.ref p0) ++ [V.ref p1])) := upd_same
          generalize upd (upd H9 D3 (.lst [V.ref p1])) D4 (.lst (((List.range (n - 1)).map fun _ => V.ref p0) ++ [V.ref p1])) = HA at sA eA ⊢
          refine ⟨_, rfl, D4, _, rfl, .inl ⟨SqL.of eA, fun wt hwt => fin HA D4 _ (((List.range (n - 1)).map fun _ => t0) ++ [t1]) (src_up hs8 sA) ((b4.trans b8).trans (But.of sA)) eA ⟨?_, fun k t ht => ?_⟩ ?_ (fun t ht => ?_) wt hwt⟩⟩
          · rw [List.length_append, List.length_append, hly, List.length_map, List.length_range]
            rfl
          · rcases Nat.lt_or_ge k (n - 1) with z | z
            · rw [List.getElem?_append_left (by rw [List.length_map, List.length_range]; exact z), List.getElem?_map, List.getElem?_range z] at ht
              cases ht
              refine ⟨p0, ?_, sA _ _ g0⟩
              rw [List.getElem?_append_left (by rw [hly]; exact z), List.getElem?_map, List.getElem?_range z]
              rfl
            · rw [List.getElem?_append_right (by rw [List.length_map, List.length_range]; exact z), List.length_map, List.length_range] at ht
              have hk0 : k - (n - 1) = 0 := by
                rcases Nat.eq_zero_or_pos (k - (n - 1)) with y | y
                · exact y
                · rw [List.getElem?_eq_none (by show 1 ≤ _; omega)] at ht
                  cases ht
              rw [hk0] at ht
              cases ht
              refine ⟨p1, ?_, sA _ _ g1⟩
              rw [List.getElem?_append_right (by rw [hly]; exact z), hly, hk0]
              rfl
          · rw [List.length_append, List.length_map, List.length_range]
            show n - 1 + 1 = n
            omega
          · rcases List.mem_append.mp ht with z | z
            · obtain ⟨_, _, rfl⟩ := List.mem_map.mp z
              exact q0
            · rw [List.mem_singleton.mp z]
              exact q1
        · have e8 := b8 _ _ hDp e4
          have hr8 : RowsK H8 xs ths := hr4.up fun _ _ h => src_tup hs4 b8 h
          exact ⟨_, rfl, D, _, rfl, .inl ⟨SqL.of e8, fun wt hwt => fin H8 D xs ths hs8 (b4.trans b8) e8 hr8 hl4 hg4 wt hwt⟩⟩
      · refine ifF rfl ?_
        exact ⟨_, rfl, D, _, rfl, .inl ⟨SqL.of e4, fun wt hwt => fin H7 D xs ths hs4 b4 e4 hr4 hl4 hg4 wt hwt⟩⟩
end
end R1

namespace R1
open PySem PySem.Spec PyProof.Rows L2 RK PT
local macro_rules | `(tactic| walk_at "sq") => `(tactic| first
  | exact SqL.of upd_same | exact upd_same | exact SqL.of (by assumption) | exact SqL.of (by rw [upd_ne (by assumption)]; assumption) | assumption)
local macro_rules | `(tactic| walk_at "sd") => `(tactic| first
  | assumption | omega | (refine Or.inl ⟨?_, ?_⟩ <;> omega) | (show _ ∧ _; constructor <;> omega) | (show _ ≠ _; simp; omega) | (exact Or.inl ⟨by decide, by decide⟩) | (exact Or.inr ⟨by decide, by decide⟩) | (show _ < _; decide) | (show _ ≤ _; decide))
local macro_rules | `(tactic| walk_at "at") => `(tactic| first | rfl | (refine atI_intV ?_ ?_ <;> omega) | assumption)
local macro_rules | `(tactic| walk_at "s1") => `(tactic| first
  | refine ⟨_, rfl, ?_⟩ | refine ⟨_, _, rfl, rfl, ?_⟩ | refine ⟨rfl, ?_⟩
  | refine ⟨_, _, _, _, rfl, rfl, by walk_at "sq", by walk_at "at", ?_⟩
  | refine Or.inl ⟨_, rfl, ?_⟩
  | refine ⟨_, _, rfl, Or.inl (by walk_at "sq"), ?_⟩
  | refine And.intro (by walk_at "sd") ?_)
local macro_rules | `(tactic| walk_at "s") => `(tactic| repeat walk_at "s1")

def OrdsK (K : PySem.W.Frag) (H : Hp) (xs : List V) (os : List (List Nat)) : Prop := xs.length = os.length ∧ ∀ (k : Nat) (o : List Nat), os[k]? = some o → ∃ p : Addr, xs[k]? = some (V.ref p) ∧ SqT K H p (intV o)
theorem OrdsK.up {K : PySem.W.Frag} {H H' : Hp} {xs : List V} {os : List (List Nat)} (h : OrdsK K H xs os) (e : Same H H') : OrdsK K H' xs os := ⟨h.1, fun k t ht => let ⟨p, a, b⟩ := h.2 k t ht; ⟨p, a, sqT_up b e⟩⟩
theorem sqT_put {K : PySem.W.Frag} {H : Hp} {D p : Addr} {xs ys zs : List V} (h : SqT K H p xs) (e : H D = some (.lst ys)) : SqT K (upd H D (.lst zs)) p xs := by
  rcases h with (h | ⟨o, h⟩) | h
  · exact .inl (.inl (by rw [upd_ne (fun y => by rw [y, e] at h; cases h)]; exact h))
  · exact .inl (.inr ⟨o, by rw [upd_ne (fun y => by rw [y, e] at h; cases h)]; exact h⟩)
  · exact .inr h
theorem OrdsK.put {K : PySem.W.Frag} {H : Hp} {D : Addr} {xs ys zs : List V} {os : List (List Nat)} (h : OrdsK K H xs os) (e : H D = some (.lst ys)) : OrdsK K (upd H D (.lst zs)) xs os := ⟨h.1, fun k t ht => let ⟨p, a, b⟩ := h.2 k t ht; ⟨p, a, sqT_put b e⟩⟩
theorem OrdsK.snoc {K : PySem.W.Frag} {H : Hp} {xs : List V} {os : List (List Nat)} {p : Addr} {o : List Nat} (h : OrdsK K H xs os) (e : SqT K H p (intV o)) : OrdsK K H (xs ++ [.ref p]) (os ++ [o]) := by
  refine ⟨by rw [List.length_append, List.length_append, h.1]; rfl, fun k t ht => ?_⟩
  rcases Nat.lt_or_ge k os.length with z | z
  · rw [List.getElem?_append_left z] at ht
    obtain ⟨pk, a1, a2⟩ := h.2 k t ht
    exact ⟨pk, by rw [List.getElem?_append_left (by rw [h.1]; exact z)]; exact a1, a2⟩
  · rw [List.getElem?_append_right z] at ht
    have hk0 : k - os.length = 0 := by
      rcases Nat.eq_zero_or_pos (k - os.length) with y | y
      · exact y
      · rw [List.getElem?_eq_none (by show 1 ≤ _; omega)] at ht
        cases ht
    rw [hk0] at ht
    cases ht
    exact ⟨p, by rw [List.getElem?_append_right (by rw [h.1]; exact z), h.1, hk0]; rfl, e⟩
theorem kp_len : ∀ (f : Nat) (ns : List Nat), (kp f ns).length ≤ ns.length ^ f
  | 0, ns => by rw [Nat.pow_zero]; exact Nat.le_refl _
  | f + 1, ns => by
    have : ∀ l : List Nat, (∀ x ∈ l, x ∈ ns) → (l.flatMap fun x => (kp f (ns.erase x)).map (x :: ·)).length ≤ l.length * ns.length ^ f := fun l => by
      induction l with
      | nil => intro _; simp
      | cons x r ih =>
        intro hl
        rw [List.flatMap_cons, List.length_append, List.length_map, List.length_cons, Nat.succ_mul]
        have h1 := kp_len f (ns.erase x)
        have h2 : (ns.erase x).length ^ f ≤ ns.length ^ f := Nat.pow_le_pow_left (by rw [List.length_erase_of_mem (hl x List.mem_cons_self)]; omega) f
        have h3 := ih fun y hy => hl y (List.mem_cons_of_mem _ hy)
        omega
    have h := this ns fun _ z => z
    show (ns.flatMap fun x => (kp f (ns.erase x)).map (x :: ·)).length ≤ _
    rw [Nat.pow_succ, Nat.mul_comm]
    exact h
theorem kp_each : ∀ (f : Nat) (ns : List Nat) (o : List Nat), o ∈ kp f ns → o.length = f
  | 0, ns, o, h => by rw [List.mem_singleton.mp h]; rfl
  | f + 1, ns, o, h => by
    obtain ⟨x, _, h2⟩ := List.mem_flatMap.mp h
    obtain ⟨o', h3, rfl⟩ := List.mem_map.mp h2
    rw [List.length_cons, kp_each f _ o' h3]
theorem inV_nat (k : Nat) (o : List Nat) : inV (.int (k : Int)) (intV o) = o.contains k := by
  unfold inV intV
  rw [List.any_map, Bool.eq_iff_iff, List.any_eq_true, List.contains_iff_mem]
  constructor
  · rintro ⟨x, hx, e⟩
    have : (x : Int) = (k : Int) := by
      have e2 : eqV (.int (x : Int)) (.int (k : Int)) = true := e
      have := of_decide_eq_true e2
      exact this
    have : x = k := by omega
    rw [← this]
    exact hx
  · intro hx
    exact ⟨k, hx, decide_eq_true rfl⟩
theorem int_flat (o : List Nat) : (intV o).all flatV = true := by
  unfold intV
  rw [List.all_map, List.all_eq_true]
  intro x _
  rfl
def spOrders (K : PySem.W.Frag) : Sp := fun vs H Q _ => ∃ (l : Addr) (ns : List Nat), vs = [.ref l] ∧ H l = some (.lst (intV ns)) ∧ ns.Nodup ∧ ns.length ≤ 6 ∧ ∀ H' r xs, Same H H' → H' r = some (.lst xs) → OrdsK K H' xs (kp ns.length ns) → Q (.ref r) H'
section
variable {P : Program} {w : World} {K : PySem.W.Frag} {mg : Str → Option Value} {base : Heap} {A : Ads}
theorem ok_law_orders (T : Txt K mg A) : FnOk P w K mg base CX0 1 A.a_law_orders A.d_law_orders ["_law_numbers"] (spOrders K) := by
  refine T.F_law_orders.ok sc_law_orders (fun vs H Q E h => ?_) (fun cdv B outer s H vs Q E hr h => ?_)
  · obtain ⟨l, ns, rfl, _⟩ := h
    rfl
  · obtain ⟨l, ns, rfl, hl, hnd, hn6, q⟩ := h
    refine ⟨_, (pss_cons (ps_set (i := 1) sc_law_orders.nd rfl (.inl rfl) (pe_lst (pa_cons (pe_tup pa_nil) pa_nil)))
    (pss_cons (ps_for PassesOwn.never rfl (pi_range1 (by rfl) T.n_range (pa_cons (pe_callB len_seq (by rfl) T.n_len (by decide +kernel) (pa_cons (pv 0) pa_nil)) pa_nil)) (pg_name (i := 2) sc_law_orders.nd rfl (.inl rfl))
      (pss_cons (ps_set (i := 3) sc_law_orders.nd rfl (.inl rfl) (pe_lst pa_nil))
    (pss_cons (ps_for PassesOwn.never rfl (pi_list (pe_callTy list_of (by rfl) T.n_list (by decide +kernel) (pa_cons (pv 1) pa_nil))) (pg_name (i := 4) sc_law_orders.nd rfl (.inl rfl))
      (pss_one (ps_for PassesOwn.never rfl (pi_list (pv 0)) (pg_name (i := 5) sc_law_orders.nd rfl (.inl rfl))
      (pss_one (ps_if (pt_cmpR op_notIn_seq (pv 5) (pv 4) (by rfl)) (pss_one (ps_expr (pe_bm PySem.F.plainAttrs_list PySem.F.slot_list_append PySem.F.type_list_append mt_append (pv 3) (pa_cons (pe_op op_catA (pv 4) (pe_tup (pa_cons (pv 5) pa_nil))) pa_nil)))) pss_nil)))))
    (pss_one (ps_set (i := 1) sc_law_orders.nd rfl (.inl rfl) (pv 3))))))
    (pss_one (ps_ret (pv 1))))), ?_⟩
    have hll : (intV ns).length = ns.length := List.length_map ..
    walk_at "s"
    intro t0 n0
    refine ⟨lenOk (n := 1) rfl (by decide), fun F0 nF0 => ?_⟩
    generalize hH1 : upd (upd H t0 _) F0 _ = H1
    have s1 : Same H H1 := by rw [← hH1]; exact (same_new n0).trans (same_new nF0)
    have e1 : H1 F0 = some (.lst [.ref t0]) := by rw [← hH1]; exact upd_same
    have e0 : SqT K H1 t0 (intV []) := by rw [← hH1]; exact SqT.of ((same_new nF0) _ _ upd_same)
    clear hH1 n0 nF0
    refine ⟨_, rfl, l, _, rfl, .inl (SqL.of (s1 _ _ hl)), (((intV ns).length : Nat) : Int), rfl, by omega, by omega, ?_⟩
    rw [Int.toNat_natCast, hll]
    refine for_it (walk_range (lo := 0) (n := ns.length)) (fun i σ Hc => ∃ F xs o2 o3 o4 o5, σ = [some (.ref l), some (.ref F), o2, o3, o4, o5] ∧ Same H Hc ∧ Hc F = some (.lst xs) ∧ OrdsK K Hc xs (kp i ns)) ⟨F0, _, _, _, _, _, rfl, s1, e1, rfl, fun k o ho => ?_⟩ (fun _ _ _ _ _ => trivial) (fun i x σ H7 H8 hi y e => ?_) (fun σ H7 y => ?_)
    · have : k = 0 ∧ o = [] := by
        match k, ho with
        | 0, ho => exact ⟨rfl, (Option.some.inj ho).symm⟩
      rw [this.1, this.2]
      exact ⟨t0, rfl, e0⟩
    · obtain ⟨rfl, rfl⟩ := e
      obtain ⟨F, xs, o2, o3, o4, o5, rfl, sm, eF, hO⟩ := y
      refine ⟨lenOk (n := 0) rfl (by decide), fun D nD => ?_⟩
      have eF2 : (upd H8 D (.lst [])) F = some (.lst xs) := (same_new nD) _ _ eF
      refine ⟨_, rfl, F, xs, rfl, .inl (SqL.of eF2), fun Lc nLc => ?_⟩
      generalize hHa : upd (upd H8 D _) Lc _ = Ha
      have sa : Same H8 Ha := by rw [← hHa]; exact (same_new nD).trans (same_new nLc)
      have eL : Ha Lc = some (.lst xs) := by rw [← hHa]; exact upd_same
      have nLD : Lc ≠ D := fun z => by rw [z, upd_same] at nLc; cases nLc
      have eD : Ha D = some (.lst []) := by rw [← hHa]; exact (same_new nLc) _ _ upd_same
      clear hHa nLc eF2
      have hOxs := hO.1
      have hex : ∀ l2 : List (List Nat), (l2.flatMap (ext ns)).length ≤ l2.length * ns.length := fun l2 => by
        induction l2 with
        | nil => simp
        | cons o r ih =>
          rw [List.flatMap_cons, List.length_append, List.length_cons, Nat.succ_mul]
          have : (ext ns o).length ≤ ns.length := by
            unfold ext
            rw [List.length_map]
            exact List.length_filter_le _ _
          omega
      have hkb : (kp i ns).length ≤ 7776 := by
        refine Nat.le_trans (kp_len i ns) (Nat.le_trans (Nat.pow_le_pow_left hn6 i) ?_)
        exact Nat.le_trans (Nat.pow_le_pow_right (n := 6) (by decide) (show i ≤ 5 by omega)) (by decide)
      rw [← kp_ext i hnd]
      generalize hkps : kp i ns = ks at *
      refine ⟨Lc, rfl, ⟨_, SqL.of eL⟩, for_it (walk_list (K := K) (a := Lc) (xs := xs)) (fun j σ Hd => ∃ ys o4 o5, σ = [some (.ref l), some (.ref F), some (.int (0 + (i : Int))), some (.ref D), o4, o5] ∧ Same H8 Hd ∧ Hd Lc = some (.lst xs) ∧ Hd D = some (.lst ys) ∧ OrdsK K Hd ys ((ks.take j).flatMap (ext ns))) ⟨[], _, _, rfl, sa, eL, eD, rfl, fun k o ho => by cases ho⟩ (fun j σ Hd _ y => ?_) (fun j x σ Hd He hj y ee => ?_) (fun σ Hd y => ?_)⟩
      · obtain ⟨_, _, _, _, _, eLd, _⟩ := y
        exact SqL.of eLd
      · obtain ⟨ys, o4, o5, rfl, sd, eLd, eDd, hOd⟩ := y
        obtain ⟨rfl, ex⟩ := ee
        rw [hOxs] at hj
        obtain ⟨po, ep1, ep2⟩ := hO.2 j ks[j] (List.getElem?_eq_getElem hj)
        rw [ep1] at ex
        cases ex
        have htk : (ks.take (j + 1)).flatMap (ext ns) = (ks.take j).flatMap (ext ns) ++ ext ns ks[j] := by
          rw [List.take_add_one, List.getElem?_eq_getElem hj, List.flatMap_append]
          show _ ++ ([ks[j]].flatMap (ext ns)) = _
          rw [List.flatMap_cons, List.flatMap_nil, List.append_nil]
        have hbl : ((ks.take j).flatMap (ext ns)).length ≤ 46656 := by
          refine Nat.le_trans (hex _) ?_
          rw [List.length_take]
          have h1 : min j ks.length ≤ 7776 := by omega
          exact Nat.le_trans (Nat.mul_le_mul h1 hn6) (by decide)
        have hol : ks[j].length ≤ 6 := by
          have hm : ks[j] ∈ kp i ns := by rw [hkps]; exact List.getElem_mem hj
          have := kp_each i ns _ hm
          omega
        rw [htk]
        generalize (ks.take j).flatMap (ext ns) = base0 at *
        generalize ks[j] = o at *
        refine ⟨_, rfl, l, rfl, ⟨_, SqL.of (sd _ _ (sm _ _ hl))⟩, for_it (walk_list (K := K) (a := l) (xs := intV ns)) (fun t σ Hx => ∃ ys o5, σ = [some (.ref l), some (.ref F), some (.int (0 + (i : Int))), some (.ref D), some (.ref po), o5] ∧ Same H8 Hx ∧ Hx Lc = some (.lst xs) ∧ Hx D = some (.lst ys) ∧ OrdsK K Hx ys (base0 ++ ((ns.take t).filter fun y => !(o.contains y)).map fun y => o ++ [y])) ⟨ys, _, rfl, sd, eLd, eDd, by rw [List.take_zero, List.filter_nil, List.map_nil, List.append_nil]; exact hOd⟩ (fun t σ Hx _ y => ?_) (fun t x σ Hx Hy ht y ee => ?_) (fun σ Hx y => ?_)⟩
        · obtain ⟨_, _, _, sx, _⟩ := y
          exact SqL.of (sx _ _ (sm _ _ hl))
        · obtain ⟨ys, o5, rfl, sx, eLx, eDx, hOx⟩ := y
          obtain ⟨rfl, ex⟩ := ee
          rw [hll] at ht
          have hx2 : (intV ns)[t]? = some (.int ((ns[t] : Nat) : Int)) := by
            unfold intV
            rw [List.getElem?_map, List.getElem?_eq_getElem ht]
            rfl
          rw [hx2] at ex
          cases ex
          have hft : ((ns.take (t + 1)).filter fun y => !(o.contains y)).map (fun y => o ++ [y]) = ((ns.take t).filter fun y => !(o.contains y)).map (fun y => o ++ [y]) ++ (if o.contains ns[t] then [] else [o ++ [ns[t]]]) := by
            rw [List.take_add_one, List.getElem?_eq_getElem ht, List.filter_append, List.map_append]
            congr 1
            show (([ns[t]].filter fun y => !(o.contains y)).map fun y => o ++ [y]) = _
            cases hc : o.contains ns[t] with
            | true => simp only [List.filter, hc]; rfl
            | false => simp only [List.filter, hc]; rfl
          have hfl : (((ns.take t).filter fun y => !(o.contains y)).map fun y => o ++ [y]).length ≤ 6 := by
            rw [List.length_map]
            refine Nat.le_trans (List.length_filter_le _ _) ?_
            rw [List.length_take]
            omega
          generalize ((ns.take t).filter fun y => !(o.contains y)).map (fun y => o ++ [y]) = part at *
          generalize ns[t] = n1 at *
          have hop := sqT_up ep2 sx
          refine ⟨_, rfl, _, rfl, po, _, rfl, .inr hop, rfl, int_flat o, _, rfl, ?_⟩
          rw [if_pos rfl, inV_nat]
          rw [hft]
          cases hc : o.contains n1 with
          | true =>
            refine ifF rfl ⟨ys, _, rfl, sx, eLx, eDx, ?_⟩
            rw [if_pos rfl, List.append_nil]
            exact hOx
          | false =>
            refine ifT rfl ?_
            rw [if_neg Bool.false_ne_true]
            refine ⟨_, rfl, .inl ⟨rfl, _, SqL.of eDx⟩, _, rfl, _, rfl, lenOk (n := 1) rfl (by decide), fun pq npq => catA_of (sqT_up hop (same_new npq)) (SqT.of upd_same) (by unfold intV; rw [List.length_map]; show o.length + 1 ≤ 100000; omega) fun pn Hn sn fp => ?_⟩
            have fp2 : SqT K Hn pn (intV (o ++ [n1])) := by
              unfold intV at fp ⊢
              rw [List.map_append]
              exact fp
            have sxn := (same_new npq).trans sn
            have eDn := sxn _ _ eDx
            refine ⟨D, ys, V.ref pn, rfl, rfl, eDn, ?_, ys ++ [V.ref pn], _, rfl, same_mut (sx.trans sxn) nD, ?_, upd_same, ?_⟩
            · rw [hOx.1, List.length_append]
              exact Nat.lt_of_lt_of_le (show base0.length + part.length < 100000 by omega) (by decide)
            · rw [upd_ne nLD]
              exact sxn _ _ eLx
            · rw [← List.append_assoc]
              exact OrdsK.put ((hOx.up sxn).snoc fp2) eDn
        · obtain ⟨ys, o5, rfl, sx, eLx, eDx, hOx⟩ := y
          rw [hll, List.take_length] at hOx
          exact ⟨ys, _, _, rfl, sx, eLx, eDx, hOx⟩
      · obtain ⟨ys, o4, o5, rfl, sd, eLd, eDd, hOd⟩ := y
        rw [hOxs, List.take_length] at hOd
        exact ⟨_, rfl, D, ys, _, _, _, _, rfl, sm.trans sd, eDd, hOd⟩
    · obtain ⟨F, xs, o2, o3, o4, o5, rfl, sm, eF, hO⟩ := y
      exact ⟨_, rfl, q _ F xs sm eF hO⟩
end
end R1

namespace R1
open PySem PySem.Spec PyProof.Rows L2 RK PT
local macro_rules | `(tactic| walk_at "sq") => `(tactic| first
  | exact SqL.of upd_same | exact upd_same | exact SqL.of (by assumption) | exact SqL.of (by rw [upd_ne (by assumption)]; assumption) | assumption)
local macro_rules | `(tactic| walk_at "sd") => `(tactic| first
  | assumption | omega | (refine Or.inl ⟨?_, ?_⟩ <;> omega) | (show _ ∧ _; constructor <;> omega) | (show _ ≠ _; simp; omega) | (exact Or.inl ⟨by decide, by decide⟩) | (exact Or.inr ⟨by decide, by decide⟩) | (show _ < _; decide) | (show _ ≤ _; decide))
local macro_rules | `(tactic| walk_at "at") => `(tactic| first | rfl | (refine atI_intV ?_ ?_ <;> omega) | assumption)
local macro_rules | `(tactic| walk_at "s1") => `(tactic| first
  | refine ⟨_, rfl, ?_⟩ | refine ⟨_, _, rfl, rfl, ?_⟩ | refine ⟨rfl, ?_⟩
  | refine ⟨_, _, _, _, rfl, rfl, by walk_at "sq", by walk_at "at", ?_⟩
  | refine Or.inl ⟨_, rfl, ?_⟩
  | refine ⟨_, _, rfl, Or.inl (by walk_at "sq"), ?_⟩
  | refine And.intro (by walk_at "sd") ?_)
local macro_rules | `(tactic| walk_at "s") => `(tactic| repeat walk_at "s1")

def notL : HO → Bool
  | .lst _ => false
  | .dT _ => false
  | .dK _ => false
  | .frz _ u => notL u
  | _ => true
/-- all but lists and dicts stays -/
def NL (H H' : Hp) : Prop := ∀ p o, notL o = true → H p = some o → H' p = some o
theorem NL.of {H H' : Hp} (e : Same H H') : NL H H' := fun p o _ h => e p o h
theorem NL.trans {H H1 H2 : Hp} (a : NL H H1) (b : NL H1 H2) : NL H H2 := fun p o n h => b p o n (a p o n h)
theorem NL.put {H : Hp} {D : Addr} {ys : List V} {o : HO} (e : H D = some (.lst ys)) : NL H (upd H D o) := fun p o' n h => by
  rw [upd_ne (fun z => by subst z; rw [e] at h; cases h; cases n)]
  exact h
theorem NL.putT {H : Hp} {D : Addr} {kvs : List (List Key × V)} {o : HO} (e : H D = some (.dT kvs)) : NL H (upd H D o) := fun p o' n h => by
  rw [upd_ne (fun z => by subst z; rw [e] at h; cases h; cases n)]
  exact h
theorem NL.putF {H : Hp} {D : Addr} {od : Obj} {kvs : List (List Key × V)} {o : HO} (e : H D = some (.frz od (.dT kvs))) : NL H (upd H D o) := fun p o' n h => by
  rw [upd_ne (fun z => by subst z; rw [e] at h; cases h; cases n)]
  exact h
theorem NL.but {c p : Addr} {H H' : Hp} (h : Src c H p) (b : But p H H') : NL H H' := fun q o n e => b q o (fun z => by
  obtain ⟨_, _, _, _, _, y, _⟩ := h
  subst z
  rw [e] at y
  cases y
  cases n) e
theorem NL.sq {K : PySem.W.Frag} {H H' : Hp} {p : Addr} {xs : List V} (n : NL H H') (h : SqT K H p xs) : SqT K H' p xs := by
  rcases h with (h | ⟨o, h⟩) | h
  · exact .inl (.inl (n _ _ rfl h))
  · exact .inl (.inr ⟨o, n _ _ rfl h⟩)
  · exact .inr h
theorem NL.th {K : PySem.W.Frag} {H H' : Hp} {a : Addr} {ths : List (Nat × Nat)} (e : NL H H') (h : ThK K H a ths) : ThK K H' a ths := by
  obtain ⟨⟨xs, h1, h2, h3⟩, h4⟩ := h
  exact ⟨⟨xs, e.sq h1, h2, fun k t ht => let ⟨p, a1, a2⟩ := h3 k t ht; ⟨p, a1, e _ _ rfl a2⟩⟩, h4⟩
theorem NL.ords {K : PySem.W.Frag} {H H' : Hp} {xs : List V} {os : List (List Nat)} (e : NL H H') (h : OrdsK K H xs os) : OrdsK K H' xs os := ⟨h.1, fun k t ht => let ⟨p, a, b⟩ := h.2 k t ht; ⟨p, a, e.sq b⟩⟩
def ChK (K : PySem.W.Frag) (H : Hp) (a : Addr) (chs : List (List Nat)) : Prop := ∃ xs, SqT K H a xs ∧ OrdsK K H xs chs
theorem NL.ch {K : PySem.W.Frag} {H H' : Hp} {a : Addr} {chs : List (List Nat)} (e : NL H H') (h : ChK K H a chs) : ChK K H' a chs := let ⟨xs, h1, h2⟩ := h; ⟨xs, e.sq h1, e.ords h2⟩
theorem take_flatG {α β : Type} (g : α → List β) (l : List α) (a : Nat) (h : a < l.length) : (l.take (a + 1)).flatMap g = (l.take a).flatMap g ++ g l[a] := by
  rw [List.take_add_one, List.getElem?_eq_getElem h, List.flatMap_append]
  simp
theorem take_mapG {α β : Type} (g : α → β) (l : List α) (a : Nat) (h : a < l.length) : (l.take (a + 1)).map g = (l.take a).map g ++ [g l[a]] := by
  rw [List.take_add_one, List.getElem?_eq_getElem h, List.map_append]
  rfl
theorem dls_snoc (chs : List (List Nat)) (c : List Nat) : dls (chs ++ [c]) = (dls chs).flatMap fun r => c.map fun x => r ++ [x] := by
  unfold dls
  rw [List.foldl_append]
  rfl
theorem dls_len : ∀ n (chs : List (List Nat)), chs.length = n → (∀ ch ∈ chs, ch.length ≤ 3) → (dls chs).length ≤ 3 ^ n ∧ ∀ r ∈ dls chs, r.length = n
  | 0, chs, h, _ => by
    rw [List.length_eq_zero_iff.mp h]
    exact ⟨Nat.le_refl _, fun r hr => by rw [List.mem_singleton.mp hr]; rfl⟩
  | n + 1, chs, h, hc => by
    obtain ⟨cs, c, rfl⟩ : ∃ cs c, chs = cs ++ [c] := ⟨chs.dropLast, chs.getLast (fun z => by rw [z] at h; cases h), (List.dropLast_concat_getLast _).symm⟩
    rw [List.length_append] at h
    obtain ⟨h1, h2⟩ := dls_len n cs (by simpa using h) fun ch hch => hc ch (List.mem_append_left _ hch)
    have h3 := hc c (List.mem_append_right _ List.mem_cons_self)
    rw [dls_snoc]
    constructor
    · have : ∀ l : List (List Nat), (l.flatMap fun r => c.map fun x => r ++ [x]).length = l.length * c.length := fun l => by
        induction l with
        | nil => rw [List.flatMap_nil, List.length_nil, Nat.zero_mul]
        | cons a r ih => rw [List.flatMap_cons, List.length_append, ih, List.length_map, List.length_cons, Nat.succ_mul]; omega
      rw [this, Nat.pow_succ]
      exact Nat.mul_le_mul h1 h3
    · intro r hr
      obtain ⟨r', hr', hr⟩ := List.mem_flatMap.mp hr
      obtain ⟨x, _, rfl⟩ := List.mem_map.mp hr
      rw [List.length_append, h2 r' hr']
      rfl
theorem pow35 {n : Nat} (h : n ≤ 5) : 3 ^ n ≤ 243 := Nat.pow_le_pow_right (n := 3) (by decide) h
theorem ords_len {K : PySem.W.Frag} {H : Hp} {xs : List V} {os : List (List Nat)} (h : OrdsK K H xs os) : xs.length = os.length := h.1
theorem ords_nil {K : PySem.W.Frag} {H : Hp} : OrdsK K H [] [] := ⟨rfl, fun k o h => by cases h⟩
theorem ords_get {K : PySem.W.Frag} {H : Hp} {xs : List V} {os : List (List Nat)} {i : Nat} {v : V} (h : OrdsK K H xs os) (hi : i < os.length) (e : xs[i]? = some v) : ∃ p, v = .ref p ∧ SqT K H p (intV os[i]) := by
  obtain ⟨p, a, b⟩ := h.2 i os[i] (List.getElem?_eq_getElem hi)
  rw [a] at e
  exact ⟨p, (Option.some.inj e).symm, b⟩
theorem intV_app (a b : List Nat) : intV (a ++ b) = intV a ++ intV b := List.map_append ..
theorem intV_len (a : List Nat) : (intV a).length = a.length := List.length_map ..
theorem intV_at {ws : List Nat} {i : Nat} (h : i < ws.length) : (intV ws)[i]? = some (.int ((ws.getD i 0 : Nat) : Int)) := by
  unfold intV
  rw [List.getElem?_map, List.getElem?_eq_getElem h, List.getD_eq_getElem?_getD, List.getElem?_eq_getElem h]
  rfl
theorem lt_line {n : Nat} (h : n ≤ 100000) : n < sizeLine := Nat.lt_of_le_of_lt h (by decide)
def spDealings (K : PySem.W.Frag) : Sp := fun vs H Q _ => ∃ (a : Addr) (chs : List (List Nat)), vs = [.ref a] ∧ ChK K H a chs ∧ chs.length ≤ 5 ∧ (∀ ch ∈ chs, ch.length ≤ 3) ∧ ∀ H' l xs, Same H H' → H l = none → H' l = some (.lst xs) → OrdsK K H' xs (dls chs) → Q (.ref l) H'
def spDealt (K : PySem.W.Frag) : Sp := fun vs H Q _ => ∃ (a : Addr) (dl : List Nat) (r : Nat), vs = [.ref a, .int (r : Int)] ∧ SqT K H a (intV dl) ∧ dl.length ≤ 1000 ∧ ∀ H' l, Same H H' → H' l = some (.lst (intV (grp dl r))) → Q (.ref l) H'
section
variable {P : Program} {w : World} {K : PySem.W.Frag} {mg : Str → Option Value} {base : Heap} {A : Ads}
theorem ok_end_of_order (T : Txt K mg A) : FnOk P w K mg base CX0 3 A.a_end_of_order A.d_end_of_order ["start", "things", "order"] (spEnd K) := by
  refine T.F_end_of_order.ok sc_end_of_order (fun vs H Q E h => ?_) (fun cdv B outer s H vs Q E hr h => ?_)
  · obtain ⟨a, po, ths, s, o, rfl, _⟩ := h
    rfl
  · obtain ⟨a, po, ths, s0, o, rfl, ht, ho, hk, q⟩ := h
    refine ⟨_, (pss_cons (ps_set (i := 3) sc_end_of_order.nd rfl (.inl rfl) (pv 0))
    (pss_cons (ps_for PassesOwn.never rfl (pi_tup (pv 2)) (pg_name (i := 4) sc_end_of_order.nd rfl (.inl rfl))
      (pss_one (ps_set (i := 3) sc_end_of_order.nd rfl (.inl rfl) (pe_call (ok_laid_behind T) (hr.mono (by omega)) rfl T.g_laid_behind T.F_laid_behind.kp T.b_laid_behind .nil pass0 (pa_cons (pv 3) (pa_cons (pe_ix ix_tup (pv 1) (pv 4) (fun _ _ => rfl)) pa_nil))))))
    (pss_one (ps_ret (pv 3))))), ?_⟩
    obtain ⟨⟨xs, hx, hxl, hxe⟩, h7, hgood⟩ := ht
    have hnl : (intV o).length = o.length := List.length_map ..
    refine ⟨_, rfl, _, rfl, po, rfl, ⟨_, ho⟩, ?_⟩
    refine for_it (walk_tup (K := K) (a := po) (xs := intV o)) (fun i σ Hc => ∃ o4, σ = [some (.int (s0 : Int)), some (.ref a), some (.ref po), some (.int ((endf ths s0 (o.take i) : Nat) : Int)), o4] ∧ Hc = H) ⟨_, rfl, rfl⟩ (fun i σ Hc _ y => ?_) (fun i x σ Hc Hd hi y e => ?_) (fun σ Hc y => ?_)
    · obtain ⟨_, _, rfl⟩ := y
      exact ho
    · obtain ⟨o4, rfl, rfl⟩ := y
      obtain ⟨rfl, ex⟩ := e
      rw [hnl] at hi
      have hx2 : (intV o)[i]? = some (.int ((o[i] : Nat) : Int)) := by
        unfold intV
        rw [List.getElem?_map, List.getElem?_eq_getElem hi]
        rfl
      rw [hx2] at ex
      cases ex
      have hkl := hk _ (List.getElem_mem hi)
      have htk : endf ths s0 (o.take (i + 1)) = lb (endf ths s0 (o.take i)) (th ths o[i]) := by
        rw [List.take_add_one, List.getElem?_eq_getElem hi]
        exact endf_snoc
      generalize o[i] = k at *
      obtain ⟨pt, ep1, ep2⟩ := hxe k (th ths k) (by unfold th; rw [List.getD_eq_getElem?_getD, List.getElem?_eq_getElem hkl]; rfl)
      have hg := hgood (th ths k) (by unfold th; rw [List.getD_eq_getElem?_getD, List.getElem?_eq_getElem hkl]; exact List.getElem_mem hkl)
      rw [htk]
      generalize endf ths s0 (o.take i) = e0 at *
      refine ⟨_, rfl, _, rfl, _, rfl, a, xs, _, _, rfl, rfl, hx, atI_nat ep1, e0, pt, th ths k, rfl, ep2, hg.1, hg.2, ?_⟩
      exact ⟨_, rfl, rfl⟩
    · obtain ⟨o4, rfl, rfl⟩ := y
      rw [hnl, List.take_length]
      exact ⟨_, rfl, q⟩
theorem ok_dealt_to (T : Txt K mg A) : FnOk P w K mg base CX0 1 A.a_dealt_to A.d_dealt_to ["dealing", "room"] (spDealt K) := by
  refine T.F_dealt_to.ok sc_dealt_to (fun vs H Q E h => ?_) (fun cdv B outer s H vs Q E hr h => ?_)
  · obtain ⟨a, dl, r, rfl, _⟩ := h
    rfl
  · obtain ⟨a, dl, r, rfl, ha, hl, q⟩ := h
    refine ⟨_, (pss_one (ps_ret (pe_lc (own := [("number", 2), ("each", 3)]) rfl sc_dealt_to.nd (pi_enumT (by rfl) T.n_enumerate (pa_cons (pv 0) pa_nil)) (blkOk_by (own := [("number", 2), ("each", 3)]) (N := N_dealt_to) (sc := defScope s_dealt_to) (by decide +kernel)) (fun _ _ _ _ _ => (show PG _ _ (gTup K 2 (gCons (gName 2) (gCons (gName 3) gNil))) from pg_tup (by rfl) (pgs_cons (pg_name (i := 2) sc_dealt_to.nd rfl (Or.inl rfl)) (pgs_cons (pg_name (i := 3) sc_dealt_to.nd rfl (Or.inl rfl)) pgs_nil)))) (fun _ _ _ _ _ => pts_one (by exact (pt_cmpR op_eq (pv 3) (pv 1) (nomark _)))) (fun _ _ _ _ _ => by exact (pv 2))))), ?_⟩
    refine ⟨_, rfl, a, _, rfl, ha, fun D hD => ?_⟩
    have hil := intV_len dl
    refine lc_enumF (K := K) (a := a) (xs := intV dl) (k := 2) (k1 := 3) (by decide) (fun i => dl.getD i 0 == r) (fun i => .int (i : Int)) hD ha (by omega) (fun i x H4 hi sm hx Q q => ?_) (fun i x H4 hi hc sm hx Q q => ?_) (fun H4 s4 e4 => ?_)
    · rw [hil] at hi
      have ex := hx
      rw [intV_at hi] at ex
      cases ex
      refine ⟨_, rfl, _, rfl, rfl, _, rfl, ?_⟩
      have e : decide (V.int ((dl.getD i 0 : Nat) : Int) = V.int (r : Int)) = (dl.getD i 0 == r) := by
        apply Bool.eq_iff_iff.mpr
        rw [decide_eq_true_eq, beq_iff_eq]
        constructor
        · intro h
          have := V.int.inj h
          omega
        · intro h
          rw [h]
      rw [e]
      exact q
    · exact ⟨_, rfl, q _ (Same.refl _)⟩
    · rw [hil] at e4
      refine q _ D s4 ?_
      rw [e4]
      rfl
theorem ok_dealings (T : Txt K mg A) : FnOk P w K mg base CX0 1 A.a_dealings A.d_dealings ["choices"] (spDealings K) := by
  refine T.F_dealings.ok sc_dealings (fun vs H Q E h => ?_) (fun cdv B outer s H vs Q E hr h => ?_)
  · obtain ⟨a, chs, rfl, _⟩ := h
    rfl
  · obtain ⟨a, chs, rfl, ha, hl, hc, q⟩ := h
    refine ⟨_, (pss_cons (ps_set (i := 1) sc_dealings.nd rfl (.inl rfl) (pe_lst (pa_cons (pe_tup pa_nil) pa_nil)))
    (pss_cons (ps_for PassesOwn.never rfl (pi_tup (pv 0)) (pg_name (i := 2) sc_dealings.nd rfl (.inr rfl))
      (pss_one (ps_setLc2 (i := 1) (own := [("row", 3), ("room", 4)]) (vs1 := [4]) rfl sc_dealings.nd rfl rfl (sw_true rfl rfl rfl (by decide +kernel)) (pi_list (pv 1)) (blkOk_by (own := [("row", 3), ("room", 4)]) (N := N_dealings) (sc := defScope s_dealings) (by decide +kernel)) (by decide) (fun _ _ _ _ _ => pg_name (i := 3) sc_dealings.nd rfl (Or.inl rfl)) (fun _ _ _ _ _ => pts_nil) (fun _ _ _ _ _ => by exact (show PI _ _ _ (iTup K _) from (pi_tup (pv 2)))) (fun _ _ _ _ _ => pg_name (i := 4) sc_dealings.nd rfl (Or.inl rfl)) (fun _ _ _ _ _ => pts_nil) (fun _ _ _ _ _ => by exact (pe_op (r := rCatA K) op_catA (pv 3) (pe_tup (pa_cons (pv 4) pa_nil)))))))
    (pss_one (ps_ret (pv 1))))), ?_⟩
    obtain ⟨cxs, hcx, hco⟩ := ha
    have hcl := hco.1
    refine ⟨lenOk (n := 0) rfl (by decide), fun q0 hq0 => ⟨lenOk (n := 1) rfl (by decide), fun l0 hl0 => ?_⟩⟩
    have e0 : upd H q0 (.tup []) q0 = some (.tup (intV [])) := upd_same
    have s0 := same_new (o := .tup []) hq0
    generalize upd H q0 (.tup []) = Ha at e0 s0 hl0 ⊢
    have e1 : upd Ha l0 (.lst [V.ref q0]) l0 = some (.lst [V.ref q0]) := upd_same
    have sb := same_new (o := .lst [V.ref q0]) hl0
    have eq0 := sb _ _ e0
    have s1 := s0.trans sb
    have hl0H := s0.free hl0
    generalize upd Ha l0 (.lst [V.ref q0]) = H1 at e1 s1 eq0 ⊢
    refine ⟨_, rfl, a, rfl, ⟨_, sqT_up hcx s1⟩, ?_⟩
    refine for_it (walk_tup (K := K) (a := a) (xs := cxs)) (fun i σ Hc => ∃ o2 l xs, σ = [some (.ref a), some (.ref l), o2, none, none] ∧ Same H Hc ∧ H l = none ∧ Hc l = some (.lst xs) ∧ OrdsK K Hc xs (dls (chs.take i)))
      ⟨_, l0, _, rfl, s1, hl0H, e1, ords_nil.snoc (SqT.of eq0)⟩ (fun i σ Hc _ y => ?_) (fun i x σ Hc Hd hi y e => ?_) (fun σ Hc y => ?_)
    · obtain ⟨_, _, _, _, sm, _⟩ := y
      exact sqT_up hcx sm
    · obtain ⟨rfl, e⟩ := e
      obtain ⟨o2, l, xs, rfl, sm, hlH, hlc, hda⟩ := y
      rw [hcl] at hi
      obtain ⟨t, rfl, ht⟩ := ords_get hco hi e
      have ht := sqT_up ht sm
      have hch := hc chs[i] (List.getElem_mem hi)
      have hlen : (chs.take i).length = i := by rw [List.length_take]; omega
      obtain ⟨hrl, hre⟩ := dls_len i (chs.take i) hlen fun ch h => hc ch (List.mem_of_mem_take h)
      have h35 := pow35 (n := i) (by omega)
      have hsn : dls (chs.take (i + 1)) = (dls (chs.take i)).flatMap fun r => chs[i].map fun x => r ++ [x] := by
        rw [List.take_add_one, List.getElem?_eq_getElem hi]
        exact dls_snoc _ _
      rw [hsn]
      generalize dls (chs.take i) = rs at *
      generalize chs[i] = ws at *
      have hxl := hda.1
      have hwlen := intV_len ws
      refine ⟨_, rfl, l, rfl, ⟨_, SqL.of hlc⟩, fun D hD => ?_⟩
      refine lc2_it (walk_list (K := K) (a := l) (xs := xs)) (k := 3) (k1 := 4) (by decide) (fun b Hx => Same Hd Hx ∧ ∃ acc, Hx D = some (.lst acc) ∧ OrdsK K Hx acc ((rs.take b).flatMap fun r => ws.map fun x => r ++ [x])) ⟨same_new hD, [], upd_same, ords_nil⟩ (fun b Hx _ h => SqL.of (h.1 _ _ hlc)) (fun b x Hx Hy hb hp y R hR => ?_) (fun Hx h => ?_)
      · obtain ⟨rfl, e⟩ := y
        obtain ⟨sx, acc, hxD, hda2⟩ := hp
        rw [hxl] at hb
        obtain ⟨q1, rfl, hq1⟩ := ords_get (hda.up sx) hb e
        rw [take_flatG _ _ _ hb] at hR
        have hr5 := hre rs[b] (List.getElem_mem hb)
        have hbl : ((rs.take b).flatMap fun r => ws.map fun x => r ++ [x]).length ≤ 729 := by
          have : ∀ l : List (List Nat), (l.flatMap fun r => ws.map fun x => r ++ [x]).length = l.length * ws.length := fun l => by
            induction l with
            | nil => rw [List.flatMap_nil, List.length_nil, Nat.zero_mul]
            | cons a r ih => rw [List.flatMap_cons, List.length_append, ih, List.length_map, List.length_cons, Nat.succ_mul]; omega
          rw [this, List.length_take]
          have h1 : min b rs.length * ws.length ≤ 243 * 3 := Nat.mul_le_mul (by omega) hch
          omega
        generalize rs[b] = r at *
        generalize (rs.take b).flatMap (fun r => ws.map fun x => r ++ [x]) = pre at *
        refine ⟨_, rfl, t, rfl, ⟨_, sqT_up ht sx⟩, ?_⟩
        refine hR _ _ _ _ _ (fun j Hz => Same Hd Hz ∧ NL Hy Hz ∧ ∃ acc, Hz D = some (.lst acc) ∧ OrdsK K Hz acc (pre ++ (ws.take j).map fun x => r ++ [x])) (walk_tup (K := K) (a := t) (xs := intV ws)) ⟨sx, NL.of (Same.refl _), acc, hxD, by rw [List.take_zero, List.map_nil, List.append_nil]; exact hda2⟩ (fun j Hz _ h => sqT_up ht h.1) (fun j y Hz Hw hj hp1 yy => ?_) (fun Hz hp1 => ?_)
        · obtain ⟨rfl, e2⟩ := yy
          obtain ⟨sz, oz, acc1, hzD, hda3⟩ := hp1
          rw [hwlen] at hj
          rw [intV_at hj] at e2
          cases e2
          have hal : acc1.length ≤ 1000 := by
            rw [hda3.1, List.length_append, List.length_map, List.length_take]
            omega
          refine ⟨_, rfl, _, rfl, lenOk (n := 1) rfl (by decide), fun q2 hq2 => ?_⟩
          have s2 := same_new (o := .tup [V.int ((ws.getD j 0 : Nat) : Int)]) hq2
          refine catA_of (sqT_up (oz.sq hq1) s2) (SqT.of upd_same) ?_ fun p H7 s7 hp7 => ?_
          · rw [intV_len]
            show _ + 1 ≤ _
            omega
          have s27 := s2.trans s7
          have hD7 := s27 _ _ hzD
          refine ⟨acc1, hD7, lt_line (by omega), same_mut (sz.trans s27) hD, (oz.trans (NL.of s27)).trans (NL.put hD7), _, upd_same, ?_⟩
          rw [take_mapG _ _ _ hj, ← List.append_assoc]
          have hwj : ws[j] = ws.getD j 0 := by rw [List.getD_eq_getElem?_getD, List.getElem?_eq_getElem hj]; rfl
          refine (NL.put hD7).ords ((hda3.up s27).snoc ?_)
          rw [hwj, intV_app]
          exact hp7
        · obtain ⟨sz, oz, acc1, hzD, hda3⟩ := hp1
          rw [hwlen, List.take_length] at hda3
          exact ⟨sz, acc1, hzD, hda3⟩
      · obtain ⟨sx, acc, hxD, hda2⟩ := h
        rw [hxl, List.take_length] at hda2
        exact ⟨_, D, acc, rfl, sm.trans sx, sm.free hD, hxD, hda2⟩
    · obtain ⟨o2, l, xs, rfl, sm, hlH, hlc, hda⟩ := y
      rw [hcl, List.take_length] at hda
      exact ⟨_, rfl, q _ l xs sm hlH hlc hda⟩
end
end R1

namespace R1
open PySem PySem.Spec PyProof.Rows L2 RK PT
local macro_rules | `(tactic| walk_at "sq") => `(tactic| first
  | exact SqL.of upd_same | exact upd_same | exact SqL.of (by assumption) | exact SqL.of (by rw [upd_ne (by assumption)]; assumption) | assumption)
local macro_rules | `(tactic| walk_at "sd") => `(tactic| first
  | assumption | omega | (refine Or.inl ⟨?_, ?_⟩ <;> omega) | (show _ ∧ _; constructor <;> omega) | (show _ ≠ _; simp; omega) | (exact Or.inl ⟨by decide, by decide⟩) | (exact Or.inr ⟨by decide, by decide⟩) | (show _ < _; decide) | (show _ ≤ _; decide))
local macro_rules | `(tactic| walk_at "at") => `(tactic| first | rfl | (refine atI_intV ?_ ?_ <;> omega) | assumption)
local macro_rules | `(tactic| walk_at "s1") => `(tactic| first
  | refine ⟨_, rfl, ?_⟩ | refine ⟨_, _, rfl, rfl, ?_⟩ | refine ⟨rfl, ?_⟩
  | refine ⟨_, _, _, _, rfl, rfl, by walk_at "sq", by walk_at "at", ?_⟩
  | refine Or.inl ⟨_, rfl, ?_⟩
  | refine ⟨_, _, rfl, Or.inl (by walk_at "sq"), ?_⟩
  | refine And.intro (by walk_at "sd") ?_)
local macro_rules | `(tactic| walk_at "s") => `(tactic| repeat walk_at "s1")

def badC (r t : Nat) : Option Int := if 5 < t then some 5 else if 6 < r then some 6 else none
def RmK (K : PySem.W.Frag) (H : Hp) (a : Addr) (rms : List (Nat × Int)) : Prop := ∃ xs : List V, SqT K H a xs ∧ xs.length = rms.length ∧ ∀ (k : Nat) (t : Nat × Int), rms[k]? = some t → ∃ p : Addr, xs[k]? = some (V.ref p) ∧ SqT K H p [.int (t.1 : Int), .int t.2]
theorem NL.rm {K : PySem.W.Frag} {H H' : Hp} {a : Addr} {rms : List (Nat × Int)} (e : NL H H') (h : RmK K H a rms) : RmK K H' a rms := let ⟨xs, h1, h2, h3⟩ := h; ⟨xs, e.sq h1, h2, fun k t ht => let ⟨p, a, b⟩ := h3 k t ht; ⟨p, a, e.sq b⟩⟩
/-- a packing as it stands -/
def PkK (K : PySem.W.Frag) (C x : Addr) (ths : List (Nat × Nat)) (ss : List Nat) (q : Pk) (H : Hp) : Prop := ∃ (dx a b e : Addr) (ws : Int) (fs : List (Str × V)) (xs : List V), H x = some (.ins C dx fs) ∧ List.lookup ("dealing" : Str) fs = some (V.ref a) ∧ SqT K H a (intV q.1) ∧ List.lookup ("orders" : Str) fs = some (V.ref b) ∧ SqT K H b xs ∧ OrdsK K H xs q.2 ∧
  List.lookup ("ends" : Str) fs = some (V.ref e) ∧ SqT K H e (intV (enP ths ss q.2)) ∧ List.lookup ("words" : Str) fs = some (V.int ws) ∧ ws = (coP ths ss q : Int) - (ss.sum : Nat)
theorem NL.pk {K : PySem.W.Frag} {C x : Addr} {ths : List (Nat × Nat)} {ss : List Nat} {q : Pk} {H H' : Hp} (n : NL H H') (h : PkK K C x ths ss q H) : PkK K C x ths ss q H' := by
  obtain ⟨dx, a, b, e, ws, fs, xs, h1, h2, h3, h4, h5, h6, h7, h8, h9, h10⟩ := h
  exact ⟨dx, a, b, e, ws, fs, xs, n _ _ rfl h1, h2, n.sq h3, h4, n.sq h5, n.ords h6, h7, n.sq h8, h9, h10⟩
def spIni (K : PySem.W.Frag) (C : Addr) : Sp := fun vs H Q _ => ∃ (x dx s t d o : Addr) (ss : List Nat) (ths : List (Nat × Nat)) (dl : List Nat) (os : List (List Nat)) (xs : List V), vs = [.ref x, .ref s, .ref t, .ref d, .ref o] ∧ H x = some (.ins C dx []) ∧ SqT K H s (intV ss) ∧ ThK K H t ths ∧ SqT K H d (intV dl) ∧ H o = some (.lst xs) ∧ OrdsK K H xs os ∧ os.length = ss.length ∧ (∀ o ∈ os, ∀ k ∈ o, k < ths.length) ∧ ss.length ≤ 1000 ∧
  ∀ H', But x H H' → PkK K C x ths ss (dl, os) H' → Q .non H'
def spChk (K : PySem.W.Frag) (C : Addr) : Sp := fun vs H Q E => ∃ (r t : Addr) (xs ys : List V), vs = [.ref r, .ref t] ∧ SqT K H r xs ∧ SqT K H t ys ∧ (∀ n, badC xs.length ys.length = some n → ∀ dz H', Same H H' → H dz = none → H' dz = some (.xd [("limit", .int n)]) → E (.ref C) (some dz) H') ∧ (badC xs.length ys.length = none → Q .non H)
def spWith (K : PySem.W.Frag) (C : Addr) : Sp := fun vs H Q _ => ∃ (x r : Addr) (ths : List (Nat × Nat)) (ss : List Nat) (q : Pk) (rms : List (Nat × Int)), vs = [.ref x, .ref r] ∧ PkK K C x ths ss q H ∧ RmK K H r rms ∧ q.2.length = rms.length ∧ rms.length ≤ 1000 ∧ ∀ H', Same H H' → Q (.bl (wiP ths ss (rms.map (·.2)) q)) H'
theorem sum_castN (l : List Nat) : (l.map fun (n : Nat) => (n : Int)).sum = ((l.sum : Nat) : Int) := by
  induction l with
  | nil => rfl
  | cons a r ih =>
    rw [List.map_cons, List.sum_cons, List.sum_cons, ih]
    omega
theorem enP_len (ths : List (Nat × Nat)) (ss : List Nat) (os : List (List Nat)) : (enP ths ss os).length = os.length := by unfold enP; rw [List.length_map, List.length_range]
theorem enP_get (ths : List (Nat × Nat)) (ss : List Nat) (os : List (List Nat)) {i : Nat} (h : i < os.length) : (enP ths ss os).getD i 0 = endf ths (ss.getD i 0) (os.getD i []) := by
  unfold enP
  rw [List.getD_eq_getElem?_getD, List.getElem?_map, List.getElem?_range h]
  rfl
theorem pe_never {X : Cx} {e : Expr} : PE X e (fun _ _ _ => False) := ⟨fun _ _ _ _ _ _ h => h.elim⟩
theorem xt_insN {K : PySem.W.Frag} {H : Hp} {x C dx r : Addr} {fs : List (Str × V)} {xs : List V} (h : SqT K H r xs) (n : H x = some (.ins C dx fs)) : r ≠ x ∨ ∀ H', SqT K H' r xs := by
  rcases h with h | h
  · refine .inl fun z => ?_
    subst z
    rcases h with h | ⟨o, h⟩ <;> rw [n] at h <;> cases h
  · exact .inr fun H' => .inr h
theorem sq_but {K : PySem.W.Frag} {H H' : Hp} {x C dx r : Addr} {fs : List (Str × V)} {xs : List V} (h : SqT K H r xs) (n : H x = some (.ins C dx fs)) (b : But x H H') : SqT K H' r xs := by
  rcases xt_insN h n with z | z
  · rcases h with (h | ⟨o, h⟩) | h
    · exact .inl (.inl (b _ _ z h))
    · exact .inl (.inr ⟨o, b _ _ z h⟩)
    · exact .inr h
  · exact z H'
theorem ords_but {K : PySem.W.Frag} {H H' : Hp} {x C dx : Addr} {fs : List (Str × V)} {xs : List V} {os : List (List Nat)} (h : OrdsK K H xs os) (n : H x = some (.ins C dx fs)) (b : But x H H') : OrdsK K H' xs os := ⟨h.1, fun k o ho => let ⟨p, a, c⟩ := h.2 k o ho; ⟨p, a, sq_but c n b⟩⟩
theorem th_but {K : PySem.W.Frag} {H H' : Hp} {x C dx a : Addr} {fs : List (Str × V)} {ths : List (Nat × Nat)} (h : ThK K H a ths) (n : H x = some (.ins C dx fs)) (b : But x H H') : ThK K H' a ths := by
  obtain ⟨⟨xs, h1, h2, h3⟩, h4⟩ := h
  exact ⟨⟨xs, sq_but h1 n b, h2, fun k t ht => let ⟨p, a1, a2⟩ := h3 k t ht; ⟨p, a1, b _ _ (fun z => by rw [z, n] at a2; cases a2) a2⟩⟩, h4⟩
section
variable {P : Program} {w : World} {K : PySem.W.Frag} {mg : Str → Option Value} {base : Heap} {A : Ads}
theorem ok_Packing_init (T : Txt K mg A) : FnOk P w K mg base CX0 4 A.a_Packing_init A.d_Packing_init ["self", "starts", "things", "dealing", "orders"] (spIni K A.c_Packing) := by
  refine T.F_Packing_init.ok sc_Packing_init (fun vs H Q E h => ?_) (fun cdv B outer s H vs Q E hr h => ?_)
  · obtain ⟨x, dx, s, t, d, o, ss, ths, dl, os, xs, rfl, _⟩ := h
    rfl
  · obtain ⟨x, dx, sa, t, d, o, ss, ths, dl, os, xs, rfl, hx, hs, ht, hd, ho, hos, hol, hkk, hsl, q⟩ := h
    refine ⟨_, (pss_cons (ps_fld (pv 0) (pe_callTy call_tupleT (by rfl) T.n_tuple (by decide +kernel) (pa_cons (pv 3) pa_nil)) rfl)
    (pss_cons (ps_fld (pv 0) (pe_callTy tuple_of (by rfl) T.n_tuple (by decide +kernel) (pa_cons (pv 4) pa_nil)) rfl)
    (pss_cons (ps_fld (pv 0) (pe_callTy tuple_of (by rfl) T.n_tuple (by decide +kernel) (pa_cons (pe_lc (own := [("start", 5), ("order", 6)]) rfl sc_Packing_init.nd (pi_zipTL (by rfl) T.n_zip (pa_cons (pv 1) (pa_cons (pv 4) pa_nil))) (blkOk_by (own := [("start", 5), ("order", 6)]) (N := N_Packing_init) (sc := defScope s_Packing_init) (by decide +kernel)) (fun _ _ _ _ _ => (show PG _ _ (gTup K 2 (gCons (gName 5) (gCons (gName 6) gNil))) from pg_tup (by rfl) (pgs_cons (pg_name (i := 5) sc_Packing_init.nd rfl (Or.inl rfl)) (pgs_cons (pg_name (i := 6) sc_Packing_init.nd rfl (Or.inl rfl)) pgs_nil)))) (fun _ _ _ _ _ => pts_nil) (fun _ _ _ _ _ => by exact (pe_call (ok_end_of_order T) (hr.mono (by omega)) rfl T.g_end_of_order T.F_end_of_order.kp T.b_end_of_order .nil pass0 (pa_cons (pv 5) (pa_cons (pv 2) (pa_cons (pv 6) pa_nil)))))) pa_nil)) rfl)
    (pss_one (ps_fld (pv 0) (pe_op op_sub (pe_callB (cr_sumT rfl) (by rfl) T.n_sum (by decide +kernel) (pa_cons (pe_fld (pv 0) rfl) pa_nil)) (pe_callB (cr_sumT rfl) (by rfl) T.n_sum (by decide +kernel) (pa_cons (pv 1) pa_nil))) rfl))))), ?_⟩
    have nO : o ≠ x := fun z => by rw [z, hx] at ho; cases ho
    have oxl := hos.1
    refine ⟨_, rfl, d, _, rfl, hd, _, rfl, x, A.c_Packing, dx, [], rfl, hx, T.cl_Packing, T.na_Packing_dealing, by decide, ?_⟩
    have b1 : But x H (upd H x (.ins A.c_Packing dx (putF "dealing" (.ref d) []))) := (But.refl x H).upd
    have hx1 : upd H x (.ins A.c_Packing dx (putF "dealing" (.ref d) [])) x = some (.ins A.c_Packing dx (putF "dealing" (.ref d) [])) := upd_same
    have k1 : List.lookup ("dealing" : Str) (putF "dealing" (.ref d) []) = some (V.ref d) := by rw [lookup_putF, if_pos rfl]
    have f1 : (putF "dealing" (.ref d) []).length ≤ 1 := length_putF _ _ _
    generalize upd H x (.ins A.c_Packing dx (putF "dealing" (.ref d) [])) = H1 at b1 hx1 ⊢
    generalize putF "dealing" (.ref d) [] = fs1 at hx1 k1 f1
    refine ⟨_, rfl, o, _, rfl, .inl ⟨SqL.of (b1 _ _ nO ho), fun t2 ht2 => ?_⟩⟩
    have s2 := same_new (o := .tup xs) ht2
    have et2 : upd H1 t2 (.tup xs) t2 = some (.tup xs) := upd_same
    generalize upd H1 t2 (.tup xs) = H2 at s2 et2 ⊢
    have hx2 := s2 _ _ hx1
    refine ⟨_, rfl, x, A.c_Packing, dx, _, rfl, hx2, T.cl_Packing, T.na_Packing_orders, Nat.lt_of_le_of_lt f1 (by decide), ?_⟩
    have b3 : But x H2 (upd H2 x (.ins A.c_Packing dx (putF "orders" (.ref t2) fs1))) := (But.refl x H2).upd
    have hx3 : upd H2 x (.ins A.c_Packing dx (putF "orders" (.ref t2) fs1)) x = some (.ins A.c_Packing dx (putF "orders" (.ref t2) fs1)) := upd_same
    have k3 : List.lookup ("dealing" : Str) (putF "orders" (.ref t2) fs1) = some (V.ref d) := by rw [lookup_putF, if_neg (by decide +kernel)]; exact k1
    have k3o : List.lookup ("orders" : Str) (putF "orders" (.ref t2) fs1) = some (V.ref t2) := by rw [lookup_putF, if_pos rfl]
    have f3 : (putF "orders" (.ref t2) fs1).length ≤ 2 := Nat.le_trans (length_putF _ _ _) (Nat.succ_le_succ f1)
    generalize upd H2 x (.ins A.c_Packing dx (putF "orders" (.ref t2) fs1)) = H3 at b3 hx3 ⊢
    generalize putF "orders" (.ref t2) fs1 = fs3 at hx3 k3 k3o f3
    have b03 : But x H H3 := b1.trans ((But.of s2).trans b3)
    have hs3 := sq_but hs hx b03
    have ho3 := b03 _ _ nO ho
    have hos3 := ords_but hos hx b03
    have ht3 := th_but ht hx b03
    have hil : (intV ss).length = ss.length := intV_len ss
    refine ⟨_, rfl, _, rfl, sa, o, _, _, rfl, hs3, SqL.of ho3, fun D hD => ?_⟩
    refine lc_zip (K := K) (walk_zipTL (K := K) (a := sa) (b := o) (xs := intV ss) (ys := xs) (by omega)) (k := 5) (k1 := 6) (by decide) (fun i => .int ((endf ths (ss.getD i 0) (os.getD i []) : Nat) : Int)) hD (fun H s => ⟨sqT_up hs3 s, SqL.of (s _ _ ho3)⟩) (by omega) (fun i u v H4 hi sm hu hv Q q => ?_) (fun H4 s4 e4 => ?_)
    · rw [hil] at hi
      have hio : i < os.length := by omega
      obtain ⟨p, rfl, hp⟩ := ords_get (hos3.up sm) hio hv
      rw [intV_at hi] at hu
      cases hu
      have hgo : os.getD i [] = os[i] := by rw [List.getD_eq_getElem?_getD, List.getElem?_eq_getElem hio]; rfl
      rw [hgo] at q
      exact ⟨_, rfl, _, rfl, _, rfl, t, p, ths, ss.getD i 0, os[i], rfl, ht3.up sm, hp, hkk _ (List.getElem_mem hio), q _ (Same.refl _)⟩
    have een : (List.range (intV ss).length).map (fun i => V.int ((endf ths (ss.getD i 0) (os.getD i []) : Nat) : Int)) = intV (enP ths ss os) := by
      unfold enP
      rw [hil, hol, intV_map]
    rw [een] at e4
    refine ⟨D, _, rfl, .inl ⟨SqL.of e4, fun t3 ht3' => ?_⟩⟩
    have s5 := same_new (o := .tup (intV (enP ths ss os))) ht3'
    have et3 : upd H4 t3 (.tup (intV (enP ths ss os))) t3 = some (.tup (intV (enP ths ss os))) := upd_same
    generalize upd H4 t3 (.tup (intV (enP ths ss os))) = H5 at s5 et3 ⊢
    have s35 := s4.trans s5
    have hx5 := s35 _ _ hx3
    refine ⟨_, rfl, x, A.c_Packing, dx, _, rfl, hx5, T.cl_Packing, T.na_Packing_ends, Nat.lt_of_le_of_lt f3 (by decide), ?_⟩
    have b6 : But x H5 (upd H5 x (.ins A.c_Packing dx (putF "ends" (.ref t3) fs3))) := (But.refl x H5).upd
    have hx6 : upd H5 x (.ins A.c_Packing dx (putF "ends" (.ref t3) fs3)) x = some (.ins A.c_Packing dx (putF "ends" (.ref t3) fs3)) := upd_same
    have k6 : List.lookup ("dealing" : Str) (putF "ends" (.ref t3) fs3) = some (V.ref d) := by rw [lookup_putF, if_neg (by decide +kernel)]; exact k3
    have k6o : List.lookup ("orders" : Str) (putF "ends" (.ref t3) fs3) = some (V.ref t2) := by rw [lookup_putF, if_neg (by decide +kernel)]; exact k3o
    have k6e : List.lookup ("ends" : Str) (putF "ends" (.ref t3) fs3) = some (V.ref t3) := by rw [lookup_putF, if_pos rfl]
    have f6 : (putF "ends" (.ref t3) fs3).length ≤ 3 := Nat.le_trans (length_putF _ _ _) (Nat.succ_le_succ f3)
    generalize upd H5 x (.ins A.c_Packing dx (putF "ends" (.ref t3) fs3)) = H6 at b6 hx6 ⊢
    generalize putF "ends" (.ref t3) fs3 = fs6 at hx6 k6 k6o k6e f6
    have h3t := sq_but (K := K) (SqT.of et3) hx5 b6
    have b36 : But x H3 H6 := (But.of s35).trans b6
    have b06 : But x H H6 := b03.trans b36
    refine ⟨_, rfl, x, A.c_Packing, dx, _, _, rfl, hx6, T.cl_Packing, T.na_Packing_ends, k6e, t3, (enP ths ss os).map fun (n : Nat) => (n : Int), rfl, by rw [← intV_ints]; exact h3t, ?_⟩
    refine ⟨_, rfl, sa, ss.map fun (n : Nat) => (n : Int), rfl, by rw [← intV_ints]; exact sq_but hs hx b06, ?_⟩
    refine ⟨_, _, rfl, rfl, _, rfl, x, A.c_Packing, dx, _, rfl, hx6, T.cl_Packing, T.na_Packing_words, Nat.lt_of_le_of_lt f6 (by decide), ?_⟩
    have b67 : But x H6 (upd H6 x (.ins A.c_Packing dx (putF "words" (.int (((enP ths ss os).map fun (n : Nat) => (n : Int)).sum - (ss.map fun (n : Nat) => (n : Int)).sum)) fs6))) := (But.refl x H6).upd
    have b07 := b06.trans b67
    refine q _ b07 ⟨dx, d, t2, t3, ((enP ths ss os).map fun (n : Nat) => (n : Int)).sum - (ss.map fun (n : Nat) => (n : Int)).sum, _, xs, upd_same, ?_, sq_but hd hx b07, ?_, ?_, ords_but hos hx b07, ?_, sq_but h3t hx6 b67, ?_, ?_⟩
    · rw [lookup_putF, if_neg (by decide +kernel)]; exact k6
    · rw [lookup_putF, if_neg (by decide +kernel)]; exact k6o
    · exact sq_but (sq_but (SqT.of et2) hx2 b3) hx3 (b36.trans b67)
    · rw [lookup_putF, if_neg (by decide +kernel)]; exact k6e
    · rw [lookup_putF, if_pos rfl]
    · rw [sum_castN, sum_castN]
      rfl
theorem ok_check_counts (T : Txt K mg A) : FnOk P w K mg base (L2N.CX P w) 3 A.a_check_counts A.d_check_counts ["rooms", "things"] (spChk K A.c_TooMany) := by
  refine Fun.okN T.F_check_counts sc_check_counts (fun vs H Q E h => ?_) (fun cdv B outer s H vs Q E hr h => ?_)
  · obtain ⟨r, t, xs, ys, rfl, _⟩ := h
    rfl
  · obtain ⟨r, t, xs, ys, rfl, hx, hy, bad, good⟩ := h
    refine ⟨_, (pss_cons (ps_if (pt_cmpR op_gt (pe_callB len_seq (by rfl) T.n_len (by decide +kernel) (pa_cons (pv 1) pa_nil)) pe_int (nomark _)) (pss_one (L2N.ps_raise rfl (L2N.takes_of rfl rfl rfl rfl) (pmk_errN T.x_TooMany (ok_TooMany_init T) (hr.mono (by omega)) (pa_cons pe_int pa_nil)))) pss_nil)
    (pss_one (ps_if (pt_cmpR op_gt (pe_callB len_seq (by rfl) T.n_len (by decide +kernel) (pa_cons (pv 0) pa_nil)) pe_int (nomark _)) (pss_one (L2N.ps_raise rfl (L2N.takes_of rfl rfl rfl rfl) (pmk_errN T.x_TooMany (ok_TooMany_init T) (hr.mono (by omega)) (pa_cons pe_int pa_nil)))) pss_nil))), ?_⟩
    unfold badC at bad good
    refine ⟨_, rfl, t, _, rfl, .inr hy, _, _, rfl, rfl, _, rfl, ifB (fun e => ?_) (fun e => ?_)⟩
    · have e' : (5 : Int) < (ys.length : Int) := of_decide_eq_true e
      rw [if_pos (by omega)] at bad
      exact keep_end fun dz H2 s2 n2 e2 => bad _ rfl dz H2 s2 n2 e2
    · have e' : ¬ (5 : Int) < (ys.length : Int) := of_decide_eq_false e
      rw [if_neg (by omega)] at bad good
      refine ⟨_, rfl, r, _, rfl, .inr hx, _, _, rfl, rfl, _, rfl, ifB (fun e => ?_) (fun e => ?_)⟩
      · have e' : (6 : Int) < (xs.length : Int) := of_decide_eq_true e
        rw [if_pos (by omega)] at bad
        exact keep_end fun dz H2 s2 n2 e2 => bad _ rfl dz H2 s2 n2 e2
      · have e' : ¬ (6 : Int) < (xs.length : Int) := of_decide_eq_false e
        rw [if_neg (by omega)] at good
        exact good rfl
end
end R1

namespace R1
open PySem PySem.Spec PyProof.Rows L2 RK PT
local macro_rules | `(tactic| walk_at "sq") => `(tactic| first
  | exact SqL.of upd_same | exact upd_same | exact SqL.of (by assumption) | exact SqL.of (by rw [upd_ne (by assumption)]; assumption) | assumption)
local macro_rules | `(tactic| walk_at "sd") => `(tactic| first
  | assumption | omega | (refine Or.inl ⟨?_, ?_⟩ <;> omega) | (show _ ∧ _; constructor <;> omega) | (show _ ≠ _; simp; omega) | (exact Or.inl ⟨by decide, by decide⟩) | (exact Or.inr ⟨by decide, by decide⟩) | (show _ < _; decide) | (show _ ≤ _; decide))
local macro_rules | `(tactic| walk_at "at") => `(tactic| first | rfl | (refine atI_intV ?_ ?_ <;> omega) | assumption)
local macro_rules | `(tactic| walk_at "s1") => `(tactic| first
  | refine ⟨_, rfl, ?_⟩ | refine ⟨_, _, rfl, rfl, ?_⟩ | refine ⟨rfl, ?_⟩
  | refine ⟨_, _, _, _, rfl, rfl, by walk_at "sq", by walk_at "at", ?_⟩
  | refine Or.inl ⟨_, rfl, ?_⟩
  | refine ⟨_, _, rfl, Or.inl (by walk_at "sq"), ?_⟩
  | refine And.intro (by walk_at "sd") ?_)
local macro_rules | `(tactic| walk_at "s") => `(tactic| repeat walk_at "s1")

def KnK (K : PySem.W.Frag) (ths : List (Nat × Nat)) (H : Hp) (kvs : List (List Key × V)) : Prop := ∀ k v, valV kvs k = some v → ∀ s m : Nat, k.map kV = [.int (s : Int), .int (m : Int)] → ∃ p, v = .ref p ∧ SqT K H p (intV (foN ths s m))
def PksK (K : PySem.W.Frag) (C : Addr) (ths : List (Nat × Nat)) (ss : List Nat) (H : Hp) (xs : List V) (qs : List Pk) : Prop := xs.length = qs.length ∧ ∀ (k : Nat) (q : Pk), qs[k]? = some q → ∃ x, xs[k]? = some (V.ref x) ∧ PkK K C x ths ss q H
theorem NL.pks {K : PySem.W.Frag} {C : Addr} {ths : List (Nat × Nat)} {ss : List Nat} {H H' : Hp} {xs : List V} {qs : List Pk} (n : NL H H') (h : PksK K C ths ss H xs qs) : PksK K C ths ss H' xs qs := ⟨h.1, fun k q hq => let ⟨x, a, b⟩ := h.2 k q hq; ⟨x, a, n.pk b⟩⟩
theorem NL.kn {K : PySem.W.Frag} {ths : List (Nat × Nat)} {H H' : Hp} {kvs : List (List Key × V)} (n : NL H H') (h : KnK K ths H kvs) : KnK K ths H' kvs := fun k v hv s m e => let ⟨p, a, b⟩ := h k v hv s m e; ⟨p, a, n.sq b⟩
theorem PksK.snoc {K : PySem.W.Frag} {C : Addr} {ths : List (Nat × Nat)} {ss : List Nat} {H : Hp} {xs : List V} {qs : List Pk} {x : Addr} {q : Pk} (h : PksK K C ths ss H xs qs) (e : PkK K C x ths ss q H) : PksK K C ths ss H (xs ++ [.ref x]) (qs ++ [q]) := by
  refine ⟨by rw [List.length_append, List.length_append, h.1]; rfl, fun k t ht => ?_⟩
  rcases Nat.lt_or_ge k qs.length with z | z
  · rw [List.getElem?_append_left z] at ht
    obtain ⟨y, a, b⟩ := h.2 k t ht
    exact ⟨y, by rw [List.getElem?_append_left (by rw [h.1]; exact z)]; exact a, b⟩
  · have hk : k = qs.length := by
      have := (List.getElem?_eq_some_iff.mp ht).1
      rw [List.length_append] at this
      simp at this
      omega
    subst hk
    rw [List.getElem?_append_right (Nat.le_refl _), Nat.sub_self] at ht
    cases ht
    exact ⟨x, by rw [← h.1, List.getElem?_append_right (Nat.le_refl _), Nat.sub_self]; rfl, e⟩
theorem KnK.put {K : PySem.W.Frag} {ths : List (Nat × Nat)} {H : Hp} {kvs : List (List Key × V)} (h : KnK K ths H kvs) {k : List Key} {s m : Nat} {p : Addr} (hk : k.map kV = [.int (s : Int), .int (m : Int)]) (hp : SqT K H p (intV (foN ths s m))) : KnK K ths H (putK kvs k (.ref p)) := fun j v hv s' m' e => by
  rw [valV_put] at hv
  by_cases z : j = k
  · rw [if_pos z] at hv
    cases hv
    rw [z, hk] at e
    have e1 : (s : Int) = s' := V.int.inj (List.cons.inj e).1
    have e2 : (m : Int) = m' := V.int.inj (List.cons.inj (List.cons.inj e).2).1
    refine ⟨p, rfl, ?_⟩
    rw [← show s = s' by omega, ← show m = m' by omega]
    exact hp
  · rw [if_neg z] at hv
    exact h j v hv s' m' e
theorem walk_enumL {K : PySem.W.Frag} {a : Addr} {xs : List V} : Walk (Ite K a) xs.length (fun H => SqL K H a xs) (fun i H v H' => ∃ T x, v = V.ref T ∧ H T = none ∧ H' = upd H T (.tup [.int (i : Nat), x]) ∧ xs[i]? = some x) :=
  ⟨fun i H hi h => ⟨xs, xs[i], h, List.getElem?_eq_getElem hi⟩, fun H h => ⟨xs, h, Nat.le_refl _⟩, fun i H v H' _ h y => let ⟨T, x, a, b, c, d⟩ := y; ⟨T, x, a, b, c, d xs h⟩⟩
theorem loP_foN (ths : List (Nat × Nat)) (ss dl : List Nat) (j : Nat) (h : dl.length = ths.length) : loP ths ss dl (j + 1) = loP ths ss dl j ++ [foN ths (ss.getD j 0) (chN dl j)] := by
  rw [loP_succ]
  unfold foN
  rw [← h, nums_chN]
theorem fo_mem {ths : List (Nat × Nat)} {s : Nat} {ns : List Nat} : ∀ k ∈ fo ths ns.length s ns, k ∈ ns := fun k hk => by
  have h := (kp_first ths s ns).split
  obtain ⟨pre, post, e, _⟩ := h
  have hm : fo ths ns.length s ns ∈ kp ns.length ns := by rw [e]; exact List.mem_append_right _ List.mem_cons_self
  exact ((kp_perm _ rfl).mp hm).mem_iff.mp hk
theorem grp_lt {dl : List Nat} {r k : Nat} (h : k ∈ grp dl r) : k < dl.length := List.mem_range.mp (List.mem_filter.mp h).1
theorem kn_nil {K : PySem.W.Frag} {ths : List (Nat × Nat)} {H : Hp} : KnK K ths H [] := fun k v h => by
  rw [valV_nil] at h
  cases h
theorem ch_sum (dl : List Nat) (j : Nat) : ((grp dl j).map fun k => ((2 ^ k : Nat) : Int)).sum = ((chN dl j : Nat) : Int) := by
  unfold chN
  rw [← sum_castN, List.map_map]
  rfl
def spLeastP (K : PySem.W.Frag) (C : Addr) : Sp := fun vs H Q _ => ∃ (sa t ca : Addr) (ss : List Nat) (ths : List (Nat × Nat)) (chs : List (List Nat)), vs = [.ref sa, .ref t, .ref ca] ∧ SqT K H sa (intV ss) ∧ ThK K H t ths ∧ ChK K H ca chs ∧ chs.length = ths.length ∧ chs.length ≤ 5 ∧ (∀ ch ∈ chs, ch.length ≤ 3) ∧ ss.length ≤ 6 ∧
  ∀ H' l xs, Same H H' → H' l = some (.lst xs) → PksK K C ths ss H' xs (leaP ths ss chs ss.length) → Q (.ref l) H'
section
variable {P : Program} {w : World} {K : PySem.W.Frag} {mg : Str → Option Value} {base : Heap} {A : Ads}
theorem ok_least_packings (T : Txt K mg A) : FnOk P w K mg base CX0 6 A.a_least_packings A.d_least_packings ["starts", "things", "choices"] (spLeastP K A.c_Packing) := by
  refine T.F_least_packings.ok sc_least_packings (fun vs H Q E h => ?_) (fun cdv B outer s H vs Q E hr h => ?_)
  · obtain ⟨sa, t, ca, ss, ths, chs, rfl, _⟩ := h
    rfl
  · obtain ⟨sa, t, ca, ss, ths, chs, rfl, hs, ht, hc, hcl, hl5, hc3, hs6, q⟩ := h
    refine ⟨_, (pss_cons (ps_set (i := 3) sc_least_packings.nd rfl (.inl rfl) pe_dnewT)
    (pss_cons (ps_set (i := 4) sc_least_packings.nd rfl (.inl rfl) (pe_lst pa_nil))
    (pss_cons (ps_for PassesOwn.never rfl (pi_list (pe_call (ok_dealings T) (hr.mono (by omega)) rfl T.g_dealings T.F_dealings.kp T.b_dealings .nil pass0 (pa_cons (pv 2) pa_nil))) (pg_name (i := 5) sc_least_packings.nd rfl (.inl rfl))
      (pss_cons (ps_set (i := 6) sc_least_packings.nd rfl (.inl rfl) (pe_lst pa_nil))
    (pss_cons (ps_for PassesOwn.never rfl (pi_enumT (by rfl) T.n_enumerate (pa_cons (pv 0) pa_nil)) (pg_tup (by rfl) (pgs_cons (pg_name (i := 7) sc_least_packings.nd rfl (.inl rfl)) (pgs_cons (pg_name (i := 8) sc_least_packings.nd rfl (.inl rfl)) pgs_nil)))
      (pss_cons (ps_set (i := 10) sc_least_packings.nd rfl (.inl rfl) (pe_callB (cr_sum rfl) (by rfl) T.n_sum (by decide +kernel) (pa_cons (pe_lc (own := [("number", 9)]) rfl sc_least_packings.nd (pi_list (pe_call (ok_dealt_to T) (hr.mono (by omega)) rfl T.g_dealt_to T.F_dealt_to.kp T.b_dealt_to .nil pass0 (pa_cons (pv 5) (pa_cons (pv 7) pa_nil)))) (blkOk_by (own := [("number", 9)]) (N := N_least_packings) (sc := defScope s_least_packings) (by decide +kernel)) (fun _ _ _ _ _ => pg_name (i := 9) sc_least_packings.nd rfl (Or.inl rfl)) (fun _ _ _ _ _ => pts_nil) (fun _ _ _ _ _ => by exact (pe_op op_oneShl pe_int (pv 9)))) pa_nil)))
    (pss_cons (ps_if (pt_cmp (pc_dnotin (hu_of hr) (pe_tup (pa_cons (pv 8) (pa_cons (pv 10) pa_nil))) (pv 3))) (pss_one (ps_dput (hu_of hr) (pv 3) (pe_tup (pa_cons (pv 8) (pa_cons (pv 10) pa_nil))) (pe_call (ok_first_order T) (hr.mono (by omega)) rfl T.g_first_order T.F_first_order.kp T.b_first_order .nil pass0 (pa_cons (pv 8) (pa_cons (pv 1) (pa_cons (pv 10) pa_nil)))) rfl)) pss_nil)
    (pss_one (ps_expr (pe_bm PySem.F.plainAttrs_list PySem.F.slot_list_append PySem.F.type_list_append mt_append (pv 6) (pa_cons (pe_dget (hu_of hr) (pv 3) (pe_tup (pa_cons (pv 8) (pa_cons (pv 10) pa_nil))) (fun _ _ => rfl)) pa_nil)))))))
    (pss_one (ps_expr (pe_bm PySem.F.plainAttrs_list PySem.F.slot_list_append PySem.F.type_list_append mt_append (pv 4) (pa_cons (pe_make T.m_Packing (ok_Packing_init T) (hr.mono (by omega)) rfl T.g_Packing T.b_Packing_init .nil pass0 (pa_cons (pv 0) (pa_cons (pv 1) (pa_cons (pv 5) (pa_cons (pv 6) pa_nil))))) pa_nil)))))))
    (pss_one (ps_ret (pv 4)))))), ?_⟩
    intro kd hkd
    have skd := same_new (o := .dT []) hkd
    have ekd : upd H kd (.dT []) kd = some (.dT []) := upd_same
    generalize upd H kd (.dT []) = H1 at skd ekd ⊢
    refine ⟨lenOk (n := 0) rfl (by decide), fun rl hrl => ?_⟩
    have srl := same_new (o := .lst []) hrl
    have erl : upd H1 rl (.lst []) rl = some (.lst []) := upd_same
    generalize upd H1 rl (.lst []) = H2 at srl erl ⊢
    have ekd2 := srl _ _ ekd
    have s2 := skd.trans srl
    have nrl := skd.free hrl
    have nkr : kd ≠ rl := fun z => by rw [z, erl] at ekd2; cases ekd2
    refine ⟨_, rfl, ca, chs, rfl, (NL.of s2).ch hc, hl5, hc3, fun H3 l xs s3 nl0 el ol => ⟨l, rfl, ⟨_, SqL.of el⟩, ?_⟩⟩
    obtain ⟨hdl, hde⟩ := dls_len chs.length chs rfl hc3
    have h35 := pow35 hl5
    have hxl := ol.1
    have s03 := s2.trans s3
    have hlea : leaP ths ss chs ss.length = (dls chs).map fun dl => (dl, loP ths ss dl ss.length) := rfl
    rw [hlea] at q
    generalize dls chs = rs at *
    have hil := intV_len ss
    have nlr : l ≠ rl := fun z => by rw [z, erl] at nl0; cases nl0
    have nlk : l ≠ kd := fun z => by rw [z, s3 _ _ ekd2] at el; cases el
    refine for_it (walk_list (K := K) (a := l) (xs := xs)) (fun i σ Hc => ∃ o5 o6 o7 o8 o9 o10 kvs ys, σ = [some (.ref sa), some (.ref t), some (.ref ca), some (.ref kd), some (.ref rl), o5, o6, o7, o8, o9, o10] ∧ Same H Hc ∧ NL H3 Hc ∧ Hc l = some (.lst xs) ∧ Hc kd = some (.dT kvs) ∧ KnK K ths Hc kvs ∧ kvs.length ≤ 6 * i ∧ Hc rl = some (.lst ys) ∧ PksK K A.c_Packing ths ss Hc ys ((rs.take i).map fun dl => (dl, loP ths ss dl ss.length)))
      ⟨_, _, _, _, _, _, [], [], rfl, s03, NL.of (Same.refl _), el, s3 _ _ ekd2, kn_nil, Nat.le_refl _, s3 _ _ erl, rfl, fun k q h => by cases h⟩ (fun i σ Hc _ y => ?_) (fun i x σ Hc Hd hi y e => ?_) (fun σ Hc y => ?_)
    · obtain ⟨_, _, _, _, _, _, _, _, _, _, _, h, _⟩ := y
      exact SqL.of h
    · obtain ⟨rfl, e⟩ := e
      obtain ⟨o5, o6, o7, o8, o9, o10, kvs, ys, rfl, sm, nl, hll, hk, hkn, hkl, hr, hps⟩ := y
      rw [hxl] at hi
      obtain ⟨pd, rfl, hpd⟩ := ords_get (nl.ords ol) hi e
      rw [take_mapG _ _ _ hi]
      have hdl5 := hde rs[i] (List.getElem_mem hi)
      rw [hcl] at hdl5
      generalize rs[i] = dl at *
      have hdl7 : dl.length ≤ 5 := by omega
      refine ⟨lenOk (n := 0) rfl (by decide), fun od hod => ?_⟩
      have sod := same_new (o := .lst []) hod
      have eod : upd Hd od (.lst []) od = some (.lst []) := upd_same
      generalize upd Hd od (.lst []) = G0 at sod eod ⊢
      have nok : od ≠ kd := fun z => by rw [z, hk] at hod; cases hod
      have nor : od ≠ rl := fun z => by rw [z, hr] at hod; cases hod
      have nol : od ≠ l := fun z => by rw [z, hll] at hod; cases hod
      have hodH := sm.free hod
      have sm0 := sm.trans sod
      refine ⟨_, rfl, sa, _, rfl, sqT_up hs sm0, ?_⟩
      refine for_it (walk_enumT (K := K) (a := sa) (xs := intV ss)) (fun j σ Hc => ∃ o7 o8 o9 o10 kvs zs, σ = [some (.ref sa), some (.ref t), some (.ref ca), some (.ref kd), some (.ref rl), some (.ref pd), some (.ref od), o7, o8, o9, o10] ∧ Same H Hc ∧ NL Hd Hc ∧ Hc l = some (.lst xs) ∧ Hc kd = some (.dT kvs) ∧ KnK K ths Hc kvs ∧ kvs.length ≤ 6 * i + j ∧ Hc rl = some (.lst ys) ∧ Hc od = some (.lst zs) ∧ OrdsK K Hc zs (loP ths ss dl j))
        ⟨_, _, _, _, kvs, [], rfl, sm0, NL.of sod, sod _ _ hll, sod _ _ hk, (NL.of sod).kn hkn, hkl, sod _ _ hr, eod, ords_nil⟩ (fun j σ Hc _ y => ?_) (fun j x σ Hc He hj y e => ?_) (fun σ Hc y => ?_)
      · obtain ⟨_, _, _, _, _, _, _, h, _⟩ := y
        exact sqT_up hs h
      · obtain ⟨o7, o8, o9, o10, kvs, zs, rfl, smj, nlj, hll, hk, hkn, hkl, hr, hz, hoz⟩ := y
        obtain ⟨T0, x0, rfl, nT0, rfl, ex⟩ := e
        rw [hil] at hj
        rw [intV_at hj] at ex
        cases ex
        have sT := same_new (o := .tup [.int (j : Nat), V.int ((ss.getD j 0 : Nat) : Int)]) nT0
        have eT : upd Hc T0 (.tup [.int (j : Nat), V.int ((ss.getD j 0 : Nat) : Int)]) T0 = some (.tup [.int (j : Nat), V.int ((ss.getD j 0 : Nat) : Int)]) := upd_same
        generalize upd Hc T0 (.tup [.int (j : Nat), V.int ((ss.getD j 0 : Nat) : Int)]) = G1 at sT eT ⊢
        have hpd1 := sqT_up (nlj.sq hpd) sT
        refine ⟨T0, _, rfl, SqT.of eT, rfl, _, _, rfl, _, _, rfl, rfl, ?_⟩
        refine ⟨_, rfl, _, rfl, pd, dl, j, rfl, hpd1, by omega, fun G2 l2 s2' e2 => ⟨l2, rfl, ⟨_, SqL.of e2⟩, fun D hD => ?_⟩⟩
        have hnl : (intV (grp dl j)).length = (grp dl j).length := intV_len _
        have hgl : (grp dl j).length ≤ 5 := Nat.le_trans (List.length_filter_le _ _) (by rw [List.length_range]; exact hdl7)
        refine lc_vals (walk_list (K := K) (a := l2) (xs := intV (grp dl j))) (fun i v => (intV (grp dl j))[i]? = some v) (fun i => .int ((2 ^ ((grp dl j).getD i 0) : Nat) : Int)) hD (fun H4 s4 => SqL.of (s4 _ _ e2)) (by omega) (fun i H1 v H2 hi y => ⟨y.1, y.2⟩) (fun i v H4 hi sm hv Q q => ?_) (fun G3 s3 e3 => ?_)
        · rw [hnl] at hi
          rw [intV_at hi] at hv
          cases hv
          have hm : (grp dl j).getD i 0 < dl.length := by
            rw [List.getD_eq_getElem?_getD, List.getElem?_eq_getElem hi]
            exact grp_lt (List.getElem_mem hi)
          refine ⟨_, rfl, (grp dl j).getD i 0, rfl, rfl, by omega, ?_⟩
          have := q _ (Same.refl _)
          rw [Int.natCast_pow] at this
          exact this
        refine ⟨D, (grp dl j).map fun k => ((2 ^ k : Nat) : Int), rfl, SqL.of ?_, ?_⟩
        · rw [e3, hnl, List.map_map]
          exact congrArg (fun z => some (HO.lst z)) (range_getD (fun k : Nat => V.int ((2 ^ k : Nat) : Int)) 0 (grp dl j))
        rw [ch_sum]
        have s13 := sT.trans (s2'.trans s3)
        have hk3 := s13 _ _ hk
        have hkn3 := (NL.of s13).kn hkn
        have hz3 := s13 _ _ hz
        have hr3 := s13 _ _ hr
        have hll3 := s13 _ _ hll
        have hoz3 := hoz.up s13
        have smj3 := smj.trans s13
        have nlj3 := nlj.trans (NL.of s13)
        clear s13 hk hkn hz hr hll hoz smj nlj sT s2' s3 e3 e2 eT hpd1
        have hchl := chN_lt dl j
        have hfo := loP_foN ths ss dl j hdl5
        obtain ⟨key, hkey⟩ : ∃ key : List Key, key = [.inl ((ss.getD j 0 : Nat) : Int), .inl ((chN dl j : Nat) : Int)] := ⟨_, rfl⟩
        have hkm : key.map kV = [.int ((ss.getD j 0 : Nat) : Int), .int ((chN dl j : Nat) : Int)] := by rw [hkey]; rfl
        refine ⟨_, rfl, _, rfl, lenOk (n := 2) rfl (by decide), fun t1 ht1 => ?_⟩
        have s4 := same_new (o := .tup [V.int ((ss.getD j 0 : Nat) : Int), V.int ((chN dl j : Nat) : Int)]) ht1
        have et1 : upd G3 t1 (.tup [V.int ((ss.getD j 0 : Nat) : Int), V.int ((chN dl j : Nat) : Int)]) t1 = some (.tup (key.map kV)) := by rw [upd_same, hkm]
        generalize upd G3 t1 (.tup [V.int ((ss.getD j 0 : Nat) : Int), V.int ((chN dl j : Nat) : Int)]) = G4 at s4 et1 ⊢
        have hk4 := s4 _ _ hk3
        refine ⟨_, rfl, kd, _, rfl, DGet.t (kvs := kvs) (k := key) hk4 et1, _, rfl, ?_⟩
        cases hv : valV kvs key with
        | some v =>
          obtain ⟨pv, rfl, hpv⟩ := (NL.of s4).kn hkn3 key v hv _ _ hkm
          refine ifF rfl ?_
          obtain ⟨G5, hG5⟩ : ∃ G5, G5 = G4 := ⟨_, rfl⟩
          rw [← hG5] at s4 hk4 hpv ⊢
          have hz5 := s4 _ _ hz3
          have hr5 := s4 _ _ hr3
          have hll5 := s4 _ _ hll3
          have hoz5 := hoz3.up s4
          have sm5 := smj3.trans s4
          have nl5 := nlj3.trans (NL.of s4)
          obtain ⟨kvs5, hkv5⟩ : ∃ kvs5, kvs5 = kvs := ⟨_, rfl⟩
          have hk5 := hk4
          have hkn5 := (NL.of s4).kn hkn3
          have hkl5 : kvs.length ≤ 6 * i + (j + 1) := by omega
          have hget := hv
          rw [← hkv5] at hk5 hkn5 hkl5 hget
          refine ⟨_, rfl, .inl ⟨rfl, _, SqL.of hz5⟩, _, rfl, _, rfl, _, rfl, lenOk (n := 2) rfl (by decide), fun t3 ht3 => ?_⟩
          have s6 := same_new (o := .tup [V.int ((ss.getD j 0 : Nat) : Int), V.int ((chN dl j : Nat) : Int)]) ht3
          have et3 : upd G5 t3 (.tup [V.int ((ss.getD j 0 : Nat) : Int), V.int ((chN dl j : Nat) : Int)]) t3 = some (.tup (key.map kV)) := by rw [upd_same, hkm]
          generalize upd G5 t3 (.tup [V.int ((ss.getD j 0 : Nat) : Int), V.int ((chN dl j : Nat) : Int)]) = G6 at s6 et3 ⊢
          have hz6 := s6 _ _ hz5
          have hk6 := s6 _ _ hk5
          have hzl : zs.length = j := by rw [hoz5.1, loP_len]
          refine ⟨kd, V.ref pv, rfl, by have := DGet.t (kvs := kvs5) (k := key) hk6 et3; rw [hget] at this; exact this, ?_⟩
          refine ⟨od, _, _, rfl, rfl, hz6, lt_line (by omega), ?_⟩
          refine ⟨_, _, _, _, kvs5, zs ++ [.ref pv], rfl, same_mut (sm5.trans s6) hodH, (nl5.trans (NL.of s6)).trans (NL.put hz6), ?_, ?_, (NL.put hz6).kn ((NL.of s6).kn hkn5), hkl5, ?_, upd_same, ?_⟩
          · rw [upd_ne (Ne.symm nol)]
            exact s6 _ _ hll5
          · rw [upd_ne (Ne.symm nok)]
            exact hk6
          · rw [upd_ne (Ne.symm nor)]
            exact s6 _ _ hr5
          · rw [hfo]
            exact (NL.put hz6).ords ((hoz5.up s6).snoc (sqT_up hpv s6))
        | none =>
          refine ifT rfl ?_
          refine ⟨_, rfl, _, rfl, _, rfl, t, ths, ss.getD j 0, chN dl j, rfl, (smj3.trans s4 |> fun z => ht.up z), by rw [← hdl5]; exact hchl, fun G4b pv s4b hpvb => ?_⟩
          refine ⟨_, rfl, _, rfl, _, rfl, lenOk (n := 2) rfl (by decide), fun t2 ht2 => ?_⟩
          have s4c := same_new (o := .tup [V.int ((ss.getD j 0 : Nat) : Int), V.int ((chN dl j : Nat) : Int)]) ht2
          have et2 : upd G4b t2 (.tup [V.int ((ss.getD j 0 : Nat) : Int), V.int ((chN dl j : Nat) : Int)]) t2 = some (.tup (key.map kV)) := by rw [upd_same, hkm]
          generalize upd G4b t2 (.tup [V.int ((ss.getD j 0 : Nat) : Int), V.int ((chN dl j : Nat) : Int)]) = G4c at s4c et2 ⊢
          have sc := s4.trans (s4b.trans s4c)
          have hk4c := sc _ _ hk3
          refine ⟨kd, _, rfl, DPut.t (kvs := kvs) (k := key) hk4c et2 (lt_line (by omega)), ?_⟩
          have nlp : NL G4c (upd G4c kd (.dT (putK kvs key (.ref pv)))) := NL.putT hk4c
          have hk5 : upd G4c kd (.dT (putK kvs key (.ref pv))) kd = some (.dT (putK kvs key (.ref pv))) := upd_same
          have hz5 : upd G4c kd (.dT (putK kvs key (.ref pv))) od = some (.lst zs) := by rw [upd_ne nok]; exact sc _ _ hz3
          have hr5 : upd G4c kd (.dT (putK kvs key (.ref pv))) rl = some (.lst ys) := by rw [upd_ne (Ne.symm nkr)]; exact sc _ _ hr3
          have hll5 : upd G4c kd (.dT (putK kvs key (.ref pv))) l = some (.lst xs) := by rw [upd_ne nlk]; exact sc _ _ hll3
          have sm5 : Same H (upd G4c kd (.dT (putK kvs key (.ref pv)))) := same_mut (smj3.trans sc) hkd
          have nl5 := nlj3.trans ((NL.of sc).trans nlp)
          have hoz5 := nlp.ords (hoz3.up sc)
          have hpv := nlp.sq (sqT_up hpvb s4c)
          have hkn5 : KnK K ths (upd G4c kd (.dT (putK kvs key (.ref pv)))) (putK kvs key (.ref pv)) := (nlp.kn ((NL.of sc).kn hkn3)).put hkm hpv
          have hkl5 : (putK kvs key (V.ref pv)).length ≤ 6 * i + (j + 1) := by
            have := length_putK kvs key (V.ref pv)
            omega
          have hget : valV (putK kvs key (V.ref pv)) key = some (V.ref pv) := by rw [valV_put, if_pos rfl]
          generalize upd G4c kd (.dT (putK kvs key (.ref pv))) = G5 at *
          generalize putK kvs key (.ref pv) = kvs5 at *
          refine ⟨_, rfl, .inl ⟨rfl, _, SqL.of hz5⟩, _, rfl, _, rfl, _, rfl, lenOk (n := 2) rfl (by decide), fun t3 ht3 => ?_⟩
          have s6 := same_new (o := .tup [V.int ((ss.getD j 0 : Nat) : Int), V.int ((chN dl j : Nat) : Int)]) ht3
          have et3 : upd G5 t3 (.tup [V.int ((ss.getD j 0 : Nat) : Int), V.int ((chN dl j : Nat) : Int)]) t3 = some (.tup (key.map kV)) := by rw [upd_same, hkm]
          generalize upd G5 t3 (.tup [V.int ((ss.getD j 0 : Nat) : Int), V.int ((chN dl j : Nat) : Int)]) = G6 at s6 et3 ⊢
          have hz6 := s6 _ _ hz5
          have hk6 := s6 _ _ hk5
          have hzl : zs.length = j := by rw [hoz5.1, loP_len]
          refine ⟨kd, V.ref pv, rfl, by have := DGet.t (kvs := kvs5) (k := key) hk6 et3; rw [hget] at this; exact this, ?_⟩
          refine ⟨od, _, _, rfl, rfl, hz6, lt_line (by omega), ?_⟩
          refine ⟨_, _, _, _, kvs5, zs ++ [.ref pv], rfl, same_mut (sm5.trans s6) hodH, (nl5.trans (NL.of s6)).trans (NL.put hz6), ?_, ?_, (NL.put hz6).kn ((NL.of s6).kn hkn5), hkl5, ?_, upd_same, ?_⟩
          · rw [upd_ne (Ne.symm nol)]
            exact s6 _ _ hll5
          · rw [upd_ne (Ne.symm nok)]
            exact hk6
          · rw [upd_ne (Ne.symm nor)]
            exact s6 _ _ hr5
          · rw [hfo]
            exact (NL.put hz6).ords ((hoz5.up s6).snoc (sqT_up hpv s6))
      · obtain ⟨o7, o8, o9, o10, kvs, zs, rfl, smj, nlj, hll, hk, hkn, hkl, hr, hz, hoz⟩ := y
        rw [hil] at hoz hkl
        refine ⟨_, rfl, .inl ⟨rfl, _, SqL.of hr⟩, _, rfl, _, rfl, _, rfl, _, rfl, fun x dx nx ndx ne => ?_⟩
        have sN : Same Hc (upd (upd Hc dx (.own x)) x (.ins A.c_Packing dx [])) := fun b o e => by
          rw [upd_ne (ne_of_none e nx), upd_ne (ne_of_none e ndx)]
          exact e
        have hx2 : upd (upd Hc dx (.own x)) x (.ins A.c_Packing dx []) x = some (.ins A.c_Packing dx []) := upd_same
        generalize upd (upd Hc dx (.own x)) x (.ins A.c_Packing dx []) = G2 at sN hx2 ⊢
        refine ⟨x, dx, sa, t, pd, od, ss, ths, dl, loP ths ss dl ss.length, zs, rfl, hx2, sqT_up hs (smj.trans sN), ht.up (smj.trans sN), sqT_up (nlj.sq hpd) sN, sN _ _ hz, hoz.up sN, loP_len _ _ _ _, fun o ho k hk => ?_, by omega, fun G3 b3 pk => ?_⟩
        · unfold loP at ho
          obtain ⟨r, _, rfl⟩ := List.mem_map.mp ho
          have := grp_lt (fo_mem k hk)
          omega
        have s3 : Same Hc G3 := fun b o e => b3 b o (ne_of_none e nx) (sN _ _ e)
        have hr3 := s3 _ _ hr
        have hyl : ys.length = i := by rw [hps.1, List.length_map, List.length_take]; omega
        refine ⟨rfl, rl, _, _, rfl, rfl, hr3, lt_line (by omega), ?_⟩
        refine ⟨_, _, _, _, _, _, kvs, ys ++ [.ref x], rfl, same_mut (smj.trans s3) nrl, (nl.trans (nlj.trans (NL.of s3))).trans (NL.put hr3), ?_, ?_, (NL.put hr3).kn ((NL.of s3).kn hkn), by omega, upd_same, ?_⟩
        · rw [upd_ne nlr]
          exact s3 _ _ hll
        · rw [upd_ne nkr]
          exact s3 _ _ hk
        · exact (NL.put hr3).pks (((nlj.trans (NL.of s3)).pks hps).snoc pk)
    · obtain ⟨o5, o6, o7, o8, o9, o10, kvs, ys, rfl, sm, nl, hll, hk, hkn, hkl, hr, hps⟩ := y
      rw [hxl, List.take_length] at hps
      exact ⟨_, rfl, q _ rl ys sm hr hps⟩
end
end R1

namespace R1
open PySem PySem.Spec PyProof.Rows L2 RK PT
local macro_rules | `(tactic| walk_at "sq") => `(tactic| first
  | exact SqL.of upd_same | exact upd_same | exact SqL.of (by assumption) | exact SqL.of (by rw [upd_ne (by assumption)]; assumption) | assumption)
local macro_rules | `(tactic| walk_at "sd") => `(tactic| first
  | assumption | omega | (refine Or.inl ⟨?_, ?_⟩ <;> omega) | (show _ ∧ _; constructor <;> omega) | (show _ ≠ _; simp; omega) | (exact Or.inl ⟨by decide, by decide⟩) | (exact Or.inr ⟨by decide, by decide⟩) | (show _ < _; decide) | (show _ ≤ _; decide))
local macro_rules | `(tactic| walk_at "at") => `(tactic| first | rfl | (refine atI_intV ?_ ?_ <;> omega) | assumption)
local macro_rules | `(tactic| walk_at "s1") => `(tactic| first
  | refine ⟨_, rfl, ?_⟩ | refine ⟨_, _, rfl, rfl, ?_⟩ | refine ⟨rfl, ?_⟩
  | refine ⟨_, _, _, _, rfl, rfl, by walk_at "sq", by walk_at "at", ?_⟩
  | refine Or.inl ⟨_, rfl, ?_⟩
  | refine ⟨_, _, rfl, Or.inl (by walk_at "sq"), ?_⟩
  | refine And.intro (by walk_at "sd") ?_)
local macro_rules | `(tactic| walk_at "s") => `(tactic| repeat walk_at "s1")

/-! lists of things that stand in tuples -/
def LsK {α : Type} (E : Hp → Addr → α → Prop) (H : Hp) (xs : List V) (as : List α) : Prop := xs.length = as.length ∧ ∀ (k : Nat) (a : α), as[k]? = some a → ∃ p : Addr, xs[k]? = some (V.ref p) ∧ E H p a
theorem LsK.up {α : Type} {E : Hp → Addr → α → Prop} {H H' : Hp} {xs : List V} {as : List α} (h : LsK E H xs as) (st : ∀ p a, E H p a → E H' p a) : LsK E H' xs as := ⟨h.1, fun k a ha => let ⟨p, e, f⟩ := h.2 k a ha; ⟨p, e, st _ _ f⟩⟩
theorem LsK.nil {α : Type} {E : Hp → Addr → α → Prop} {H : Hp} : LsK E H [] ([] : List α) := ⟨rfl, fun k a h => by cases h⟩
theorem LsK.snoc {α : Type} {E : Hp → Addr → α → Prop} {H : Hp} {xs : List V} {as : List α} {p : Addr} {a : α} (h : LsK E H xs as) (e : E H p a) : LsK E H (xs ++ [.ref p]) (as ++ [a]) := by
  refine ⟨by rw [List.length_append, List.length_append, h.1]; rfl, fun k t ht => ?_⟩
  rcases Nat.lt_or_ge k as.length with z | z
  · rw [List.getElem?_append_left z] at ht
    obtain ⟨y, a, b⟩ := h.2 k t ht
    exact ⟨y, by rw [List.getElem?_append_left (by rw [h.1]; exact z)]; exact a, b⟩
  · have hk : k = as.length := by
      have := (List.getElem?_eq_some_iff.mp ht).1
      rw [List.length_append] at this
      simp at this
      omega
    subst hk
    rw [List.getElem?_append_right (Nat.le_refl _), Nat.sub_self] at ht
    cases ht
    exact ⟨p, by rw [← h.1, List.getElem?_append_right (Nat.le_refl _), Nat.sub_self]; rfl, e⟩
theorem LsK.get {α : Type} {E : Hp → Addr → α → Prop} {H : Hp} {xs : List V} {as : List α} {i : Nat} {v : V} (h : LsK E H xs as) (hi : i < as.length) (e : xs[i]? = some v) : ∃ p, v = .ref p ∧ E H p as[i] := by
  obtain ⟨p, a, b⟩ := h.2 i as[i] (List.getElem?_eq_getElem hi)
  rw [a] at e
  exact ⟨p, (Option.some.inj e).symm, b⟩
theorem big_line {n : Nat} (h : n < 16000000) : n < sizeLine := Nat.lt_of_lt_of_le h (by decide)
def spChoice (K : PySem.W.Frag) : Sp := fun vs H Q _ => ∃ (c p : Addr) (n : Nat), vs = [.ref p, .int (n : Int)] ∧ Src c H p ∧ n ≤ 3 ∧ ∀ H' a (ch : List Nat), SqT K H' a (intV ch) → ch.length ≤ 3 → Src c H' p → But p H H' → Q (.ref a) H'
def spLDeal (K : PySem.W.Frag) : Sp := fun vs H Q _ => ∃ (a : Addr) (chs : List (List Nat)), vs = [.ref a] ∧ ChK K H a chs ∧ chs.length ≤ 5 ∧ (∀ ch ∈ chs, ch.length ≤ 3) ∧ ∀ H' l xs, Same H H' → H l = none → H' l = some (.lst xs) → OrdsK K H' xs (dls chs) → Q (.ref l) H'
section
variable {P : Program} {w : World} {K : PySem.W.Frag} {mg : Str → Option Value} {base : Heap} {A : Ads}
theorem ok_law_choice (T : Txt K mg A) : FnOk P w K mg base CX0 2 A.a_law_choice A.d_law_choice ["_law_source_here", "_law_count"] (spChoice K) := by
  refine T.F_law_choice.ok sc_law_choice (fun vs H Q E h => ?_) (fun cdv B outer s H vs Q E hr h => ?_)
  · obtain ⟨c, p, n, rfl, _⟩ := h
    rfl
  · obtain ⟨c, p, n, rfl, hs, hn, q⟩ := h
    refine ⟨_, (pss_cons (ps_set (i := 2) sc_law_choice.nd rfl (.inl rfl) (pe_listRg rfl (by rfl) T.n_list (prg_1 (by rfl) T.n_range (pv 1))))
    (pss_cons (ps_set (i := 3) sc_law_choice.nd rfl (.inl rfl) (pe_lst pa_nil))
    (pss_cons (ps_for PassesOwn.never rfl (pi_range1 (by rfl) T.n_range (pa_cons (pe_callB (call_min2 rfl) (by rfl) T.n_min (by decide +kernel) (pa_cons (pe_callTy call_int1 (by rfl) T.n_int (by decide +kernel) (pa_cons (pv 1) pa_nil)) (pa_cons (pe_op op_add pe_int (pe_call (ok_law_draw T) (hr.mono (by omega)) rfl T.g_law_draw T.F_law_draw.kp T.b_law_draw .nil pass0 (pa_cons (pv 0) (pa_cons (pe_callB (call_max2 rfl) (by rfl) T.n_max (by decide +kernel) (pa_cons pe_int (pa_cons (pv 1) pa_nil))) pa_nil)))) pa_nil))) pa_nil)) (pg_name (i := 4) sc_law_choice.nd rfl (.inl rfl))
      (pss_one (ps_expr (pe_bm PySem.F.plainAttrs_list PySem.F.slot_list_append PySem.F.type_list_append mt_append (pv 3) (pa_cons (pe_bm PySem.F.plainAttrs_list PySem.F.slot_list_pop PySem.F.type_list_pop mt_popAt (pv 2) (pa_cons (pe_call (ok_law_draw T) (hr.mono (by omega)) rfl T.g_law_draw T.F_law_draw.kp T.b_law_draw .nil pass0 (pa_cons (pv 0) (pa_cons (pe_callB len_seq (by rfl) T.n_len (by decide +kernel) (pa_cons (pv 2) pa_nil)) pa_nil))) pa_nil)) pa_nil)))))
    (pss_cons (ps_if (pt_cmpR op_eq (pe_call (ok_law_draw T) (hr.mono (by omega)) rfl T.g_law_draw T.F_law_draw.kp T.b_law_draw .nil pass0 (pa_cons (pv 0) (pa_cons pe_int pa_nil))) pe_int (nomark _)) (pss_one (ps_set (i := 3) sc_law_choice.nd rfl (.inl rfl) (pe_lst pa_nil))) pss_nil)
    (pss_one (ps_ret (pe_callTy tuple_of (by rfl) T.n_tuple (by decide +kernel) (pa_cons (pv 3) pa_nil)))))))), ?_⟩
    refine ⟨_, rfl, (n : Int), rfl, ⟨RgOk.of_le (by decide) (by omega) (by decide) (by omega), fun la hla => ?_⟩⟩
    have sla := same_new (o := .lst (rgV 0 (n : Int))) hla
    have ela : upd H la (.lst (rgV 0 (n : Int))) la = some (.lst (rgV 0 (n : Int))) := upd_same
    have hr0 : ∀ v ∈ rgV 0 (n : Int), ∃ m : Nat, v = .int (m : Int) := fun v hv => by
      obtain ⟨m, _, rfl⟩ := List.mem_map.mp hv
      exact ⟨m, congrArg V.int (by omega)⟩
    have hrl : (rgV 0 (n : Int)).length = n := by rw [rgV_length]; omega
    generalize rgV 0 (n : Int) = R0 at *
    generalize upd H la (.lst R0) = H1 at sla ela ⊢
    refine ⟨lenOk (n := 0) rfl (by decide), fun pa hpa => ?_⟩
    have spa := same_new (o := .lst []) hpa
    have epa : upd H1 pa (.lst []) pa = some (.lst []) := upd_same
    generalize upd H1 pa (.lst []) = H2 at spa epa ⊢
    have ela2 := spa _ _ ela
    have nlp : la ≠ pa := ne_of_none ela hpa
    have hpaH := sla.free hpa
    have nla1 : la ≠ p := fun z => src_ne hs (z ▸ hla)
    have nla2 : la ≠ c := fun z => src_cne hs (z ▸ hla)
    have npa1 : pa ≠ p := fun z => src_ne hs (z ▸ hpaH)
    have npa2 : pa ≠ c := fun z => src_cne hs (z ▸ hpaH)
    have hs2 := src_up hs (sla.trans spa)
    have b02 : But p H H2 := But.of (sla.trans spa)
    refine ⟨_, rfl, .inl ⟨_, rfl, _, rfl, _, rfl, 1, (n : Int), rfl, c, p, (if (n : Int) > 1 then (n : Int) else 1), rfl, hs2, by split <;> omega, by split <;> omega, fun H3 r lr hs3 b3 => ?_⟩⟩
    refine ⟨_, _, rfl, rfl, (n : Int), 1 + (r : Int), rfl, ?_⟩
    obtain ⟨mn, hmn, emn⟩ : ∃ mn : Nat, mn ≤ n ∧ (if 1 + (r : Int) < (n : Int) then 1 + (r : Int) else (n : Int)) = (mn : Int) := by
      by_cases z : 1 + (r : Int) < (n : Int)
      · exact ⟨1 + r, by omega, by rw [if_pos z]; omega⟩
      · exact ⟨n, Nat.le_refl _, by rw [if_neg z]⟩
    rw [emn]
    refine ⟨_, rfl, by omega, by omega, ?_⟩
    rw [Int.toNat_natCast]
    have ela3 := b3 _ _ nla1 ela2
    have epa3 := b3 _ _ npa1 epa
    refine for_it (walk_range (lo := 0) (n := mn)) (fun i σ Hc => ∃ o4 xs ps, σ = [some (.ref p), some (.int (n : Int)), some (.ref la), some (.ref pa), o4] ∧ Src c Hc p ∧ But p H Hc ∧ Hc la = some (.lst xs) ∧ xs.length = n - i ∧ (∀ v ∈ xs, ∃ m : Nat, v = .int (m : Int)) ∧ Hc pa = some (.lst (intV ps)) ∧ ps.length = i)
      ⟨_, R0, [], rfl, hs3, b02.trans b3, ela3, hrl, hr0, epa3, rfl⟩ (fun _ _ _ _ _ => trivial) (fun i x σ Hc Hd hi y e => ?_) (fun σ Hc y => ?_)
    · obtain ⟨rfl, rfl⟩ := e
      obtain ⟨o4, xs, ps, rfl, hsc, bc, elc, hxl, hxi, epc, hpl⟩ := y
      refine ⟨_, rfl, .inl ⟨rfl, _, SqL.of epc⟩, _, rfl, .inl ⟨rfl, _, SqL.of elc⟩, _, rfl, _, rfl, la, _, rfl, .inl (SqL.of elc), c, p, (xs.length : Int), rfl, hsc, by omega, by omega, fun H5 k lk hs5 b5 => ?_⟩
      have elc5 := b5 _ _ nla1 elc
      have epc5 := b5 _ _ npa1 epc
      have hk : k < xs.length := by omega
      obtain ⟨m, hm⟩ := hxi xs[k] (List.getElem_mem hk)
      refine ⟨la, xs, (k : Int), k, xs[k], rfl, rfl, elc5, by omega, by omega, by rw [seqIndex_of (by omega) (by omega)]; rfl, List.getElem?_eq_getElem hk, ?_⟩
      rw [hm]
      have epc6 : upd H5 la (.lst (xs.eraseIdx k)) pa = some (.lst (intV ps)) := by rw [upd_ne (Ne.symm nlp)]; exact epc5
      refine ⟨pa, _, _, rfl, rfl, epc6, lt_line (by rw [intV_len]; omega), ?_⟩
      refine ⟨_, xs.eraseIdx k, ps ++ [m], rfl, src_put (src_put hs5 nla1 nla2) npa1 npa2, but_new (but_new (bc.trans b5) hla) hpaH, ?_, ?_, fun v hv => hxi v (List.mem_of_mem_eraseIdx hv), ?_, ?_⟩
      · rw [upd_ne nlp]
        exact upd_same
      · rw [List.length_eraseIdx_of_lt hk]
        omega
      · rw [upd_same, intV_app]
        rfl
      · rw [List.length_append, hpl]
        rfl
    · obtain ⟨o4, xs, ps, rfl, hsc, bc, elc, hxl, hxi, epc, hpl⟩ := y
      refine ⟨_, rfl, c, p, 24, rfl, hsc, by decide, by decide, fun H5 k lk hs5 b5 => ?_⟩
      have epc5 := b5 _ _ npa1 epc
      refine ⟨rfl, _, rfl, ifB (fun e => ?_) (fun e => ?_)⟩
      · refine ⟨lenOk (n := 0) rfl (by decide), fun p2 hp2 => ?_⟩
        refine ⟨_, rfl, p2, _, rfl, .inl ⟨SqL.of upd_same, fun t ht => ?_⟩⟩
        have st := (same_new (o := .lst []) hp2).trans (same_new (o := .tup []) ht)
        exact q _ t [] (SqT.of upd_same) (Nat.zero_le _) (src_up hs5 st) ((bc.trans b5).trans (But.of st))
      · refine ⟨_, rfl, pa, _, rfl, .inl ⟨SqL.of epc5, fun t ht => ?_⟩⟩
        have st := same_new (o := .tup (intV ps)) ht
        exact q _ t ps (SqT.of upd_same) (by omega) (src_up hs5 st) ((bc.trans b5).trans (But.of st))
theorem ok_law_dealings (T : Txt K mg A) : FnOk P w K mg base CX0 1 A.a_law_dealings A.d_law_dealings ["_law_choices"] (spLDeal K) := by
  refine T.F_law_dealings.ok sc_law_dealings (fun vs H Q E h => ?_) (fun cdv B outer s H vs Q E hr h => ?_)
  · obtain ⟨a, chs, rfl, _⟩ := h
    rfl
  · obtain ⟨a, chs, rfl, ha, hl, hc, q⟩ := h
    refine ⟨_, (pss_cons (ps_set (i := 1) sc_law_dealings.nd rfl (.inl rfl) (pe_lst (pa_cons (pe_tup pa_nil) pa_nil)))
    (pss_cons (ps_for PassesOwn.never rfl (pi_tup (pv 0)) (pg_name (i := 2) sc_law_dealings.nd rfl (.inl rfl))
      (pss_cons (ps_set (i := 3) sc_law_dealings.nd rfl (.inl rfl) (pe_lst pa_nil))
    (pss_cons (ps_for PassesOwn.never rfl (pi_list (pe_callTy list_of (by rfl) T.n_list (by decide +kernel) (pa_cons (pv 1) pa_nil))) (pg_name (i := 4) sc_law_dealings.nd rfl (.inl rfl))
      (pss_one (ps_for PassesOwn.never rfl (pi_tup (pv 2)) (pg_name (i := 5) sc_law_dealings.nd rfl (.inl rfl))
      (pss_one (ps_expr (pe_bm PySem.F.plainAttrs_list PySem.F.slot_list_append PySem.F.type_list_append mt_append (pv 3) (pa_cons (pe_op op_catA (pv 4) (pe_tup (pa_cons (pv 5) pa_nil))) pa_nil)))))))
    (pss_one (ps_set (i := 1) sc_law_dealings.nd rfl (.inl rfl) (pv 3))))))
    (pss_one (ps_ret (pv 1))))), ?_⟩
    obtain ⟨cxs, hcx, hco⟩ := ha
    have hcl := hco.1
    refine ⟨lenOk (n := 0) rfl (by decide), fun q0 hq0 => ⟨lenOk (n := 1) rfl (by decide), fun l0 hl0 => ?_⟩⟩
    have e0 : upd H q0 (.tup []) q0 = some (.tup (intV [])) := upd_same
    have s0 := same_new (o := .tup []) hq0
    generalize upd H q0 (.tup []) = Ha at e0 s0 hl0 ⊢
    have e1 : upd Ha l0 (.lst [V.ref q0]) l0 = some (.lst [V.ref q0]) := upd_same
    have sb := same_new (o := .lst [V.ref q0]) hl0
    have eq0 := sb _ _ e0
    have s1 := s0.trans sb
    have hl0H := s0.free hl0
    generalize upd Ha l0 (.lst [V.ref q0]) = H1 at e1 s1 eq0 ⊢
    refine ⟨_, rfl, a, rfl, ⟨_, sqT_up hcx s1⟩, ?_⟩
    refine for_it (walk_tup (K := K) (a := a) (xs := cxs)) (fun i σ Hc => ∃ l o2 o3 o4 o5 xs, σ = [some (.ref a), some (.ref l), o2, o3, o4, o5] ∧ Same H Hc ∧ H l = none ∧ Hc l = some (.lst xs) ∧ OrdsK K Hc xs (dls (chs.take i)))
      ⟨l0, _, _, _, _, _, rfl, s1, hl0H, e1, ords_nil.snoc (SqT.of eq0)⟩ (fun i σ Hc _ y => ?_) (fun i x σ Hc Hd hi y e => ?_) (fun σ Hc y => ?_)
    · obtain ⟨_, _, _, _, _, _, _, sm, _⟩ := y
      exact sqT_up hcx sm
    · obtain ⟨rfl, e⟩ := e
      obtain ⟨l, o2, o3, o4, o5, xs, rfl, sm, hlH, hlc, hda⟩ := y
      rw [hcl] at hi
      obtain ⟨t, rfl, ht⟩ := ords_get hco hi e
      have ht := sqT_up ht sm
      have hch := hc chs[i] (List.getElem_mem hi)
      have hlen : (chs.take i).length = i := by rw [List.length_take]; omega
      obtain ⟨hrl, hre⟩ := dls_len i (chs.take i) hlen fun ch h => hc ch (List.mem_of_mem_take h)
      have h35 := pow35 (n := i) (by omega)
      have hsn : dls (chs.take (i + 1)) = (dls (chs.take i)).flatMap fun r => chs[i].map fun x => r ++ [x] := by
        rw [List.take_add_one, List.getElem?_eq_getElem hi]
        exact dls_snoc _ _
      rw [hsn]
      generalize dls (chs.take i) = rs at *
      generalize chs[i] = ws at *
      have hxl := hda.1
      have hwlen := intV_len ws
      refine ⟨lenOk (n := 0) rfl (by decide), fun D hD => ?_⟩
      have sD := same_new (o := .lst []) hD
      have eD : upd Hd D (.lst []) D = some (.lst []) := upd_same
      generalize upd Hd D (.lst []) = G0 at sD eD ⊢
      have hl1 := sD _ _ hlc
      refine ⟨_, rfl, l, xs, rfl, .inl (SqL.of hl1), fun Lc hLc => ?_⟩
      have sL := same_new (o := .lst xs) hLc
      have eL : upd G0 Lc (.lst xs) Lc = some (.lst xs) := upd_same
      have eD1 := sL _ _ eD
      have nLD : Lc ≠ D := fun z => by rw [z, eD] at hLc; cases hLc
      generalize upd G0 Lc (.lst xs) = G1 at sL eL eD1 ⊢
      have s01 := sD.trans sL
      have hDH := sm.free hD
      refine ⟨Lc, rfl, ⟨_, SqL.of eL⟩, ?_⟩
      refine for_it (walk_list (K := K) (a := Lc) (xs := xs)) (fun b σ Hx => ∃ o4 o5 acc, σ = [some (.ref a), some (.ref l), some (.ref t), some (.ref D), o4, o5] ∧ Same Hd Hx ∧ Hx Lc = some (.lst xs) ∧ Hx D = some (.lst acc) ∧ OrdsK K Hx acc ((rs.take b).flatMap fun r => ws.map fun x => r ++ [x])) ⟨_, _, [], rfl, s01, eL, eD1, ords_nil⟩ (fun b σ Hx _ y => ?_) (fun b x σ Hx Hy hb y e => ?_) (fun σ Hx y => ?_)
      · obtain ⟨_, _, _, _, _, h, _⟩ := y
        exact SqL.of h
      · obtain ⟨rfl, e⟩ := e
        obtain ⟨o4, o5, acc, rfl, sx, hLx, hxD, hda2⟩ := y
        rw [hxl] at hb
        obtain ⟨q1, rfl, hq1⟩ := ords_get (hda.up sx) hb e
        rw [take_flatG _ _ _ hb]
        have hr5 := hre rs[b] (List.getElem_mem hb)
        have hbl : ((rs.take b).flatMap fun r => ws.map fun x => r ++ [x]).length ≤ 729 := by
          have : ∀ l : List (List Nat), (l.flatMap fun r => ws.map fun x => r ++ [x]).length = l.length * ws.length := fun l => by
            induction l with
            | nil => rw [List.flatMap_nil, List.length_nil, Nat.zero_mul]
            | cons a r ih => rw [List.flatMap_cons, List.length_append, ih, List.length_map, List.length_cons, Nat.succ_mul]; omega
          rw [this, List.length_take]
          have h1 : min b rs.length * ws.length ≤ 243 * 3 := Nat.mul_le_mul (by omega) hch
          omega
        generalize rs[b] = r at *
        generalize (rs.take b).flatMap (fun r => ws.map fun x => r ++ [x]) = pre at *
        refine ⟨_, rfl, t, rfl, ⟨_, sqT_up ht sx⟩, ?_⟩
        refine for_it (walk_tup (K := K) (a := t) (xs := intV ws)) (fun j σ Hz => ∃ o5 acc, σ = [some (.ref a), some (.ref l), some (.ref t), some (.ref D), some (.ref q1), o5] ∧ Same Hd Hz ∧ NL Hy Hz ∧ Hz Lc = some (.lst xs) ∧ Hz D = some (.lst acc) ∧ OrdsK K Hz acc (pre ++ (ws.take j).map fun x => r ++ [x])) ⟨_, acc, rfl, sx, NL.of (Same.refl _), hLx, hxD, by rw [List.take_zero, List.map_nil, List.append_nil]; exact hda2⟩ (fun j σ Hz _ y => ?_) (fun j y σ Hz Hw hj hp1 yy => ?_) (fun σ Hz hp1 => ?_)
        · obtain ⟨_, _, _, h, _⟩ := y
          exact sqT_up ht h
        · obtain ⟨rfl, e2⟩ := yy
          obtain ⟨o5, acc1, rfl, sz, oz, hLz, hzD, hda3⟩ := hp1
          rw [hwlen] at hj
          rw [intV_at hj] at e2
          cases e2
          have hal : acc1.length ≤ 1000 := by
            rw [hda3.1, List.length_append, List.length_map, List.length_take]
            omega
          refine ⟨_, rfl, .inl ⟨rfl, _, SqL.of hzD⟩, _, rfl, _, rfl, lenOk (n := 1) rfl (by decide), fun q2 hq2 => ?_⟩
          have s2 := same_new (o := .tup [V.int ((ws.getD j 0 : Nat) : Int)]) hq2
          refine catA_of (sqT_up (oz.sq hq1) s2) (SqT.of upd_same) ?_ fun p H7 s7 hp7 => ?_
          · rw [intV_len]
            show _ + 1 ≤ _
            omega
          have s27 := s2.trans s7
          have hD7 := s27 _ _ hzD
          refine ⟨D, _, _, rfl, rfl, hD7, lt_line (by omega), ?_⟩
          refine ⟨_, acc1 ++ [.ref p], rfl, same_mut (sz.trans s27) hD, (oz.trans (NL.of s27)).trans (NL.put hD7), by rw [upd_ne nLD]; exact s27 _ _ hLz, upd_same, ?_⟩
          rw [take_mapG _ _ _ hj, ← List.append_assoc]
          have hwj : ws[j] = ws.getD j 0 := by rw [List.getD_eq_getElem?_getD, List.getElem?_eq_getElem hj]; rfl
          refine (NL.put hD7).ords ((hda3.up s27).snoc ?_)
          rw [hwj, intV_app]
          exact hp7
        · obtain ⟨o5, acc1, rfl, sz, oz, hLz, hzD, hda3⟩ := hp1
          rw [hwlen, List.take_length] at hda3
          exact ⟨_, _, acc1, rfl, sz, hLz, hzD, hda3⟩
      · obtain ⟨o4, o5, acc, rfl, sx, hLx, hxD, hda2⟩ := y
        rw [hxl, List.take_length] at hda2
        exact ⟨_, rfl, D, _, _, _, _, acc, rfl, sm.trans sx, hDH, hxD, hda2⟩
    · obtain ⟨l, o2, o3, o4, o5, xs, rfl, sm, hlH, hlc, hda⟩ := y
      rw [hcl, List.take_length] at hda
      exact ⟨_, rfl, q _ l xs sm hlH hlc hda⟩
end
end R1

namespace R1
open PySem PySem.Spec PyProof.Rows L2 RK PT
local macro_rules | `(tactic| walk_at "sq") => `(tactic| first
  | exact SqL.of upd_same | exact upd_same | exact SqL.of (by assumption) | exact SqL.of (by rw [upd_ne (by assumption)]; assumption) | assumption)
local macro_rules | `(tactic| walk_at "sd") => `(tactic| first
  | assumption | omega | (refine Or.inl ⟨?_, ?_⟩ <;> omega) | (show _ ∧ _; constructor <;> omega) | (show _ ≠ _; simp; omega) | (exact Or.inl ⟨by decide, by decide⟩) | (exact Or.inr ⟨by decide, by decide⟩) | (show _ < _; decide) | (show _ ≤ _; decide))
local macro_rules | `(tactic| walk_at "at") => `(tactic| first | rfl | (refine atI_intV ?_ ?_ <;> omega) | assumption)
local macro_rules | `(tactic| walk_at "s1") => `(tactic| first
  | refine ⟨_, rfl, ?_⟩ | refine ⟨_, _, rfl, rfl, ?_⟩ | refine ⟨rfl, ?_⟩
  | refine ⟨_, _, _, _, rfl, rfl, by walk_at "sq", by walk_at "at", ?_⟩
  | refine Or.inl ⟨_, rfl, ?_⟩
  | refine ⟨_, _, rfl, Or.inl (by walk_at "sq"), ?_⟩
  | refine And.intro (by walk_at "sd") ?_)
local macro_rules | `(tactic| walk_at "s") => `(tactic| repeat walk_at "s1")

theorem cnt_step (f : Nat → Nat) (i : Nat) : ∀ L : List Nat, (L.filter fun k => decide (f k < i + 1)).length = (L.filter fun k => decide (f k < i)).length + (L.filter fun k => f k == i).length
  | [] => rfl
  | a :: r => by
    have ih := cnt_step f i r
    rcases Nat.lt_trichotomy (f a) i with z | z | z
    · rw [List.filter_cons_of_pos (by simpa using Nat.lt_succ_of_lt z), List.filter_cons_of_pos (by simpa using z), List.filter_cons_of_neg (by simpa using Nat.ne_of_lt z), List.length_cons, List.length_cons, ih]
      omega
    · rw [List.filter_cons_of_pos (by simp [z]), List.filter_cons_of_neg (by simp [z]), List.filter_cons_of_pos (by simp [z]), List.length_cons, List.length_cons, ih]
      omega
    · rw [List.filter_cons_of_neg (by simp; omega), List.filter_cons_of_neg (by simp; omega), List.filter_cons_of_neg (by simp; omega), ih]
def gsum (dl : List Nat) (i : Nat) : Nat := ((List.range dl.length).filter fun k => decide (dl.getD k 0 < i)).length
theorem gsum_le (dl : List Nat) (i : Nat) : gsum dl i ≤ dl.length := Nat.le_trans (List.length_filter_le _ _) (by rw [List.length_range]; exact Nat.le_refl _)
theorem gsum_succ (dl : List Nat) (i : Nat) : gsum dl (i + 1) = gsum dl i + (grp dl i).length := cnt_step _ i _
theorem grp_len (dl : List Nat) (i : Nat) : (grp dl i).length ≤ dl.length := Nat.le_trans (List.length_filter_le _ _) (by rw [List.length_range]; exact Nat.le_refl _)
theorem flat_len {α β γ : Type} (rs : List α) (os : List β) (f : α → β → γ) : (rs.flatMap fun r => os.map fun o => f r o).length = rs.length * os.length := by
  induction rs with
  | nil => rw [List.flatMap_nil, List.length_nil, List.length_nil, Nat.zero_mul]
  | cons a r ih => rw [List.flatMap_cons, List.length_append, ih, List.length_map, List.length_cons, Nat.succ_mul]; omega
theorem flat_bound {α β : Type} (g : α → List β) (n : Nat) : ∀ rs : List α, (∀ r ∈ rs, (g r).length ≤ n) → (rs.flatMap g).length ≤ rs.length * n
  | [], _ => Nat.zero_le _
  | a :: r, h => by
    rw [List.flatMap_cons, List.length_append, List.length_cons, Nat.succ_mul]
    have := flat_bound g n r fun x hx => h x (List.mem_cons_of_mem _ hx)
    have := h a List.mem_cons_self
    omega
theorem rwP_card (dl : List Nat) (h : dl.length ≤ 5) : ∀ i, (rwP dl i).length ≤ 5 ^ gsum dl i
  | 0 => Nat.le_trans (show 1 ≤ 1 from Nat.le_refl _) (Nat.pos_of_ne_zero (fun z => by have := Nat.pow_pos (n := gsum dl 0) (show 0 < 5 by decide); omega))
  | i + 1 => by
    show ((rwP dl i).flatMap fun row => (kp (grp dl i).length (grp dl i)).map fun o => row ++ [o]).length ≤ _
    rw [flat_len, gsum_succ, Nat.pow_add]
    refine Nat.mul_le_mul (rwP_card dl h i) (Nat.le_trans (kp_len _ _) (Nat.pow_le_pow_left ?_ _))
    have := grp_len dl i
    omega
theorem rwP_le (dl : List Nat) (h : dl.length ≤ 5) (i : Nat) : (rwP dl i).length ≤ 3125 := Nat.le_trans (rwP_card dl h i) (Nat.pow_le_pow_right (n := 5) (by decide) (Nat.le_trans (gsum_le dl i) h))
def RwE (K : PySem.W.Frag) (ths : List (Nat × Nat)) (ss : List Nat) (H : Hp) (p : Addr) (os : List (List Nat)) : Prop := ∃ (po pe : Addr) (ys : List V), SqT K H p [.ref po, .ref pe] ∧ SqT K H po ys ∧ OrdsK K H ys os ∧ SqT K H pe (intV (enP ths ss os))
def FdE (K : PySem.W.Frag) (ths : List (Nat × Nat)) (ss : List Nat) (H : Hp) (p : Addr) (q : Pk) : Prop := ∃ (pd po pe : Addr) (ys : List V), SqT K H p [.ref pd, .ref po, .ref pe] ∧ SqT K H pd (intV q.1) ∧ SqT K H po ys ∧ OrdsK K H ys q.2 ∧ SqT K H pe (intV (enP ths ss q.2))
theorem NL.rwE {K : PySem.W.Frag} {ths : List (Nat × Nat)} {ss : List Nat} {H H' : Hp} (n : NL H H') {p : Addr} {os : List (List Nat)} (h : RwE K ths ss H p os) : RwE K ths ss H' p os := let ⟨a, b, c, d, e, f, g⟩ := h; ⟨a, b, c, n.sq d, n.sq e, n.ords f, n.sq g⟩
theorem NL.fdE {K : PySem.W.Frag} {ths : List (Nat × Nat)} {ss : List Nat} {H H' : Hp} (n : NL H H') {p : Addr} {q : Pk} (h : FdE K ths ss H p q) : FdE K ths ss H' p q := let ⟨a, b, c, d, e, e2, f, g, g2⟩ := h; ⟨a, b, c, d, n.sq e, n.sq e2, n.sq f, n.ords g, n.sq g2⟩
def spLPack (K : PySem.W.Frag) : Sp := fun vs H Q _ => ∃ (sa t ca : Addr) (ss : List Nat) (ths : List (Nat × Nat)) (chs : List (List Nat)), vs = [.ref sa, .ref t, .ref ca] ∧ SqT K H sa (intV ss) ∧ ThK K H t ths ∧ ChK K H ca chs ∧ chs.length = ths.length ∧ chs.length ≤ 5 ∧ (∀ ch ∈ chs, ch.length ≤ 3) ∧ ss.length ≤ 6 ∧
  ∀ H' l xs, Same H H' → H' l = some (.lst xs) → LsK (FdE K ths ss) H' xs (allP chs ss.length) → Q (.ref l) H'
section
variable {P : Program} {w : World} {K : PySem.W.Frag} {mg : Str → Option Value} {base : Heap} {A : Ads}
theorem ok_law_packings (T : Txt K mg A) : FnOk P w K mg base CX0 3 A.a_law_packings A.d_law_packings ["_law_starts", "_law_things_here", "_law_choices"] (spLPack K) := by
  refine T.F_law_packings.ok sc_law_packings (fun vs H Q E h => ?_) (fun cdv B outer s H vs Q E hr h => ?_)
  · obtain ⟨sa, t, ca, ss, ths, chs, rfl, _⟩ := h
    rfl
  · obtain ⟨sa, t, ca, ss, ths, chs, rfl, hs, ht, hc, hcl, hl5, hc3, hs6, q⟩ := h
    refine ⟨_, (pss_cons (ps_set (i := 3) sc_law_packings.nd rfl (.inl rfl) (pe_lst pa_nil))
    (pss_cons (ps_for PassesOwn.never rfl (pi_list (pe_call (ok_law_dealings T) (hr.mono (by omega)) rfl T.g_law_dealings T.F_law_dealings.kp T.b_law_dealings .nil pass0 (pa_cons (pv 2) pa_nil))) (pg_name (i := 4) sc_law_packings.nd rfl (.inr rfl))
      (pss_cons (ps_set (i := 5) sc_law_packings.nd rfl (.inl rfl) (pe_lst (pa_cons (pe_tup (pa_cons (pe_tup pa_nil) (pa_cons (pe_tup pa_nil) pa_nil))) pa_nil)))
    (pss_cons (ps_for PassesOwn.never rfl (pi_range1 (by rfl) T.n_range (pa_cons (pe_callB len_seq (by rfl) T.n_len (by decide +kernel) (pa_cons (pv 0) pa_nil)) pa_nil)) (pg_name (i := 6) sc_law_packings.nd rfl (.inr rfl))
      (pss_cons (ps_set (i := 8) sc_law_packings.nd rfl (.inl rfl) (pe_call (ok_law_orders T) (hr.mono (by omega)) rfl T.g_law_orders T.F_law_orders.kp T.b_law_orders .nil pass0 (pa_cons (pe_lc (own := [("_law_k", 7)]) rfl sc_law_packings.nd (pi_range1 (by rfl) T.n_range (pa_cons (pe_callB len_seq (by rfl) T.n_len (by decide +kernel) (pa_cons (pv 1) pa_nil)) pa_nil)) (blkOk_by (own := [("_law_k", 7)]) (N := N_law_packings) (sc := defScope s_law_packings) (by decide +kernel)) (fun _ _ _ _ _ => pg_name (i := 7) sc_law_packings.nd rfl (Or.inl rfl)) (fun _ _ _ _ _ => pts_one (by exact (pt_cmpR op_eq (pe_ix (r := rIxT K) ix_tup (pv 4) (pv 7) (fun _ _ => rfl)) (pv 6) (nomark _)))) (fun _ _ _ _ _ => by exact (pv 7))) pa_nil)))
    (pss_cons (ps_setLc (i := 10) (own := [("_law_order", 9)]) rfl sc_law_packings.nd rfl rfl (sw_true rfl rfl rfl (by decide +kernel)) (pi_list (pv 8)) (blkOk_by (own := [("_law_order", 9)]) (N := N_law_packings) (sc := defScope s_law_packings) (by decide +kernel)) (fun _ _ _ _ _ => pg_name (i := 9) sc_law_packings.nd rfl (Or.inl rfl)) (fun _ _ _ _ _ => pts_nil) (fun _ _ _ _ _ => by exact (pe_call (ok_law_end T) (hr.mono (by omega)) rfl T.g_law_end T.F_law_end.kp T.b_law_end .nil pass0 (pa_cons (pe_ix (r := rIxT K) ix_tup (pv 0) (pv 6) (fun _ _ => rfl)) (pa_cons (pv 1) (pa_cons (pv 9) pa_nil))))))
    (pss_cons (ps_set (i := 11) sc_law_packings.nd rfl (.inl rfl) (pe_lst pa_nil))
    (pss_cons (ps_for PassesOwn.never rfl (pi_list (pe_callTy list_of (by rfl) T.n_list (by decide +kernel) (pa_cons (pv 5) pa_nil))) (pg_name (i := 12) sc_law_packings.nd rfl (.inl rfl))
      (pss_one (ps_for PassesOwn.never rfl (pi_range1 (by rfl) T.n_range (pa_cons (pe_callB len_seq (by rfl) T.n_len (by decide +kernel) (pa_cons (pv 8) pa_nil)) pa_nil)) (pg_name (i := 7) sc_law_packings.nd rfl (.inl rfl))
      (pss_one (ps_expr (pe_bm PySem.F.plainAttrs_list PySem.F.slot_list_append PySem.F.type_list_append mt_append (pv 11) (pa_cons (pe_tup (pa_cons (pe_op op_catA (pe_ix ix_tup (pv 12) pe_int (fun _ _ => rfl)) (pe_tup (pa_cons (pe_ix ix_list (pv 8) (pv 7) (fun _ _ => rfl)) pa_nil))) (pa_cons (pe_op op_catA (pe_ix ix_tup (pv 12) pe_int (fun _ _ => rfl)) (pe_tup (pa_cons (pe_ix ix_list (pv 10) (pv 7) (fun _ _ => rfl)) pa_nil))) pa_nil))) pa_nil)))))))
    (pss_one (ps_set (i := 5) sc_law_packings.nd rfl (.inl rfl) (pv 11))))))))
    (pss_one (ps_for PassesOwn.never rfl (pi_list (pv 5)) (pg_name (i := 12) sc_law_packings.nd rfl (.inl rfl))
      (pss_one (ps_expr (pe_bm PySem.F.plainAttrs_list PySem.F.slot_list_append PySem.F.type_list_append mt_append (pv 3) (pa_cons (pe_tup (pa_cons (pv 4) (pa_cons (pe_ix ix_tup (pv 12) pe_int (fun _ _ => rfl)) (pa_cons (pe_ix ix_tup (pv 12) pe_int (fun _ _ => rfl)) pa_nil)))) pa_nil)))))))))
    (pss_one (ps_ret (pv 3))))), ?_⟩
    refine ⟨lenOk (n := 0) rfl (by decide), fun fd hfd => ?_⟩
    have sfd := same_new (o := .lst []) hfd
    have efd : upd H fd (.lst []) fd = some (.lst []) := upd_same
    generalize upd H fd (.lst []) = H1 at sfd efd ⊢
    refine ⟨_, rfl, ca, chs, rfl, (NL.of sfd).ch hc, hl5, hc3, fun H3 l xs s3 nl0 el ol => ⟨l, rfl, ⟨_, SqL.of el⟩, ?_⟩⟩
    obtain ⟨hdl, hde⟩ := dls_len chs.length chs rfl hc3
    have h35 := pow35 hl5
    have hxl := ol.1
    have s03 := sfd.trans s3
    have hall : allP chs ss.length = (dls chs).flatMap fun dl => (rwP dl ss.length).map fun os => (dl, os) := rfl
    rw [hall] at q
    generalize dls chs = rs at *
    have hil := intV_len ss
    have nlf : l ≠ fd := fun z => by rw [z, efd] at nl0; cases nl0
    refine for_it (walk_list (K := K) (a := l) (xs := xs)) (fun i σ Hc => ∃ o4 o5 o6 o7 o8 o9 o10 o11 o12 fxs, σ = [some (.ref sa), some (.ref t), some (.ref ca), some (.ref fd), o4, o5, o6, o7, o8, o9, o10, o11, o12] ∧ Same H Hc ∧ NL H3 Hc ∧ Hc l = some (.lst xs) ∧ Hc fd = some (.lst fxs) ∧ LsK (FdE K ths ss) Hc fxs ((rs.take i).flatMap fun dl => (rwP dl ss.length).map fun os => (dl, os)))
      ⟨_, _, _, _, _, _, _, _, _, [], rfl, s03, NL.of (Same.refl _), el, s3 _ _ efd, LsK.nil⟩ (fun i σ Hc _ y => ?_) (fun i x σ Hc Hd hi y e => ?_) (fun σ Hc y => ?_)
    · obtain ⟨_, _, _, _, _, _, _, _, _, _, _, _, _, h, _⟩ := y
      exact SqL.of h
    · obtain ⟨rfl, e⟩ := e
      obtain ⟨o4, o5, o6, o7, o8, o9, o10, o11, o12, fxs, rfl, sm, nl, hll, hfx, hfo⟩ := y
      rw [hxl] at hi
      obtain ⟨pd, rfl, hpd⟩ := ords_get (nl.ords ol) hi e
      rw [take_flatG _ _ _ hi]
      have hdl5 := hde rs[i] (List.getElem_mem hi)
      rw [hcl] at hdl5
      have hfb : ((rs.take i).flatMap fun dl => (rwP dl ss.length).map fun os => (dl, os)).length ≤ 243 * 3125 := by
        refine Nat.le_trans (flat_bound _ 3125 _ fun dl hdl => ?_) ?_
        · rw [List.length_map]
          refine rwP_le dl ?_ _
          have := hde dl (List.mem_of_mem_take hdl)
          omega
        · rw [List.length_take]
          exact Nat.mul_le_mul_right _ (by omega)
      have hfl := hfo.1
      generalize hdl0 : rs[i] = dl at *
      generalize (rs.take i).flatMap (fun dl => (rwP dl ss.length).map fun os => (dl, os)) = pre0 at *
      have hdl7 : dl.length ≤ 5 := by omega
      -- the first row
      refine ⟨lenOk (n := 0) rfl (by decide), fun t0 ht0 => ⟨lenOk (n := 0) rfl (by decide), fun t1 ht1 => ⟨lenOk (n := 2) rfl (by decide), fun t2 ht2 => ⟨lenOk (n := 1) rfl (by decide), fun rl0 hrl0 => ?_⟩⟩⟩⟩
      have sA := same_new (o := .tup []) ht0
      have eA : upd Hd t0 (.tup []) t0 = some (.tup []) := upd_same
      generalize upd Hd t0 (.tup []) = Ha at sA eA ht1 ht2 hrl0 ⊢
      have sB := same_new (o := .tup []) ht1
      have eB : upd Ha t1 (.tup []) t1 = some (.tup []) := upd_same
      generalize upd Ha t1 (.tup []) = Hb at sB eB ht2 hrl0 ⊢
      have sC := same_new (o := .tup [V.ref t0, V.ref t1]) ht2
      have eC : upd Hb t2 (.tup [V.ref t0, V.ref t1]) t2 = some (.tup [V.ref t0, V.ref t1]) := upd_same
      generalize upd Hb t2 (.tup [V.ref t0, V.ref t1]) = Hc2 at sC eC hrl0 ⊢
      have sD := same_new (o := .lst [V.ref t2]) hrl0
      have eD : upd Hc2 rl0 (.lst [V.ref t2]) rl0 = some (.lst [V.ref t2]) := upd_same
      generalize upd Hc2 rl0 (.lst [V.ref t2]) = G0 at sD eD ⊢
      have sAC := sA.trans (sB.trans sC)
      have sAD := sAC.trans sD
      have nrf : rl0 ≠ fd := fun z => by rw [z, sAC _ _ hfx] at hrl0; cases hrl0
      have ls0 : LsK (RwE K ths ss) G0 [V.ref t2] (rwP dl 0) := LsK.nil.snoc ⟨t0, t1, [], SqT.of (sD _ _ eC), SqT.of ((sB.trans (sC.trans sD)) _ _ eA), ords_nil, SqT.of ((sC.trans sD) _ _ eB)⟩
      have sm0 := sm.trans sAD
      clear sA sB sC eA eB eC ht0 ht1 ht2
      refine ⟨_, rfl, sa, _, rfl, .inr (sqT_up hs sm0), _, rfl, by omega, by omega, ?_⟩
      rw [Int.toNat_natCast, hil]
      refine for_it (walk_range (lo := 0) (n := ss.length)) (fun j σ Hc => ∃ rl o6 o7 o8 o9 o10 o11 o12 rxs, σ = [some (.ref sa), some (.ref t), some (.ref ca), some (.ref fd), some (.ref pd), some (.ref rl), o6, o7, o8, o9, o10, o11, o12] ∧ Same H Hc ∧ NL Hd Hc ∧ Hc l = some (.lst xs) ∧ Hc fd = some (.lst fxs) ∧ rl ≠ fd ∧ Hc rl = some (.lst rxs) ∧ LsK (RwE K ths ss) Hc rxs (rwP dl j))
        ⟨rl0, _, _, _, _, _, _, _, _, rfl, sm0, NL.of sAD, sAD _ _ hll, sAD _ _ hfx, nrf, eD, ls0⟩ (fun _ _ _ _ _ => trivial) (fun j x σ Hc He hj y e => ?_) (fun σ Hc y => ?_)
      · obtain ⟨rfl, rfl⟩ := e
        obtain ⟨rl, o6, o7, o8, o9, o10, o11, o12, rxs, rfl, smj, nlj, hlj, hfj, nrfj, hrj, hlsj⟩ := y
        have hpdj := nlj.sq hpd
        have htj := ht.up smj
        obtain ⟨⟨txs, tx1, tx2, tx3⟩, _⟩ := id htj
        have hj0 : (0 : Int) + (j : Int) = ((j : Nat) : Int) := by omega
        refine ⟨_, rfl, t, txs, rfl, .inr tx1, _, rfl, by omega, by omega, fun D1 hD1 => ?_⟩
        rw [Int.toNat_natCast, tx2]
        refine lc_filt (walk_range (lo := 0) (n := ths.length)) (fun i v => v = .int (0 + (i : Int))) (fun k => dl.getD k 0 == j) (fun k => .int (0 + (k : Int))) hD1 (fun _ _ => trivial) (by omega) (fun i H1 v H2 hi y => ⟨y.1, y.2⟩) (fun i v H4 hi sm4 hv Q q => ?_) (fun i v H4 hi hc4 sm4 hv Q q => ?_) (fun G1 s1 e1 => ?_)
        · subst hv
          refine ⟨_, rfl, _, rfl, pd, _, _, _, rfl, rfl, sqT_up hpdj sm4, by rw [show (0 : Int) + (i : Int) = ((i : Nat) : Int) by omega]; exact atI_nat (intV_at (by omega)), _, rfl, rfl, _, rfl, ?_⟩
          have e : decide (V.int ((dl.getD i 0 : Nat) : Int) = V.int (0 + (j : Int))) = (dl.getD i 0 == j) := by
            apply Bool.eq_iff_iff.mpr
            rw [decide_eq_true_eq, beq_iff_eq]
            constructor
            · intro h
              have := V.int.inj h
              omega
            · intro h
              rw [h, hj0]
          rw [e]
          exact q
        · subst hv
          exact ⟨_, rfl, q _ (Same.refl _)⟩
        have e1' : G1 D1 = some (.lst (intV (grp dl j))) := by
          rw [e1]
          unfold intV grp
          rw [hdl5]
          congr 2
          refine List.map_congr_left fun k _ => ?_
          exact congrArg V.int (by omega)
        have hgl := grp_len dl j
        refine ⟨D1, grp dl j, rfl, e1', grp_nodup dl j, by omega, fun G2 ra oxs s2 era ora => ?_⟩
        have hkl := kp_len (grp dl j).length (grp dl j)
        have hk5 : (kp (grp dl j).length (grp dl j)).length ≤ 3125 := Nat.le_trans hkl (Nat.le_trans (Nat.pow_le_pow_left (show (grp dl j).length ≤ 5 by omega) _) (Nat.le_trans (Nat.pow_le_pow_right (n := 5) (by decide) (show (grp dl j).length ≤ 5 by omega)) (by decide)))
        have hkm : ∀ o ∈ kp (grp dl j).length (grp dl j), ∀ k ∈ o, k < ths.length := fun o ho k hk => by
          have := grp_lt (((kp_perm _ rfl).mp ho).mem_iff.mp hk)
          omega
        have hko : ∀ o ∈ kp (grp dl j).length (grp dl j), o.length ≤ 5 := fun o ho => by
          have := kp_each _ _ o ho
          omega
        have hrwS : rwP dl (j + 1) = (rwP dl j).flatMap fun row => (kp (grp dl j).length (grp dl j)).map fun o => row ++ [o] := rfl
        rw [hrwS]
        have hrw3 := rwP_le dl hdl7 j
        have hrwl := fun os h => rwP_len (dl := dl) j (os := os) h
        generalize kp (grp dl j).length (grp dl j) = ks at *
        generalize rwP dl j = rw0 at *
        have s12 := s1.trans s2
        have oxl := ora.1
        -- the ends
        refine ⟨_, rfl, ra, rfl, ⟨_, SqL.of era⟩, fun D2 hD2 => ?_⟩
        have sm2 := smj.trans s12
        refine lc_vals (walk_list (K := K) (a := ra) (xs := oxs)) (fun i v => oxs[i]? = some v) (fun i => .int ((endf ths (ss.getD j 0) (ks.getD i []) : Nat) : Int)) hD2 (fun H4 s4 => SqL.of (s4 _ _ era)) (by omega) (fun i H1 v H2 hi y => ⟨y.1, y.2⟩) (fun i v H4 hi sm4 hv Q q => ?_) (fun G3 s3' e3 => ?_)
        · rw [oxl] at hi
          obtain ⟨po, rfl, hpo⟩ := ords_get (ora.up sm4) hi hv
          have hgo : ks.getD i [] = ks[i] := by rw [List.getD_eq_getElem?_getD, List.getElem?_eq_getElem hi]; rfl
          rw [hgo] at q
          exact ⟨_, rfl, _, rfl, sa, _, _, _, rfl, rfl, sqT_up hs (sm2.trans sm4), by rw [hj0]; exact atI_nat (intV_at hj), _, rfl, _, rfl, t, po, ths, ss.getD j 0, ks[i], rfl, ht.up (sm2.trans sm4), hpo, hkm _ (List.getElem_mem hi), q _ (Same.refl _)⟩
        rw [oxl] at e3
        have ee : (List.range ks.length).map (fun i => V.int ((endf ths (ss.getD j 0) (ks.getD i []) : Nat) : Int)) = intV (ks.map fun o => endf ths (ss.getD j 0) o) := by
          rw [intV_map]
          exact range_getD (fun o : List Nat => V.int ((endf ths (ss.getD j 0) o : Nat) : Int)) [] ks
        rw [ee] at e3
        have era3 := s3' _ _ era
        have ora3 := ora.up s3'
        have s13 := s12.trans s3'
        have sm3 := smj.trans s13
        have hls3 := hlsj.up fun p a => (NL.of s13).rwE
        have hrj3 := s13 _ _ hrj
        -- the longer rows
        refine ⟨lenOk (n := 0) rfl (by decide), fun D3 hD3 => ?_⟩
        have sD3 := same_new (o := .lst []) hD3
        have eD3 : upd G3 D3 (.lst []) D3 = some (.lst []) := upd_same
        generalize upd G3 D3 (.lst []) = G4 at sD3 eD3 ⊢
        refine ⟨_, rfl, rl, rxs, rfl, .inl (SqL.of (sD3 _ _ hrj3)), fun Lc hLc => ?_⟩
        have sL := same_new (o := .lst rxs) hLc
        have eL : upd G4 Lc (.lst rxs) Lc = some (.lst rxs) := upd_same
        have eD4 := sL _ _ eD3
        have nLD : Lc ≠ D3 := fun z => by rw [z, eD3] at hLc; cases hLc
        generalize upd G4 Lc (.lst rxs) = G5 at sL eL eD4 ⊢
        have s35 := sD3.trans sL
        have hrxl := hlsj.1
        refine ⟨Lc, rfl, ⟨_, SqL.of eL⟩, ?_⟩
        refine for_it (walk_list (K := K) (a := Lc) (xs := rxs)) (fun b σ Hx => ∃ o7 o9 o12 acc, σ = [some (.ref sa), some (.ref t), some (.ref ca), some (.ref fd), some (.ref pd), some (.ref rl), some (.int (0 + (j : Int))), o7, some (.ref ra), o9, some (.ref D2), some (.ref D3), o12] ∧ Same G3 Hx ∧ Hx Lc = some (.lst rxs) ∧ Hx D3 = some (.lst acc) ∧ LsK (RwE K ths ss) Hx acc ((rw0.take b).flatMap fun row => ks.map fun o => row ++ [o]))
          ⟨_, _, _, [], rfl, s35, eL, eD4, LsK.nil⟩ (fun b σ Hx _ y => ?_) (fun b x σ Hx Hy hb y e => ?_) (fun σ Hx y => ?_)
        · obtain ⟨_, _, _, _, _, _, h, _⟩ := y
          exact SqL.of h
        · obtain ⟨rfl, e⟩ := e
          obtain ⟨o7, o9, o12, acc, rfl, sx, hLx, hxD, hacc⟩ := y
          rw [hrxl] at hb
          obtain ⟨pr, rfl, hpr⟩ := (hls3.up fun p a => (NL.of sx).rwE).get hb e
          rw [take_flatG _ _ _ hb]
          have hrl5 := hrwl _ (List.getElem_mem hb)
          have hbl : ((rw0.take b).flatMap fun row => ks.map fun o => row ++ [o]).length ≤ 9765625 := by
            rw [flat_len, List.length_take]
            exact Nat.le_trans (Nat.mul_le_mul (show min b rw0.length ≤ 3125 by omega) hk5) (by decide)
          generalize rw0[b] = row at *
          generalize (rw0.take b).flatMap (fun row => ks.map fun o => row ++ [o]) = pre at *
          refine ⟨_, rfl, ra, _, rfl, .inl (SqL.of (sx _ _ era3)), _, rfl, by omega, by omega, ?_⟩
          rw [Int.toNat_natCast, oxl]
          refine for_it (walk_range (lo := 0) (n := ks.length)) (fun k σ Hz => ∃ o7 acc, σ = [some (.ref sa), some (.ref t), some (.ref ca), some (.ref fd), some (.ref pd), some (.ref rl), some (.int (0 + (j : Int))), o7, some (.ref ra), o9, some (.ref D2), some (.ref D3), some (.ref pr)] ∧ Same G3 Hz ∧ NL Hy Hz ∧ Hz Lc = some (.lst rxs) ∧ Hz D3 = some (.lst acc) ∧ LsK (RwE K ths ss) Hz acc (pre ++ (ks.take k).map fun o => row ++ [o]))
            ⟨_, acc, rfl, sx, NL.of (Same.refl _), hLx, hxD, by rw [List.take_zero, List.map_nil, List.append_nil]; exact hacc⟩ (fun _ _ _ _ _ => trivial) (fun k v σ Hz Hw hk yy e2 => ?_) (fun σ Hz yy => ?_)
          · obtain ⟨rfl, rfl⟩ := e2
            obtain ⟨o7, acc1, rfl, sz, nz, hLz, hzD, hacc1⟩ := yy
            have hal : acc1.length ≤ 9768750 := by
              rw [hacc1.1, List.length_append, List.length_map, List.length_take]
              omega
            have hk0 : (0 : Int) + (k : Int) = ((k : Nat) : Int) := by omega
            obtain ⟨qo, hq1, hq2⟩ := (ora3.up sz).2 k ks[k] (List.getElem?_eq_getElem hk)
            obtain ⟨po, pe, ys, r1, r2, r3, r4⟩ := nz.rwE hpr
            have hen : (enP ths ss row).length = j := by rw [enP_len]; exact hrl5
            have hyl : ys.length = j := by rw [r3.1]; exact hrl5
            refine ⟨_, rfl, .inl ⟨rfl, _, SqL.of hzD⟩, _, rfl, pr, _, 0, _, rfl, rfl, r1, atI_nat (j := 0) rfl, _, rfl, _, rfl, ra, _, _, _, rfl, rfl, SqL.of (sz _ _ era3), by rw [hk0]; exact atI_nat hq1, lenOk (n := 1) rfl (by decide), fun t1 ht1 => ?_⟩
            have s1' := same_new (o := .tup [V.ref qo]) ht1
            refine catA_of (sqT_up r2 s1') (SqT.of upd_same) (by rw [hyl]; show j + 1 ≤ _; omega) fun p1 H7 s7 hp1 => ?_
            have s17 := s1'.trans s7
            have hek : (intV (ks.map fun o => endf ths (ss.getD j 0) o))[k]? = some (.int ((endf ths (ss.getD j 0) ks[k] : Nat) : Int)) := by
              rw [intV_map, List.getElem?_map, List.getElem?_eq_getElem hk]
              rfl
            refine ⟨_, rfl, pr, _, 1, _, rfl, rfl, sqT_up r1 s17, atI_nat (j := 1) rfl, _, rfl, _, rfl, D2, _, _, _, rfl, rfl, SqL.of ((sz.trans s17) _ _ e3), by rw [hk0]; exact atI_nat hek, lenOk (n := 1) rfl (by decide), fun t2 ht2 => ?_⟩
            have s2' := same_new (o := .tup [V.int ((endf ths (ss.getD j 0) ks[k] : Nat) : Int)]) ht2
            refine catA_of (sqT_up r4 (s17.trans s2')) (SqT.of upd_same) (by rw [intV_len, hen]; show j + 1 ≤ _; omega) fun p2 H9 s9 hp2 => ?_
            have s29 := s2'.trans s9
            refine ⟨lenOk (n := 2) rfl (by decide), fun t3 ht3 => ?_⟩
            have s3'' := same_new (o := .tup [V.ref p1, V.ref p2]) ht3
            have e3'' : upd H9 t3 (.tup [V.ref p1, V.ref p2]) t3 = some (.tup [V.ref p1, V.ref p2]) := upd_same
            generalize upd H9 t3 (.tup [V.ref p1, V.ref p2]) = G9 at s3'' e3'' ⊢
            have s79 := s29.trans s3''
            have sz9 := s17.trans s79
            have hD9 := sz9 _ _ hzD
            refine ⟨D3, _, _, rfl, rfl, hD9, big_line (by omega), ?_⟩
            refine ⟨_, acc1 ++ [.ref t3], rfl, same_mut (sz.trans sz9) hD3, (nz.trans (NL.of sz9)).trans (NL.put hD9), by rw [upd_ne nLD]; exact sz9 _ _ hLz, upd_same, ?_⟩
            rw [take_mapG _ _ _ hk, ← List.append_assoc]
            have nl9 := NL.put (o := .lst (acc1 ++ [V.ref t3])) hD9
            refine ((hacc1.up fun p a => (NL.of sz9).rwE).snoc ?_).up fun p a => nl9.rwE
            refine ⟨p1, p2, _, SqT.of e3'', sqT_up hp1 s79, (r3.up sz9).snoc (sqT_up hq2 sz9), ?_⟩
            rw [enP_snoc, hrl5, intV_app]
            exact sqT_up hp2 s3''
          · obtain ⟨o7, acc1, rfl, sz, nz, hLz, hzD, hacc1⟩ := yy
            rw [List.take_length] at hacc1
            exact ⟨_, _, _, acc1, rfl, sz, hLz, hzD, hacc1⟩
        · obtain ⟨o7, o9, o12, acc, rfl, sx, hLx, hxD, hacc⟩ := y
          rw [hrxl, List.take_length] at hacc
          have sjx := s13.trans sx
          refine ⟨_, rfl, D3, _, _, _, _, _, _, _, acc, rfl, smj.trans sjx, nlj.trans (NL.of sjx), sjx _ _ hlj, sjx _ _ hfj, fun z => ?_, hxD, hacc⟩
          rw [z, s13 _ _ hfj] at hD3
          cases hD3
      · obtain ⟨rl, o6, o7, o8, o9, o10, o11, o12, rxs, rfl, smj, nlj, hlj, hfj, nrfj, hrj, hlsj⟩ := y
        have hrw3 := rwP_le dl hdl7 ss.length
        generalize rwP dl ss.length = rw0 at *
        have hrxl := hlsj.1
        refine ⟨_, rfl, rl, rfl, ⟨_, SqL.of hrj⟩, ?_⟩
        refine for_it (walk_list (K := K) (a := rl) (xs := rxs)) (fun b σ Hx => ∃ o12 acc, σ = [some (.ref sa), some (.ref t), some (.ref ca), some (.ref fd), some (.ref pd), some (.ref rl), o6, o7, o8, o9, o10, o11, o12] ∧ Same H Hx ∧ NL Hc Hx ∧ Hx l = some (.lst xs) ∧ Hx rl = some (.lst rxs) ∧ Hx fd = some (.lst acc) ∧ LsK (FdE K ths ss) Hx acc (pre0 ++ (rw0.take b).map fun os => (dl, os)))
          ⟨_, fxs, rfl, smj, NL.of (Same.refl _), hlj, hrj, hfj, by rw [List.take_zero, List.map_nil, List.append_nil]; exact hfo.up fun p a => nlj.fdE⟩ (fun b σ Hx _ y => ?_) (fun b x σ Hx Hy hb y e => ?_) (fun σ Hx y => ?_)
        · obtain ⟨_, _, _, _, _, _, h, _⟩ := y
          exact SqL.of h
        · obtain ⟨rfl, e⟩ := e
          obtain ⟨o12, acc, rfl, sx, nx, hlx, hrx, hfx', hacc⟩ := y
          rw [hrxl] at hb
          obtain ⟨pr, rfl, po, pe, ys, r1, r2, r3, r4⟩ := (hlsj.up fun p a => nx.rwE).get hb e
          have hal : acc.length ≤ 770000 := by
            rw [hacc.1, List.length_append, List.length_map, List.length_take]
            omega
          refine ⟨_, rfl, .inl ⟨rfl, _, SqL.of hfx'⟩, _, rfl, _, rfl, pr, _, 0, _, rfl, rfl, r1, atI_nat (j := 0) rfl, _, rfl, pr, _, 1, _, rfl, rfl, r1, atI_nat (j := 1) rfl, lenOk (n := 3) rfl (by decide), fun t3 ht3 => ?_⟩
          have s3' := same_new (o := .tup [V.ref pd, V.ref po, V.ref pe]) ht3
          have e3' : upd Hy t3 (.tup [V.ref pd, V.ref po, V.ref pe]) t3 = some (.tup [V.ref pd, V.ref po, V.ref pe]) := upd_same
          generalize upd Hy t3 (.tup [V.ref pd, V.ref po, V.ref pe]) = G9 at s3' e3' ⊢
          have hf9 := s3' _ _ hfx'
          refine ⟨fd, _, _, rfl, rfl, hf9, big_line (by omega), ?_⟩
          have nl9 := NL.put (o := .lst (acc ++ [V.ref t3])) hf9
          refine ⟨_, acc ++ [.ref t3], rfl, same_mut (sx.trans s3') hfd, (nx.trans (NL.of s3')).trans nl9, by rw [upd_ne nlf]; exact s3' _ _ hlx, by rw [upd_ne nrfj]; exact s3' _ _ hrx, upd_same, ?_⟩
          rw [take_mapG _ _ _ hb, ← List.append_assoc]
          refine ((hacc.up fun p a => (NL.of s3').fdE).snoc ?_).up fun p a => nl9.fdE
          exact ⟨pd, po, pe, ys, SqT.of e3', sqT_up ((nlj.trans nx).sq hpd) s3', sqT_up r2 s3', r3.up s3', sqT_up r4 s3'⟩
        · obtain ⟨o12, acc, rfl, sx, nx, hlx, hrx, hfx', hacc⟩ := y
          rw [hrxl, List.take_length] at hacc
          exact ⟨_, _, _, _, _, _, _, _, _, acc, rfl, sx, nl.trans (nlj.trans nx), hlx, hfx', hacc⟩
    · obtain ⟨o4, o5, o6, o7, o8, o9, o10, o11, o12, fxs, rfl, sm, nl, hll, hfx, hfo⟩ := y
      rw [hxl, List.take_length] at hfo
      exact ⟨_, rfl, q _ fd fxs sm hfx hfo⟩
end
end R1

namespace R1
open PySem PySem.Spec PyProof.Rows L2 RK PT
local macro_rules | `(tactic| walk_at "sq") => `(tactic| first
  | exact SqL.of upd_same | exact upd_same | exact SqL.of (by assumption) | exact SqL.of (by rw [upd_ne (by assumption)]; assumption) | assumption)
local macro_rules | `(tactic| walk_at "sd") => `(tactic| first
  | assumption | omega | (refine Or.inl ⟨?_, ?_⟩ <;> omega) | (show _ ∧ _; constructor <;> omega) | (show _ ≠ _; simp; omega) | (exact Or.inl ⟨by decide, by decide⟩) | (exact Or.inr ⟨by decide, by decide⟩) | (show _ < _; decide) | (show _ ≤ _; decide))
local macro_rules | `(tactic| walk_at "at") => `(tactic| first | rfl | (refine atI_intV ?_ ?_ <;> omega) | assumption)
local macro_rules | `(tactic| walk_at "s1") => `(tactic| first
  | refine ⟨_, rfl, ?_⟩ | refine ⟨_, _, rfl, rfl, ?_⟩ | refine ⟨rfl, ?_⟩
  | refine ⟨_, _, _, _, rfl, rfl, by walk_at "sq", by walk_at "at", ?_⟩
  | refine Or.inl ⟨_, rfl, ?_⟩
  | refine ⟨_, _, rfl, Or.inl (by walk_at "sq"), ?_⟩
  | refine And.intro (by walk_at "sd") ?_)
local macro_rules | `(tactic| walk_at "s") => `(tactic| repeat walk_at "s1")

def LotK (K : PySem.W.Frag) (H : Hp) (a : Addr) (ss : List Nat) (ths : List (Nat × Nat)) (chs : List (List Nat)) : Prop := ∃ s t c : Addr, SqT K H a [.ref s, .ref t, .ref c] ∧ SqT K H s (intV ss) ∧ ThK K H t ths ∧ ChK K H c chs ∧ chs.length = ths.length ∧ chs.length ≤ 5 ∧ (∀ ch ∈ chs, ch.length ≤ 3) ∧ ss.length ≤ 6
theorem NL.lot {K : PySem.W.Frag} {H H' : Hp} (n : NL H H') {a : Addr} {ss : List Nat} {ths : List (Nat × Nat)} {chs : List (List Nat)} (h : LotK K H a ss ths chs) : LotK K H' a ss ths chs := let ⟨s, t, c, h1, h2, h3, h4, h5⟩ := h; ⟨s, t, c, n.sq h1, n.sq h2, n.th h3, n.ch h4, h5⟩
def spLot (K : PySem.W.Frag) : Sp := fun vs H Q _ => ∃ (c p : Addr) (m : Nat), vs = [.ref p, .int (m : Int)] ∧ Src c H p ∧ m ≤ 5 ∧ ∀ H' a ss ths chs, LotK K H' a ss ths chs → Src c H' p → But p H H' → Q (.ref a) H'
def spLims (K : PySem.W.Frag) : Sp := fun vs H Q _ => ∃ (c p sa fa : Addr) (ss : List Nat) (ths : List (Nat × Nat)) (xs : List V) (qs : List Pk), vs = [.ref p, .ref sa, .ref fa] ∧ Src c H p ∧ SqT K H sa (intV ss) ∧ H fa = some (.lst xs) ∧ LsK (FdE K ths ss) H xs qs ∧ (∀ q ∈ qs, q.2.length = ss.length) ∧ qs.length ≤ 760000 ∧ ss.length ≤ 6 ∧ ∀ H' l (ls : List Int), Src c H' p → But p H H' → H l = none → H' l = some (.lst (ls.map V.int)) → ls.length = ss.length → Q (.ref l) H'
def spLWith (K : PySem.W.Frag) : Sp := fun vs H Q _ => ∃ (r l : Addr) (ss : List Nat) (ths : List (Nat × Nat)) (q : Pk) (ls : List Int), vs = [.ref r, .ref l] ∧ FdE K ths ss H r q ∧ H l = some (.lst (ls.map V.int)) ∧ q.2.length = ls.length ∧ ls.length ≤ 6 ∧ ∀ H', Same H H' → Q (.bl (wiP ths ss ls q)) H'
def spSame (K : PySem.W.Frag) (C : Addr) : Sp := fun vs H Q _ => ∃ (x r s : Addr) (ss : List Nat) (ths : List (Nat × Nat)) (q : Pk), vs = [.ref x, .ref r, .ref s] ∧ PkK K C x ths ss q H ∧ FdE K ths ss H r q ∧ SqT K H s (intV ss) ∧ q.1.length ≤ 5 ∧ q.2.length ≤ 6 ∧ (∀ o ∈ q.2, o.length ≤ 5) ∧ ∀ H', Same H H' → Q (.bl true) H'
def BfK (K : PySem.W.Frag) (ths : List (Nat × Nat)) (ss : List Nat) (H : Hp) (bv : V) : Option Pk → Prop
  | none => bv = .non
  | some q => ∃ x, bv = .ref x ∧ FdE K ths ss H x q
theorem BfK.up {K : PySem.W.Frag} {ths : List (Nat × Nat)} {ss : List Nat} {H H' : Hp} {bv : V} {b : Option Pk} (h : BfK K ths ss H bv b) (e : NL H H') : BfK K ths ss H' bv b := by
  cases b with
  | none => exact h
  | some q => exact let ⟨x, a, b⟩ := h; ⟨x, a, e.fdE b⟩
def spBest (K : PySem.W.Frag) : Sp := fun vs H Q _ => ∃ (s l f : Addr) (ss : List Nat) (ths : List (Nat × Nat)) (ls : List Int) (xs : List V) (qs : List Pk), vs = [.ref s, .ref l, .ref f] ∧ H l = some (.lst (ls.map V.int)) ∧ H f = some (.lst xs) ∧ LsK (FdE K ths ss) H xs qs ∧ (∀ q ∈ qs, q.2.length = ls.length) ∧ ls.length ≤ 6 ∧ ∀ H' bv, Same H H' → BfK K ths ss H' bv (qs.foldl (stepS (wiP ths ss ls) (coP ths ss)) none) → Q bv H'
theorem dxI {K : PySem.W.Frag} {H : Hp} {p : Addr} {l : List Nat} (h : SqT K H p (intV l)) : Dx K H noS (.ref p) (intsD l) := by
  rw [intV_ints] at h
  exact .tup (xt_sq h fun _ z => z.elim) (dxAll_ints _)
theorem dxAll_of {K : PySem.W.Frag} {H : Hp} {S : ASet} : ∀ {xs : List V} {ds : List PyData}, xs.length = ds.length → (∀ (k : Nat) (d : PyData), ds[k]? = some d → ∃ v, xs[k]? = some v ∧ Dx K H S v d) → DxAll K H S xs ds
  | [], [], _, _ => .nil
  | [], _ :: _, h, _ => by cases h
  | _ :: _, [], h, _ => by cases h
  | x :: xs, d :: ds, h, g => by
    obtain ⟨v, e, f⟩ := g 0 d rfl
    cases e
    exact .cons f (dxAll_of (Nat.succ.inj h) fun k d' hd => g (k + 1) d' hd)
def ordsD (os : List (List Nat)) : PyData := .tuple (os.map intsD)
theorem dxO {K : PySem.W.Frag} {H : Hp} {p : Addr} {xs : List V} {os : List (List Nat)} (h : SqT K H p xs) (ho : OrdsK K H xs os) : Dx K H noS (.ref p) (ordsD os) := by
  refine .tup (xt_sq h fun _ z => z.elim) (dxAll_of (by rw [ho.1, List.length_map]) fun k d hd => ?_)
  rw [List.getElem?_map] at hd
  cases hk : os[k]? with
  | none => rw [hk] at hd; cases hd
  | some o =>
    rw [hk] at hd
    cases hd
    obtain ⟨q, a, b⟩ := ho.2 k o hk
    exact ⟨_, a, dxI b⟩
theorem ordsD_ok {os : List (List Nat)} (h : os.length ≤ 1000) (h2 : ∀ o ∈ os, o.length ≤ 1000) : (ordsD os).canLay0 = true ∧ (ordsD os).depth ≤ 2 ∧ wdB (ordsD os) = true := by
  have g : ∀ l : List (List Nat), (∀ o ∈ l, o.length ≤ 1000) → PyData.canLayAll0 (l.map intsD) = true ∧ PyData.depthAll (l.map intsD) ≤ 1 ∧ wdA (l.map intsD) = true := fun l => by
    induction l with
    | nil => exact fun _ => ⟨rfl, Nat.zero_le _, rfl⟩
    | cons a r ih =>
      intro hl
      obtain ⟨i1, i2, i3⟩ := ih fun o ho => hl o (List.mem_cons_of_mem _ ho)
      refine ⟨?_, ?_, ?_⟩
      · show ((intsD a).canLay0 && _) = true
        rw [lay_intsD, i1]
        rfl
      · show max (intsD a).depth _ ≤ 1
        have := dep_intsD a
        omega
      · show (wdB (intsD a) && _) = true
        rw [wd_intsD (by have := hl a List.mem_cons_self; omega), i3]
        rfl
  obtain ⟨i1, i2, i3⟩ := g os h2
  refine ⟨i1, ?_, ?_⟩
  · show PyData.depthAll (os.map intsD) + 1 ≤ 2
    omega
  · show (decide (_ ≤ 100000) && wdA (os.map intsD)) = true
    rw [i3, List.length_map, decide_eq_true (by omega)]
    rfl
theorem pl_fin {K : PySem.W.Frag} {H H' : Hp} {S S' : ASet} {v v' : V} {d : PyData} (f : d.canLay0 = true) (f2 : d.depth ≤ 2) (h1 : Dx K H S v (plD d)) (s : Same H H') (h2 : Dx K H' S' v' (plD d)) : Dp K H' v (plD d) ∧ Dp K H' v' (plD d) ∧ SeqAt.shaped (plD d) = true ∧ PyData.eqv (plD d) (plD d) = true :=
  ⟨(Dx.up (Out.of s) h1).dp, h2.dp, plD_shaped f (Nat.le_trans f2 (by decide)), SeqAt.eqv_refl _ (plD_lay d f)⟩
section
variable {P : Program} {w : World} {K : PySem.W.Frag} {mg : Str → Option Value} {base : Heap} {A : Ads}
theorem ok_law_same (T : Txt K mg A) : FnOk P w K mg base CX0 4 A.a_law_same A.d_law_same ["_law_packing", "_law_row", "_law_starts"] (spSame K A.c_Packing) := by
  refine T.F_law_same.ok sc_law_same (fun vs H Q E h => ?_) (fun cdv B outer s H vs Q E hr h => ?_)
  · obtain ⟨x, r, s, ss, ths, q0, rfl, _⟩ := h
    rfl
  · obtain ⟨x, r, s, ss, ths, q0, rfl, pk, fdk, hs, hq1, hq2, hq3, q⟩ := h
    refine ⟨_, (pss_cons (ps_if (PW.pt (pw_or (pt_cmpR (op_neD hr.units) (pe_call (ok_plain T 3) (hr.mono (by omega)) rfl T.g_law_plain T.F_law_plain.kp T.b_law_plain .nil pass0 (pa_cons (pe_fld (pv 0) rfl) pa_nil)) (pe_call (ok_plain T 3) (hr.mono (by omega)) rfl T.g_law_plain T.F_law_plain.kp T.b_law_plain .nil pass0 (pa_cons (pe_ix ix_tup (pv 1) pe_int (fun _ _ => rfl)) pa_nil)) (nomark _)) (pw_or1 (pt_cmpR (op_neD hr.units) (pe_call (ok_plain T 3) (hr.mono (by omega)) rfl T.g_law_plain T.F_law_plain.kp T.b_law_plain .nil pass0 (pa_cons (pe_fld (pv 0) rfl) pa_nil)) (pe_call (ok_plain T 3) (hr.mono (by omega)) rfl T.g_law_plain T.F_law_plain.kp T.b_law_plain .nil pass0 (pa_cons (pe_ix ix_tup (pv 1) pe_int (fun _ _ => rfl)) pa_nil)) (nomark _))))) (pss_one (ps_ret pe_bl)) pss_nil)
    (pss_cons (ps_if (pt_cmpR (op_neD hr.units) (pe_call (ok_plain T 3) (hr.mono (by omega)) rfl T.g_law_plain T.F_law_plain.kp T.b_law_plain .nil pass0 (pa_cons (pe_fld (pv 0) rfl) pa_nil)) (pe_call (ok_plain T 3) (hr.mono (by omega)) rfl T.g_law_plain T.F_law_plain.kp T.b_law_plain .nil pass0 (pa_cons (pe_ix ix_tup (pv 1) pe_int (fun _ _ => rfl)) pa_nil)) (nomark _)) (pss_one (ps_ret pe_bl)) pss_nil)
    (pss_one (ps_ret (pe_and (pe_call (ok_law_is_number T) (hr.mono (by omega)) rfl T.g_law_is_number T.F_law_is_number.kp T.b_law_is_number .nil pass0 (pa_cons (pe_fld (pv 0) rfl) pa_nil)) (pe_one (pe_cmpR op_eq (pe_fld (pv 0) rfl) (pe_op op_sub (pe_callB (cr_sumT rfl) (by rfl) T.n_sum (by decide +kernel) (pa_cons (pe_ix ix_tup (pv 1) pe_int (fun _ _ => rfl)) pa_nil)) (pe_callB (cr_sumT rfl) (by rfl) T.n_sum (by decide +kernel) (pa_cons (pv 2) pa_nil))) (nomark _)))))))), ?_⟩
    obtain ⟨dx, a, b, e, ws, fs, zs, h1, h2, h3, h4, h5, h6, h7, h8, h9, h10⟩ := pk
    obtain ⟨pd, po, pe, ys, k1, k2, k3, k4, k5⟩ := fdk
    have d1 := dxI h3
    have d1' := dxI k2
    have d2 := dxO h5 h6
    have d2' := dxO k3 k4
    have d3 := dxI h8
    have d3' := dxI k5
    have nn : ∀ {G : Hp} (z : Addr), noS z → G z ≠ none := fun z w => w.elim
    have l1 : q0.1.length ≤ 100000 := by omega
    have l3 : (enP ths ss q0.2).length ≤ 100000 := by rw [enP_len]; omega
    obtain ⟨o1, o2, o3⟩ := ordsD_ok (os := q0.2) (by omega) (fun o ho => by have := hq3 o ho; omega)
    refine ⟨_, rfl, x, A.c_Packing, dx, _, _, rfl, h1, T.cl_Packing, T.na_Packing_dealing, h2, _, intsD q0.1, noS, rfl, nn, d1, Nat.le_trans (dep_intsD _) (by decide), wd_intsD l1, fun G1 v1 s1 e1 => ?_⟩
    refine ⟨_, rfl, r, _, 0, _, rfl, rfl, sqT_up k1 s1, atI_nat (j := 0) rfl, _, intsD q0.1, noS, rfl, nn, Dx.up (Out.of s1) d1', Nat.le_trans (dep_intsD _) (by decide), wd_intsD l1, fun G2 v2 s2 e2 => ?_⟩
    have ef := pl_fin (lay_intsD _) (Nat.le_trans (dep_intsD _) (by decide)) e1 s2 e2
    refine ⟨_, _, ef.1, ef.2.1, ef.2.2.1, ef.2.2.1, ?_⟩
    rw [ef.2.2.2]
    have s12 := s1.trans s2
    clear ef e1 e2
    refine ⟨_, rfl, ifF rfl ?_⟩
    refine ⟨_, rfl, x, A.c_Packing, dx, _, _, rfl, s12 _ _ h1, T.cl_Packing, T.na_Packing_orders, h4, _, ordsD q0.2, noS, rfl, nn, Dx.up (Out.of s12) d2, o2, o3, fun G3 v3 s3 e3 => ?_⟩
    have s13 := s12.trans s3
    refine ⟨_, rfl, r, _, 1, _, rfl, rfl, sqT_up k1 s13, atI_nat (j := 1) rfl, _, ordsD q0.2, noS, rfl, nn, Dx.up (Out.of s13) d2', o2, o3, fun G4 v4 s4 e4 => ?_⟩
    have ef := pl_fin o1 o2 e3 s4 e4
    refine ⟨_, _, ef.1, ef.2.1, ef.2.2.1, ef.2.2.1, ?_⟩
    rw [ef.2.2.2]
    have s14 := s13.trans s4
    clear ef e3 e4
    refine ⟨_, rfl, ifF rfl ?_⟩
    refine ⟨_, rfl, x, A.c_Packing, dx, _, _, rfl, s14 _ _ h1, T.cl_Packing, T.na_Packing_ends, h7, _, intsD (enP ths ss q0.2), noS, rfl, nn, Dx.up (Out.of s14) d3, Nat.le_trans (dep_intsD _) (by decide), wd_intsD l3, fun G5 v5 s5 e5 => ?_⟩
    have s15 := s14.trans s5
    refine ⟨_, rfl, r, _, 2, _, rfl, rfl, sqT_up k1 s15, atI_nat (j := 2) rfl, _, intsD (enP ths ss q0.2), noS, rfl, nn, Dx.up (Out.of s15) d3', Nat.le_trans (dep_intsD _) (by decide), wd_intsD l3, fun G6 v6 s6 e6 => ?_⟩
    have ef := pl_fin (lay_intsD _) (Nat.le_trans (dep_intsD _) (by decide)) e5 s6 e6
    refine ⟨_, _, ef.1, ef.2.1, ef.2.2.1, ef.2.2.1, ?_⟩
    rw [ef.2.2.2]
    have s16 := s15.trans s6
    clear ef e5 e6
    refine ⟨_, rfl, ifF rfl ?_⟩
    refine ⟨_, rfl, x, A.c_Packing, dx, _, _, rfl, s16 _ _ h1, T.cl_Packing, T.na_Packing_words, h9, ws, rfl, ?_⟩
    refine ⟨_, rfl, ifT rfl ?_⟩
    refine ⟨_, rfl, x, A.c_Packing, dx, _, _, rfl, s16 _ _ h1, T.cl_Packing, T.na_Packing_words, h9, _, rfl, r, _, 2, _, rfl, rfl, sqT_up k1 s16, atI_nat (j := 2) rfl, pe, (enP ths ss q0.2).map fun (n : Nat) => (n : Int), rfl, by rw [← intV_ints]; exact sqT_up k5 s16, ?_⟩
    refine ⟨_, rfl, s, ss.map fun (n : Nat) => (n : Int), rfl, by rw [← intV_ints]; exact sqT_up hs s16, _, _, rfl, rfl, rfl, ?_⟩
    rw [sum_castN, sum_castN]
    have hd : decide (V.int ws = V.int ((((enP ths ss q0.2).sum : Nat) : Int) - ((ss.sum : Nat) : Int))) = true := decide_eq_true (by rw [h10]; rfl)
    rw [hd]
    exact q _ s16
end
end R1

namespace R1
open PySem PySem.Spec PyProof.Rows L2 RK PT
local macro_rules | `(tactic| walk_at "sq") => `(tactic| first
  | exact SqL.of upd_same | exact upd_same | exact SqL.of (by assumption) | exact SqL.of (by rw [upd_ne (by assumption)]; assumption) | assumption)
local macro_rules | `(tactic| walk_at "sd") => `(tactic| first
  | assumption | omega | (refine Or.inl ⟨?_, ?_⟩ <;> omega) | (show _ ∧ _; constructor <;> omega) | (show _ ≠ _; simp; omega) | (exact Or.inl ⟨by decide, by decide⟩) | (exact Or.inr ⟨by decide, by decide⟩) | (show _ < _; decide) | (show _ ≤ _; decide))
local macro_rules | `(tactic| walk_at "at") => `(tactic| first | rfl | (refine atI_intV ?_ ?_ <;> omega) | assumption)
local macro_rules | `(tactic| walk_at "s1") => `(tactic| first
  | refine ⟨_, rfl, ?_⟩ | refine ⟨_, _, rfl, rfl, ?_⟩ | refine ⟨rfl, ?_⟩
  | refine ⟨_, _, _, _, rfl, rfl, by walk_at "sq", by walk_at "at", ?_⟩
  | refine Or.inl ⟨_, rfl, ?_⟩
  | refine ⟨_, _, rfl, Or.inl (by walk_at "sq"), ?_⟩
  | refine And.intro (by walk_at "sd") ?_)
local macro_rules | `(tactic| walk_at "s") => `(tactic| repeat walk_at "s1")

theorem OrdsK.set {K : PySem.W.Frag} {H : Hp} {xs : List V} {os : List (List Nat)} {k : Nat} {p : Addr} {o : List Nat} (h : OrdsK K H xs os) (e : SqT K H p (intV o)) : OrdsK K H (xs.set k (.ref p)) (os.set k o) := by
  refine ⟨by rw [List.length_set, List.length_set, h.1], fun j t ht => ?_⟩
  rw [List.getElem?_set] at ht ⊢
  by_cases z : k = j
  · rw [if_pos z] at ht ⊢
    by_cases w : k < os.length
    · rw [if_pos w] at ht
      cases ht
      rw [if_pos (by rw [h.1]; exact w)]
      exact ⟨p, rfl, e⟩
    · rw [if_neg w] at ht
      cases ht
  · rw [if_neg z] at ht ⊢
    exact h.2 j t ht
theorem ixN_nat {n k : Nat} (h : k < n) : ixN n (k : Int) = some k := by
  unfold ixN
  rw [if_pos (by omega), if_pos (by omega), Int.toNat_natCast]
section
variable {P : Program} {w : World} {K : PySem.W.Frag} {mg : Str → Option Value} {base : Heap} {A : Ads}
theorem okH_law_is_number (T : Txt K mg A) : L2H.FnH P w K mg base CX0 1 A.a_law_is_number A.d_law_is_number ["_law_thing"] spIsNum := by
  refine Fun.okH T.F_law_is_number sc_law_is_number (fun vs H Q E h => ?_) (fun cdv B outer s H vs Q E p hot hr h => ?_)
  · obtain ⟨i, rfl, _⟩ := h
    rfl
  · obtain ⟨i, rfl, q⟩ := h
    refine ⟨_, (pss_one (ps_ret (pe_and (pe_callB (r := rIsi K) call_isi (by rfl) T.n_isinstance (by decide +kernel) (pa_cons (pv 0) (pa_cons (pe_bltn (v := .ty "int") (u := .type "int") (by rfl) T.n_int (by decide +kernel) rfl) pa_nil))) (pe_one (pe_not (pe_callB (r := rIsi K) call_isi (by rfl) T.n_isinstance (by decide +kernel) (pa_cons (pv 0) (pa_cons (pe_bltn (v := .ty "bool") (u := .type "bool") (by rfl) T.n_bool (by decide +kernel) rfl) pa_nil)))))))), ?_⟩
    refine ⟨_, rfl, .int i, .ty "int", _, _, _, rfl, .ty "int", dp_ty (K := K) (.int i), kit_ty (kitT _ (dp_tn (K := K) (H := H) (.int i)) "int" (by decide)), _, rfl, ?_⟩
    refine ifT rfl ⟨_, rfl, .int i, .ty "bool", _, _, _, rfl, .ty "bool", dp_ty (K := K) (.int i), kit_ty (kitT _ (dp_tn (K := K) (H := H) (.int i)) "bool" (by decide)), _, rfl, q⟩
theorem ok_law_lot (T : Txt K mg A) : FnOk P w K mg base CX0 3 A.a_law_lot A.d_law_lot ["_law_source_here", "_law_most"] (spLot K) := by
  refine T.F_law_lot.ok sc_law_lot (fun vs H Q E h => ?_) (fun cdv B outer s H vs Q E hr h => ?_)
  · obtain ⟨c, p, m, rfl, _⟩ := h
    rfl
  · obtain ⟨c, p, m, rfl, hs, hm, q⟩ := h
    refine ⟨_, (pss_cons (ps_if (pt_cmpR op_eq (pe_call (ok_law_draw T) (hr.mono (by omega)) rfl T.g_law_draw T.F_law_draw.kp T.b_law_draw .nil pass0 (pa_cons (pv 0) (pa_cons pe_int pa_nil))) pe_int (nomark _)) (pss_cons (ps_set (i := 3) sc_law_lot.nd rfl (.inl rfl) (pe_callTy tuple_of (by rfl) T.n_tuple (by decide +kernel) (pa_cons (pe_lc (own := [("_law_k", 2)]) rfl sc_law_lot.nd (pi_range1 (by rfl) T.n_range (pa_cons pe_int pa_nil)) (blkOk_by (own := [("_law_k", 2)]) (N := N_law_lot) (sc := defScope s_law_lot) (by decide +kernel)) (fun _ _ _ _ _ => pg_name (i := 2) sc_law_lot.nd rfl (Or.inl rfl)) (fun _ _ _ _ _ => pts_nil) (fun _ _ _ _ _ => by exact (pe_op op_add (pe_ix (r := rIxT K) ix_tup (pe_tup (pa_cons pe_int (pa_cons pe_int pa_nil))) (pe_call (ok_law_draw T) (hr.mono (by omega)) rfl T.g_law_draw T.F_law_draw.kp T.b_law_draw .nil pass0 (pa_cons (pv 0) (pa_cons pe_int pa_nil))) (fun _ _ => rfl)) (pe_call (ok_law_draw T) (hr.mono (by omega)) rfl T.g_law_draw T.F_law_draw.kp T.b_law_draw .nil pass0 (pa_cons (pv 0) (pa_cons pe_int pa_nil)))))) pa_nil)))
    (pss_cons (ps_setLc (i := 4) (own := [("_law_k", 2)]) rfl sc_law_lot.nd rfl rfl (sw_true rfl rfl rfl (by decide +kernel)) (pi_range1 (by rfl) T.n_range (pa_cons pe_int pa_nil)) (blkOk_by (own := [("_law_k", 2)]) (N := N_law_lot) (sc := defScope s_law_lot) (by decide +kernel)) (fun _ _ _ _ _ => pg_name (i := 2) sc_law_lot.nd rfl (Or.inl rfl)) (fun _ _ _ _ _ => pts_nil) (fun _ _ _ _ _ => by exact (pe_tup (pa_cons (pe_call (ok_law_draw T) (hr.mono (by omega)) rfl T.g_law_draw T.F_law_draw.kp T.b_law_draw .nil pass0 (pa_cons (pv 0) (pa_cons pe_int pa_nil))) pa_nil))))
    (pss_cons (ps_set (i := 5) sc_law_lot.nd rfl (.inl rfl) (pe_call (ok_law_draw T) (hr.mono (by omega)) rfl T.g_law_draw T.F_law_draw.kp T.b_law_draw .nil pass0 (pa_cons (pv 0) (pa_cons pe_int pa_nil))))
    (pss_cons (ps_asg (pe_tup (pa_cons (pe_ix ix_seq (pe_ix ix_seq (pv 4) (pv 5) (fun _ _ => rfl)) pe_int (fun _ _ => rfl)) (pa_cons (pe_op op_mod (pe_callTy call_int1 (by rfl) T.n_int (by decide +kernel) (pa_cons (pe_op op_add (pe_op op_add (pe_ix ix_seq (pe_ix ix_seq (pv 4) (pv 5) (fun _ _ => rfl)) pe_int (fun _ _ => rfl)) pe_int) (pe_call (ok_law_draw T) (hr.mono (by omega)) rfl T.g_law_draw T.F_law_draw.kp T.b_law_draw .nil pass0 (pa_cons (pv 0) (pa_cons pe_int pa_nil)))) pa_nil)) pe_int) pa_nil))) (pg_sub (pv 4) (pv 5) set_list))
    (pss_one (ps_ret (pe_tup (pa_cons (pv 3) (pa_cons (pe_call (ok_law_things T) (hr.mono (by omega)) rfl T.g_law_things T.F_law_things.kp T.b_law_things .nil pass0 (pa_cons (pv 0) (pa_cons pe_int pa_nil))) (pa_cons (pe_callTy tuple_of (by rfl) T.n_tuple (by decide +kernel) (pa_cons (pv 4) pa_nil)) pa_nil)))))))))) pss_nil)
    (pss_cons (ps_set (i := 6) sc_law_lot.nd rfl (.inr rfl) (pe_op op_add pe_int (pe_call (ok_law_draw T) (hr.mono (by omega)) rfl T.g_law_draw T.F_law_draw.kp T.b_law_draw .nil pass0 (pa_cons (pv 0) (pa_cons pe_int pa_nil)))))
    (pss_cons (ps_if (pt_cmpR op_eq (pe_call (ok_law_draw T) (hr.mono (by omega)) rfl T.g_law_draw T.F_law_draw.kp T.b_law_draw .nil pass0 (pa_cons (pv 0) (pa_cons pe_int pa_nil))) pe_int (nomark _)) (pss_one (ps_set (i := 6) sc_law_lot.nd rfl (.inr rfl) pe_int)) pss_nil)
    (pss_cons (ps_set (i := 7) sc_law_lot.nd rfl (.inl rfl) (pe_call (ok_law_draw T) (hr.mono (by omega)) rfl T.g_law_draw T.F_law_draw.kp T.b_law_draw .nil pass0 (pa_cons (pv 0) (pa_cons (pe_op op_add (pv 1) pe_int) pa_nil))))
    (pss_cons (ps_set (i := 3) sc_law_lot.nd rfl (.inl rfl) (pe_callTy tuple_of (by rfl) T.n_tuple (by decide +kernel) (pa_cons (pe_lc (own := [("_law_k", 2)]) rfl sc_law_lot.nd (pi_range1 (by rfl) T.n_range (pa_cons (pv 6) pa_nil)) (blkOk_by (own := [("_law_k", 2)]) (N := N_law_lot) (sc := defScope s_law_lot) (by decide +kernel)) (fun _ _ _ _ _ => pg_name (i := 2) sc_law_lot.nd rfl (Or.inl rfl)) (fun _ _ _ _ _ => pts_nil) (fun _ _ _ _ _ => by exact (pe_op op_add (pe_ix (r := rIxT K) ix_tup (pe_tup (pa_cons pe_int (pa_cons pe_int pa_nil))) (pe_call (ok_law_draw T) (hr.mono (by omega)) rfl T.g_law_draw T.F_law_draw.kp T.b_law_draw .nil pass0 (pa_cons (pv 0) (pa_cons pe_int pa_nil))) (fun _ _ => rfl)) (pe_call (ok_law_draw T) (hr.mono (by omega)) rfl T.g_law_draw T.F_law_draw.kp T.b_law_draw .nil pass0 (pa_cons (pv 0) (pa_cons pe_int pa_nil)))))) pa_nil)))
    (pss_cons (ps_set (i := 4) sc_law_lot.nd rfl (.inl rfl) (pe_callTy tuple_of (by rfl) T.n_tuple (by decide +kernel) (pa_cons (pe_lc (own := [("_law_k", 2)]) rfl sc_law_lot.nd (pi_range1 (by rfl) T.n_range (pa_cons (pv 7) pa_nil)) (blkOk_by (own := [("_law_k", 2)]) (N := N_law_lot) (sc := defScope s_law_lot) (by decide +kernel)) (fun _ _ _ _ _ => pg_name (i := 2) sc_law_lot.nd rfl (Or.inl rfl)) (fun _ _ _ _ _ => pts_nil) (fun _ _ _ _ _ => by exact (pe_call (ok_law_choice T) (hr.mono (by omega)) rfl T.g_law_choice T.F_law_choice.kp T.b_law_choice .nil pass0 (pa_cons (pv 0) (pa_cons (pv 6) pa_nil))))) pa_nil)))
    (pss_one (ps_ret (pe_tup (pa_cons (pv 3) (pa_cons (pe_call (ok_law_things T) (hr.mono (by omega)) rfl T.g_law_things T.F_law_things.kp T.b_law_things .nil pass0 (pa_cons (pv 0) (pa_cons (pv 7) pa_nil))) (pa_cons (pv 4) pa_nil)))))))))))), ?_⟩
    refine ⟨_, rfl, c, p, 4, rfl, hs, by decide, by decide, fun H1 w1 lw hs1 b1 => ⟨rfl, _, rfl, ifB (fun e => ?_) (fun e => ?_)⟩⟩
    · refine ⟨6, rfl, by decide, by decide, fun D hD => ?_⟩
      have hsb := hs1
      obtain ⟨n, hn6⟩ : ∃ n : Nat, n = 6 := ⟨6, rfl⟩
      rw [show ((6 : Int)).toNat = n by rw [hn6]; rfl]
      refine lc_inv (walk_range (lo := 0) (n := n)) (fun i v => True) (fun i acc H4 => Src c H4 p ∧ But p _ H4 ∧ ∃ ws : List Nat, acc = intV ws) (by omega) ⟨src_up hsb (same_new hD), But.of (same_new hD), [], rfl⟩ (fun _ _ _ _ => trivial) (fun i H1 v H2 hi y => ⟨y.1, trivial⟩) (fun i v acc H4 hi hl pv e5 _ Q q => ?_) (fun acc H6 hl4 pv e6 => ?_)
      · obtain ⟨hs4, b4, ws, rfl⟩ := pv
        have np := src_ints hs4 e5
        refine ⟨lenOk (n := 2) rfl (by decide), fun t ht => ?_⟩
        have st := same_new (o := .tup [V.int 1, V.int 2000]) ht
        have et : upd H4 t (.tup [V.int 1, V.int 2000]) t = some (.tup [V.int 1, V.int 2000]) := upd_same
        generalize upd H4 t (.tup [V.int 1, V.int 2000]) = H5 at st et ⊢
        have hs5 := src_up hs4 st
        refine ⟨_, rfl, c, p, 2, rfl, hs5, by decide, by decide, fun H7 r lr hs7 b7 => ?_⟩
        obtain ⟨z, hz⟩ : ∃ z : Nat, [V.int 1, V.int 2000][r]? = some (.int (z : Int)) := by
          have : r = 0 ∨ r = 1 := by omega
          rcases this with y | y
          · exact ⟨1, by rw [y]; rfl⟩
          · exact ⟨2000, by rw [y]; rfl⟩
        refine ⟨t, _, _, _, rfl, rfl, SqT.of (NL.but hs5 b7 _ _ rfl et), atI_nat hz, _, rfl, c, p, 41, rfl, hs7, by decide, by decide, fun H8 r2 lr2 hs8 b8 => ?_⟩
        have e8 := b8 _ _ np (b7 _ _ np (st _ _ e5))
        refine ⟨_, _, rfl, rfl, ?_⟩
        refine q _ H8 e8 ⟨src_put hs8 np fun z => src_cne hsb (z ▸ hD), but_new (b4.trans ((But.of st).trans (b7.trans b8))) hD, ws ++ [z + r2], ?_⟩
        rw [intV_app]
        exact congrArg (fun w => intV ws ++ [V.int w]) (show (z : Int) + (r2 : Int) = ((z + r2 : Nat) : Int) by omega)
      obtain ⟨hs6, b6, ws, rfl⟩ := pv
      have hn : ws.length = n := by rw [intV_len] at hl4; exact hl4
      refine ⟨D, _, rfl, .inl ⟨SqL.of e6, fun t6 ht6 => ?_⟩⟩
      have st6 := same_new (o := .tup (intV ws)) ht6
      have et6 : upd H6 t6 (.tup (intV ws)) t6 = some (.tup (intV ws)) := upd_same
      generalize upd H6 t6 (.tup (intV ws)) = H9 at st6 et6 ⊢
      have hs9 := src_up hs6 st6
      have b9 := b6.trans (But.of st6)
      have sq9 : SqT K H9 t6 (intV ws) := SqT.of et6
      clear et6 st6 ht6 e6 b6 hs6 hl4
      have b19 := b1.trans b9
      refine ⟨5, rfl, by decide, by decide, fun D4 hD4 => ?_⟩
      refine lc_inv (walk_range (lo := 0) (n := 5)) (fun i v => True) (fun i acc H4 => Src c H4 p ∧ But p H9 H4 ∧ ∃ os : List (List Nat), OrdsK K H4 acc os ∧ ∀ o ∈ os, o.length = 1) (by decide) ⟨src_up hs9 (same_new hD4), But.of (same_new hD4), [], ords_nil, fun o h => by cases h⟩ (fun _ _ _ _ => trivial) (fun i H1 v H2 hi y => ⟨y.1, trivial⟩) (fun i v acc H4 hi hl pv e5 _ Q q => ?_) (fun acc H10 hl4 pv e10 => ?_)
      · obtain ⟨hs4, b4, os, hos, ho1⟩ := pv
        have np : D4 ≠ p := fun z => src_ne hs9 (z ▸ hD4)
        have nc : D4 ≠ c := fun z => src_cne hs9 (z ▸ hD4)
        refine ⟨_, rfl, c, p, 6, rfl, hs4, by decide, by decide, fun H7 r lr hs7 b7 => ⟨lenOk (n := 1) rfl (by decide), fun t ht => ?_⟩⟩
        have st := same_new (o := .tup [V.int (r : Int)]) ht
        have e7 := st _ _ (b7 _ _ np e5)
        refine q _ _ e7 ⟨src_put (src_up hs7 st) np nc, but_new (b4.trans (b7.trans (But.of st))) hD4, os ++ [[r]], (NL.put e7).ords ((((NL.but hs4 b7).ords hos).up st).snoc (SqT.of upd_same)), fun o ho => ?_⟩
        rcases List.mem_append.mp ho with z | z
        · exact ho1 o z
        · rw [List.mem_singleton.mp z]
          rfl
      obtain ⟨hs10, b10, os, hos, ho1⟩ := pv
      have np : D4 ≠ p := fun z => src_ne hs9 (z ▸ hD4)
      have nc : D4 ≠ c := fun z => src_cne hs9 (z ▸ hD4)
      have hol : os.length = 5 := by rw [← hos.1]; exact hl4
      refine ⟨_, rfl, c, p, 5, rfl, hs10, by decide, by decide, fun H11 k lk hs11 b11 => ?_⟩
      have hk5 : k < os.length := by omega
      have hos11 := (NL.but hs10 b11).ords hos
      have e11 := b11 _ _ np e10
      obtain ⟨po, hp1, hp2⟩ := hos11.2 k os[k] (List.getElem?_eq_getElem hk5)
      obtain ⟨o0, ho0⟩ : ∃ o0, os[k] = [o0] := by
        have := ho1 _ (List.getElem_mem hk5)
        match h : os[k], this with
        | [x], _ => exact ⟨x, rfl⟩
      rw [ho0] at hp2
      refine ⟨_, rfl, _, rfl, .inl ⟨D4, _, _, _, rfl, rfl, SqL.of e11, atI_nat hp1, .inr (.inl ⟨po, _, 0, _, rfl, rfl, hp2, atI_nat (j := 0) rfl, ?_⟩)⟩⟩
      refine ⟨_, rfl, _, rfl, .inl ⟨D4, _, _, _, rfl, rfl, SqL.of e11, atI_nat hp1, .inr (.inl ⟨po, _, 0, _, rfl, rfl, hp2, atI_nat (j := 0) rfl, _, _, rfl, rfl, ?_⟩)⟩⟩
      refine ⟨_, rfl, c, p, 5, rfl, hs11, by decide, by decide, fun H12 r12 lr12 hs12 b12 => ⟨_, _, rfl, rfl, .inl ⟨_, rfl, _, _, rfl, rfl, (by show (0 : Int) < 6; decide), lenOk (n := 2) rfl (by decide), fun t13 ht13 => ?_⟩⟩⟩
      have em : ((o0 : Int) + 1 + (r12 : Int)) % 6 = (((o0 + 1 + r12) % 6 : Nat) : Int) := by omega
      dsimp only
      rw [em]
      have st13 := same_new (o := .tup [V.int (o0 : Int), V.int (((o0 + 1 + r12) % 6 : Nat) : Int)]) ht13
      have et13 : SqT K (upd H12 t13 (.tup [V.int (o0 : Int), V.int (((o0 + 1 + r12) % 6 : Nat) : Int)])) t13 (intV [o0, (o0 + 1 + r12) % 6]) := SqT.of upd_same
      generalize upd H12 t13 (.tup [V.int (o0 : Int), V.int (((o0 + 1 + r12) % 6 : Nat) : Int)]) = H13 at st13 et13 ⊢
      have e13 := st13 _ _ (b12 _ _ np e11)
      have hos13 := ((NL.but hs11 b12).ords hos11).up st13
      have hos14 := (NL.put (o := .lst (acc.set k (.ref t13))) e13).ords (hos13.set (k := k) et13)
      have hs13 := src_up hs12 st13
      refine ⟨_, rfl, _, rfl, D4, _, _, k, rfl, rfl, e13, ixN_nat (by omega), ?_⟩
      have e14 : upd H13 D4 (.lst (acc.set k (.ref t13))) D4 = some (.lst (acc.set k (.ref t13))) := upd_same
      have hs14 := src_put (o := .lst (acc.set k (.ref t13))) hs13 np nc
      have b914 : But p H9 (upd H13 D4 (.lst (acc.set k (.ref t13)))) := but_new (b10.trans (b11.trans (b12.trans (But.of st13)))) hD4
      have nl914 : NL H9 (upd H13 D4 (.lst (acc.set k (.ref t13)))) := (NL.but hs9 b10).trans ((NL.but hs10 b11).trans ((NL.but hs11 b12).trans ((NL.of st13).trans (NL.put e13))))
      generalize upd H13 D4 (.lst (acc.set k (.ref t13))) = H14 at hos14 e14 hs14 b914 nl914 ⊢
      refine ⟨_, rfl, _, rfl, c, p, 5, rfl, hs14, by decide, fun H15 ta ths hth5 hth hs15 b15 => ?_⟩
      have e15 := b15 _ _ np e14
      have nl15 := NL.but hs14 b15
      refine ⟨_, rfl, D4, _, rfl, .inl ⟨SqL.of e15, fun t16 ht16 => ?_⟩⟩
      have s16 := same_new (o := .tup (acc.set k (V.ref t13))) ht16
      have e16 : SqT K (upd H15 t16 (.tup (acc.set k (V.ref t13)))) t16 (acc.set k (V.ref t13)) := SqT.of upd_same
      generalize upd H15 t16 (.tup (acc.set k (V.ref t13))) = H16 at s16 e16 ⊢
      refine ⟨lenOk (n := 3) rfl (by decide), fun t17 ht17 => ?_⟩
      have s17 := same_new (o := .tup [V.ref t6, V.ref ta, V.ref t16]) ht17
      have s67 := s16.trans s17
      refine q _ t17 ws ths (os.set k [o0, (o0 + 1 + r12) % 6]) ⟨t6, ta, t16, SqT.of upd_same, sqT_up (nl15.sq (nl914.sq sq9)) s67, hth.up s67, ⟨_, sqT_up e16 s17, (nl15.ords hos14).up s67⟩, by rw [List.length_set, hol, hth5], by rw [List.length_set]; omega, fun ch hch => ?_, by omega⟩ (src_up hs15 s67) (b19.trans (b914.trans (b15.trans (But.of s67))))
      rcases List.mem_or_eq_of_mem_set hch with z | z
      · have := ho1 ch z
        omega
      · rw [z]
        show 2 ≤ 3
        decide
    · refine ⟨_, rfl, c, p, 3, rfl, hs1, by decide, by decide, fun H2 r lr hs2 b2 => ⟨_, _, rfl, rfl, ?_⟩⟩
      dsimp only
      rw [show (1 : Int) + (r : Int) = ((1 + r : Nat) : Int) by omega]
      refine ⟨_, rfl, c, p, 16, rfl, hs2, by decide, by decide, fun H3 w3 lw3 hs3 b3 => ⟨rfl, _, rfl, ifB (fun e => ?_) (fun e => ?_)⟩⟩
      · have b03 := b1.trans (b2.trans b3)
        obtain ⟨n, hn0⟩ : ∃ n : Nat, n = 0 := ⟨0, rfl⟩
        have hn3 : n ≤ 3 := by omega
        show L2.tAsg _ _ _ _ _
        rw [show (0 : Int) = (n : Int) by rw [hn0]; rfl]
        refine ⟨_, rfl, _, rfl, _, _, rfl, rfl, c, p, ((m + 1 : Nat) : Int), rfl, hs3, by omega, by omega, fun H4 cn lcn hs4 b4 => ?_⟩
        refine ⟨_, rfl, (n : Int), rfl, by omega, by omega, fun D hD => ?_⟩
        rw [Int.toNat_natCast]
        have hsb := hs4
        refine lc_inv (walk_range (lo := 0) (n := n)) (fun i v => True) (fun i acc H4 => Src c H4 p ∧ But p _ H4 ∧ ∃ ws : List Nat, acc = intV ws) (by omega) ⟨src_up hsb (same_new hD), But.of (same_new hD), [], rfl⟩ (fun _ _ _ _ => trivial) (fun i H1 v H2 hi y => ⟨y.1, trivial⟩) (fun i v acc H4 hi hl pv e5 _ Q q => ?_) (fun acc H6 hl4 pv e6 => ?_)
        · obtain ⟨hs4, b4, ws, rfl⟩ := pv
          have np := src_ints hs4 e5
          refine ⟨lenOk (n := 2) rfl (by decide), fun t ht => ?_⟩
          have st := same_new (o := .tup [V.int 1, V.int 2000]) ht
          have et : upd H4 t (.tup [V.int 1, V.int 2000]) t = some (.tup [V.int 1, V.int 2000]) := upd_same
          generalize upd H4 t (.tup [V.int 1, V.int 2000]) = H5 at st et ⊢
          have hs5 := src_up hs4 st
          refine ⟨_, rfl, c, p, 2, rfl, hs5, by decide, by decide, fun H7 r lr hs7 b7 => ?_⟩
          obtain ⟨z, hz⟩ : ∃ z : Nat, [V.int 1, V.int 2000][r]? = some (.int (z : Int)) := by
            have : r = 0 ∨ r = 1 := by omega
            rcases this with y | y
            · exact ⟨1, by rw [y]; rfl⟩
            · exact ⟨2000, by rw [y]; rfl⟩
          refine ⟨t, _, _, _, rfl, rfl, SqT.of (NL.but hs5 b7 _ _ rfl et), atI_nat hz, _, rfl, c, p, 41, rfl, hs7, by decide, by decide, fun H8 r2 lr2 hs8 b8 => ?_⟩
          have e8 := b8 _ _ np (b7 _ _ np (st _ _ e5))
          refine ⟨_, _, rfl, rfl, ?_⟩
          refine q _ H8 e8 ⟨src_put hs8 np fun z => src_cne hsb (z ▸ hD), but_new (b4.trans ((But.of st).trans (b7.trans b8))) hD, ws ++ [z + r2], ?_⟩
          rw [intV_app]
          exact congrArg (fun w => intV ws ++ [V.int w]) (show (z : Int) + (r2 : Int) = ((z + r2 : Nat) : Int) by omega)
        obtain ⟨hs6, b6, ws, rfl⟩ := pv
        have hn : ws.length = n := by rw [intV_len] at hl4; exact hl4
        refine ⟨D, _, rfl, .inl ⟨SqL.of e6, fun t6 ht6 => ?_⟩⟩
        have st6 := same_new (o := .tup (intV ws)) ht6
        have et6 : upd H6 t6 (.tup (intV ws)) t6 = some (.tup (intV ws)) := upd_same
        generalize upd H6 t6 (.tup (intV ws)) = H9 at st6 et6 ⊢
        have hs9 := src_up hs6 st6
        have b9 := b6.trans (But.of st6)
        have sq9 : SqT K H9 t6 (intV ws) := SqT.of et6
        clear et6 st6 ht6 e6 b6 hs6 hl4
        refine ⟨_, rfl, (cn : Int), rfl, by omega, by omega, fun D4 hD4 => ?_⟩
        rw [Int.toNat_natCast]
        have np : D4 ≠ p := fun z => src_ne hs9 (z ▸ hD4)
        have nc : D4 ≠ c := fun z => src_cne hs9 (z ▸ hD4)
        refine lc_inv (walk_range (lo := 0) (n := cn)) (fun i v => True) (fun i acc H4 => Src c H4 p ∧ But p H9 H4 ∧ ∃ os : List (List Nat), OrdsK K H4 acc os ∧ ∀ o ∈ os, o.length ≤ 3) (by omega) ⟨src_up hs9 (same_new hD4), But.of (same_new hD4), [], ords_nil, fun o h => by cases h⟩ (fun _ _ _ _ => trivial) (fun i H1 v H2 hi y => ⟨y.1, trivial⟩) (fun i v acc H4 hi hl pv e5 _ Q q => ?_) (fun acc H10 hl4 pv e10 => ?_)
        · obtain ⟨hs4, b4, os, hos, ho1⟩ := pv
          refine ⟨_, rfl, _, rfl, c, p, n, rfl, hs4, hn3, fun H7 a ch hch hc3 hs7 b7 => ?_⟩
          have e7 := b7 _ _ np e5
          refine q _ _ e7 ⟨src_put hs7 np nc, but_new (b4.trans b7) hD4, os ++ [ch], (NL.put e7).ords (((NL.but hs4 b7).ords hos).snoc hch), fun o ho => ?_⟩
          rcases List.mem_append.mp ho with z | z
          · exact ho1 o z
          · rw [List.mem_singleton.mp z]
            exact hc3
        obtain ⟨hs10, b10, os, hos, ho1⟩ := pv
        have hol : os.length = cn := by rw [← hos.1]; exact hl4
        refine ⟨D4, _, rfl, .inl ⟨SqL.of e10, fun t16 ht16 => ?_⟩⟩
        have s16 := same_new (o := .tup acc) ht16
        have e16 : SqT K (upd H10 t16 (.tup acc)) t16 acc := SqT.of upd_same
        generalize upd H10 t16 (.tup acc) = H16 at s16 e16 ⊢
        have hs16 := src_up hs10 s16
        refine ⟨_, rfl, _, rfl, _, rfl, c, p, cn, rfl, hs16, by omega, fun H15 ta ths hth5 hth hs15 b15 => ?_⟩
        have nl15 := NL.but hs16 b15
        have nl910 := NL.but hs9 b10
        refine ⟨_, rfl, lenOk (n := 3) rfl (by decide), fun t17 ht17 => ?_⟩
        have s17 := same_new (o := .tup [V.ref t6, V.ref ta, V.ref t16]) ht17
        refine q _ t17 ws ths os ⟨t6, ta, t16, SqT.of upd_same, sqT_up (nl15.sq (sqT_up (nl910.sq sq9) s16)) s17, hth.up s17, ⟨_, sqT_up (nl15.sq e16) s17, (nl15.ords (hos.up s16)).up s17⟩, by rw [hol, hth5], by omega, ho1, by omega⟩ (src_up hs15 s17) (b03.trans (b4.trans (b9.trans (b10.trans ((But.of s16).trans (b15.trans (But.of s17)))))))
      · have b03 := b1.trans (b2.trans b3)
        have hn3 : 1 + r ≤ 3 := by omega
        generalize 1 + r = n at *
        refine ⟨_, rfl, _, rfl, _, _, rfl, rfl, c, p, ((m + 1 : Nat) : Int), rfl, hs3, by omega, by omega, fun H4 cn lcn hs4 b4 => ?_⟩
        refine ⟨_, rfl, (n : Int), rfl, by omega, by omega, fun D hD => ?_⟩
        rw [Int.toNat_natCast]
        have hsb := hs4
        refine lc_inv (walk_range (lo := 0) (n := n)) (fun i v => True) (fun i acc H4 => Src c H4 p ∧ But p _ H4 ∧ ∃ ws : List Nat, acc = intV ws) (by omega) ⟨src_up hsb (same_new hD), But.of (same_new hD), [], rfl⟩ (fun _ _ _ _ => trivial) (fun i H1 v H2 hi y => ⟨y.1, trivial⟩) (fun i v acc H4 hi hl pv e5 _ Q q => ?_) (fun acc H6 hl4 pv e6 => ?_)
        · obtain ⟨hs4, b4, ws, rfl⟩ := pv
          have np := src_ints hs4 e5
          refine ⟨lenOk (n := 2) rfl (by decide), fun t ht => ?_⟩
          have st := same_new (o := .tup [V.int 1, V.int 2000]) ht
          have et : upd H4 t (.tup [V.int 1, V.int 2000]) t = some (.tup [V.int 1, V.int 2000]) := upd_same
          generalize upd H4 t (.tup [V.int 1, V.int 2000]) = H5 at st et ⊢
          have hs5 := src_up hs4 st
          refine ⟨_, rfl, c, p, 2, rfl, hs5, by decide, by decide, fun H7 r lr hs7 b7 => ?_⟩
          obtain ⟨z, hz⟩ : ∃ z : Nat, [V.int 1, V.int 2000][r]? = some (.int (z : Int)) := by
            have : r = 0 ∨ r = 1 := by omega
            rcases this with y | y
            · exact ⟨1, by rw [y]; rfl⟩
            · exact ⟨2000, by rw [y]; rfl⟩
          refine ⟨t, _, _, _, rfl, rfl, SqT.of (NL.but hs5 b7 _ _ rfl et), atI_nat hz, _, rfl, c, p, 41, rfl, hs7, by decide, by decide, fun H8 r2 lr2 hs8 b8 => ?_⟩
          have e8 := b8 _ _ np (b7 _ _ np (st _ _ e5))
          refine ⟨_, _, rfl, rfl, ?_⟩
          refine q _ H8 e8 ⟨src_put hs8 np fun z => src_cne hsb (z ▸ hD), but_new (b4.trans ((But.of st).trans (b7.trans b8))) hD, ws ++ [z + r2], ?_⟩
          rw [intV_app]
          exact congrArg (fun w => intV ws ++ [V.int w]) (show (z : Int) + (r2 : Int) = ((z + r2 : Nat) : Int) by omega)
        obtain ⟨hs6, b6, ws, rfl⟩ := pv
        have hn : ws.length = n := by rw [intV_len] at hl4; exact hl4
        refine ⟨D, _, rfl, .inl ⟨SqL.of e6, fun t6 ht6 => ?_⟩⟩
        have st6 := same_new (o := .tup (intV ws)) ht6
        have et6 : upd H6 t6 (.tup (intV ws)) t6 = some (.tup (intV ws)) := upd_same
        generalize upd H6 t6 (.tup (intV ws)) = H9 at st6 et6 ⊢
        have hs9 := src_up hs6 st6
        have b9 := b6.trans (But.of st6)
        have sq9 : SqT K H9 t6 (intV ws) := SqT.of et6
        clear et6 st6 ht6 e6 b6 hs6 hl4
        refine ⟨_, rfl, (cn : Int), rfl, by omega, by omega, fun D4 hD4 => ?_⟩
        rw [Int.toNat_natCast]
        have np : D4 ≠ p := fun z => src_ne hs9 (z ▸ hD4)
        have nc : D4 ≠ c := fun z => src_cne hs9 (z ▸ hD4)
        refine lc_inv (walk_range (lo := 0) (n := cn)) (fun i v => True) (fun i acc H4 => Src c H4 p ∧ But p H9 H4 ∧ ∃ os : List (List Nat), OrdsK K H4 acc os ∧ ∀ o ∈ os, o.length ≤ 3) (by omega) ⟨src_up hs9 (same_new hD4), But.of (same_new hD4), [], ords_nil, fun o h => by cases h⟩ (fun _ _ _ _ => trivial) (fun i H1 v H2 hi y => ⟨y.1, trivial⟩) (fun i v acc H4 hi hl pv e5 _ Q q => ?_) (fun acc H10 hl4 pv e10 => ?_)
        · obtain ⟨hs4, b4, os, hos, ho1⟩ := pv
          refine ⟨_, rfl, _, rfl, c, p, n, rfl, hs4, hn3, fun H7 a ch hch hc3 hs7 b7 => ?_⟩
          have e7 := b7 _ _ np e5
          refine q _ _ e7 ⟨src_put hs7 np nc, but_new (b4.trans b7) hD4, os ++ [ch], (NL.put e7).ords (((NL.but hs4 b7).ords hos).snoc hch), fun o ho => ?_⟩
          rcases List.mem_append.mp ho with z | z
          · exact ho1 o z
          · rw [List.mem_singleton.mp z]
            exact hc3
        obtain ⟨hs10, b10, os, hos, ho1⟩ := pv
        have hol : os.length = cn := by rw [← hos.1]; exact hl4
        refine ⟨D4, _, rfl, .inl ⟨SqL.of e10, fun t16 ht16 => ?_⟩⟩
        have s16 := same_new (o := .tup acc) ht16
        have e16 : SqT K (upd H10 t16 (.tup acc)) t16 acc := SqT.of upd_same
        generalize upd H10 t16 (.tup acc) = H16 at s16 e16 ⊢
        have hs16 := src_up hs10 s16
        refine ⟨_, rfl, _, rfl, _, rfl, c, p, cn, rfl, hs16, by omega, fun H15 ta ths hth5 hth hs15 b15 => ?_⟩
        have nl15 := NL.but hs16 b15
        have nl910 := NL.but hs9 b10
        refine ⟨_, rfl, lenOk (n := 3) rfl (by decide), fun t17 ht17 => ?_⟩
        have s17 := same_new (o := .tup [V.ref t6, V.ref ta, V.ref t16]) ht17
        refine q _ t17 ws ths os ⟨t6, ta, t16, SqT.of upd_same, sqT_up (nl15.sq (sqT_up (nl910.sq sq9) s16)) s17, hth.up s17, ⟨_, sqT_up (nl15.sq e16) s17, (nl15.ords (hos.up s16)).up s17⟩, by rw [hol, hth5], by omega, ho1, by omega⟩ (src_up hs15 s17) (b03.trans (b4.trans (b9.trans (b10.trans ((But.of s16).trans (b15.trans (But.of s17)))))))
end
end R1

namespace R1
open PySem PySem.Spec PyProof.Rows L2 RK PT
local macro_rules | `(tactic| walk_at "sq") => `(tactic| first
  | exact SqL.of upd_same | exact upd_same | exact SqL.of (by assumption) | exact SqL.of (by rw [upd_ne (by assumption)]; assumption) | assumption)
local macro_rules | `(tactic| walk_at "sd") => `(tactic| first
  | assumption | omega | (refine Or.inl ⟨?_, ?_⟩ <;> omega) | (show _ ∧ _; constructor <;> omega) | (show _ ≠ _; simp; omega) | (exact Or.inl ⟨by decide, by decide⟩) | (exact Or.inr ⟨by decide, by decide⟩) | (show _ < _; decide) | (show _ ≤ _; decide))
local macro_rules | `(tactic| walk_at "at") => `(tactic| first | rfl | (refine atI_intV ?_ ?_ <;> omega) | assumption)
local macro_rules | `(tactic| walk_at "s1") => `(tactic| first
  | refine ⟨_, rfl, ?_⟩ | refine ⟨_, _, rfl, rfl, ?_⟩ | refine ⟨rfl, ?_⟩
  | refine ⟨_, _, _, _, rfl, rfl, by walk_at "sq", by walk_at "at", ?_⟩
  | refine Or.inl ⟨_, rfl, ?_⟩
  | refine ⟨_, _, rfl, Or.inl (by walk_at "sq"), ?_⟩
  | refine And.intro (by walk_at "sd") ?_)
local macro_rules | `(tactic| walk_at "s") => `(tactic| repeat walk_at "s1")

def keyI (k : List Int) : List Key := k.map Sum.inl
theorem mapI_at {a : List Int} {i : Nat} (h : i < a.length) : (a.map V.int)[i]? = some (.int (a.getD i 0)) := by
  rw [List.getElem?_map, List.getElem?_eq_getElem h, List.getD_eq_getElem?_getD, List.getElem?_eq_getElem h]
  rfl
theorem keyI_inj {a b : List Int} (h : keyI a = keyI b) : a = b := List.map_inj_right (fun x y e => Sum.inl.inj e) |>.mp h
theorem val_map {f : List Int → V} {k : List Int} : ∀ Ks : List (List Int), valV (Ks.map fun k => (keyI k, f k)) (keyI k) = if k ∈ Ks then some (f k) else none
  | [] => rfl
  | a :: r => by
    rw [List.map_cons]
    by_cases e : a = k
    · rw [valV_pos (by rw [e]), if_pos (by rw [e]; exact List.mem_cons_self), e]
    · rw [valV_neg (fun z => e (keyI_inj z)), val_map r]
      by_cases m : k ∈ r
      · rw [if_pos m, if_pos (List.mem_cons_of_mem _ m)]
      · rw [if_neg m, if_neg (fun z => (List.mem_cons.mp z).elim (fun y => e y.symm) m)]
theorem val_keyI {k : List Int} (Ks : List (List Int)) : valV (Ks.map fun k => (keyI k, V.int 1)) (keyI k) = if k ∈ Ks then some (V.int 1) else none := val_map (f := fun _ => V.int 1) Ks
theorem keys_at {H : Hp} {f : List Int → V} : ∀ {Ks : List (List Int)} {bs : List Addr}, IsKeys H (Ks.map fun k => (keyI k, f k)) bs → ∀ (i : Nat) (h1 : i < bs.length) (h2 : i < Ks.length), H bs[i] = some (.tup (Ks[i].map V.int))
  | [], _, _, i, _, h2 => absurd h2 (Nat.not_lt_zero _)
  | k :: r, [], _, i, h1, _ => absurd h1 (Nat.not_lt_zero _)
  | k :: r, b :: bs, h, 0, _, _ => by
    cases h with
    | cons a t =>
      have a : H b = some (.tup ((keyI k).map kV)) := a
      unfold keyI at a
      rw [List.map_map] at a
      exact a
  | k :: r, b :: bs, h, i + 1, h1, h2 => by
    cases h with
    | cons a t => exact keys_at (Ks := r) (bs := bs) t i (Nat.lt_of_succ_lt_succ h1) (Nat.lt_of_succ_lt_succ h2)
def spAsc (K : PySem.W.Frag) : Sp := fun vs H Q _ => ∃ (d : Addr) (kvs : List (List Key × V)) (Ks : List (List Int)) (n : Nat), vs = [.ref d] ∧ H d = some (.dT kvs) ∧ kvs.map (·.1) = Ks.map keyI ∧ Ks.Nodup ∧ Ks.length ≤ 300 ∧ (∀ k ∈ Ks, k.length = n) ∧
  ∀ H' r (L : List (Addr × List Int)), Same H H' → H r = none → H' r = some (.lst (L.map fun p => V.ref p.1)) → (∀ p ∈ L, H' p.1 = some (.tup (p.2.map V.int))) → (L.map (·.2)).Perm Ks → (L.map (·.2)).Pairwise (fun a b => HT.lexLt a b = true) → Q (.ref r) H'
def spAtMost (K : PySem.W.Frag) : Sp := fun vs H Q _ => ∃ (p q : Addr) (a b : List Int), vs = [.ref p, .ref q] ∧ SqT K H p (a.map V.int) ∧ SqT K H q (b.map V.int) ∧ a.length = b.length ∧ a.length ≤ 1000 ∧ ∀ H', Same H H' → Q (.bl (leI a b)) H'
section
variable {P : Program} {w : World} {K : PySem.W.Frag} {mg : Str → Option Value} {base : Heap} {A : Ads}
theorem ok_is_at_most (T : Txt K mg A) : FnOk P w K mg base CX0 1 A.a_is_at_most A.d_is_at_most ["first", "second"] (spAtMost K) := by
  refine T.F_is_at_most.ok sc_is_at_most (fun vs H Q E h => ?_) (fun cdv B outer s H vs Q E hr h => ?_)
  · obtain ⟨p, q, a, b, rfl, _⟩ := h
    rfl
  · obtain ⟨p, q0, a, b, rfl, hp, hq, hl, hl2, q⟩ := h
    refine ⟨_, (pss_one (ps_ret (pe_callB (cr_all rfl) (by rfl) T.n_all (by decide +kernel) (pa_cons (pe_lc (own := [("one", 2), ("other", 3)]) rfl sc_is_at_most.nd (pi_zipT (by rfl) T.n_zip (pa_cons (pv 0) (pa_cons (pv 1) pa_nil))) (blkOk_by (own := [("one", 2), ("other", 3)]) (N := N_is_at_most) (sc := defScope s_is_at_most) (by decide +kernel)) (fun _ _ _ _ _ => (show PG _ _ (gTup K 2 (gCons (gName 2) (gCons (gName 3) gNil))) from pg_tup (by rfl) (pgs_cons (pg_name (i := 2) sc_is_at_most.nd rfl (Or.inl rfl)) (pgs_cons (pg_name (i := 3) sc_is_at_most.nd rfl (Or.inl rfl)) pgs_nil)))) (fun _ _ _ _ _ => pts_nil) (fun _ _ _ _ _ => by exact (pe_cmpR op_le (pv 2) (pv 3) (nomark _)))) pa_nil)))), ?_⟩
    have il : (a.map V.int).length = a.length := List.length_map _
    refine ⟨_, rfl, _, rfl, p, q0, _, _, rfl, hp, hq, fun D hD => ?_⟩
    refine lc_zip (K := K) (walk_zipT (K := K) (a := p) (b := q0) (xs := a.map V.int) (ys := b.map V.int) (by rw [List.length_map, List.length_map]; exact hl)) (k := 2) (k1 := 3) (by decide) (fun i => .bl (decide (a.getD i 0 ≤ b.getD i 0))) hD (fun H s => ⟨sqT_up hp s, sqT_up hq s⟩) (by omega) (fun i u v H4 hi sm hu hv Q q => ?_) (fun H4 s4 e4 => ?_)
    · rw [il] at hi
      rw [mapI_at hi] at hu
      rw [mapI_at (by omega)] at hv
      cases hu
      cases hv
      exact ⟨_, rfl, _, rfl, _, _, rfl, rfl, q _ (Same.refl _)⟩
    · refine ⟨D, (List.range a.length).map fun i => decide (a.getD i 0 ≤ b.getD i 0), rfl, SqL.of ?_, ?_⟩
      · rw [e4, il, List.map_map]
        rfl
      · have : leI a b = ((List.range a.length).map fun i => decide (a.getD i 0 ≤ b.getD i 0)).all id := by
          unfold leI
          rw [List.all_map]
          rfl
        rw [← this]
        exact q _ s4
theorem ok_law_at_most (T : Txt K mg A) : FnOk P w K mg base CX0 1 A.a_law_at_most A.d_law_at_most ["_law_one", "_law_other"] (spAtMost K) := by
  refine T.F_law_at_most.ok sc_law_at_most (fun vs H Q E h => ?_) (fun cdv B outer s H vs Q E hr h => ?_)
  · obtain ⟨p, q, a, b, rfl, _⟩ := h
    rfl
  · obtain ⟨p, q0, a, b, rfl, hp, hq, hl, hl2, q⟩ := h
    refine ⟨_, (pss_one (ps_ret (pe_callB (cr_all rfl) (by rfl) T.n_all (by decide +kernel) (pa_cons (pe_lc (own := [("_law_room", 2)]) rfl sc_law_at_most.nd (pi_range1 (by rfl) T.n_range (pa_cons (pe_callB len_seq (by rfl) T.n_len (by decide +kernel) (pa_cons (pv 1) pa_nil)) pa_nil)) (blkOk_by (own := [("_law_room", 2)]) (N := N_law_at_most) (sc := defScope s_law_at_most) (by decide +kernel)) (fun _ _ _ _ _ => pg_name (i := 2) sc_law_at_most.nd rfl (Or.inl rfl)) (fun _ _ _ _ _ => pts_nil) (fun _ _ _ _ _ => by exact (pe_cmpR op_le (pe_ix (r := rIxT K) ix_tup (pv 0) (pv 2) (fun _ _ => rfl)) (pe_ix (r := rIxT K) ix_tup (pv 1) (pv 2) (fun _ _ => rfl)) (nomark _)))) pa_nil)))), ?_⟩
    have il : (b.map V.int).length = b.length := List.length_map _
    refine ⟨_, rfl, q0, _, rfl, .inr hq, _, rfl, by omega, by omega, fun D hD => ?_⟩
    rw [Int.toNat_natCast, il, ← hl]
    refine lc_vals (walk_range (lo := 0) (n := a.length)) (fun i v => v = .int (0 + (i : Int))) (fun i => .bl (decide (a.getD i 0 ≤ b.getD i 0))) hD (fun _ _ => trivial) (by omega) (fun i H1 v H2 hi y => ⟨y.1, y.2⟩) (fun i v H4 hi sm hv Q q => ?_) (fun H4 s4 e4 => ?_)
    · subst hv
      have hi0 : (0 : Int) + (i : Int) = ((i : Nat) : Int) := by omega
      exact ⟨_, rfl, _, rfl, p, _, _, _, rfl, rfl, sqT_up hp sm, by rw [hi0]; exact atI_nat (mapI_at hi), _, rfl, _, rfl, q0, _, _, _, rfl, rfl, sqT_up hq sm, by rw [hi0]; exact atI_nat (mapI_at (by omega)), _, _, rfl, rfl, q _ (Same.refl _)⟩
    · refine ⟨D, (List.range a.length).map fun i => decide (a.getD i 0 ≤ b.getD i 0), rfl, SqL.of ?_, ?_⟩
      · rw [e4, List.map_map]
        rfl
      · have : leI a b = ((List.range a.length).map fun i => decide (a.getD i 0 ≤ b.getD i 0)).all id := by
          unfold leI
          rw [List.all_map]
          rfl
        rw [← this]
        exact q _ s4
theorem ok_ascending (T : Txt K mg A) : FnOk P w K mg base CX0 4 A.a_ascending A.d_ascending ["rows"] (spAsc K) := by
  refine T.F_ascending.ok sc_ascending (fun vs H Q E h => ?_) (fun cdv B outer s H vs Q E hr h => ?_)
  · obtain ⟨d, kvs, Ks, n, rfl, _⟩ := h
    rfl
  · obtain ⟨d, kvs, Ks, n, rfl, hd, hk, hnd, hl, hn, q⟩ := h
    refine ⟨_, (pss_cons (ps_set (i := 1) sc_ascending.nd rfl (.inr rfl) pe_dnewT)
    (pss_cons (ps_lock (ps_for PassesOwn.never rfl (pi_keys (pv 0)) (pg_name (i := 2) sc_ascending.nd rfl (.inl rfl))
      (pss_one (ps_dput (hu_of hr) (pv 1) (pv 2) (pe_op op_add (pe_dget2 (hu_of hr) (pv 1) (pv 2) pe_int ⟨rfl, rfl, rfl, rfl⟩) pe_int) rfl))))
    (pss_one (ps_ret (pe_lc2 (own := [("row", 2), ("_", 3)]) (vs1 := [3]) rfl sc_ascending.nd (pi_list (pe_callB (show CallR _ (.builtin "sorted") (DT.rSortD P w K) from DT.cr_sortD rfl) (by rfl) T.n_sorted (by decide +kernel) (pa_cons (pe_callTy (show CallR _ (.type "set") (DT.rSetD P w K) from DT.cr_setD rfl (Nat.lt_of_le_of_lt (Nat.add_le_add_left (show 3 ≤ 64 by decide) _) hr.units)) (by rfl) T.n_set (by decide +kernel) (pa_cons (pe_callTy (call_list_dT rfl) (by rfl) T.n_list (by decide +kernel) (pa_cons (pv 1) pa_nil)) pa_nil)) pa_nil))) (blkOk_by (own := [("row", 2), ("_", 3)]) (N := N_ascending) (sc := defScope s_ascending) (by decide +kernel)) (by decide) (fun _ _ _ _ _ => pg_name (i := 2) sc_ascending.nd rfl (Or.inl rfl)) (fun _ _ _ _ _ => pts_nil) (fun _ _ _ _ _ => by exact (pi_range1 (by rfl) T.n_range (pa_cons (pe_dget (hu_of hr) (pv 1) (pv 2) (fun _ _ => rfl)) pa_nil))) (fun _ _ _ _ _ => pg_name (i := 3) sc_ascending.nd rfl (Or.inl rfl)) (fun _ _ _ _ _ => pts_nil) (fun _ _ _ _ _ => by exact (pv 2))))))), ?_⟩
    have hkl : kvs.length = Ks.length := by
      have := congrArg List.length hk
      rw [List.length_map, List.length_map] at this
      exact this
    intro c hc
    have sc := same_new (o := .dT []) hc
    have ec : upd H c (.dT []) c = some (.dT []) := upd_same
    have ncd : c ≠ d := fun z => by rw [z, hd] at hc; cases hc
    generalize upd H c (.dT []) = H1 at sc ec ⊢
    have hd1 := sc _ _ hd
    refine ⟨d, .dT kvs, hd1, trivial, fun od => ⟨_, rfl, d, od, rfl, .inr ⟨kvs, upd_same, ?_⟩⟩⟩
    refine for_it walk_keysT (fun i σ Hc => ∃ o2, σ = [some (.ref d), some (.ref c), o2, none] ∧ Same (upd H d (.frz od (.dT kvs))) Hc ∧ Hc c = some (.dT ((Ks.take i).map fun k => (keyI k, V.int 1))))
      ⟨_, rfl, fun b o e => ?_, by rw [upd_ne ncd]; exact ec⟩ (fun i σ Hc _ y => ?_) (fun i x σ Hc He hi y e => ?_) (fun σ Hc y => ?_)
    · by_cases z : b = d
      · rw [z, upd_same] at e
        rw [z, upd_same]
        exact e
      · rw [upd_ne z] at e
        rw [upd_ne z]
        exact sc _ _ e
    · obtain ⟨_, _, s1, _⟩ := y
      exact s1 _ _ upd_same
    · obtain ⟨rfl, kk, u0, qa, hkv, rfl, hq⟩ := e
      obtain ⟨o2, rfl, s1, ecc⟩ := y
      have hiK : i < Ks.length := by omega
      have hkk : kk = keyI Ks[i] := by
        have h1 : (kvs.map (·.1))[i]? = some kk := by rw [List.getElem?_map, hkv]; rfl
        rw [hk, List.getElem?_map, List.getElem?_eq_getElem hiK] at h1
        exact (Option.some.inj h1).symm
      subst hkk
      have hno : valV ((Ks.take i).map fun k => (keyI k, V.int 1)) (keyI Ks[i]) = none := by
        rw [val_keyI, if_neg]
        intro m
        obtain ⟨j, hj, e⟩ := List.mem_iff_getElem.mp m
        rw [List.length_take] at hj
        rw [List.getElem_take] at e
        have := (List.getElem_inj hnd).mp e
        omega
      refine ⟨_, rfl, c, rfl, .inr ⟨_, .inl ecc⟩, _, rfl, none, by rw [← hno]; exact DGet.t ecc hq, _, _, rfl, rfl, _, rfl, _, rfl, c, _, rfl, DPut.t ecc hq (lt_line (by rw [List.length_map, List.length_take]; omega)), _, rfl, same_mut s1 (by rw [upd_ne ncd]; exact hc), ?_⟩
      rw [upd_same, putK_new _ hno, List.take_add_one, List.getElem?_eq_getElem hiK, List.map_append]
      rfl
    obtain ⟨o2, rfl, s1, ecc⟩ := y
    rw [hkl, List.take_length] at ecc
    refine ⟨s1 _ _ upd_same, ?_⟩
    have s2 : Same H (upd Hc d (.dT kvs)) := fun b o e => by
      by_cases z : b = d
      · rw [z] at e ⊢
        rw [upd_same, ← e, hd]
      · rw [upd_ne z]
        exact s1 _ _ (by rw [upd_ne z]; exact e)
    have ec2 := (upd_ne (o := .dT kvs) ncd).trans ecc
    generalize upd Hc d (.dT kvs) = H2 at s2 ec2 ⊢
    clear s1 ecc
    refine ⟨_, rfl, c, _, rfl, .inl ec2, fun lp bs hlp ik => ?_⟩
    have hbl : bs.length = Ks.length := by
      have := Paired.length ik
      rw [List.length_map] at this
      exact this.symm
    obtain ⟨L0, hL0⟩ : ∃ L0 : List (Addr × List Int), L0 = bs.zip Ks := ⟨_, rfl⟩
    have l1 : L0.map (·.1) = bs := by rw [hL0, List.map_fst_zip (by omega)]
    have l2 : L0.map (·.2) = Ks := by rw [hL0, List.map_snd_zip (by omega)]
    have lr : (L0.map fun p => V.ref p.1) = bs.map V.ref := by rw [← l1, List.map_map]; rfl
    have l3 : L0.length = Ks.length := by rw [← l2, List.length_map]
    have lt0 : ∀ p ∈ L0, H2 p.1 = some (.tup (p.2.map V.int)) := fun p hp => by
      obtain ⟨i, hi, rfl⟩ := List.mem_iff_getElem.mp hp
      have hib : i < bs.length := by omega
      have hiK : i < Ks.length := by omega
      have a := keys_at ik i hib hiK
      have e1 : L0[i] = (bs[i], Ks[i]) := by
        have : L0[i]? = some (bs[i], Ks[i]) := by rw [hL0, List.getElem?_zip_eq_some]; exact ⟨List.getElem?_eq_getElem hib, List.getElem?_eq_getElem hiK⟩
        rw [List.getElem?_eq_getElem hi] at this
        exact Option.some.inj this
      rw [e1]
      exact a
    have sA := same_new (o := .lst (bs.map V.ref)) hlp
    have eA : upd H2 lp (.lst (bs.map V.ref)) lp = some (.lst (bs.map V.ref)) := upd_same
    generalize upd H2 lp (.lst (bs.map V.ref)) = HA at sA eA ⊢
    refine ⟨lp, L0, rfl, SqL.of (by rw [lr]; exact eA), fun p hp => SqT.of (sA _ _ (lt0 p hp)), by rw [l2]; exact hnd, by omega, fun sp hsp => ?_⟩
    have sB := same_new (o := DT.TsO P w sp L0) hsp
    have eB : upd HA sp (DT.TsO P w sp L0) sp = some (DT.TsO P w sp L0) := upd_same
    generalize upd HA sp (DT.TsO P w sp L0) = HB at sB eB ⊢
    refine ⟨sp, L0, n, rfl, eB, fun p hp => SqT.of ((sA.trans sB) _ _ (lt0 p hp)), by rw [l2]; exact hnd, by omega, fun p hp => hn _ (by rw [← l2]; exact List.mem_map.mpr ⟨p, hp, rfl⟩), fun L' op pm pw hop => ?_⟩
    have sC := same_new (o := .lst (L'.map fun q => V.ref q.1)) hop
    have eC : upd HB op (.lst (L'.map fun q => V.ref q.1)) op = some (.lst (L'.map fun q => V.ref q.1)) := upd_same
    generalize upd HB op (.lst (L'.map fun q => V.ref q.1)) = HC at sC eC ⊢
    have s2C := sA.trans (sB.trans sC)
    have lt1 : ∀ p ∈ L', HC p.1 = some (.tup (p.2.map V.int)) := fun p hp => s2C _ _ (lt0 p (pm.mem_iff.mp hp))
    have ecC := s2C _ _ ec2
    have hll : (L'.map fun q => V.ref q.1).length = L'.length := List.length_map _
    have hL3 : L'.length ≤ 300 := by rw [pm.length_eq]; omega
    refine ⟨op, rfl, ⟨_, SqL.of eC⟩, fun D hD => ?_⟩
    refine lc2_it (walk_list (K := K) (a := op) (xs := L'.map fun q => V.ref q.1)) (k := 2) (k1 := 3) (by decide) (fun b Hx => Same HC Hx ∧ Hx D = some (.lst ((L'.take b).map fun q => V.ref q.1))) ⟨same_new hD, upd_same⟩ (fun b Hx _ h => SqL.of (h.1 _ _ eC)) (fun b x Hx Hy hb hp y R hR => ?_) (fun Hx h => ?_)
    · obtain ⟨rfl, ex⟩ := y
      obtain ⟨sx, exD⟩ := hp
      rw [hll] at hb
      rw [List.getElem?_map, List.getElem?_eq_getElem hb] at ex
      cases ex
      have hmem := List.getElem_mem hb
      have hkK : L'[b].2 ∈ Ks := by rw [← l2]; exact (pm.map _).mem_iff.mp (List.mem_map.mpr ⟨_, hmem, rfl⟩)
      have htk : (L'.take (b + 1)).map (fun q => V.ref q.1) = (L'.take b).map (fun q => V.ref q.1) ++ [V.ref L'[b].1] := by
        rw [List.take_add_one, List.getElem?_eq_getElem hb, List.map_append]
        rfl
      have hbk := lt1 _ hmem
      generalize L'[b] = pr at *
      refine ⟨_, rfl, _, rfl, c, .int 1, rfl, ?_, 1, rfl, by decide, by decide, ?_⟩
      · have := DGet.t (kvs := Ks.map fun k => (keyI k, V.int 1)) (k := keyI pr.2) (sx _ _ ecC) (by rw [sx _ _ hbk]; unfold keyI; rw [List.map_map]; rfl)
        rw [val_keyI, if_pos hkK] at this
        exact this
      · refine hR _ _ _ _ _ (fun j Hz => Same HC Hz ∧ Hz D = some (.lst ((L'.take (b + j)).map fun q => V.ref q.1))) (walk_range (lo := 0) (n := 1)) ⟨sx, exD⟩ (fun _ _ _ _ => trivial) (fun j y Hz Hw hj hp1 yy => ?_) (fun Hz hp1 => hp1)
        obtain ⟨rfl, _⟩ := yy
        obtain ⟨sz, ezD⟩ := hp1
        have hj0 : j = 0 := by omega
        subst hj0
        refine ⟨_, rfl, _, ezD, lt_line (by rw [List.length_map, List.length_take]; omega), same_mut sz hD, ?_⟩
        rw [upd_same]
        exact congrArg (fun z => some (HO.lst z)) htk.symm
    · obtain ⟨sx, exD⟩ := h
      rw [hll, List.take_length] at exD
      exact q _ D L' (s2.trans (s2C.trans sx)) ((s2.trans s2C).free hD) exD (fun p hp => sx _ _ (lt1 p hp)) ((pm.map _).trans (by rw [l2])) (List.pairwise_map.mpr pw)
end
end R1

namespace R1
open PySem PySem.Spec PyProof.Rows L2 RK PT
local macro_rules | `(tactic| walk_at "sq") => `(tactic| first
  | exact SqL.of upd_same | exact upd_same | exact SqL.of (by assumption) | exact SqL.of (by rw [upd_ne (by assumption)]; assumption) | assumption)
local macro_rules | `(tactic| walk_at "sd") => `(tactic| first
  | assumption | omega | (refine Or.inl ⟨?_, ?_⟩ <;> omega) | (show _ ∧ _; constructor <;> omega) | (show _ ≠ _; simp; omega) | (exact Or.inl ⟨by decide, by decide⟩) | (exact Or.inr ⟨by decide, by decide⟩) | (show _ < _; decide) | (show _ ≤ _; decide))
local macro_rules | `(tactic| walk_at "at") => `(tactic| first | rfl | (refine atI_intV ?_ ?_ <;> omega) | assumption)
local macro_rules | `(tactic| walk_at "s1") => `(tactic| first
  | refine ⟨_, rfl, ?_⟩ | refine ⟨_, _, rfl, rfl, ?_⟩ | refine ⟨rfl, ?_⟩
  | refine ⟨_, _, _, _, rfl, rfl, by walk_at "sq", by walk_at "at", ?_⟩
  | refine Or.inl ⟨_, rfl, ?_⟩
  | refine ⟨_, _, rfl, Or.inl (by walk_at "sq"), ?_⟩
  | refine And.intro (by walk_at "sd") ?_)
local macro_rules | `(tactic| walk_at "s") => `(tactic| repeat walk_at "s1")

theorem fdec {f : Pk → List Int} {k : List Int} {qs : List Pk} {q : Pk} (h : qs.find? (fun x => decide (f x = k)) = some q) : f q = k := by
  have := List.find?_some h
  simpa using this
theorem fdecL {k : List Int} {L : List (List Int × Addr × Pk)} {x : List Int × Addr × Pk} (h : L.find? (fun e => decide (e.1 = k)) = some x) : x.1 = k := by
  have := List.find?_some h
  simpa using this
/-- the first of each length, in a dict -/
def FsK (E : Hp → Addr → Pk → Prop) (f : Pk → List Int) (H : Hp) (kvs : List (List Key × V)) (qs : List Pk) : Prop := ∃ L : List (List Int × Addr × Pk), kvs = L.map (fun e => (keyI e.1, V.ref e.2.1)) ∧ (L.map (·.1)).Nodup ∧ (∀ e ∈ L, E H e.2.1 e.2.2 ∧ qs.find? (fun q => decide (f q = e.1)) = some e.2.2) ∧ (∀ q ∈ qs, f q ∈ L.map (·.1)) ∧ L.length ≤ qs.length
theorem FsK.nil {E : Hp → Addr → Pk → Prop} {f : Pk → List Int} {H : Hp} : FsK E f H [] [] := ⟨[], rfl, .nil, (fun e h => by cases h), (fun q h => by cases h), Nat.le_refl _⟩
theorem FsK.up {E : Hp → Addr → Pk → Prop} {f : Pk → List Int} {H H' : Hp} {kvs : List (List Key × V)} {qs : List Pk} (h : FsK E f H kvs qs) (st : ∀ p q, E H p q → E H' p q) : FsK E f H' kvs qs := let ⟨L, a, b, c, d, e⟩ := h; ⟨L, a, b, fun x hx => ⟨st _ _ (c x hx).1, (c x hx).2⟩, d, e⟩
theorem FsK.keys {E : Hp → Addr → Pk → Prop} {f : Pk → List Int} {H : Hp} {kvs : List (List Key × V)} {qs : List Pk} (h : FsK E f H kvs qs) : ∃ Ks : List (List Int), kvs.map (·.1) = Ks.map keyI ∧ Ks.Nodup ∧ Ks.length = kvs.length ∧ Ks.length ≤ qs.length ∧ ∀ k, k ∈ Ks ↔ ∃ q ∈ qs, f q = k := by
  obtain ⟨L, rfl, b, c, d, e⟩ := h
  refine ⟨L.map (·.1), by rw [List.map_map, List.map_map]; rfl, b, by rw [List.length_map, List.length_map], by rw [List.length_map]; exact e, fun k => ⟨fun hk => ?_, fun ⟨q, hq, e⟩ => e ▸ d q hq⟩⟩
  obtain ⟨x, hx, rfl⟩ := List.mem_map.mp hk
  have := (c x hx).2
  exact ⟨x.2.2, List.mem_of_find?_eq_some this, fdec this⟩
theorem val_L {k : List Int} : ∀ L : List (List Int × Addr × Pk), valV (L.map fun e => (keyI e.1, V.ref e.2.1)) (keyI k) = (L.find? fun e => decide (e.1 = k)).map fun e => V.ref e.2.1
  | [] => rfl
  | a :: r => by
    rw [List.map_cons, List.find?_cons]
    by_cases e : a.1 = k
    · rw [valV_pos (by rw [e]), decide_eq_true e]
      rfl
    · rw [valV_neg (fun z => e (keyI_inj z)), decide_eq_false e, val_L r]
theorem FsK.val {E : Hp → Addr → Pk → Prop} {f : Pk → List Int} {H : Hp} {kvs : List (List Key × V)} {qs : List Pk} (h : FsK E f H kvs qs) (k : List Int) : (valV kvs (keyI k) = none ∧ ∀ q ∈ qs, f q ≠ k) ∨ ∃ p q, valV kvs (keyI k) = some (V.ref p) ∧ E H p q ∧ qs.find? (fun q => decide (f q = k)) = some q := by
  obtain ⟨L, rfl, b, c, d, e⟩ := h
  rw [val_L]
  cases hf : L.find? fun e => decide (e.1 = k) with
  | none =>
    refine .inl ⟨rfl, fun q hq z => ?_⟩
    obtain ⟨x, hx, e⟩ := List.mem_map.mp (d q hq)
    exact List.find?_eq_none.mp hf x hx (decide_eq_true (e.trans z))
  | some x =>
    have hx := List.mem_of_find?_eq_some hf
    have e1 : x.1 = k := fdecL hf
    obtain ⟨c1, c2⟩ := c x hx
    rw [e1] at c2
    exact .inr ⟨x.2.1, x.2.2, rfl, c1, c2⟩
theorem FsK.old {E : Hp → Addr → Pk → Prop} {f : Pk → List Int} {H : Hp} {kvs : List (List Key × V)} {qs : List Pk} {q : Pk} (h : FsK E f H kvs qs) {q0 : Pk} (hq : qs.find? (fun x => decide (f x = f q)) = some q0) : FsK E f H kvs (qs ++ [q]) := by
  obtain ⟨L, a, b, c, d, e⟩ := h
  refine ⟨L, a, b, fun x hx => ⟨(c x hx).1, ?_⟩, fun y hy => ?_, by rw [List.length_append]; omega⟩
  · rw [List.find?_append, (c x hx).2]
    rfl
  · rcases List.mem_append.mp hy with z | z
    · exact d y z
    · rw [List.mem_singleton.mp z]
      have := d q0 (List.mem_of_find?_eq_some hq)
      rw [fdec hq] at this
      exact this
theorem FsK.new {E : Hp → Addr → Pk → Prop} {f : Pk → List Int} {H : Hp} {kvs : List (List Key × V)} {qs : List Pk} {q : Pk} {p : Addr} (h : FsK E f H kvs qs) (hn : ∀ x ∈ qs, f x ≠ f q) (ep : E H p q) (hv : valV kvs (keyI (f q)) = none) : FsK E f H (putK kvs (keyI (f q)) (V.ref p)) (qs ++ [q]) := by
  obtain ⟨L, rfl, b, c, d, e⟩ := h
  rw [putK_new _ hv]
  have nin : f q ∉ L.map (·.1) := fun m => by
    obtain ⟨x, hx, e⟩ := List.mem_map.mp m
    have := (c x hx).2
    exact hn _ (List.mem_of_find?_eq_some this) ((fdec this).trans e)
  refine ⟨L ++ [(f q, p, q)], by rw [List.map_append]; rfl, ?_, fun x hx => ?_, fun y hy => ?_, by rw [List.length_append, List.length_append]; exact Nat.add_le_add_right e 1⟩
  · rw [List.map_append]
    refine List.nodup_append.mpr ⟨b, List.pairwise_singleton _ _, fun x hx y hy z => ?_⟩
    rw [List.mem_singleton.mp hy] at z
    have z : x = f q := z
    exact nin (z ▸ hx)
  · rcases List.mem_append.mp hx with z | z
    · refine ⟨(c x z).1, ?_⟩
      rw [List.find?_append, (c x z).2]
      rfl
    · rw [List.mem_singleton.mp z]
      refine ⟨ep, ?_⟩
      rw [List.find?_append, List.find?_eq_none.mpr fun y hy w => hn y hy (of_decide_eq_true w)]
      show (none.or ([q].find? fun x => decide (f x = f q))) = some q
      rw [List.find?_cons, decide_eq_true rfl]
      rfl
  · rw [List.map_append]
    rcases List.mem_append.mp hy with z | z
    · exact List.mem_append_left _ (d y z)
    · rw [List.mem_singleton.mp z]
      exact List.mem_append_right _ List.mem_cons_self
theorem lc_pairs {K : PySem.W.Frag} {J : It} {n : Nat} {G : Hp → Prop} {Y : Nat → Hp → V → Hp → Prop} (w : Walk J n G Y) {te : TE} {σ : L2.St} {H1 : Hp} {D : Addr} {Qd : Hp → Prop} {k k1 : Nat} (hk : k ≠ k1) (I : Nat → V → V → Prop) (f : Nat → V) (hD : H1 D = none) (hG : ∀ H, Same H1 H → G H) (hn : n ≤ 1000000)
    (hY : ∀ (i : Nat) (H : Hp) (x : V) (H' : Hp), i < n → Same H1 H → Y i H x H' → H' = H ∧ ∃ (T : Addr) (a b : V), x = V.ref T ∧ SqT K H T [a, b] ∧ I i a b)
    (hs : ∀ (i : Nat) (a b : V) (H : Hp), i < n → Same H1 H → I i a b → ∀ Q : VK, (∀ H3, Same H H3 → Q (f i) H3) → te ((((σ.set k1 none).set k none).set k (some a)).set k1 (some b)) H Q)
    (hd : ∀ H, Same H1 H → H D = some (.lst ((List.range n).map f)) → Qd H) :
    ∃ W : Nat → Nat → Hp → Prop, (∃ m, W 0 m (upd H1 D (.lst []))) ∧ ∀ i m H, W i m H →
      (J.stop i H ∧ Qd H) ∨ (J.go i H ∧ ∃ Nx : Hp → Prop, (∀ H', Nx H' → ∃ m', m' < m ∧ W (i + 1) m' H') ∧ ∀ x H', J.yld i H x H' → gTup K 2 (gCons (gName k) (gCons (gName k1) gNil)) x (wipe σ [k, k1]) H' fun σ2 H2 => wipe σ2 [k, k1] = wipe σ [k, k1] ∧ tYes σ2 H2 fun b H3 =>
        if b = true then te σ2 H3 fun y H4 => ∃ acc, H4 D = some (.lst acc) ∧ acc.length < sizeLine ∧ Nx (upd H4 D (.lst (acc ++ [y]))) else Nx H3) := by
  refine lc_it w (fun i H => Same H1 H ∧ H D = some (.lst ((List.range i).map f))) ⟨same_new hD, upd_same⟩ (fun i H _ h => hG H h.1) (fun i x H H' hi hp y => ?_) fun H h => hd H h.1 h.2
  obtain ⟨sm, e⟩ := hp
  obtain ⟨rfl, T, a, b, rfl, sq, hI⟩ := hY i H x H' hi sm y
  refine ⟨T, _, rfl, sq, rfl, _, _, rfl, _, _, rfl, rfl, ?_, ?_⟩
  · show ((((((σ.set k1 none).set k none).set k (some a)).set k1 (some b)).set k1 none).set k none) = (σ.set k1 none).set k none
    rw [List.set_set, List.set_set, List.set_comm _ _ hk, List.set_set, List.set_set]
  show te ((((σ.set k1 none).set k none).set k (some a)).set k1 (some b)) _ _
  refine hs i a b _ hi sm hI _ fun H3 s3 => ?_
  have e3 : H3 D = some (.lst ((List.range i).map f)) := s3 _ _ e
  refine ⟨_, e3, ?_, same_mut (sm.trans s3) hD, ?_⟩
  · rw [List.length_map, List.length_range]
    exact Nat.lt_of_lt_of_le (Nat.lt_of_lt_of_le hi hn) (by decide)
  · rw [upd_same, List.range_succ, List.map_append]
    rfl
theorem len_list (ths : List (Nat × Nat)) (ss : List Nat) (q : Pk) : (List.range ss.length).map (fun i => V.int ((((enP ths ss q.2).getD i 0 : Nat) : Int) - ((ss.getD i 0 : Nat) : Int))) = (lenP ths ss q).map V.int := by
  unfold lenP
  rw [List.map_map]
  rfl
theorem keyI_kV (k : List Int) : (keyI k).map kV = k.map V.int := by
  unfold keyI
  rw [List.map_map]
  rfl
def CoE (K : PySem.W.Frag) (C : Addr) (ths : List (Nat × Nat)) (ss : List Nat) (chs : List (List Nat)) (H : Hp) (p : Addr) (k : List Int) : Prop := ∃ (lt x : Addr) (q : Pk), SqT K H p [.ref lt, .ref x] ∧ H lt = some (.tup (k.map V.int)) ∧ PkK K C x ths ss q H ∧ (leaP ths ss chs ss.length).find? (fun q => decide (lenP ths ss q = k)) = some q
theorem NL.coE {K : PySem.W.Frag} {C : Addr} {ths : List (Nat × Nat)} {ss : List Nat} {chs : List (List Nat)} {H H' : Hp} (n : NL H H') {p : Addr} {k : List Int} (h : CoE K C ths ss chs H p k) : CoE K C ths ss chs H' p k := let ⟨a, b, c, d, e, f, g⟩ := h; ⟨a, b, c, n.sq d, n _ _ rfl e, n.pk f, g⟩
def spCor (K : PySem.W.Frag) (C CT : Addr) : Sp := fun vs H Q E => ∃ (sa t ca : Addr) (xs ys : List V), vs = [.ref sa, .ref t, .ref ca] ∧ SqT K H sa xs ∧ SqT K H t ys ∧ ((∃ n, badC xs.length ys.length = some n ∧ ∀ dz H', Same H H' → H dz = none → H' dz = some (.xd [("limit", .int n)]) → E (.ref CT) (some dz) H') ∨
  (badC xs.length ys.length = none ∧ ∃ (ss : List Nat) (ths : List (Nat × Nat)) (chs : List (List Nat)), xs = intV ss ∧ ThK K H t ths ∧ ChK K H ca chs ∧ chs.length = ths.length ∧ chs.length ≤ 5 ∧ (∀ ch ∈ chs, ch.length ≤ 3) ∧
    ∀ H' r ps keys cs, Same H H' → SqT K H' r ps → LsK (CoE K C ths ss chs) H' ps cs → Crn ss.length keys keys cs → (∀ k, k ∈ keys ↔ ∃ q ∈ leaP ths ss chs ss.length, lenP ths ss q = k) → Q (.ref r) H'))
section
variable {P : Program} {w : World} {K : PySem.W.Frag} {mg : Str → Option Value} {base : Heap} {A : Ads}
theorem ok_corners (T : Txt K mg A) : FnOk P w K mg base (L2N.CX P w) 8 A.a_corners A.d_corners ["starts", "things", "choices"] (spCor K A.c_Packing A.c_TooMany) := by
  refine Fun.okN T.F_corners sc_corners (fun vs H Q E h => ?_) (fun cdv B outer s H vs Q E hr h => ?_)
  · obtain ⟨sa, t, ca, xs, ys, rfl, _⟩ := h
    rfl
  · obtain ⟨sa, t, ca, xs, ys, rfl, hx, hy, alt⟩ := h
    refine ⟨_, (pss_cons (ps_expr (pe_call (ok_check_counts T) (hr.mono (by omega)) rfl T.g_check_counts T.F_check_counts.kp T.b_check_counts .nil (L2N.passes_call (L2N.takes_of rfl rfl rfl rfl) (fun _ _ _ _ h => h)) (pa_cons (pv 0) (pa_cons (pv 1) pa_nil))))
    (pss_cons (ps_set (i := 3) sc_corners.nd rfl (.inl rfl) pe_dnewT)
    (pss_cons (ps_for (passes_of rfl) rfl (pi_list (pe_call (ok_least_packings T) (hr.mono (by omega)) rfl T.g_least_packings T.F_least_packings.kp T.b_least_packings .nil pass0 (pa_cons (pv 0) (pa_cons (pv 1) (pa_cons (pv 2) pa_nil))))) (pg_name (i := 4) sc_corners.nd rfl (.inl rfl))
      (pss_cons (ps_set (i := 7) sc_corners.nd rfl (.inr rfl) (pe_callTy tuple_of (by rfl) T.n_tuple (by decide +kernel) (pa_cons (pe_lc (own := [("start", 5), ("end", 6)]) rfl sc_corners.nd (pi_zipT (by rfl) T.n_zip (pa_cons (pv 0) (pa_cons (pe_fld (pv 4) rfl) pa_nil))) (blkOk_by (own := [("start", 5), ("end", 6)]) (N := N_corners) (sc := defScope s_corners) (by decide +kernel)) (fun _ _ _ _ _ => (show PG _ _ (gTup K 2 (gCons (gName 5) (gCons (gName 6) gNil))) from pg_tup (by rfl) (pgs_cons (pg_name (i := 5) sc_corners.nd rfl (Or.inl rfl)) (pgs_cons (pg_name (i := 6) sc_corners.nd rfl (Or.inl rfl)) pgs_nil)))) (fun _ _ _ _ _ => pts_nil) (fun _ _ _ _ _ => by exact (pe_op op_sub (pv 6) (pv 5)))) pa_nil)))
    (pss_one (ps_expr (DT.pe_setdT (hu_of hr) (pv 3) (pv 7) (pv 4) ⟨rfl, rfl, rfl, rfl⟩)))))
    (pss_cons (ps_set (i := 8) sc_corners.nd rfl (.inl rfl) (pe_lst pa_nil))
    (pss_cons (ps_for (passes_of rfl) rfl (pi_list (pe_call (ok_ascending T) (hr.mono (by omega)) rfl T.g_ascending T.F_ascending.kp T.b_ascending .nil pass0 (pa_cons (pv 3) pa_nil))) (pg_name (i := 7) sc_corners.nd rfl (.inr rfl))
      (pss_one (ps_if (pt_not (pt_val (pe_callB (cr_any rfl) (by rfl) T.n_any (by decide +kernel) (pa_cons (pe_lc (own := [("corner", 9), ("_", 10)]) rfl sc_corners.nd (pi_list (pv 8)) (blkOk_by (own := [("corner", 9), ("_", 10)]) (N := N_corners) (sc := defScope s_corners) (by decide +kernel)) (fun _ _ _ _ _ => (show PG _ _ (gTup K 2 (gCons (gName 9) (gCons (gName 10) gNil))) from pg_tup (by rfl) (pgs_cons (pg_name (i := 9) sc_corners.nd rfl (Or.inl rfl)) (pgs_cons (pg_name (i := 10) sc_corners.nd rfl (Or.inl rfl)) pgs_nil)))) (fun _ _ _ _ _ => pts_nil) (fun _ _ _ _ _ => by exact (pe_call (ok_is_at_most T) (hr.mono (by omega)) rfl T.g_is_at_most T.F_is_at_most.kp T.b_is_at_most .nil pass0 (pa_cons (pv 9) (pa_cons (pv 7) pa_nil))))) pa_nil)))) (pss_one (ps_expr (pe_bm PySem.F.plainAttrs_list PySem.F.slot_list_append PySem.F.type_list_append mt_append (pv 8) (pa_cons (pe_tup (pa_cons (pv 7) (pa_cons (pe_dget (hu_of hr) (pv 3) (pv 7) (fun _ _ => rfl)) pa_nil))) pa_nil)))) pss_nil)))
    (pss_one (ps_ret (pe_callTy tuple_of (by rfl) T.n_tuple (by decide +kernel) (pa_cons (pv 8) pa_nil))))))))), ?_⟩
    refine ⟨_, rfl, _, rfl, sa, t, xs, ys, rfl, hx, hy, fun n hn dz H' s1 n1 e1 => ?_, fun hn => ?_⟩
    · rcases alt with ⟨n', hn', bad⟩ | ⟨hn', _⟩
      · rw [hn] at hn'
        cases hn'
        exact bad dz H' s1 n1 e1
      · rw [hn] at hn'
        cases hn'
    rcases alt with ⟨n', hn', bad⟩ | ⟨_, ss, ths, chs, rfl, ht, hc, hcl, hl5, hc3, good⟩
    · rw [hn] at hn'
      cases hn'
    have hil := intV_len ss
    have hs6 : ss.length ≤ 6 := by
      unfold badC at hn
      split at hn
      · cases hn
      · split at hn
        · cases hn
        · omega
    intro fd hfd
    have sf := same_new (o := .dT []) hfd
    have ef : upd H fd (.dT []) fd = some (.dT []) := upd_same
    generalize upd H fd (.dT []) = H1 at sf ef ⊢
    refine ⟨_, rfl, _, rfl, _, rfl, sa, t, ca, ss, ths, chs, rfl, sqT_up hx sf, ht.up sf, (NL.of sf).ch hc, hcl, hl5, hc3, hs6, fun H3 l lxs s3 el pks => ⟨l, rfl, ⟨_, SqL.of el⟩, ?_⟩⟩
    have nlf : l ≠ fd := fun z => by rw [z, s3 _ _ ef] at el; cases el
    have hLl : (leaP ths ss chs ss.length).length ≤ 243 := by
      show ((dls chs).map _).length ≤ 243
      rw [List.length_map]
      exact Nat.le_trans (dls_len chs.length chs rfl hc3).1 (pow35 hl5)
    have hLq : ∀ q ∈ leaP ths ss chs ss.length, q.2.length = ss.length := fun q hq => by
      obtain ⟨dl, _, rfl⟩ := List.mem_map.mp hq
      exact loP_len _ _ _ _
    obtain ⟨L, hL⟩ : ∃ L, L = leaP ths ss chs ss.length := ⟨_, rfl⟩
    rw [← hL] at pks hLl hLq
    have hxl := pks.1
    have s03 := sf.trans s3
    refine for_it (walk_list (K := K) (a := l) (xs := lxs)) (fun i σ Hc => ∃ o4 o7 kvs, σ = [some (.ref sa), some (.ref t), some (.ref ca), some (.ref fd), o4, none, none, o7, none, none, none] ∧ Same H Hc ∧ NL H3 Hc ∧ Hc l = some (.lst lxs) ∧ Hc fd = some (.dT kvs) ∧ FsK (fun H p q => PkK K A.c_Packing p ths ss q H) (lenP ths ss) Hc kvs (L.take i))
      ⟨_, _, [], rfl, s03, NL.of (Same.refl _), el, s3 _ _ ef, FsK.nil⟩ (fun i σ Hc _ y => ?_) (fun i x σ Hc Hd hi y e => ?_) (fun σ Hc y => ?_)
    · obtain ⟨_, _, _, _, _, _, h, _⟩ := y
      exact SqL.of h
    · obtain ⟨rfl, e⟩ := e
      obtain ⟨o4, o7, kvs, rfl, sm, nl, ell, efc, fk⟩ := y
      rw [hxl] at hi
      obtain ⟨y, ey, pk⟩ := pks.2 i L[i] (List.getElem?_eq_getElem hi)
      rw [ey] at e
      cases e
      have pk := nl.pk pk
      have hq2 := hLq _ (List.getElem_mem hi)
      have htk : L.take (i + 1) = L.take i ++ [L[i]] := by rw [List.take_add_one, List.getElem?_eq_getElem hi]; rfl
      rw [htk]
      have hkl : kvs.length ≤ 243 := by
        obtain ⟨Ks, _, _, k3, k4, _⟩ := fk.keys
        rw [List.length_take] at k4
        omega
      generalize L[i] = q1 at *
      have hpk := pk
      obtain ⟨dx, a, b, e, ws, fs, zs, h1, h2, h3, h4, h5, h6, h7, h8, h9, h10⟩ := pk
      have hel : (intV (enP ths ss q1.2)).length = ss.length := by rw [intV_len, enP_len, hq2]
      refine ⟨_, rfl, _, rfl, y, A.c_Packing, dx, _, _, rfl, h1, T.cl_Packing, T.na_Packing_ends, h7, sa, e, _, _, rfl, sqT_up hx sm, h8, fun D hD => ?_⟩
      refine lc_zip (K := K) (walk_zipT (K := K) (a := sa) (b := e) (xs := intV ss) (ys := intV (enP ths ss q1.2)) (by omega)) (k := 5) (k1 := 6) (by decide) (fun i => .int ((((enP ths ss q1.2).getD i 0 : Nat) : Int) - ((ss.getD i 0 : Nat) : Int))) hD (fun H s => ⟨sqT_up hx (sm.trans s), sqT_up h8 s⟩) (by omega) (fun i u v H4 hi sm hu hv Q q => ?_) (fun H4 s4 e4 => ?_)
      · rw [hil] at hi
        rw [intV_at hi] at hu
        rw [intV_at (by rw [enP_len, hq2]; exact hi)] at hv
        cases hu
        cases hv
        exact ⟨_, rfl, _, rfl, _, _, rfl, rfl, q _ (Same.refl _)⟩
      rw [hil, len_list] at e4
      refine ⟨D, _, rfl, .inl ⟨SqL.of e4, fun t3 ht3 => ?_⟩⟩
      have s5 := same_new (o := .tup ((lenP ths ss q1).map V.int)) ht3
      have et3 : upd H4 t3 (.tup ((lenP ths ss q1).map V.int)) t3 = some (.tup ((keyI (lenP ths ss q1)).map kV)) := by rw [upd_same, keyI_kV]
      generalize upd H4 t3 (.tup ((lenP ths ss q1).map V.int)) = H5 at s5 et3 ⊢
      have s45 := s4.trans s5
      have efd5 := s45 _ _ efc
      have fk5 := fk.up fun p q => (NL.of s45).pk
      have hpk5 := (NL.of s45).pk hpk
      refine ⟨_, rfl, fd, rfl, .inr ⟨_, .inl efd5⟩, _, rfl, _, rfl, kvs, keyI (lenP ths ss q1), t3, efd5, rfl, et3, lt_line (by omega), fun v hv => ?_, fun hv => ?_⟩
      · rcases fk5.val (lenP ths ss q1) with ⟨z, _⟩ | ⟨_, q0, _, _, hf⟩
        · rw [hv] at z
          cases z
        · exact ⟨_, _, kvs, rfl, sm.trans s45, nl.trans (NL.of s45), s45 _ _ ell, efd5, fk5.old hf⟩
      · rcases fk5.val (lenP ths ss q1) with ⟨_, hno⟩ | ⟨_, _, z, _⟩
        · have np : NL H5 (upd H5 fd (.dT (putK kvs (keyI (lenP ths ss q1)) (V.ref y)))) := NL.putT efd5
          refine ⟨_, _, _, rfl, same_mut (sm.trans s45) hfd, (nl.trans (NL.of s45)).trans np, ?_, upd_same, ?_⟩
          · rw [upd_ne nlf]
            exact s45 _ _ ell
          · exact (fk5.new hno hpk5 hv).up fun p q => np.pk
        · rw [hv] at z
          cases z
    obtain ⟨o4, o7, kvs, rfl, sm, nl, ell, efc, fk⟩ := y
    rw [hxl, List.take_length] at fk
    obtain ⟨Ks, k1, k2, k3, k4, k5⟩ := fk.keys
    refine ⟨lenOk (n := 0) rfl (by decide), fun fl hfl => ?_⟩
    have sl := same_new (o := .lst []) hfl
    have efl : upd Hc fl (.lst []) fl = some (.lst []) := upd_same
    generalize upd Hc fl (.lst []) = H6 at sl efl ⊢
    have sm6 := sm.trans sl
    have ef6 := sl _ _ efc
    have fk6 := fk.up fun p q => (NL.of sl).pk
    have hflH := sm.free hfl
    have nff : fl ≠ fd := fun z => by rw [z, efc] at hfl; cases hfl
    have hK : ∀ k ∈ Ks, k.length = ss.length := fun k hk => by
      obtain ⟨q, _, rfl⟩ := (k5 k).mp hk
      exact lenP_len _ _ _
    refine ⟨_, rfl, fd, kvs, Ks, ss.length, rfl, ef6, k1, k2, by omega, hK, fun H7 r L' s7 nr er lt pm pw => ⟨r, rfl, ⟨_, SqL.of er⟩, ?_⟩⟩
    have nrf : r ≠ fl := fun z => by rw [z, efl] at nr; cases nr
    have hrl : (L'.map fun p => V.ref p.1).length = L'.length := List.length_map _
    have hcs := crn_all (n := ss.length) (fun k hk => hK k (pm.mem_iff.mp hk)) pw
    have hkeys : ∀ k, k ∈ L'.map (·.2) ↔ ∃ q ∈ leaP ths ss chs ss.length, lenP ths ss q = k := fun k => by rw [pm.mem_iff, k5, hL]
    have hL'l : L'.length ≤ 243 := by
      have := pm.length_eq
      rw [List.length_map] at this
      omega
    refine for_it (walk_list (K := K) (a := r) (xs := L'.map fun p => V.ref p.1)) (fun i σ Hc => ∃ o7 fxs, σ = [some (.ref sa), some (.ref t), some (.ref ca), some (.ref fd), o4, none, none, o7, some (.ref fl), none, none] ∧ Same H Hc ∧ NL H7 Hc ∧ Hc r = some (.lst (L'.map fun p => V.ref p.1)) ∧ Hc fd = some (.dT kvs) ∧ Hc fl = some (.lst fxs) ∧ LsK (CoE K A.c_Packing ths ss chs) Hc fxs (((L'.map (·.2)).take i).foldl stepC []) ∧ fxs.length ≤ i)
      ⟨_, [], rfl, sm6.trans s7, NL.of (Same.refl _), er, s7 _ _ ef6, s7 _ _ efl, LsK.nil, Nat.le_refl _⟩ (fun i σ Hc _ y => ?_) (fun i x σ Hc Hd hi y e => ?_) (fun σ Hc y => ?_)
    · obtain ⟨_, _, _, _, _, h, _⟩ := y
      exact SqL.of h
    · obtain ⟨rfl, e⟩ := e
      obtain ⟨o7, fxs, rfl, smc, nlc, erc, efc, elc, lk, hfx⟩ := y
      rw [hrl] at hi
      have hiM : i < (L'.map (·.2)).length := by rw [List.length_map]; exact hi
      rw [List.getElem?_map, List.getElem?_eq_getElem hi] at e
      cases e
      have hmem := List.getElem_mem hi
      have hkK : L'[i].2 ∈ Ks := pm.mem_iff.mp (List.mem_map.mpr ⟨_, hmem, rfl⟩)
      have hkl := hK _ hkK
      have hb := nlc _ _ rfl (lt _ hmem)
      have htk : (L'.map (·.2)).take (i + 1) = (L'.map (·.2)).take i ++ [L'[i].2] := by rw [List.take_add_one, List.getElem?_eq_getElem hiM, List.getElem_map]; rfl
      rw [htk, List.foldl_append]
      have hfo : ∀ c ∈ ((L'.map (·.2)).take i).foldl stepC [], c.length = ss.length := fun c hc => by
        have := crn_all (n := ss.length) (keys := (L'.map (·.2)).take i) (fun k hk => hK k (pm.mem_iff.mp (List.mem_of_mem_take hk))) (pw.sublist (List.take_sublist _ _))
        exact hK _ (pm.mem_iff.mp (List.mem_of_mem_take (this.sub c hc)))
      generalize L'[i] = pr at *
      generalize ((L'.map (·.2)).take i).foldl stepC [] = cs at *
      have hlk := lk.1
      have hfd7 := (fk6.up fun p q => (NL.of s7).pk).up fun p q => nlc.pk
      refine ⟨_, rfl, fl, rfl, ⟨_, SqL.of elc⟩, fun D hD => ?_⟩
      refine lc_pairs (walk_list (K := K) (a := fl) (xs := fxs)) (k := 9) (k1 := 10) (by decide) (fun i u v => i < cs.length ∧ ∃ lt, u = V.ref lt ∧ ∀ H, Same Hd H → SqT K H lt ((cs.getD i []).map V.int)) (fun i => .bl (leI (cs.getD i []) pr.2)) hD (fun H s => SqL.of (s _ _ elc)) (by omega) (fun i H x H' hi sm y => ?_) (fun i a b H hi sm hI Q q => ?_) (fun H4 s4 e4 => ?_)
      · obtain ⟨rfl, ey⟩ := y
        have hic : i < cs.length := by omega
        obtain ⟨p, rfl, lt', x', q', c1, c2, _⟩ := lk.get hic ey
        have hg : cs.getD i [] = cs[i] := by rw [List.getD_eq_getElem?_getD, List.getElem?_eq_getElem hic]; rfl
        exact ⟨rfl, p, _, _, rfl, sqT_up c1 sm, hic, lt', rfl, fun H s => by rw [hg]; exact SqT.of (s _ _ c2)⟩
      · obtain ⟨hic, lt', rfl, hlt⟩ := hI
        have hg : cs.getD i [] = cs[i] := by rw [List.getD_eq_getElem?_getD, List.getElem?_eq_getElem hic]; rfl
        have hcl := hfo _ (List.getElem_mem hic)
        rw [← hg] at hcl
        exact ⟨_, rfl, _, rfl, lt', pr.1, cs.getD i [], pr.2, rfl, hlt _ sm, SqT.of (sm _ _ hb), by rw [hcl, hkl], by omega, fun H' s' => q _ s'⟩
      have hany : ((List.range fxs.length).map fun i => leI (cs.getD i []) pr.2).any id = cs.any fun c => leI c pr.2 := by
        rw [hlk, range_getD (fun c => leI c pr.2) [] cs, List.any_map]
        rfl
      refine ⟨D, (List.range fxs.length).map fun i => leI (cs.getD i []) pr.2, rfl, SqL.of (by rw [e4, List.map_map]; rfl), _, rfl, ?_⟩
      rw [hany]
      have hst : [pr.2].foldl stepC cs = stepC cs pr.2 := rfl
      rw [hst]
      have lk4 := lk.up fun p a => (NL.of s4).coE
      unfold stepC
      cases hw : cs.any fun c => leI c pr.2 with
      | true =>
        refine ifF rfl ?_
        rw [if_pos rfl]
        exact ⟨_, fxs, rfl, smc.trans s4, nlc.trans (NL.of s4), s4 _ _ erc, s4 _ _ efc, s4 _ _ elc, lk4, by omega⟩
      | false =>
        refine ifT rfl ?_
        rw [if_neg Bool.false_ne_true]
        have hd4 := hfd7.up fun p q => (NL.of s4).pk
        have efc4 := s4 _ _ efc
        have elc4 := s4 _ _ elc
        have hb4 := s4 _ _ hb
        rcases hd4.val pr.2 with ⟨_, hno⟩ | ⟨p, q1, hv, pk, hf⟩
        · obtain ⟨q, hq, z⟩ := (k5 pr.2).mp hkK
          exact absurd z (hno q hq)
        have hdg := DGet.t (kvs := kvs) (k := keyI pr.2) efc4 (by rw [hb4, keyI_kV])
        rw [hv] at hdg
        refine ⟨_, rfl, .inl ⟨rfl, _, SqL.of elc4⟩, _, rfl, _, rfl, _, rfl, fd, .ref p, rfl, hdg, lenOk (n := 2) rfl (by decide), fun tp htp => ?_⟩
        have sP := same_new (o := .tup [V.ref pr.1, V.ref p]) htp
        have eP : SqT K (upd H4 tp (.tup [V.ref pr.1, V.ref p])) tp [V.ref pr.1, V.ref p] := SqT.of upd_same
        generalize upd H4 tp (.tup [V.ref pr.1, V.ref p]) = H8 at sP eP ⊢
        have s48 := s4.trans sP
        have elc8 := sP _ _ elc4
        have hCo : CoE K A.c_Packing ths ss chs H8 tp pr.2 := ⟨pr.1, p, q1, eP, sP _ _ hb4, (NL.of sP).pk pk, by rw [← hL]; exact hf⟩
        have np : NL H8 (upd H8 fl (.lst (fxs ++ [.ref tp]))) := NL.put elc8
        refine ⟨fl, _, _, rfl, rfl, elc8, lt_line (by omega), ?_⟩
        refine ⟨_, fxs ++ [.ref tp], rfl, same_mut (smc.trans s48) hflH, (nlc.trans (NL.of s48)).trans np, ?_, ?_, upd_same, ?_, by rw [List.length_append]; exact Nat.add_le_add_right hfx 1⟩
        · rw [upd_ne nrf]
          exact s48 _ _ erc
        · rw [upd_ne (Ne.symm nff)]
          exact s48 _ _ efc
        · exact ((lk4.up fun p a => (NL.of sP).coE).snoc hCo).up fun p a => np.coE
    · obtain ⟨o7, fxs, rfl, smc, nlc, erc, efc, elc, lk, hfx⟩ := y
      rw [hrl, List.take_of_length_le (by rw [List.length_map]; exact Nat.le_refl _)] at lk
      refine ⟨_, rfl, fl, _, rfl, .inl ⟨SqL.of elc, fun rt hrt => ?_⟩⟩
      have sT := same_new (o := .tup fxs) hrt
      exact good _ rt fxs _ _ (smc.trans sT) (SqT.of upd_same) (lk.up fun p a => (NL.of sT).coE) hcs hkeys
end
end R1

namespace R1
open PySem PySem.Spec PyProof.Rows L2 RK PT
local macro_rules | `(tactic| walk_at "sq") => `(tactic| first
  | exact SqL.of upd_same | exact upd_same | exact SqL.of (by assumption) | exact SqL.of (by rw [upd_ne (by assumption)]; assumption) | assumption)
local macro_rules | `(tactic| walk_at "sd") => `(tactic| first
  | assumption | omega | (refine Or.inl ⟨?_, ?_⟩ <;> omega) | (show _ ∧ _; constructor <;> omega) | (show _ ≠ _; simp; omega) | (exact Or.inl ⟨by decide, by decide⟩) | (exact Or.inr ⟨by decide, by decide⟩) | (show _ < _; decide) | (show _ ≤ _; decide))
local macro_rules | `(tactic| walk_at "at") => `(tactic| first | rfl | (refine atI_intV ?_ ?_ <;> omega) | assumption)
local macro_rules | `(tactic| walk_at "s1") => `(tactic| first
  | refine ⟨_, rfl, ?_⟩ | refine ⟨_, _, rfl, rfl, ?_⟩ | refine ⟨rfl, ?_⟩
  | refine ⟨_, _, _, _, rfl, rfl, by walk_at "sq", by walk_at "at", ?_⟩
  | refine Or.inl ⟨_, rfl, ?_⟩
  | refine ⟨_, _, rfl, Or.inl (by walk_at "sq"), ?_⟩
  | refine And.intro (by walk_at "sd") ?_)
local macro_rules | `(tactic| walk_at "s") => `(tactic| repeat walk_at "s1")

theorem sq_ty {K : PySem.W.Frag} {H : Hp} {p : Addr} {xs : List V} (h : SqT K H p xs) : TyX K H (.ref p) (.type "tuple") := by
  rcases h with (h | ⟨o, h⟩) | ⟨o, its, n, hk, hc, _⟩
  · exact .base (.tup h)
  · exact .fTuple h
  · exact .kTuple hk hc
theorem kit_tt {K : PySem.W.Frag} : PySem.W.kitOne K (.type "tuple") (.type "tuple") = some true := kit_ty (kitT "tuple" (by decide) "tuple" (by decide))
theorem lc_valsY {J : It} {n : Nat} {G : Hp → Prop} {Y : Nat → Hp → V → Hp → Prop} (w : Walk J n G Y) {te : TE} {σ : L2.St} {H1 : Hp} {D : Addr} {Qd : Hp → Prop} {k : Nat} (f : Nat → V) (hD : H1 D = none) (hG : ∀ H, Same H1 H → G H) (hn : n ≤ 1000000)
    (hY : ∀ (i : Nat) (H : Hp) (x : V) (H' : Hp), i < n → Y i H x H' → H' = H)
    (hs : ∀ (i : Nat) (x : V) (H : Hp), i < n → Same H1 H → Y i H x H → ∀ Q : VK, (∀ H3, Same H H3 → Q (f i) H3) → te ((σ.set k none).set k (some x)) H Q) (hd : ∀ H, Same H1 H → H D = some (.lst ((List.range n).map f)) → Qd H) :
    ∃ W : Nat → Nat → Hp → Prop, (∃ m, W 0 m (upd H1 D (.lst []))) ∧ ∀ i m H, W i m H →
      (J.stop i H ∧ Qd H) ∨ (J.go i H ∧ ∃ Nx : Hp → Prop, (∀ H', Nx H' → ∃ m', m' < m ∧ W (i + 1) m' H') ∧ ∀ x H', J.yld i H x H' → gName k x (wipe σ [k]) H' fun σ2 H2 => wipe σ2 [k] = wipe σ [k] ∧ tYes σ2 H2 fun b H3 =>
        if b = true then te σ2 H3 fun y H4 => ∃ acc, H4 D = some (.lst acc) ∧ acc.length < sizeLine ∧ Nx (upd H4 D (.lst (acc ++ [y]))) else Nx H3) := by
  refine lc_it w (fun i H => Same H1 H ∧ H D = some (.lst ((List.range i).map f))) ⟨same_new hD, upd_same⟩ (fun i H _ h => hG H h.1) (fun i x H H' hi hp y => ?_) fun H h => hd H h.1 h.2
  obtain ⟨sm, e⟩ := hp
  obtain rfl := hY i H x H' hi y
  refine ⟨?_, ?_⟩
  · show ((σ.set k none).set k (some x)).set k none = σ.set k none
    rw [List.set_set, List.set_set]
  show te ((σ.set k none).set k (some x)) H' _
  refine hs i x H' hi sm y _ fun H3 s3 => ?_
  have e3 : H3 D = some (.lst ((List.range i).map f)) := s3 _ _ e
  refine ⟨_, e3, ?_, same_mut (sm.trans s3) hD, ?_⟩
  · rw [List.length_map, List.length_range]
    exact Nat.lt_of_lt_of_le (Nat.lt_of_lt_of_le hi hn) (by decide)
  · rw [upd_same, List.range_succ, List.map_append]
    rfl
theorem eqv_int : ∀ a b : List Int, PyData.eqvAll (a.map PyData.int) (b.map PyData.int) = decide (a = b)
  | [], [] => rfl
  | [], _ :: _ => rfl
  | _ :: _, [] => rfl
  | x :: a, y :: b => by
    show (PyData.eqv (.int x) (.int y) && PyData.eqvAll (a.map PyData.int) (b.map PyData.int)) = _
    rw [eqv_int a b]
    show ((x == y) && decide (a = b)) = _
    by_cases e : x = y
    · by_cases f : a = b
      · rw [e, f, decide_eq_true rfl, decide_eq_true rfl, beq_self_eq_true]; rfl
      · rw [e, decide_eq_false f, decide_eq_false (fun z => f (List.cons.inj z).2), Bool.and_false]
    · rw [decide_eq_false (fun z => e (List.cons.inj z).1), beq_eq_false_iff_ne.mpr e, Bool.false_and]
theorem dx_int {K : PySem.W.Frag} {H : Hp} {p : Addr} {k : List Int} (h : H p = some (.tup (k.map V.int))) : Dx K H noS (.ref p) (.tuple (k.map PyData.int)) :=
  .tup (.inl ⟨fun z => z, .inl h⟩) (dxAll_ints _)
theorem same_lock {H H' : Hp} {f : Addr} {od : Obj} {u : HO} (hf : H f = some u) (s : Same (upd H f (.frz od u)) H') : Same H (upd H' f u) := fun b o e => by
  by_cases z : b = f
  · rw [z] at e ⊢
    rw [upd_same, ← e, hf]
  · rw [upd_ne z]
    exact s _ _ (by rw [upd_ne z]; exact e)
theorem same_frz {H : Hp} {f : Addr} {od : Obj} {u : HO} (hf : H f = some u) {b : Addr} {o : HO} (n : o ≠ u) (e : H b = some o) : upd H f (.frz od u) b = some o := by
  rw [upd_ne (fun z => by rw [z, hf] at e; exact n (Option.some.inj e).symm)]
  exact e
theorem shaped_int (k : List Int) : SeqAt.shaped (.tuple (k.map PyData.int)) = true := Bool.and_eq_true_iff.mpr ⟨lay_ints k, decide_eq_true (by
  show PyData.depthAll _ + 1 ≤ 64
  rw [dep_ints]
  decide)⟩
def spFirsts (K : PySem.W.Frag) : Sp := fun vs H Q _ => ∃ (sa l : Addr) (ss : List Nat) (ths : List (Nat × Nat)) (xs : List V) (qs : List Pk), vs = [.ref sa, .ref l] ∧ SqT K H sa (intV ss) ∧ H l = some (.lst xs) ∧ LsK (FdE K ths ss) H xs qs ∧ (∀ q ∈ qs, q.2.length = ss.length) ∧ qs.length ≤ 760000 ∧ ss.length ≤ 6 ∧
  ∀ H' d kvs, Same H H' → H d = none → H' d = some (.dT kvs) → FsK (FdE K ths ss) (lenP ths ss) H' kvs qs → Q (.ref d) H'
def spIsCor (K : PySem.W.Frag) (C : Addr) : Sp := fun vs H Q _ => ∃ (p sa d : Addr) (ss : List Nat) (ths : List (Nat × Nat)) (chs : List (List Nat)) (kvs : List (List Key × V)) (qs : List Pk) (k : List Int), vs = [.ref p, .ref sa, .ref d] ∧ CoE K C ths ss chs H p k ∧ SqT K H sa (intV ss) ∧ H d = some (.dT kvs) ∧ FsK (FdE K ths ss) (lenP ths ss) H kvs qs ∧ ss.length ≤ 6 ∧ qs.length ≤ 760000 ∧
  qs.find? (fun q => decide (lenP ths ss q = k)) = (leaP ths ss chs ss.length).find? (fun q => decide (lenP ths ss q = k)) ∧ (∀ q ∈ qs, leI (lenP ths ss q) k = true → lenP ths ss q = k) ∧ (∀ q ∈ qs, q.1.length ≤ 5 ∧ q.2.length ≤ 6 ∧ ∀ o ∈ q.2, o.length ≤ 5) ∧ ∀ H', Same H H' → Q (.bl true) H'
section
variable {P : Program} {w : World} {K : PySem.W.Frag} {mg : Str → Option Value} {base : Heap} {A : Ads}
theorem ok_law_firsts (T : Txt K mg A) : FnOk P w K mg base CX0 2 A.a_law_firsts A.d_law_firsts ["_law_starts", "_law_found"] (spFirsts K) := by
  refine T.F_law_firsts.ok sc_law_firsts (fun vs H Q E h => ?_) (fun cdv B outer s H vs Q E hr h => ?_)
  · obtain ⟨sa, l, ss, ths, xs, qs, rfl, _⟩ := h
    rfl
  · obtain ⟨sa, l, ss, ths, xs, qs, rfl, hs, hl, lk, hq, hql, hs6, q⟩ := h
    refine ⟨_, (pss_cons (ps_set (i := 2) sc_law_firsts.nd rfl (.inl rfl) pe_dnewT)
    (pss_cons (ps_for PassesOwn.never rfl (pi_list (pv 1)) (pg_name (i := 3) sc_law_firsts.nd rfl (.inr rfl))
      (pss_cons (ps_set (i := 5) sc_law_firsts.nd rfl (.inl rfl) (pe_callTy tuple_of (by rfl) T.n_tuple (by decide +kernel) (pa_cons (pe_lc (own := [("_law_room", 4)]) rfl sc_law_firsts.nd (pi_range1 (by rfl) T.n_range (pa_cons (pe_callB len_seq (by rfl) T.n_len (by decide +kernel) (pa_cons (pv 0) pa_nil)) pa_nil)) (blkOk_by (own := [("_law_room", 4)]) (N := N_law_firsts) (sc := defScope s_law_firsts) (by decide +kernel)) (fun _ _ _ _ _ => pg_name (i := 4) sc_law_firsts.nd rfl (Or.inl rfl)) (fun _ _ _ _ _ => pts_nil) (fun _ _ _ _ _ => by exact (pe_op op_sub (pe_ix (r := rIxT K) ix_tup (pe_ix (r := rIxT K) ix_tup (pv 3) pe_int (fun _ _ => rfl)) (pv 4) (fun _ _ => rfl)) (pe_ix (r := rIxT K) ix_tup (pv 0) (pv 4) (fun _ _ => rfl))))) pa_nil)))
    (pss_one (ps_if (pt_cmp (pc_dnotin (hu_of hr) (pv 5) (pv 2))) (pss_one (ps_dput (hu_of hr) (pv 2) (pv 5) (pv 3) rfl)) pss_nil))))
    (pss_one (ps_ret (pv 2))))), ?_⟩
    have hil := intV_len ss
    have hxl := lk.1
    intro d hd
    have sd := same_new (o := .dT []) hd
    have ed : upd H d (.dT []) d = some (.dT []) := upd_same
    have nld : l ≠ d := fun z => by rw [z, hd] at hl; cases hl
    generalize upd H d (.dT []) = H1 at sd ed ⊢
    refine ⟨_, rfl, l, rfl, ⟨_, SqL.of (sd _ _ hl)⟩, ?_⟩
    refine for_it (walk_list (K := K) (a := l) (xs := xs)) (fun i σ Hc => ∃ o3 o5 kvs, σ = [some (.ref sa), some (.ref l), some (.ref d), o3, none, o5] ∧ Same H Hc ∧ Hc d = some (.dT kvs) ∧ FsK (FdE K ths ss) (lenP ths ss) Hc kvs (qs.take i))
      ⟨_, _, [], rfl, sd, ed, FsK.nil⟩ (fun i σ Hc _ y => ?_) (fun i x σ Hc Hd hi y e => ?_) (fun σ Hc y => ?_)
    · obtain ⟨_, _, _, _, sm, _⟩ := y
      exact SqL.of (sm _ _ hl)
    · obtain ⟨rfl, e⟩ := e
      obtain ⟨o3, o5, kvs, rfl, sm, edc, fk⟩ := y
      rw [hxl] at hi
      obtain ⟨x, rfl, fd⟩ := (lk.up fun p a => (NL.of sm).fdE).get hi e
      have hq2 := hq _ (List.getElem_mem hi)
      have htk : qs.take (i + 1) = qs.take i ++ [qs[i]] := by rw [List.take_add_one, List.getElem?_eq_getElem hi]; rfl
      rw [htk]
      have hkl : kvs.length ≤ 760000 := by
        obtain ⟨Ks, _, _, k3, k4, _⟩ := fk.keys
        rw [List.length_take] at k4
        omega
      generalize qs[i] = q1 at *
      have hfd := fd
      obtain ⟨pd, po, pe, ys, k1, k2, k3, k4, k5⟩ := fd
      have hel : (intV (enP ths ss q1.2)).length = ss.length := by rw [intV_len, enP_len, hq2]
      refine ⟨_, rfl, sa, _, rfl, .inr (sqT_up hs sm), _, rfl, by omega, by omega, fun D hD => ?_⟩
      rw [Int.toNat_natCast, hil]
      refine lc_vals (walk_range (lo := 0) (n := ss.length)) (fun i v => v = .int (0 + (i : Int))) (fun i => .int ((((enP ths ss q1.2).getD i 0 : Nat) : Int) - ((ss.getD i 0 : Nat) : Int))) hD (fun _ _ => trivial) (by omega) (fun i H1 v H2 hi y => ⟨y.1, y.2⟩) (fun i v H4 hi s4 hv Q q => ?_) (fun H4 s4 e4 => ?_)
      · subst hv
        have hi0 : (0 : Int) + (i : Int) = ((i : Nat) : Int) := by omega
        exact ⟨_, rfl, x, _, 2, _, rfl, rfl, sqT_up k1 s4, atI_nat (j := 2) rfl, _, rfl, pe, _, _, _, rfl, rfl, sqT_up k5 s4, by rw [hi0]; exact atI_nat (intV_at (by rw [enP_len, hq2]; exact hi)), _, rfl, _, rfl, sa, _, _, _, rfl, rfl, sqT_up hs (sm.trans s4), by rw [hi0]; exact atI_nat (intV_at hi), _, _, rfl, rfl, q _ (Same.refl _)⟩
      rw [len_list] at e4
      refine ⟨D, _, rfl, .inl ⟨SqL.of e4, fun t3 ht3 => ?_⟩⟩
      have s5 := same_new (o := .tup ((lenP ths ss q1).map V.int)) ht3
      have et3 : upd H4 t3 (.tup ((lenP ths ss q1).map V.int)) t3 = some (.tup ((keyI (lenP ths ss q1)).map kV)) := by rw [upd_same, keyI_kV]
      generalize upd H4 t3 (.tup ((lenP ths ss q1).map V.int)) = H5 at s5 et3 ⊢
      have s45 := s4.trans s5
      have ed5 := s45 _ _ edc
      have fk5 := fk.up fun p q => (NL.of s45).fdE
      have hfd5 := (NL.of s45).fdE hfd
      refine ⟨_, rfl, _, rfl, d, _, rfl, DGet.t (kvs := kvs) (k := keyI (lenP ths ss q1)) ed5 et3, _, rfl, ?_⟩
      cases hv : valV kvs (keyI (lenP ths ss q1)) with
      | some v =>
        refine ifF rfl ?_
        rcases fk5.val (lenP ths ss q1) with ⟨z, _⟩ | ⟨_, q0, _, _, hf⟩
        · rw [hv] at z
          cases z
        · exact ⟨_, _, kvs, rfl, sm.trans s45, ed5, fk5.old hf⟩
      | none =>
        refine ifT rfl ?_
        rcases fk5.val (lenP ths ss q1) with ⟨_, hno⟩ | ⟨_, _, z, _⟩
        · have np : NL H5 (upd H5 d (.dT (putK kvs (keyI (lenP ths ss q1)) (V.ref x)))) := NL.putT ed5
          refine ⟨_, rfl, _, rfl, _, rfl, d, _, rfl, DPut.t ed5 et3 (big_line (by omega)), _, _, _, rfl, same_mut (sm.trans s45) hd, upd_same, ?_⟩
          exact (fk5.new hno hfd5 hv).up fun p q => np.fdE
        · rw [hv] at z
          cases z
    · obtain ⟨o3, o5, kvs, rfl, sm, edc, fk⟩ := y
      rw [hxl, List.take_length] at fk
      exact ⟨_, rfl, q _ d kvs sm hd edc fk⟩
theorem ok_law_is_corner (T : Txt K mg A) : FnOk P w K mg base CX0 6 A.a_law_is_corner A.d_law_is_corner ["_law_pair", "_law_starts", "_law_firsts_here"] (spIsCor K A.c_Packing) := by
  refine T.F_law_is_corner.ok sc_law_is_corner (fun vs H Q E h => ?_) (fun cdv B outer s H vs Q E hr h => ?_)
  · obtain ⟨p, sa, d, ss, ths, chs, kvs, qs, k, rfl, _⟩ := h
    rfl
  · obtain ⟨p, sa, d, ss, ths, chs, kvs, qs, k, rfl, hp, hs, hd, fk, hs6, hql, hfs, hmin, hq5, q⟩ := h
    refine ⟨_, (pss_cons (ps_if (PW.pt (pw_or (pt_not (pt_val (pe_callB call_isi (by rfl) T.n_isinstance (by decide +kernel) (pa_cons (pv 0) (pa_cons (pe_bltn (v := .ty "tuple") (u := .type "tuple") (by rfl) T.n_tuple (by decide +kernel) rfl) pa_nil))))) (pw_or (pt_cmpR op_ne (pe_callB len_seq (by rfl) T.n_len (by decide +kernel) (pa_cons (pv 0) pa_nil)) pe_int (nomark _)) (pw_or1 (pt_not (pt_val (pe_callB call_isi (by rfl) T.n_isinstance (by decide +kernel) (pa_cons (pe_ix ix_tup (pv 0) pe_int (fun _ _ => rfl)) (pa_cons (pe_bltn (v := .ty "tuple") (u := .type "tuple") (by rfl) T.n_tuple (by decide +kernel) rfl) pa_nil))))))))) (pss_one (ps_ret pe_bl)) pss_nil)
    (pss_cons (ps_if (PW.pt (pw_or (pt_not (pt_val (pe_callB (cr_all rfl) (by rfl) T.n_all (by decide +kernel) (pa_cons (pe_lc (own := [("_law_length", 3)]) rfl sc_law_is_corner.nd (pi_tup (pe_ix ix_tup (pv 0) pe_int (fun _ _ => rfl))) (blkOk_by (own := [("_law_length", 3)]) (N := N_law_is_corner) (sc := defScope s_law_is_corner) (by decide +kernel)) (fun _ _ _ _ _ => pg_name (i := 3) sc_law_is_corner.nd rfl (Or.inl rfl)) (fun _ _ _ _ _ => pts_nil) (fun _ _ _ _ _ => by exact (pe_call (ok_law_is_number T) (hr.mono (by omega)) rfl T.g_law_is_number T.F_law_is_number.kp T.b_law_is_number .nil pass0 (pa_cons (pv 3) pa_nil)))) pa_nil)))) (pw_or1 (pt_cmp (pc_dnotin (hu_of hr) (pe_ix ix_tup (pv 0) pe_int (fun _ _ => rfl)) (pv 2)))))) (pss_one (ps_ret pe_bl)) pss_nil)
    (pss_cons (ps_if (pt_not (pt_val (pe_call (ok_law_same T) (hr.mono (by omega)) rfl T.g_law_same T.F_law_same.kp T.b_law_same .nil pass0 (pa_cons (pe_ix ix_tup (pv 0) pe_int (fun _ _ => rfl)) (pa_cons (pe_dget (hu_of hr) (pv 2) (pe_ix ix_tup (pv 0) pe_int (fun _ _ => rfl)) (fun _ _ => rfl)) (pa_cons (pv 1) pa_nil)))))) (pss_one (ps_ret pe_bl)) pss_nil)
    (pss_one (ps_ret (pe_not (pe_callB (cr_any rfl) (by rfl) T.n_any (by decide +kernel) (pa_cons (pe_lock (pe_lc (own := [("_law_lengths", 4)]) rfl sc_law_is_corner.nd (pi_keys (pv 2)) (blkOk_by (own := [("_law_lengths", 4)]) (N := N_law_is_corner) (sc := defScope s_law_is_corner) (by decide +kernel)) (fun _ _ _ _ _ => pg_name (i := 4) sc_law_is_corner.nd rfl (Or.inl rfl)) (fun _ _ _ _ _ => pts_nil) (fun _ _ _ _ _ => by exact (pe_and (pe_cmpR (r := rNeD K) (op_neD hr.units) (pv 4) (pe_ix (r := rIxT K) ix_tup (pv 0) pe_int (fun _ _ => rfl)) (nomark _)) (pe_one (pe_call (ok_law_at_most T) (hr.mono (by omega)) rfl T.g_law_at_most T.F_law_at_most.kp T.b_law_at_most .nil pass0 (pa_cons (pv 4) (pa_cons (pe_ix (r := rIxT K) ix_tup (pv 0) pe_int (fun _ _ => rfl)) pa_nil)))))))) pa_nil)))))))), ?_⟩
    obtain ⟨lt, x, q1, h1, hlt, pk, hf⟩ := hp
    rw [← hfs] at hf
    have hmq := List.mem_of_find?_eq_some hf
    obtain ⟨m1, m2, m3⟩ := hq5 _ hmq
    have hk : lenP ths ss q1 = k := fdec hf
    have hkl : k.length = ss.length := by rw [← hk]; exact lenP_len _ _ _
    obtain ⟨row, hv, fd⟩ : ∃ row, valV kvs (keyI k) = some (V.ref row) ∧ FdE K ths ss H row q1 := by
      rcases fk.val k with ⟨_, hno⟩ | ⟨p', q', a, b, c⟩
      · exact absurd hk (hno _ hmq)
      · rw [hf] at c
        cases c
        exact ⟨p', a, b⟩
    refine ⟨_, rfl, .ref p, .ty "tuple", _, _, true, rfl, .ty "tuple", sq_ty h1, kit_tt, _, rfl, ifF rfl ?_⟩
    refine ⟨_, rfl, p, _, rfl, .inr h1, rfl, _, rfl, ifF rfl ?_⟩
    refine ⟨_, rfl, p, _, 0, _, rfl, rfl, h1, atI_nat (j := 0) rfl, .ref lt, .ty "tuple", _, _, true, rfl, .ty "tuple", .base (.tup hlt), kit_tt, _, rfl, ifF rfl ?_⟩
    refine ⟨_, rfl, p, _, 0, _, rfl, rfl, h1, atI_nat (j := 0) rfl, lt, rfl, ⟨_, SqT.of hlt⟩, fun D hD => ?_⟩
    refine lc_vals (walk_tup (K := K) (a := lt) (xs := k.map V.int)) (fun i v => ∃ z, v = V.int z) (fun i => .bl true) hD (fun H4 s4 => SqT.of (s4 _ _ hlt)) (by rw [List.length_map]; omega) (fun i H1 v H2 hi y => ⟨y.1, ?_⟩) (fun i v H4 hi sm hv Q q => ?_) (fun H4 s4 e4 => ?_)
    · have y2 := y.2
      rw [List.length_map] at hi
      rw [mapI_at hi] at y2
      exact ⟨_, (Option.some.inj y2).symm⟩
    · obtain ⟨z, rfl⟩ := hv
      exact ⟨_, rfl, z, rfl, q _ (Same.refl _)⟩
    have h14 := sqT_up h1 s4
    have hd4 := s4 _ _ hd
    have hlt4 := s4 _ _ hlt
    have hg4 := DGet.t (kvs := kvs) (k := keyI k) hd4 (by rw [hlt4, keyI_kV])
    rw [hv] at hg4
    have hall : ((List.range (k.map V.int).length).map fun _ => true).all id = true := List.all_eq_true.mpr fun b hb => by
      obtain ⟨_, _, rfl⟩ := List.mem_map.mp hb
      rfl
    refine ⟨D, (List.range (k.map V.int).length).map fun _ => true, rfl, SqL.of (by rw [e4, List.map_map]; rfl), _, rfl, ifF (by rw [hall]; rfl) ?_⟩
    refine ⟨_, rfl, p, _, 0, _, rfl, rfl, h14, atI_nat (j := 0) rfl, _, rfl, d, _, rfl, hg4, _, rfl, ifF rfl ?_⟩
    refine ⟨_, rfl, p, _, 1, _, rfl, rfl, h14, atI_nat (j := 1) rfl, _, rfl, _, rfl, p, _, 0, _, rfl, rfl, h14, atI_nat (j := 0) rfl, d, .ref row, rfl, hg4, _, rfl, ?_⟩
    refine ⟨x, row, sa, ss, ths, q1, rfl, (NL.of s4).pk pk, (NL.of s4).fdE fd, sqT_up hs s4, m1, m2, m3, fun H5 s5 => ⟨_, rfl, ifF rfl ?_⟩⟩
    have s05 := s4.trans s5
    have hd5 := s05 _ _ hd
    obtain ⟨Ks, e1, e2, e3, e6, e7⟩ := fk.keys
    have hlt5 := s05 _ _ hlt
    refine ⟨d, .dT kvs, hd5, trivial, fun od => ⟨_, rfl, d, od, rfl, .inr ⟨kvs, upd_same, fun D2 hD2 => ?_⟩⟩⟩
    have hltF : upd H5 d (.frz od (.dT kvs)) lt = some (.tup (k.map V.int)) := same_frz hd5 (fun z => nomatch z) hlt5
    have h1F : SqT K (upd H5 d (.frz od (.dT kvs))) p [.ref lt, .ref x] := (NL.putT hd5).sq (sqT_up h1 s05)
    have hdF : upd H5 d (.frz od (.dT kvs)) d = some (.frz od (.dT kvs)) := upd_same
    have hback : ∀ {H' : Hp}, Same (upd H5 d (.frz od (.dT kvs))) H' → Same H5 (upd H' d (.dT kvs)) := fun s => same_lock hd5 s
    have nD2 : D2 ≠ d := fun z => by rw [z, hdF] at hD2; cases hD2
    generalize upd H5 d (.frz od (.dT kvs)) = HF at *
    refine lc_valsY walk_keysT (k := 4) (fun i => .bl false) hD2 (fun H4 s4 => s4 _ _ hdF) (by omega) (fun i H x H' hi y => y.1) (fun i v H4 hi sm y Q q => ?_) (fun H6 s6 e6' => ?_)
    · obtain ⟨_, kk, u0, qa, hkv, rfl, hqa⟩ := y
      have hiK : i < Ks.length := by omega
      have hkk : kk = keyI Ks[i] := by
        have h1 : (kvs.map (·.1))[i]? = some kk := by rw [List.getElem?_map, hkv]; rfl
        rw [e1, List.getElem?_map, List.getElem?_eq_getElem hiK] at h1
        exact (Option.some.inj h1).symm
      subst hkk
      have hkm := List.getElem_mem hiK
      generalize Ks[i] = k2 at *
      rw [keyI_kV] at hqa
      obtain ⟨q2, hq2, hk2⟩ := (e7 k2).mp hkm
      have hk2l : k2.length = ss.length := by rw [← hk2]; exact lenP_len _ _ _
      have d1 := (dx_int (K := K) hqa).dp
      have d2 := (dx_int (K := K) (sm _ _ hltF)).dp
      refine ⟨_, rfl, _, rfl, p, _, 0, _, rfl, rfl, sqT_up h1F sm, atI_nat (j := 0) rfl, _, _, d1, d2, shaped_int _, shaped_int _, ?_⟩
      rw [show PyData.eqv (.tuple (k2.map PyData.int)) (.tuple (k.map PyData.int)) = decide (k2 = k) from eqv_int k2 k]
      by_cases ek : k2 = k
      · rw [decide_eq_true ek]
        exact ⟨_, rfl, ifF rfl (q _ (Same.refl _))⟩
      · rw [decide_eq_false ek]
        refine ⟨_, rfl, ifT rfl ?_⟩
        refine ⟨_, rfl, _, rfl, p, _, 0, _, rfl, rfl, sqT_up h1F sm, atI_nat (j := 0) rfl, qa, lt, k2, k, rfl, SqT.of hqa, SqT.of (sm _ _ hltF), by rw [hk2l, hkl], by omega, fun H' s' => ?_⟩
        have hle : leI k2 k = false := by
          cases c : leI k2 k with
          | false => rfl
          | true =>
            rw [← hk2] at c
            exact absurd (hk2.symm.trans (hmin _ hq2 c)) ek
        rw [hle]
        exact q _ s'
    have s7 := hback s6
    have hany : ((List.range kvs.length).map fun _ => false).any id = false := List.any_eq_false.mpr fun b hb => by
      obtain ⟨_, _, rfl⟩ := List.mem_map.mp hb
      exact Bool.false_ne_true
    refine ⟨s6 _ _ hdF, D2, (List.range kvs.length).map fun _ => false, rfl, SqL.of (by rw [upd_ne nD2, e6', List.map_map]; rfl), _, rfl, ?_⟩
    rw [hany]
    exact q _ (s05.trans s7)
end
end R1

namespace R1
open PySem PySem.Spec PyProof.Rows L2 RK PT
local macro_rules | `(tactic| walk_at "sq") => `(tactic| first
  | exact SqL.of upd_same | exact upd_same | exact SqL.of (by assumption) | exact SqL.of (by rw [upd_ne (by assumption)]; assumption) | assumption)
local macro_rules | `(tactic| walk_at "sd") => `(tactic| first
  | assumption | omega | (refine Or.inl ⟨?_, ?_⟩ <;> omega) | (show _ ∧ _; constructor <;> omega) | (show _ ≠ _; simp; omega) | (exact Or.inl ⟨by decide, by decide⟩) | (exact Or.inr ⟨by decide, by decide⟩) | (show _ < _; decide) | (show _ ≤ _; decide))
local macro_rules | `(tactic| walk_at "at") => `(tactic| first | rfl | (refine atI_intV ?_ ?_ <;> omega) | assumption)
local macro_rules | `(tactic| walk_at "s1") => `(tactic| first
  | refine ⟨_, rfl, ?_⟩ | refine ⟨_, _, rfl, rfl, ?_⟩ | refine ⟨rfl, ?_⟩
  | refine ⟨_, _, _, _, rfl, rfl, by walk_at "sq", by walk_at "at", ?_⟩
  | refine Or.inl ⟨_, rfl, ?_⟩
  | refine ⟨_, _, rfl, Or.inl (by walk_at "sq"), ?_⟩
  | refine And.intro (by walk_at "sd") ?_)
local macro_rules | `(tactic| walk_at "s") => `(tactic| repeat walk_at "s1")

theorem rwP_sz {dl : List Nat} : ∀ (i : Nat) {os : List (List Nat)}, os ∈ rwP dl i → ∀ o ∈ os, o.length ≤ dl.length
  | 0, os, h, o, ho => by
    rw [List.mem_singleton.mp h] at ho
    cases ho
  | i + 1, os, h, o, ho => by
    obtain ⟨row, hr, h2⟩ := List.mem_flatMap.mp h
    obtain ⟨o1, h3, rfl⟩ := List.mem_map.mp h2
    rcases List.mem_append.mp ho with z | z
    · exact rwP_sz i hr o z
    · rw [List.mem_singleton.mp z, kp_each _ _ _ h3]
      exact grp_len dl i
theorem allP_sz {chs : List (List Nat)} {n : Nat} (h5 : chs.length ≤ 5) (h3 : ∀ ch ∈ chs, ch.length ≤ 3) (hn : n ≤ 6) : ∀ q ∈ allP chs n, q.1.length ≤ 5 ∧ q.2.length ≤ 6 ∧ ∀ o ∈ q.2, o.length ≤ 5 := fun q hq => by
  obtain ⟨dl, hdl, hm2⟩ := List.mem_flatMap.mp hq
  obtain ⟨os, hos, rfl⟩ := List.mem_map.mp hm2
  have hd5 := (dls_len chs.length chs rfl h3).2 dl hdl
  have hol := rwP_len _ hos
  refine ⟨by show dl.length ≤ 5; omega, by show os.length ≤ 6; omega, fun o ho => ?_⟩
  have := rwP_sz _ hos o ho
  omega
theorem allP_le {chs : List (List Nat)} (hl5 : chs.length ≤ 5) (hc3 : ∀ ch ∈ chs, ch.length ≤ 3) (n : Nat) : (allP chs n).length ≤ 759375 := by
  obtain ⟨hdl, hde⟩ := dls_len chs.length chs rfl hc3
  have h35 := pow35 hl5
  refine Nat.le_trans (flat_bound _ 3125 _ fun dl hdl => ?_) (Nat.le_trans (Nat.mul_le_mul_right 3125 (Nat.le_trans hdl h35)) (by decide))
  rw [List.length_map]
  refine rwP_le dl ?_ _
  have := hde dl hdl
  omega
theorem crn_min {ths : List (Nat × Nat)} {ss : List Nat} {chs : List (List Nat)} {keys cs : List (List Int)} (C : Crn ss.length keys keys cs) (hk : ∀ k, k ∈ keys ↔ ∃ q ∈ leaP ths ss chs ss.length, lenP ths ss q = k) {c : List Int} (hc : c ∈ cs) : ∀ q ∈ allP chs ss.length, leI (lenP ths ss q) c = true → lenP ths ss q = c := fun q hq l => by
  obtain ⟨q', hq', l'⟩ := all_low (ths := ths) hq
  have hk' := (hk _).mpr ⟨q', hq', rfl⟩
  have e := C.least c hc _ hk' (leI_trans (by rw [lenP_len, lenP_len]) l' l)
  rw [e] at l'
  obtain ⟨q0, _, hc0⟩ := (hk c).mp (C.sub c hc)
  exact leI_anti (by rw [← hc0, lenP_len, lenP_len]) l l'
theorem crn_cov {ths : List (Nat × Nat)} {ss : List Nat} {chs : List (List Nat)} {keys cs : List (List Int)} (C : Crn ss.length keys keys cs) (hk : ∀ k, k ∈ keys ↔ ∃ q ∈ leaP ths ss chs ss.length, lenP ths ss q = k) {q : Pk} (hq : q ∈ allP chs ss.length) : ∃ c ∈ cs, leI c (lenP ths ss q) = true := by
  obtain ⟨q', hq', l'⟩ := all_low (ths := ths) hq
  obtain ⟨c, hc, l⟩ := C.cov _ ((hk _).mpr ⟨q', hq', rfl⟩)
  obtain ⟨q0, _, hc0⟩ := (hk c).mp (C.sub c hc)
  exact ⟨c, hc, leI_trans (by rw [← hc0, lenP_len, lenP_len]) l l'⟩
theorem nd_len : ∀ (l m : List (List Int)), l.Nodup → (∀ x ∈ l, x ∈ m) → l.length ≤ m.length
  | [], m, _, _ => Nat.zero_le _
  | x :: l, m, hn, hs => by
    have hx := hs x List.mem_cons_self
    have ih := nd_len l (m.erase x) (List.nodup_cons.mp hn).2 fun y hy => (List.mem_erase_of_ne (show y ≠ x from fun z => (List.nodup_cons.mp hn).1 (by rw [← z]; exact hy))).mpr (hs y (List.mem_cons_of_mem _ hy))
    rw [List.length_erase_of_mem hx] at ih
    have := List.length_pos_of_mem hx
    rw [List.length_cons]
    omega
def spAskC (K : PySem.W.Frag) : Sp := fun vs H Q _ => ∃ (a d : Addr) (ss : List Nat) (ths : List (Nat × Nat)) (chs : List (List Nat)) (kvs : List (List Key × V)), vs = [.ref a, .ref d] ∧ LotK K H a ss ths chs ∧ H d = some (.dT kvs) ∧ FsK (FdE K ths ss) (lenP ths ss) H kvs (allP chs ss.length) ∧ ∀ H', Same H H' → Q (.bl true) H'
def spRefC (K : PySem.W.Frag) : Sp := fun vs H Q _ => ∃ (r t : Addr) (d : Int) (xs ys : List V), vs = [.ref r, .ref t, .int d] ∧ SqT K H r xs ∧ SqT K H t ys ∧ badC xs.length ys.length = some d ∧ ys.length ≤ 1000 ∧ ∀ H', Same H H' → Q (.bl true) H'
section
variable {P : Program} {w : World} {K : PySem.W.Frag} {mg : Str → Option Value} {base : Heap} {A : Ads}
theorem ok_law_refused (T : Txt K mg A) : FnOk P w K mg base CX0 10 A.a_law_refused A.d_law_refused ["_law_starts", "_law_things_here", "_law_due"] (spRefC K) := by
  refine T.F_law_refused.ok sc_law_refused (fun vs H Q E h => ?_) (fun cdv B outer s H vs Q E hr h => ?_)
  · obtain ⟨r, t, d, xs, ys, rfl, _⟩ := h
    rfl
  · obtain ⟨r, t, d, xs, ys, rfl, hx, ht, hbad, hyl, q⟩ := h
    refine ⟨_, (pss_cons (ps_try_hitN (i := 4) rfl rfl sc_law_refused.nd rfl rfl ⟨rfl, by decide, .inl T.g_TooMany⟩ (fun W pn xe tk _ => (pss_one (ps_expr (by exact (pe_callS (ok_corners T) (hr.mono (by omega)) rfl T.g_corners T.F_corners.kp T.b_corners (fun σ => L2N.passAt tk σ) (pa_cons (pv 0) (pa_cons (pv 1) (pa_cons (pe_callTy (r := rTupOf K) tuple_of (by rfl) T.n_tuple (by decide +kernel) (pa_cons (pe_lc (own := [("_law_thing", 3)]) rfl sc_law_refused.nd (show PI _ _ _ (iTup K _) from (pi_tup (pv 1))) (blkOk_by (own := [("_law_thing", 3)]) (N := N_law_refused) (sc := defScope s_law_refused) (by decide +kernel)) (fun _ _ _ _ _ => pg_name (i := 3) sc_law_refused.nd rfl (Or.inl rfl)) (fun _ _ _ _ _ => pts_nil) (fun _ _ _ _ _ => by exact (pe_tup (pa_cons pe_int pa_nil)))) pa_nil)) pa_nil))))))))
      (fun a o cls d ps hz hf => (pss_one (ps_ret (pe_and (L2H.pe_callH (okH_law_is_number T) ((L2H.roomH_mark hr _).mono (by omega)) (hot_suite hz hf) rfl T.g_law_is_number T.F_law_is_number.kp T.b_law_is_number (fun _ => pass_at0) (pa_cons (pe_xf T.x_TooMany.xf T.x_TooMany.no hz.zc hf (pv 4)) pa_nil)) (pe_and (pe_cmpR op_eq (pe_xf T.x_TooMany.xf T.x_TooMany.no hz.zc hf (pv 4)) (pv 2) (nomark _)) (pe_one (pe_not (pe_callB (call_isEx T.x_TooMany.ex hz.zc hf) (by rfl) T.n_isinstance (by decide +kernel) (pa_cons (pv 4) (pa_cons (pe_glob (v := .ref A.c_NoFit) rfl T.g_NoFit rfl) pa_nil)))))))))))
    (pss_one (ps_ret pe_bl))), ?_⟩
    refine ⟨_, rfl, _, rfl, _, rfl, t, rfl, ⟨_, ht⟩, fun D hD => ?_⟩
    refine lc_inv (walk_tup (K := K) (a := t) (xs := ys)) (fun i v => True) (fun i acc H4 => Same H H4) (by omega) (same_new hD) (fun i acc H4 pv => sqT_up ht pv) (fun i H1 v H2 hi y => ⟨y.1, trivial⟩) (fun i v acc H4 hi hl pv e5 _ Q q => ?_) (fun acc H6 hl4 pv e6 => ?_)
    · refine ⟨lenOk (n := 1) rfl (by decide), fun t1 ht1 => ?_⟩
      have s1 := same_new (o := .tup [V.int 0]) ht1
      exact q _ _ (s1 _ _ e5) (same_mut (pv.trans s1) hD)
    refine ⟨D, _, rfl, .inl ⟨SqL.of e6, fun t2 ht2 => ?_⟩⟩
    have s2 := same_new (o := .tup acc) ht2
    have s02 := pv.trans s2
    refine ⟨r, t, t2, xs, ys, rfl, sqT_up hx s02, sqT_up ht s02, .inl ⟨d, hbad, fun dz H3 s3 n3 e3 => ?_⟩⟩
    refine ⟨T.x_TooMany.te, fun z hz => ?_⟩
    refine ⟨_, rfl, rfl, rfl, dz, _, _, rfl, e3, rfl, d, rfl, _, rfl, ifT rfl ?_⟩
    refine ⟨_, rfl, rfl, rfl, dz, _, _, rfl, e3, rfl, _, rfl, rfl, _, rfl, ifT (decide_eq_true rfl) ?_⟩
    refine ⟨_, rfl, dz, rfl, rfl, .ref A.c_NoFit, .ref A.c_NoFit, false, _, rfl, fun _ h => h, T.k_TooMany_NoFit, e3, _, rfl, ?_⟩
    exact q _ (s02.trans s3)
theorem ok_law_asked (T : Txt K mg A) : FnOk P w K mg base CX0 10 A.a_law_asked A.d_law_asked ["_law_lot_here", "_law_firsts_here"] (spAskC K) := by
  refine T.F_law_asked.ok sc_law_asked (fun vs H Q E h => ?_) (fun cdv B outer s H vs Q E hr h => ?_)
  · obtain ⟨a, d, ss, ths, chs, kvs, rfl, _⟩ := h
    rfl
  · obtain ⟨a, d, ss, ths, chs, kvs, rfl, hlot, hd, fk, q⟩ := h
    refine ⟨_, (pss_cons (ps_set (i := 2) sc_law_asked.nd rfl (.inl rfl) (pe_call (ok_corners T) (hr.mono (by omega)) rfl T.g_corners T.F_corners.kp T.b_corners .nil passN (pa_cons (pe_ix ix_tup (pv 0) pe_int (fun _ _ => rfl)) (pa_cons (pe_ix ix_tup (pv 0) pe_int (fun _ _ => rfl)) (pa_cons (pe_ix ix_tup (pv 0) pe_int (fun _ _ => rfl)) pa_nil)))))
    (pss_cons (ps_if (pt_not (pt_val (pe_callB call_isi (by rfl) T.n_isinstance (by decide +kernel) (pa_cons (pv 2) (pa_cons (pe_bltn (v := .ty "tuple") (u := .type "tuple") (by rfl) T.n_tuple (by decide +kernel) rfl) pa_nil))))) (pss_one (ps_ret pe_bl)) pss_nil)
    (pss_cons (ps_for PassesOwn.never rfl (pi_tup (pv 2)) (pg_name (i := 3) sc_law_asked.nd rfl (.inl rfl))
      (pss_one (ps_if (pt_not (pt_val (pe_call (ok_law_is_corner T) (hr.mono (by omega)) rfl T.g_law_is_corner T.F_law_is_corner.kp T.b_law_is_corner .nil pass0 (pa_cons (pv 3) (pa_cons (pe_ix ix_tup (pv 0) pe_int (fun _ _ => rfl)) (pa_cons (pv 1) pa_nil)))))) (pss_one (ps_ret pe_bl)) pss_nil)))
    (pss_cons (ps_for PassesOwn.never rfl (pi_range1 (by rfl) T.n_range (pa_cons (pe_op op_sub (pe_callB len_seq (by rfl) T.n_len (by decide +kernel) (pa_cons (pv 2) pa_nil)) pe_int) pa_nil)) (pg_name (i := 4) sc_law_asked.nd rfl (.inl rfl))
      (pss_one (ps_if (pt_not (pt_cmpR (op_ltT hr.units0) (pe_ix ix_tup (pe_ix ix_tup (pv 2) (pv 4) (fun _ _ => rfl)) pe_int (fun _ _ => rfl)) (pe_ix ix_tup (pe_ix ix_tup (pv 2) (pe_op op_add (pv 4) pe_int) (fun _ _ => rfl)) pe_int (fun _ _ => rfl)) (nomark _))) (pss_one (ps_ret pe_bl)) pss_nil)))
    (pss_cons (ps_lock (ps_for PassesOwn.never rfl (pi_keys (pv 1)) (pg_name (i := 5) sc_law_asked.nd rfl (.inr rfl))
      (pss_one (ps_if (pt_not (pt_val (pe_callB (cr_any rfl) (by rfl) T.n_any (by decide +kernel) (pa_cons (pe_lc (own := [("_law_pair", 3)]) rfl sc_law_asked.nd (pi_tup (pv 2)) (blkOk_by (own := [("_law_pair", 3)]) (N := N_law_asked) (sc := defScope s_law_asked) (by decide +kernel)) (fun _ _ _ _ _ => pg_name (i := 3) sc_law_asked.nd rfl (Or.inl rfl)) (fun _ _ _ _ _ => pts_nil) (fun _ _ _ _ _ => by exact (pe_call (ok_law_at_most T) (hr.mono (by omega)) rfl T.g_law_at_most T.F_law_at_most.kp T.b_law_at_most .nil pass0 (pa_cons (pe_ix (r := rIxT K) ix_tup (pv 3) pe_int (fun _ _ => rfl)) (pa_cons (pv 5) pa_nil))))) pa_nil)))) (pss_one (ps_ret pe_bl)) pss_nil))))
    (pss_one (ps_ret pe_bl))))))), ?_⟩
    obtain ⟨sa, t, c, h1, h2, h3, h4, hcl, hl5, hc3, hs6⟩ := id hlot
    obtain ⟨⟨txs, tx1, tx2, tx3⟩, tx4⟩ := id h3
    have hil := intV_len ss
    have hbn : badC (intV ss).length txs.length = none := by
      unfold badC
      rw [if_neg (by omega), if_neg (by omega)]
    refine ⟨_, rfl, a, _, 0, _, rfl, rfl, h1, atI_nat (j := 0) rfl, _, rfl, a, _, 1, _, rfl, rfl, h1, atI_nat (j := 1) rfl, _, rfl, a, _, 2, _, rfl, rfl, h1, atI_nat (j := 2) rfl, ?_⟩
    refine ⟨sa, t, c, intV ss, txs, rfl, h2, tx1, .inr ⟨hbn, ss, ths, chs, rfl, h3, h4, hcl, hl5, hc3, fun H1 r ps keys cs s1 hrt lk crn hkeys => ?_⟩⟩
    have hpl := lk.1
    have hcn : ∀ k ∈ cs, k.length = ss.length := fun k hk => by
      obtain ⟨q0, _, hc0⟩ := (hkeys k).mp (crn.sub k hk)
      rw [← hc0, lenP_len]
    have hcsl : cs.length ≤ 1000 := by
      have hnd : cs.Nodup := crn.asc.imp fun {a b} (h : HT.lexLt a b = true) e => by
        rw [e] at h
        have := (SrtO.Swo.refl (DT.swo_key (fun _ => b)) Value.none)
        rw [h] at this
        cases this
      have hsub : ∀ x ∈ cs, x ∈ (leaP ths ss chs ss.length).map (lenP ths ss) := fun x hx => by
        obtain ⟨q0, h0, hc0⟩ := (hkeys x).mp (crn.sub x hx)
        exact List.mem_map.mpr ⟨q0, h0, hc0⟩
      have := nd_len _ _ hnd hsub
      rw [List.length_map] at this
      have hLl : (leaP ths ss chs ss.length).length ≤ 243 := by
        show ((dls chs).map _).length ≤ 243
        rw [List.length_map]
        exact Nat.le_trans (dls_len chs.length chs rfl hc3).1 (pow35 hl5)
      omega
    have hd1 := s1 _ _ hd
    have fk1 := fk.up fun p q => (NL.of s1).fdE
    have h11 := sqT_up h1 s1
    have h21 := sqT_up h2 s1
    refine ⟨_, rfl, .ref r, .ty "tuple", _, _, true, rfl, .ty "tuple", sq_ty hrt, kit_tt, _, rfl, ifF rfl ?_⟩
    refine ⟨_, rfl, r, rfl, ⟨_, hrt⟩, ?_⟩
    refine for_it (walk_tup (K := K) (a := r) (xs := ps)) (fun i σ Hc => ∃ o3, σ = [some (.ref a), some (.ref d), some (.ref r), o3, none, none] ∧ Same H1 Hc) ⟨_, rfl, Same.refl _⟩ (fun i σ Hc _ y => ?_) (fun i x σ Hc Hd hi y e => ?_) (fun σ Hc y => ?_)
    · obtain ⟨_, _, sm⟩ := y
      exact sqT_up hrt sm
    · obtain ⟨rfl, e⟩ := e
      obtain ⟨o3, rfl, sm⟩ := y
      rw [hpl] at hi
      obtain ⟨pp, rfl, co⟩ := (lk.up fun p a => (NL.of sm).coE).get hi e
      have hcm := List.getElem_mem hi
      generalize cs[i] = k at *
      refine ⟨_, rfl, _, rfl, a, _, 0, _, rfl, rfl, sqT_up h11 sm, atI_nat (j := 0) rfl, _, rfl, ?_⟩
      refine ⟨pp, sa, d, ss, ths, chs, kvs, allP chs ss.length, k, rfl, co, sqT_up h21 sm, sm _ _ hd1, fk1.up (fun p q => (NL.of sm).fdE), hs6, Nat.le_trans (allP_le hl5 hc3 _) (by decide), find_same (dls chs) (crn_min crn hkeys hcm), crn_min crn hkeys hcm, allP_sz hl5 hc3 hs6, fun H' s' => ⟨_, rfl, ifF rfl ⟨_, rfl, sm.trans s'⟩⟩⟩
    obtain ⟨o3, rfl, sm⟩ := y
    refine ⟨_, rfl, r, _, rfl, .inr (sqT_up hrt sm), _, _, rfl, rfl, _, rfl, by omega, by omega, ?_⟩
    refine for_it (walk_range (lo := 0) (n := ((ps.length : Int) - 1).toNat)) (fun i σ Hc => ∃ o3 o4, σ = [some (.ref a), some (.ref d), some (.ref r), o3, o4, none] ∧ Same H1 Hc) ⟨_, _, rfl, sm⟩ (fun _ _ _ _ _ => trivial) (fun i x σ Hc Hd hi y e => ?_) (fun σ Hc y => ?_)
    · obtain ⟨rfl, ex⟩ := e
      have ex : x = .int (i : Int) := by rw [ex]; exact congrArg V.int (by omega)
      subst ex
      obtain ⟨o3, o4, rfl, sm⟩ := y
      have hi1 : i < cs.length := by omega
      have hi2 : i + 1 < cs.length := by omega
      have lkd := lk.up fun p a => (NL.of sm).coE
      obtain ⟨p1, e1, lt1, x1, q1, a1, a2, _⟩ := lkd.2 i cs[i] (List.getElem?_eq_getElem hi1)
      obtain ⟨p2, e2, lt2, x2, q2, b1, b2, _⟩ := lkd.2 (i + 1) cs[i + 1] (List.getElem?_eq_getElem hi2)
      have hlx : HT.lexLt cs[i] cs[i + 1] = true := List.pairwise_iff_getElem.mp crn.asc i (i + 1) hi1 hi2 (Nat.lt_succ_self i)
      have hi3 : ((i : Nat) : Int) + 1 = ((i + 1 : Nat) : Int) := by omega
      refine ⟨_, rfl, _, rfl, r, _, _, _, rfl, rfl, sqT_up hrt sm, atI_nat e1, p1, _, 0, _, rfl, rfl, a1, atI_nat (j := 0) rfl, _, rfl, _, rfl, _, _, rfl, rfl, r, _, _, _, rfl, rfl, sqT_up hrt sm, by rw [hi3]; exact atI_nat e2, p2, _, 0, _, rfl, rfl, b1, atI_nat (j := 0) rfl, lt1, lt2, _, _, rfl, rfl, SqT.of a2, SqT.of b2, _, rfl, ifF (by rw [hlx]; rfl) ⟨_, _, rfl, sm⟩⟩
    obtain ⟨o3', o4, rfl, sm2⟩ := y
    have hdc := sm2 _ _ hd1
    refine ⟨d, .dT kvs, hdc, trivial, fun od => ⟨_, rfl, d, od, rfl, .inr ⟨kvs, upd_same, ?_⟩⟩⟩
    have lkF := (lk.up fun p a => (NL.of sm2).coE).up fun p a => (NL.putT (o := .frz od (.dT kvs)) hdc).coE
    have hrF := (NL.putT (o := .frz od (.dT kvs)) hdc).sq (sqT_up hrt sm2)
    have hdF : upd Hc d (.frz od (.dT kvs)) d = some (.frz od (.dT kvs)) := upd_same
    have hback : ∀ {H' : Hp}, Same (upd Hc d (.frz od (.dT kvs))) H' → Same Hc (upd H' d (.dT kvs)) := fun s => same_lock hdc s
    generalize upd Hc d (.frz od (.dT kvs)) = HF at *
    obtain ⟨Ks, g1, g2, g3, g4, g5⟩ := fk.keys
    refine for_it walk_keysT (fun i σ Hc => ∃ o3 o4 o5, σ = [some (.ref a), some (.ref d), some (.ref r), o3, o4, o5] ∧ Same HF Hc) ⟨_, _, _, rfl, Same.refl _⟩ (fun i σ Hc _ y => ?_) (fun i x σ Hc Hd hi y e => ?_) (fun σ Hc y => ?_)
    · obtain ⟨_, _, _, _, sm⟩ := y
      exact sm _ _ hdF
    · obtain ⟨rfl, kk, u0, qa, hkv, rfl, hqa⟩ := e
      obtain ⟨o3, o4, o5, rfl, sm⟩ := y
      have hiK : i < Ks.length := by omega
      have hkk : kk = keyI Ks[i] := by
        have h1 : (kvs.map (·.1))[i]? = some kk := by rw [List.getElem?_map, hkv]; rfl
        rw [g1, List.getElem?_map, List.getElem?_eq_getElem hiK] at h1
        exact (Option.some.inj h1).symm
      subst hkk
      have hkm := List.getElem_mem hiK
      generalize Ks[i] = k2 at *
      rw [keyI_kV] at hqa
      obtain ⟨q2, hq2, hk2⟩ := (g5 k2).mp hkm
      have hk2l : k2.length = ss.length := by rw [← hk2]; exact lenP_len _ _ _
      refine ⟨_, rfl, r, rfl, ⟨_, sqT_up hrF sm⟩, fun D hD => ?_⟩
      refine lc_vals (walk_tup (K := K) (a := r) (xs := ps)) (k := 3) (fun i v => ps[i]? = some v) (fun i => .bl (leI (cs.getD i []) k2)) hD (fun H4 s4 => sqT_up hrF (sm.trans s4)) (by omega) (fun i H1 v H2 hi y => ⟨y.1, y.2⟩) (fun i v H4 hi s4 hv Q q => ?_) (fun H4 s4 e4 => ?_)
      · rw [hpl] at hi
        obtain ⟨pp, rfl, lt1, x1, q1, a1, a2, _⟩ := (lkF.up fun p a => (NL.of (sm.trans s4)).coE).get hi hv
        have hg : cs.getD i [] = cs[i] := by rw [List.getD_eq_getElem?_getD, List.getElem?_eq_getElem hi]; rfl
        have hcl2 := hcn _ (List.getElem_mem hi)
        rw [hg] at q
        exact ⟨_, rfl, pp, _, 0, _, rfl, rfl, a1, atI_nat (j := 0) rfl, _, rfl, lt1, qa, cs[i], k2, rfl, SqT.of a2, SqT.of (s4 _ _ hqa), by rw [hcl2, hk2l], by omega, fun H' s' => q _ s'⟩
      have hany : ((List.range ps.length).map fun i => leI (cs.getD i []) k2).any id = true := by
        rw [hpl, range_getD (fun c => leI c k2) [] cs, List.any_map]
        obtain ⟨c0, hc0, l0⟩ := crn_cov crn hkeys hq2
        rw [hk2] at l0
        exact List.any_eq_true.mpr ⟨c0, hc0, l0⟩
      refine ⟨D, (List.range ps.length).map fun i => leI (cs.getD i []) k2, rfl, SqL.of (by rw [e4, List.map_map]; rfl), _, rfl, ?_⟩
      rw [hany]
      exact ifF rfl ⟨_, _, _, rfl, sm.trans s4⟩
    obtain ⟨o3, o4, o5, rfl, sm⟩ := y
    exact ⟨sm _ _ hdF, q _ (s1.trans (sm2.trans (hback sm)))⟩
end
end R1

set_option maxHeartbeats 20000000
namespace R1
open PySem PySem.Spec PyProof.Rows L2 RK PT
local macro_rules | `(tactic| walk_at "sq") => `(tactic| first
  | exact SqL.of upd_same | exact upd_same | exact SqL.of (by assumption) | exact SqL.of (by rw [upd_ne (by assumption)]; assumption) | assumption)
local macro_rules | `(tactic| walk_at "sd") => `(tactic| first
  | assumption | omega | (refine Or.inl ⟨?_, ?_⟩ <;> omega) | (show _ ∧ _; constructor <;> omega) | (show _ ≠ _; simp; omega) | (exact Or.inl ⟨by decide, by decide⟩) | (exact Or.inr ⟨by decide, by decide⟩) | (show _ < _; decide) | (show _ ≤ _; decide))
local macro_rules | `(tactic| walk_at "at") => `(tactic| first | rfl | (refine atI_intV ?_ ?_ <;> omega) | assumption)
local macro_rules | `(tactic| walk_at "s1") => `(tactic| first
  | refine ⟨_, rfl, ?_⟩ | refine ⟨_, _, rfl, rfl, ?_⟩ | refine ⟨rfl, ?_⟩
  | refine ⟨_, _, _, _, rfl, rfl, by walk_at "sq", by walk_at "at", ?_⟩
  | refine Or.inl ⟨_, rfl, ?_⟩
  | refine ⟨_, _, rfl, Or.inl (by walk_at "sq"), ?_⟩
  | refine And.intro (by walk_at "sd") ?_)
local macro_rules | `(tactic| walk_at "s") => `(tactic| repeat walk_at "s1")

theorem ls_ne {α : Type} {E : Hp → Addr → α → Prop} {c p l : Addr} {H : Hp} {xs : List V} {qs : List α} (hs : Src c H p) (e : H l = some (.lst xs)) (h : LsK E H xs qs) : l ≠ p := fun z => by
  obtain ⟨_, _, _, _, _, y, _⟩ := hs
  subst z
  rw [e] at y
  have := HO.lst.inj (Option.some.inj y)
  subst this
  have hl : qs.length = 5 := h.1.symm
  obtain ⟨p0, ep0, _⟩ := h.2 1 (qs[1]'(by omega)) (List.getElem?_eq_getElem _)
  cases ep0
theorem allP_l2 {chs : List (List Nat)} {nr : Nat} : ∀ q ∈ allP chs nr, q.2.length = nr := fun q hq => by
  obtain ⟨dl, _, hq⟩ := List.mem_flatMap.mp hq
  obtain ⟨os, hos, rfl⟩ := List.mem_map.mp hq
  exact rwP_len nr hos
section
variable {P : Program} {w : World} {K : PySem.W.Frag} {mg : Str → Option Value} {base : Heap} {A : Ads}
def spLaw (K : PySem.W.Frag) : Sp := fun vs H Q _ => ∃ (a : Addr) (ns : List Int), vs = [.ref a] ∧ SqL K H a (ns.map V.int) ∧ ns.length ≤ 63 ∧ ∀ H', Q (.bl true) H'
theorem ok_law (T : Txt K mg A) : FnOk P w K mg base CX0 14 A.a_law A.d_law ["_law_script"] (spLaw K) := by
  refine T.F_law.ok sc_law (fun vs H Q E h => ?_) (fun cdv B outer s H vs Q E hr h => ?_)
  · obtain ⟨a, ns, rfl, _⟩ := h
    rfl
  · obtain ⟨a, ns, rfl, hS, hl, q⟩ := h
    refine ⟨_, (pss_cons (ps_set (i := 1) sc_law.nd rfl (.inr rfl) (pe_call (ok_law_source T) (hr.mono (by omega)) rfl T.g_law_source T.F_law_source.kp T.b_law_source .nil pass0 (pa_cons (pv 0) pa_nil)))
    (pss_cons (ps_set (i := 2) sc_law.nd rfl (.inl rfl) (pe_call (ok_law_lot T) (hr.mono (by omega)) rfl T.g_law_lot T.F_law_lot.kp T.b_law_lot .nil pass0 (pa_cons (pv 1) (pa_cons pe_int pa_nil))))
    (pss_cons (ps_set (i := 3) sc_law.nd rfl (.inl rfl) (pe_call (ok_law_firsts T) (hr.mono (by omega)) rfl T.g_law_firsts T.F_law_firsts.kp T.b_law_firsts .nil pass0 (pa_cons (pe_ix ix_tup (pv 2) pe_int (fun _ _ => rfl)) (pa_cons (pe_call (ok_law_packings T) (hr.mono (by omega)) rfl T.g_law_packings T.F_law_packings.kp T.b_law_packings .nil pass0 (pa_cons (pe_ix ix_tup (pv 2) pe_int (fun _ _ => rfl)) (pa_cons (pe_ix ix_tup (pv 2) pe_int (fun _ _ => rfl)) (pa_cons (pe_ix ix_tup (pv 2) pe_int (fun _ _ => rfl)) pa_nil)))) pa_nil))))
    (pss_cons (ps_set (i := 4) sc_law.nd rfl (.inl rfl) (pe_call (ok_law_lot T) (hr.mono (by omega)) rfl T.g_law_lot T.F_law_lot.kp T.b_law_lot .nil pass0 (pa_cons (pv 1) (pa_cons pe_int pa_nil))))
    (pss_cons (ps_set (i := 5) sc_law.nd rfl (.inl rfl) (pe_call (ok_law_firsts T) (hr.mono (by omega)) rfl T.g_law_firsts T.F_law_firsts.kp T.b_law_firsts .nil pass0 (pa_cons (pe_ix ix_tup (pv 4) pe_int (fun _ _ => rfl)) (pa_cons (pe_call (ok_law_packings T) (hr.mono (by omega)) rfl T.g_law_packings T.F_law_packings.kp T.b_law_packings .nil pass0 (pa_cons (pe_ix ix_tup (pv 4) pe_int (fun _ _ => rfl)) (pa_cons (pe_ix ix_tup (pv 4) pe_int (fun _ _ => rfl)) (pa_cons (pe_ix ix_tup (pv 4) pe_int (fun _ _ => rfl)) pa_nil)))) pa_nil))))
    (pss_cons (ps_if (PW.pt (pw_or (pt_not (pt_val (pe_call (ok_law_asked T) (hr.mono (by omega)) rfl T.g_law_asked T.F_law_asked.kp T.b_law_asked .nil pass0 (pa_cons (pv 2) (pa_cons (pv 3) pa_nil))))) (pw_or (pt_not (pt_val (pe_call (ok_law_asked T) (hr.mono (by omega)) rfl T.g_law_asked T.F_law_asked.kp T.b_law_asked .nil pass0 (pa_cons (pv 4) (pa_cons (pv 5) pa_nil))))) (pw_or1 (pt_not (pt_val (pe_call (ok_law_asked T) (hr.mono (by omega)) rfl T.g_law_asked T.F_law_asked.kp T.b_law_asked .nil pass0 (pa_cons (pv 2) (pa_cons (pv 3) pa_nil))))))))) (pss_one (ps_ret pe_bl)) pss_nil)
    (pss_cons (ps_set (i := 7) sc_law.nd rfl (.inl rfl) (pe_callTy tuple_of (by rfl) T.n_tuple (by decide +kernel) (pa_cons (pe_lc (own := [("_law_k", 6)]) rfl sc_law.nd (pi_range1 (by rfl) T.n_range (pa_cons pe_int pa_nil)) (blkOk_by (own := [("_law_k", 6)]) (N := N_law) (sc := defScope s_law) (by decide +kernel)) (fun _ _ _ _ _ => pg_name (i := 6) sc_law.nd rfl (Or.inl rfl)) (fun _ _ _ _ _ => pts_nil) (fun _ _ _ _ _ => by exact (pe_tup (pa_cons (pe_call (ok_law_draw T) (hr.mono (by omega)) rfl T.g_law_draw T.F_law_draw.kp T.b_law_draw .nil pass0 (pa_cons (pv 1) (pa_cons pe_int pa_nil))) (pa_cons pe_int pa_nil))))) pa_nil)))
    (pss_cons (ps_set (i := 8) sc_law.nd rfl (.inl rfl) (pe_callTy tuple_of (by rfl) T.n_tuple (by decide +kernel) (pa_cons (pe_lc (own := [("_law_k", 6)]) rfl sc_law.nd (pi_range1 (by rfl) T.n_range (pa_cons pe_int pa_nil)) (blkOk_by (own := [("_law_k", 6)]) (N := N_law) (sc := defScope s_law) (by decide +kernel)) (fun _ _ _ _ _ => pg_name (i := 6) sc_law.nd rfl (Or.inl rfl)) (fun _ _ _ _ _ => pts_nil) (fun _ _ _ _ _ => by exact (pe_op op_mul pe_int (pv 6)))) pa_nil)))
    (pss_cons (ps_if (PW.pt (pw_or (pt_not (pt_val (pe_call (ok_law_refused T) (hr.mono (by omega)) rfl T.g_law_refused T.F_law_refused.kp T.b_law_refused .nil pass0 (pa_cons (pe_slice sl_tupA (pv 8) po_none (po_some pe_int)) (pa_cons (pv 7) (pa_cons pe_int pa_nil)))))) (pw_or1 (pt_not (pt_val (pe_call (ok_law_refused T) (hr.mono (by omega)) rfl T.g_law_refused T.F_law_refused.kp T.b_law_refused .nil pass0 (pa_cons (pv 8) (pa_cons (pe_slice sl_tupA (pv 7) po_none (po_some pe_int)) (pa_cons pe_int pa_nil))))))))) (pss_one (ps_ret pe_bl)) pss_nil)
    (pss_one (ps_ret (pe_call (ok_law_refused T) (hr.mono (by omega)) rfl T.g_law_refused T.F_law_refused.kp T.b_law_refused .nil pass0 (pa_cons (pv 8) (pa_cons (pv 7) (pa_cons pe_int pa_nil))))))))))))))), ?_⟩
    refine ⟨_, rfl, a, ns, rfl, hS, hl, fun H1 c p s1 nc np hs1 => ?_⟩
    refine ⟨_, rfl, c, p, 4, rfl, hs1, by decide, fun H2 a1 ss ths chs lot hs2 b2 => ?_⟩
    obtain ⟨sa, ta, ca, h1, h2, h3, h4, hcl, hl5, hc3, hs6⟩ := id lot
    refine ⟨_, rfl, a1, _, 0, _, rfl, rfl, h1, atI_nat (j := 0) rfl, _, rfl, a1, _, 0, _, rfl, rfl, h1, atI_nat (j := 0) rfl, _, rfl, a1, _, 1, _, rfl, rfl, h1, atI_nat (j := 1) rfl, _, rfl, a1, _, 2, _, rfl, rfl, h1, atI_nat (j := 2) rfl, sa, ta, ca, ss, ths, chs, rfl, h2, h3, h4, hcl, hl5, hc3, hs6, fun H3 fa fxs s3 e3 lk3 => ?_⟩
    refine ⟨sa, fa, ss, ths, fxs, _, rfl, sqT_up h2 s3, e3, lk3, allP_l2, Nat.le_trans (allP_le hl5 hc3 _) (by decide), hs6, fun H4 da kvs s4 nda eda fk4 => ?_⟩
    have hs3 := src_up hs2 s3
    have hs4 := src_up hs3 s4
    have hda : da ≠ p := fun z => src_ne hs3 (z ▸ nda)
    have lot4 := (NL.of (s3.trans s4)).lot lot
    clear h1 h2 h3 h4 hcl hl5 hc3 hs6 lk3 e3 s3 s4 lot hs3 hs2 hs1 b2 nda
    -- the second lot
    refine ⟨_, rfl, c, p, 2, rfl, hs4, by decide, fun H6 a2 ss2 ths2 chs2 lotB hs6' b6 => ?_⟩
    have n46 := NL.but hs4 b6
    obtain ⟨sa2, ta2, ca2, h1, h2, h3, h4, hcl, hl5, hc3, hs6⟩ := id lotB
    refine ⟨_, rfl, a2, _, 0, _, rfl, rfl, h1, atI_nat (j := 0) rfl, _, rfl, a2, _, 0, _, rfl, rfl, h1, atI_nat (j := 0) rfl, _, rfl, a2, _, 1, _, rfl, rfl, h1, atI_nat (j := 1) rfl, _, rfl, a2, _, 2, _, rfl, rfl, h1, atI_nat (j := 2) rfl, sa2, ta2, ca2, ss2, ths2, chs2, rfl, h2, h3, h4, hcl, hl5, hc3, hs6, fun H7 fa2 fxs2 s7 e7 lk7 => ?_⟩
    refine ⟨sa2, fa2, ss2, ths2, fxs2, _, rfl, sqT_up h2 s7, e7, lk7, allP_l2, Nat.le_trans (allP_le hl5 hc3 _) (by decide), hs6, fun H8 db kvs2 s8 ndb edb fk8 => ?_⟩
    have s78 := s7.trans s8
    have n48 := n46.trans (NL.of s78)
    have hs8 := src_up hs6' s78
    have lotB8 := (NL.of s78).lot lotB
    have lot8 := n48.lot lot4
    have eda8 := s78 _ _ (b6 _ _ hda eda)
    have fkA := fk4.up fun p q => n48.fdE
    clear h1 h2 h3 h4 hcl hl5 hc3 hs6 lk7 e7 s7 s8 s78 lotB n46 n48 b6 hs6' ndb lot4 fk4 eda hs4
    -- asked
    refine ⟨_, rfl, _, rfl, a1, da, ss, ths, chs, kvs, rfl, lot8, eda8, fkA, fun H9 s9 => ⟨_, rfl, ifF rfl ?_⟩⟩
    refine ⟨_, rfl, _, rfl, a2, db, ss2, ths2, chs2, kvs2, rfl, (NL.of s9).lot lotB8, s9 _ _ edb, fk8.up (fun p q => (NL.of s9).fdE), fun H10 s10 => ⟨_, rfl, ifF rfl ?_⟩⟩
    have s910 := s9.trans s10
    refine ⟨_, rfl, _, rfl, a1, da, ss, ths, chs, kvs, rfl, (NL.of s910).lot lot8, s910 _ _ eda8, fkA.up (fun p q => (NL.of s910).fdE), fun H12 s12 => ⟨_, rfl, ifF rfl ?_⟩⟩
    have hs12 := src_up hs8 (s910.trans s12)
    clear lot8 lotB8 fkA fk8 eda8 edb s9 s10 s910 s12 hs8 hda
    -- too many
    refine ⟨6, rfl, by decide, by decide, fun D hD => ?_⟩
    have npD : D ≠ p := fun z => src_ne hs12 (z ▸ hD)
    have ncD : D ≠ c := fun z => src_cne hs12 (z ▸ hD)
    refine lc_inv (walk_range (lo := 0) (n := 6)) (fun i v => True) (fun i acc H4 => Src c H4 p) (by decide) (src_up hs12 (same_new hD)) (fun _ _ _ _ => trivial) (fun i H1 v H2 hi y => ⟨y.1, trivial⟩) (fun i v acc H4 hi hl pv e5 _ Q q => ?_) (fun ys H13 hl4 hs13 e13 => ?_)
    · refine ⟨_, rfl, c, p, 4, rfl, pv, by decide, by decide, fun H7 r lr hs7 b7 => ⟨lenOk (n := 2) rfl (by decide), fun t ht => ?_⟩⟩
      have st := same_new (o := .tup [V.int (r : Int), V.int 1]) ht
      exact q _ _ (st _ _ (b7 _ _ npD e5)) (src_put (src_up hs7 st) npD ncD)
    refine ⟨D, _, rfl, .inl ⟨SqL.of e13, fun ty hty => ?_⟩⟩
    have s14 := same_new (o := .tup ys) hty
    have e14 : SqT K (upd H13 ty (.tup ys)) ty ys := SqT.of upd_same
    generalize upd H13 ty (.tup ys) = H14 at s14 e14 ⊢
    refine ⟨7, rfl, by decide, by decide, fun D2 hD2 => ?_⟩
    refine lc_vals (walk_range (lo := 0) (n := 7)) (fun i v => v = .int (0 + (i : Int))) (fun i => .int (60 * (i : Int))) hD2 (fun _ _ => trivial) (by decide) (fun i H1 v H2 hi y => ⟨y.1, y.2⟩) (fun i v H4 hi sm hv Q q => ?_) (fun H15 s15 e15 => ?_)
    · subst hv
      refine ⟨_, rfl, _, _, rfl, rfl, .inl ⟨by omega, by omega⟩, ?_⟩
      dsimp only
      rw [show (60 : Int) * (0 + (i : Int)) = 60 * (i : Int) by omega]
      exact q _ (Same.refl _)
    obtain ⟨acc, hac⟩ : ∃ acc, acc = (List.range 7).map fun (i : Nat) => V.int (60 * (i : Int)) := ⟨_, rfl⟩
    have hal : acc.length = 7 := by rw [hac]; rfl
    rw [← hac] at e15
    refine ⟨D2, _, rfl, .inl ⟨SqL.of e15, fun tr htr => ?_⟩⟩
    have s16 := same_new (o := .tup acc) htr
    have e16 : SqT K (upd H15 tr (.tup acc)) tr acc := SqT.of upd_same
    generalize upd H15 tr (.tup acc) = H16 at s16 e16 ⊢
    have e16y := sqT_up e14 (s15.trans s16)
    have bad5 : badC 7 6 = some 5 := rfl
    have bad1 : badC 1 6 = some 5 := rfl
    have bad6 : badC 7 5 = some 6 := rfl
    unfold tNoPart
    refine ⟨_, rfl, _, rfl, slA_of e16 fun t17 H17 s17 e17 => ?_⟩
    rw [show cutV acc none (some (1 : Int)) = acc.take 1 from cutV_hi (xs := acc) 1] at e17
    refine ⟨_, rfl, t17, ty, 5, acc.take 1, ys, rfl, e17, sqT_up e16y s17, by rw [List.length_take, hal, hl4]; exact bad1, by omega, fun H18 s18 => ⟨_, rfl, ifF rfl ?_⟩⟩
    have s1618 := s17.trans s18
    refine ⟨_, rfl, _, rfl, _, rfl, slA_of (sqT_up e16y s1618) fun t19 H19 s19 e19 => ?_⟩
    rw [show cutV ys none (some (5 : Int)) = ys.take 5 from cutV_hi (xs := ys) 5] at e19
    have s1619 := s1618.trans s19
    refine ⟨tr, t19, 6, acc, _, rfl, sqT_up e16 s1619, e19, by rw [List.length_take, hal, hl4]; exact bad6, by rw [List.length_take]; omega, fun H20 s20 => ⟨_, rfl, ifF rfl ?_⟩⟩
    have s1620 := s1619.trans s20
    exact ⟨_, rfl, _, rfl, tr, ty, 5, acc, ys, rfl, sqT_up e16 s1620, sqT_up e16y s1620, by rw [hal, hl4]; exact bad5, by omega, fun H21 _ => q H21⟩
end
/-! ### what the top has left; the end -/
theorem all_mk {l : PySem.W.OpenLaw} {w : World} {K : PySem.W.Frag} {h : Heap} {mg : Str → Option Value} {fa f1 f2 f3 f4 f5 f6 f7 f8 f9 f10 f11 f12 f13 f14 f15 f16 f17 f18 f19 f20 f21 f22 f23 f24 f25 f26 f27 f28 f29 f30 f31 f32 f33 f34 f35 f36 C_TooMany C_NoFit C_Packing : Addr} (X : K.In h) (G : h.Ns mainGlobals mg) (hfa : mg "law" = some (.ref fa))
    {od1 an1 od2 an2 od3 an3 od4 an4 od5 an5 od6 an6 od7 an7 od8 an8 od9 an9 od10 an10 od11 an11 od12 an12 od13 an13 od14 an14 od15 an15 od16 an16 od17 an17 od18 an18 od19 an19 od20 an20 od21 an21 od22 an22 od23 an23 od24 an24 od25 an25 od26 an26 od27 an27 od28 an28 od29 an29 od30 an30 od31 an31 od32 an32 od33 an33 od34 an34 od35 an35 od36 an36 : Option Addr} {sl1 sl2 sl3 sl4 sl5 sl6 sl7 sl8 sl9 sl10 sl11 sl12 sl13 sl14 sl15 sl16 sl17 sl18 sl19 sl20 sl21 sl22 sl23 sl24 sl25 sl26 sl27 sl28 sl29 sl30 sl31 sl32 sl33 sl34 sl35 sl36 : Array (Option Value)} {oc1 kV1 dc1 pm1 cd1 ct1 oc2 kV2 dc2 pm2 cd2 ct2 oc3 kV3 dc3 pm3 cd3 ct3 oc4 kV4 dc4 pm4 cd4 ct4 oc5 kV5 dc5 pm5 cd5 ct5 oc6 kV6 dc6 pm6 cd6 ct6 oc7 kV7 dc7 pm7 cd7 ct7 oc8 kV8 dc8 pm8 cd8 ct8 oc9 kV9 dc9 pm9 cd9 ct9 oc10 kV10 dc10 pm10 cd10 ct10 oc11 kV11 dc11 pm11 cd11 ct11 oc12 kV12 dc12 pm12 cd12 ct12 oc13 kV13 dc13 pm13 cd13 ct13 oc14 kV14 dc14 pm14 cd14 ct14 oc15 kV15 dc15 pm15 cd15 ct15 oc16 kV16 dc16 pm16 cd16 ct16 oc17 kV17 dc17 pm17 cd17 ct17 oc18 kV18 dc18 pm18 cd18 ct18 oc19 kV19 dc19 pm19 cd19 ct19 oc20 kV20 dc20 pm20 cd20 ct20 oc21 kV21 dc21 pm21 cd21 ct21 oc22 kV22 dc22 pm22 cd22 ct22 oc23 kV23 dc23 pm23 cd23 ct23 oc24 kV24 dc24 pm24 cd24 ct24 oc25 kV25 dc25 pm25 cd25 ct25 oc26 kV26 dc26 pm26 cd26 ct26 oc27 kV27 dc27 pm27 cd27 ct27 oc28 kV28 dc28 pm28 cd28 ct28 oc29 kV29 dc29 pm29 cd29 ct29 oc30 kV30 dc30 pm30 cd30 ct30 oc31 kV31 dc31 pm31 cd31 ct31 oc32 kV32 dc32 pm32 cd32 ct32 oc33 kV33 dc33 pm33 cd33 ct33 oc34 kV34 dc34 pm34 cd34 ct34 oc35 kV35 dc35 pm35 cd35 ct35 oc36 kV36 dc36 pm36 cd36 ct36 : Value}
    {nm_TooMany qq_TooMany : Str} {N_TooMany : Addr} {bs_TooMany bm_TooMany : List Value} {sn_TooMany : List Str} {sub_TooMany : List Value} {ab_TooMany : Bool} {col_TooMany : Option Bool} {dd_TooMany : Option Addr} {m0_TooMany m1_TooMany m2_TooMany m3_TooMany m5_TooMany : Option Value}
    {nm_NoFit qq_NoFit : Str} {N_NoFit : Addr} {bs_NoFit bm_NoFit : List Value} {sn_NoFit : List Str} {sub_NoFit : List Value} {ab_NoFit : Bool} {col_NoFit : Option Bool} {dd_NoFit : Option Addr} {m0_NoFit m1_NoFit m2_NoFit m3_NoFit m5_NoFit : Option Value}
    (a1 : PySem.W.nsIn K mainGlobals "ascending" = some (some (.ref f1)))
    (l1 : K.lookup f1 = some ⟨oc1, od1, .func (PySem.W.fnOf "ascending" "ascending" (defArgs s_ascending) (defBody s_ascending) (defScope s_ascending) .none kV1 dc1 pm1 an1 cd1 ct1), sl1⟩)
    (c1 : PySem.W.codeIn K cd1 "ascending" = true)
    (k1 : PySem.W.keepIn K (.ref f1) = true)
    (a2 : PySem.W.nsIn K mainGlobals "least_of" = some (some (.ref f2)))
    (l2 : K.lookup f2 = some ⟨oc2, od2, .func (PySem.W.fnOf "least_of" "least_of" (defArgs s_least_of) (defBody s_least_of) (defScope s_least_of) .none kV2 dc2 pm2 an2 cd2 ct2), sl2⟩)
    (c2 : PySem.W.codeIn K cd2 "least_of" = true)
    (k2 : PySem.W.keepIn K (.ref f2) = true)
    (a3 : PySem.W.nsIn K mainGlobals "aligned" = some (some (.ref f3)))
    (l3 : K.lookup f3 = some ⟨oc3, od3, .func (PySem.W.fnOf "aligned" "aligned" (defArgs s_aligned) (defBody s_aligned) (defScope s_aligned) .none kV3 dc3 pm3 an3 cd3 ct3), sl3⟩)
    (c3 : PySem.W.codeIn K cd3 "aligned" = true)
    (k3 : PySem.W.keepIn K (.ref f3) = true)
    (a4 : PySem.W.nsIn K mainGlobals "laid_behind" = some (some (.ref f4)))
    (l4 : K.lookup f4 = some ⟨oc4, od4, .func (PySem.W.fnOf "laid_behind" "laid_behind" (defArgs s_laid_behind) (defBody s_laid_behind) (defScope s_laid_behind) .none kV4 dc4 pm4 an4 cd4 ct4), sl4⟩)
    (c4 : PySem.W.codeIn K cd4 "laid_behind" = true)
    (k4 : PySem.W.keepIn K (.ref f4) = true)
    (a5 : PySem.W.nsIn K mainGlobals "end_of_order" = some (some (.ref f5)))
    (l5 : K.lookup f5 = some ⟨oc5, od5, .func (PySem.W.fnOf "end_of_order" "end_of_order" (defArgs s_end_of_order) (defBody s_end_of_order) (defScope s_end_of_order) .none kV5 dc5 pm5 an5 cd5 ct5), sl5⟩)
    (c5 : PySem.W.codeIn K cd5 "end_of_order" = true)
    (k5 : PySem.W.keepIn K (.ref f5) = true)
    (a6 : PySem.W.nsIn K mainGlobals "least_ends" = some (some (.ref f6)))
    (l6 : K.lookup f6 = some ⟨oc6, od6, .func (PySem.W.fnOf "least_ends" "least_ends" (defArgs s_least_ends) (defBody s_least_ends) (defScope s_least_ends) .none kV6 dc6 pm6 an6 cd6 ct6), sl6⟩)
    (c6 : PySem.W.codeIn K cd6 "least_ends" = true)
    (k6 : PySem.W.keepIn K (.ref f6) = true)
    (a7 : PySem.W.nsIn K mainGlobals "numbers_in" = some (some (.ref f7)))
    (l7 : K.lookup f7 = some ⟨oc7, od7, .func (PySem.W.fnOf "numbers_in" "numbers_in" (defArgs s_numbers_in) (defBody s_numbers_in) (defScope s_numbers_in) .none kV7 dc7 pm7 an7 cd7 ct7), sl7⟩)
    (c7 : PySem.W.codeIn K cd7 "numbers_in" = true)
    (k7 : PySem.W.keepIn K (.ref f7) = true)
    (a8 : PySem.W.nsIn K mainGlobals "least_behind" = some (some (.ref f8)))
    (l8 : K.lookup f8 = some ⟨oc8, od8, .func (PySem.W.fnOf "least_behind" "least_behind" (defArgs s_least_behind) (defBody s_least_behind) (defScope s_least_behind) .none kV8 dc8 pm8 an8 cd8 ct8), sl8⟩)
    (c8 : PySem.W.codeIn K cd8 "least_behind" = true)
    (k8 : PySem.W.keepIn K (.ref f8) = true)
    (a9 : PySem.W.nsIn K mainGlobals "first_order" = some (some (.ref f9)))
    (l9 : K.lookup f9 = some ⟨oc9, od9, .func (PySem.W.fnOf "first_order" "first_order" (defArgs s_first_order) (defBody s_first_order) (defScope s_first_order) .none kV9 dc9 pm9 an9 cd9 ct9), sl9⟩)
    (c9 : PySem.W.codeIn K cd9 "first_order" = true)
    (k9 : PySem.W.keepIn K (.ref f9) = true)
    (a10 : PySem.W.nsIn K mainGlobals "dealings" = some (some (.ref f10)))
    (l10 : K.lookup f10 = some ⟨oc10, od10, .func (PySem.W.fnOf "dealings" "dealings" (defArgs s_dealings) (defBody s_dealings) (defScope s_dealings) .none kV10 dc10 pm10 an10 cd10 ct10), sl10⟩)
    (c10 : PySem.W.codeIn K cd10 "dealings" = true)
    (k10 : PySem.W.keepIn K (.ref f10) = true)
    (a11 : PySem.W.nsIn K mainGlobals "dealt_to" = some (some (.ref f11)))
    (l11 : K.lookup f11 = some ⟨oc11, od11, .func (PySem.W.fnOf "dealt_to" "dealt_to" (defArgs s_dealt_to) (defBody s_dealt_to) (defScope s_dealt_to) .none kV11 dc11 pm11 an11 cd11 ct11), sl11⟩)
    (c11 : PySem.W.codeIn K cd11 "dealt_to" = true)
    (k11 : PySem.W.keepIn K (.ref f11) = true)
    (a12 : PySem.W.nsIn K mainGlobals "check_counts" = some (some (.ref f12)))
    (l12 : K.lookup f12 = some ⟨oc12, od12, .func (PySem.W.fnOf "check_counts" "check_counts" (defArgs s_check_counts) (defBody s_check_counts) (defScope s_check_counts) .none kV12 dc12 pm12 an12 cd12 ct12), sl12⟩)
    (c12 : PySem.W.codeIn K cd12 "check_counts" = true)
    (k12 : PySem.W.keepIn K (.ref f12) = true)
    (a13 : PySem.W.nsIn K mainGlobals "least_packings" = some (some (.ref f13)))
    (l13 : K.lookup f13 = some ⟨oc13, od13, .func (PySem.W.fnOf "least_packings" "least_packings" (defArgs s_least_packings) (defBody s_least_packings) (defScope s_least_packings) .none kV13 dc13 pm13 an13 cd13 ct13), sl13⟩)
    (c13 : PySem.W.codeIn K cd13 "least_packings" = true)
    (k13 : PySem.W.keepIn K (.ref f13) = true)
    (a14 : PySem.W.nsIn K mainGlobals "is_at_most" = some (some (.ref f14)))
    (l14 : K.lookup f14 = some ⟨oc14, od14, .func (PySem.W.fnOf "is_at_most" "is_at_most" (defArgs s_is_at_most) (defBody s_is_at_most) (defScope s_is_at_most) .none kV14 dc14 pm14 an14 cd14 ct14), sl14⟩)
    (c14 : PySem.W.codeIn K cd14 "is_at_most" = true)
    (k14 : PySem.W.keepIn K (.ref f14) = true)
    (a15 : PySem.W.nsIn K mainGlobals "corners" = some (some (.ref f15)))
    (l15 : K.lookup f15 = some ⟨oc15, od15, .func (PySem.W.fnOf "corners" "corners" (defArgs s_corners) (defBody s_corners) (defScope s_corners) .none kV15 dc15 pm15 an15 cd15 ct15), sl15⟩)
    (c15 : PySem.W.codeIn K cd15 "corners" = true)
    (k15 : PySem.W.keepIn K (.ref f15) = true)
    (a16 : PySem.W.nsIn K mainGlobals "_law_source" = some (some (.ref f16)))
    (l16 : K.lookup f16 = some ⟨oc16, od16, .func (PySem.W.fnOf "_law_source" "_law_source" (defArgs s_law_source) (defBody s_law_source) (defScope s_law_source) .none kV16 dc16 pm16 an16 cd16 ct16), sl16⟩)
    (c16 : PySem.W.codeIn K cd16 "_law_source" = true)
    (k16 : PySem.W.keepIn K (.ref f16) = true)
    (a17 : PySem.W.nsIn K mainGlobals "_law_draw" = some (some (.ref f17)))
    (l17 : K.lookup f17 = some ⟨oc17, od17, .func (PySem.W.fnOf "_law_draw" "_law_draw" (defArgs s_law_draw) (defBody s_law_draw) (defScope s_law_draw) .none kV17 dc17 pm17 an17 cd17 ct17), sl17⟩)
    (c17 : PySem.W.codeIn K cd17 "_law_draw" = true)
    (k17 : PySem.W.keepIn K (.ref f17) = true)
    (a18 : PySem.W.nsIn K mainGlobals "_law_is_number" = some (some (.ref f18)))
    (l18 : K.lookup f18 = some ⟨oc18, od18, .func (PySem.W.fnOf "_law_is_number" "_law_is_number" (defArgs s_law_is_number) (defBody s_law_is_number) (defScope s_law_is_number) .none kV18 dc18 pm18 an18 cd18 ct18), sl18⟩)
    (c18 : PySem.W.codeIn K cd18 "_law_is_number" = true)
    (k18 : PySem.W.keepIn K (.ref f18) = true)
    (a19 : PySem.W.nsIn K mainGlobals "_law_plain" = some (some (.ref f19)))
    (l19 : K.lookup f19 = some ⟨oc19, od19, .func (PySem.W.fnOf "_law_plain" "_law_plain" (defArgs s_law_plain) (defBody s_law_plain) (defScope s_law_plain) .none kV19 dc19 pm19 an19 cd19 ct19), sl19⟩)
    (c19 : PySem.W.codeIn K cd19 "_law_plain" = true)
    (k19 : PySem.W.keepIn K (.ref f19) = true)
    (a20 : PySem.W.nsIn K mainGlobals "_law_things" = some (some (.ref f20)))
    (l20 : K.lookup f20 = some ⟨oc20, od20, .func (PySem.W.fnOf "_law_things" "_law_things" (defArgs s_law_things) (defBody s_law_things) (defScope s_law_things) .none kV20 dc20 pm20 an20 cd20 ct20), sl20⟩)
    (c20 : PySem.W.codeIn K cd20 "_law_things" = true)
    (k20 : PySem.W.keepIn K (.ref f20) = true)
    (a21 : PySem.W.nsIn K mainGlobals "_law_orders" = some (some (.ref f21)))
    (l21 : K.lookup f21 = some ⟨oc21, od21, .func (PySem.W.fnOf "_law_orders" "_law_orders" (defArgs s_law_orders) (defBody s_law_orders) (defScope s_law_orders) .none kV21 dc21 pm21 an21 cd21 ct21), sl21⟩)
    (c21 : PySem.W.codeIn K cd21 "_law_orders" = true)
    (k21 : PySem.W.keepIn K (.ref f21) = true)
    (a22 : PySem.W.nsIn K mainGlobals "_law_end" = some (some (.ref f22)))
    (l22 : K.lookup f22 = some ⟨oc22, od22, .func (PySem.W.fnOf "_law_end" "_law_end" (defArgs s_law_end) (defBody s_law_end) (defScope s_law_end) .none kV22 dc22 pm22 an22 cd22 ct22), sl22⟩)
    (c22 : PySem.W.codeIn K cd22 "_law_end" = true)
    (k22 : PySem.W.keepIn K (.ref f22) = true)
    (a23 : PySem.W.nsIn K mainGlobals "_law_choice" = some (some (.ref f23)))
    (l23 : K.lookup f23 = some ⟨oc23, od23, .func (PySem.W.fnOf "_law_choice" "_law_choice" (defArgs s_law_choice) (defBody s_law_choice) (defScope s_law_choice) .none kV23 dc23 pm23 an23 cd23 ct23), sl23⟩)
    (c23 : PySem.W.codeIn K cd23 "_law_choice" = true)
    (k23 : PySem.W.keepIn K (.ref f23) = true)
    (a24 : PySem.W.nsIn K mainGlobals "_law_dealings" = some (some (.ref f24)))
    (l24 : K.lookup f24 = some ⟨oc24, od24, .func (PySem.W.fnOf "_law_dealings" "_law_dealings" (defArgs s_law_dealings) (defBody s_law_dealings) (defScope s_law_dealings) .none kV24 dc24 pm24 an24 cd24 ct24), sl24⟩)
    (c24 : PySem.W.codeIn K cd24 "_law_dealings" = true)
    (k24 : PySem.W.keepIn K (.ref f24) = true)
    (a25 : PySem.W.nsIn K mainGlobals "_law_packings" = some (some (.ref f25)))
    (l25 : K.lookup f25 = some ⟨oc25, od25, .func (PySem.W.fnOf "_law_packings" "_law_packings" (defArgs s_law_packings) (defBody s_law_packings) (defScope s_law_packings) .none kV25 dc25 pm25 an25 cd25 ct25), sl25⟩)
    (c25 : PySem.W.codeIn K cd25 "_law_packings" = true)
    (k25 : PySem.W.keepIn K (.ref f25) = true)
    (a26 : PySem.W.nsIn K mainGlobals "_law_lot" = some (some (.ref f26)))
    (l26 : K.lookup f26 = some ⟨oc26, od26, .func (PySem.W.fnOf "_law_lot" "_law_lot" (defArgs s_law_lot) (defBody s_law_lot) (defScope s_law_lot) .none kV26 dc26 pm26 an26 cd26 ct26), sl26⟩)
    (c26 : PySem.W.codeIn K cd26 "_law_lot" = true)
    (k26 : PySem.W.keepIn K (.ref f26) = true)
    (a27 : PySem.W.nsIn K mainGlobals "_law_same" = some (some (.ref f27)))
    (l27 : K.lookup f27 = some ⟨oc27, od27, .func (PySem.W.fnOf "_law_same" "_law_same" (defArgs s_law_same) (defBody s_law_same) (defScope s_law_same) .none kV27 dc27 pm27 an27 cd27 ct27), sl27⟩)
    (c27 : PySem.W.codeIn K cd27 "_law_same" = true)
    (k27 : PySem.W.keepIn K (.ref f27) = true)
    (a28 : PySem.W.nsIn K mainGlobals "_law_firsts" = some (some (.ref f28)))
    (l28 : K.lookup f28 = some ⟨oc28, od28, .func (PySem.W.fnOf "_law_firsts" "_law_firsts" (defArgs s_law_firsts) (defBody s_law_firsts) (defScope s_law_firsts) .none kV28 dc28 pm28 an28 cd28 ct28), sl28⟩)
    (c28 : PySem.W.codeIn K cd28 "_law_firsts" = true)
    (k28 : PySem.W.keepIn K (.ref f28) = true)
    (a29 : PySem.W.nsIn K mainGlobals "_law_at_most" = some (some (.ref f29)))
    (l29 : K.lookup f29 = some ⟨oc29, od29, .func (PySem.W.fnOf "_law_at_most" "_law_at_most" (defArgs s_law_at_most) (defBody s_law_at_most) (defScope s_law_at_most) .none kV29 dc29 pm29 an29 cd29 ct29), sl29⟩)
    (c29 : PySem.W.codeIn K cd29 "_law_at_most" = true)
    (k29 : PySem.W.keepIn K (.ref f29) = true)
    (a30 : PySem.W.nsIn K mainGlobals "_law_is_corner" = some (some (.ref f30)))
    (l30 : K.lookup f30 = some ⟨oc30, od30, .func (PySem.W.fnOf "_law_is_corner" "_law_is_corner" (defArgs s_law_is_corner) (defBody s_law_is_corner) (defScope s_law_is_corner) .none kV30 dc30 pm30 an30 cd30 ct30), sl30⟩)
    (c30 : PySem.W.codeIn K cd30 "_law_is_corner" = true)
    (k30 : PySem.W.keepIn K (.ref f30) = true)
    (a31 : PySem.W.nsIn K mainGlobals "_law_asked" = some (some (.ref f31)))
    (l31 : K.lookup f31 = some ⟨oc31, od31, .func (PySem.W.fnOf "_law_asked" "_law_asked" (defArgs s_law_asked) (defBody s_law_asked) (defScope s_law_asked) .none kV31 dc31 pm31 an31 cd31 ct31), sl31⟩)
    (c31 : PySem.W.codeIn K cd31 "_law_asked" = true)
    (k31 : PySem.W.keepIn K (.ref f31) = true)
    (a32 : PySem.W.nsIn K mainGlobals "_law_refused" = some (some (.ref f32)))
    (l32 : K.lookup f32 = some ⟨oc32, od32, .func (PySem.W.fnOf "_law_refused" "_law_refused" (defArgs s_law_refused) (defBody s_law_refused) (defScope s_law_refused) .none kV32 dc32 pm32 an32 cd32 ct32), sl32⟩)
    (c32 : PySem.W.codeIn K cd32 "_law_refused" = true)
    (k32 : PySem.W.keepIn K (.ref f32) = true)
    (a33 : PySem.W.nsIn K mainGlobals "law" = some (some (.ref f33)))
    (l33 : K.lookup f33 = some ⟨oc33, od33, .func (PySem.W.fnOf "law" "law" (defArgs s_law) (defBody s_law) (defScope s_law) .none kV33 dc33 pm33 an33 cd33 ct33), sl33⟩)
    (c33 : PySem.W.codeIn K cd33 "law" = true)
    (k33 : PySem.W.keepIn K (.ref f33) = true)
    (l34 : K.lookup f34 = some ⟨oc34, od34, .func (PySem.W.fnOf "__init__" "TooMany.__init__" (defArgs s_TooMany_init) (defBody s_TooMany_init) (defScope s_TooMany_init) .none kV34 dc34 pm34 an34 cd34 ct34), sl34⟩)
    (c34 : PySem.W.codeIn K cd34 "TooMany.__init__" = true)
    (k34 : PySem.W.keepIn K (.ref f34) = true)
    (l35 : K.lookup f35 = some ⟨oc35, od35, .func (PySem.W.fnOf "__init__" "NoFit.__init__" (defArgs s_NoFit_init) (defBody s_NoFit_init) (defScope s_NoFit_init) .none kV35 dc35 pm35 an35 cd35 ct35), sl35⟩)
    (c35 : PySem.W.codeIn K cd35 "NoFit.__init__" = true)
    (k35 : PySem.W.keepIn K (.ref f35) = true)
    (l36 : K.lookup f36 = some ⟨oc36, od36, .func (PySem.W.fnOf "__init__" "Packing.__init__" (defArgs s_Packing_init) (defBody s_Packing_init) (defScope s_Packing_init) .none kV36 dc36 pm36 an36 cd36 ct36), sl36⟩)
    (c36 : PySem.W.codeIn K cd36 "Packing.__init__" = true)
    (k36 : PySem.W.keepIn K (.ref f36) = true)
    (gc_TooMany : PySem.W.nsIn K mainGlobals "TooMany" = some (some (.ref C_TooMany)))
    (xl_TooMany : K.lookup C_TooMany = some (excClassObj nm_TooMany qq_TooMany C_TooMany N_TooMany bs_TooMany bm_TooMany true sn_TooMany sub_TooMany ab_TooMany col_TooMany dd_TooMany m0_TooMany m1_TooMany m2_TooMany m3_TooMany m5_TooMany "ValueError.__new__"))
    (vb_TooMany : PySem.HandSPX.refsVE bm_TooMany = true)
    (sa_TooMany : PySem.W.findIn K (.ref C_TooMany) "__setattr__" = some (some (.builtin "object.__setattr__")))
    (ec_TooMany : PySem.W.subIn K (.ref C_TooMany) (.type "BaseException") = some true)
    (tc_TooMany : PySem.W.typeIn K (.ref C_TooMany) = some (.type "type"))
    (kc_TooMany : PySem.W.keepIn K (.ref C_TooMany) = true)
    (no_TooMany : PySem.W.findIn K (.ref C_TooMany) "limit" = some none)
    (ic_TooMany : PySem.W.findIn K (.ref C_TooMany) "__init__" = some (some (.ref f34)))
    (ti_TooMany : PySem.W.typeIn K (.ref f34) = some (.type "function"))
    (ga_TooMany : PySem.W.findIn K (.ref C_TooMany) "__getattribute__" = some (some (.builtin "BaseException.__getattribute__")))
    (gg_TooMany : PySem.W.findIn K (.ref C_TooMany) "__getattr__" = some none)
    (hd_TooMany : PySem.W.hasDictIn K C_TooMany = true)
    (ha_TooMany : PySem.W.findIn K (.ref C_TooMany) "__class__" = some (some (.builtin "object.__class__")))
    (hm_TooMany : PySem.W.mroIn K C_TooMany (.type "object") = some true)
    (ss_TooMany : PySem.W.subIn K (.ref C_TooMany) (.ref C_TooMany) = some true)
    (gc_NoFit : PySem.W.nsIn K mainGlobals "NoFit" = some (some (.ref C_NoFit)))
    (xl_NoFit : K.lookup C_NoFit = some (excClassObj nm_NoFit qq_NoFit C_NoFit N_NoFit bs_NoFit bm_NoFit true sn_NoFit sub_NoFit ab_NoFit col_NoFit dd_NoFit m0_NoFit m1_NoFit m2_NoFit m3_NoFit m5_NoFit "ValueError.__new__"))
    (vb_NoFit : PySem.HandSPX.refsVE bm_NoFit = true)
    (sa_NoFit : PySem.W.findIn K (.ref C_NoFit) "__setattr__" = some (some (.builtin "object.__setattr__")))
    (ec_NoFit : PySem.W.subIn K (.ref C_NoFit) (.type "BaseException") = some true)
    (tc_NoFit : PySem.W.typeIn K (.ref C_NoFit) = some (.type "type"))
    (kc_NoFit : PySem.W.keepIn K (.ref C_NoFit) = true)
    (no_NoFit : PySem.W.findIn K (.ref C_NoFit) "count" = some none)
    (ic_NoFit : PySem.W.findIn K (.ref C_NoFit) "__init__" = some (some (.ref f35)))
    (ti_NoFit : PySem.W.typeIn K (.ref f35) = some (.type "function"))
    (ga_NoFit : PySem.W.findIn K (.ref C_NoFit) "__getattribute__" = some (some (.builtin "BaseException.__getattribute__")))
    (gg_NoFit : PySem.W.findIn K (.ref C_NoFit) "__getattr__" = some none)
    (hd_NoFit : PySem.W.hasDictIn K C_NoFit = true)
    (ha_NoFit : PySem.W.findIn K (.ref C_NoFit) "__class__" = some (some (.builtin "object.__class__")))
    (hm_NoFit : PySem.W.mroIn K C_NoFit (.type "object") = some true)
    (ss_NoFit : PySem.W.subIn K (.ref C_NoFit) (.ref C_NoFit) = some true)
    (hn0 : PySem.W.specialIn K (.builtin "object.__class__") "__get__" = some (some (.builtin "getset_descriptor.__get__")))
    (ht0 : PySem.W.takesIn K (.builtin "object.__class__") = some true)
    (gc_Packing : PySem.W.nsIn K mainGlobals "Packing" = some (some (.ref C_Packing)))
    (ic_Packing_init : PySem.W.findIn K (.ref C_Packing) "__init__" = some (some (.ref f36)))
    (fn_Packing_init : PySem.W.isFn K (.ref f36) = true)
    (mk_Packing : PySem.W.makesIn K C_Packing = true)
    (kp_Packing : PySem.W.keepIn K (.ref C_Packing) = true)
    (pg_Packing : PySem.W.plainGet K C_Packing Str.empty = true)
    (hd_Packing : PySem.W.hasDictIn K C_Packing = true)
    (po_Packing : PySem.W.plainOver K C_Packing = true)
    (sa_Packing : PySem.W.findIn K (.ref C_Packing) "__setattr__" = some (some (.builtin "object.__setattr__")))
    (na_Packing_dealing : PySem.W.findIn K (.ref C_Packing) "dealing" = some none)
    (na_Packing_orders : PySem.W.findIn K (.ref C_Packing) "orders" = some none)
    (na_Packing_ends : PySem.W.findIn K (.ref C_Packing) "ends" = some none)
    (na_Packing_words : PySem.W.findIn K (.ref C_Packing) "words" = some none)
    (ha_Packing : PySem.W.findIn K (.ref C_Packing) "__class__" = some (some (.builtin "object.__class__")))
    (hm_Packing : PySem.W.mroIn K C_Packing (.type "object") = some true)
    (ki_Packing_Packing : PySem.W.kitOne K (.ref C_Packing) (.ref C_Packing) = some true)
    (ki_TooMany_NoFit : PySem.W.kitOne K (.ref C_TooMany) (.ref C_NoFit) = some false)
    (ki_NoFit_TooMany : PySem.W.kitOne K (.ref C_NoFit) (.ref C_TooMany) = some false)
    (ki_NoFit_ValueError : PySem.W.kitOne K (.ref C_NoFit) (.type "ValueError") = some true)
    (z_abs : PySem.W.nsIn K mainGlobals "abs" = some none)
    (z_all : PySem.W.nsIn K mainGlobals "all" = some none)
    (z_any : PySem.W.nsIn K mainGlobals "any" = some none)
    (z_bool : PySem.W.nsIn K mainGlobals "bool" = some none)
    (z_enumerate : PySem.W.nsIn K mainGlobals "enumerate" = some none)
    (z_int : PySem.W.nsIn K mainGlobals "int" = some none)
    (z_isinstance : PySem.W.nsIn K mainGlobals "isinstance" = some none)
    (z_len : PySem.W.nsIn K mainGlobals "len" = some none)
    (z_list : PySem.W.nsIn K mainGlobals "list" = some none)
    (z_max : PySem.W.nsIn K mainGlobals "max" = some none)
    (z_min : PySem.W.nsIn K mainGlobals "min" = some none)
    (z_range : PySem.W.nsIn K mainGlobals "range" = some none)
    (z_set : PySem.W.nsIn K mainGlobals "set" = some none)
    (z_sorted : PySem.W.nsIn K mainGlobals "sorted" = some none)
    (z_sum : PySem.W.nsIn K mainGlobals "sum" = some none)
    (z_tuple : PySem.W.nsIn K mainGlobals "tuple" = some none)
    (z_zip : PySem.W.nsIn K mainGlobals "zip" = some none) :
    ∃ fd : FuncData, (∀ (s : Shared) (v : Value), BindsTo s fd ⟨[v], []⟩ [("_law_script", v)]) ∧ ∀ base : Heap, K.In base → base.Ns mainGlobals mg → FnOk l.prog w K mg base CX0 14 fa fd ["_law_script"] (spLaw K) := by
  have e : f33 = fa := Value.ref.inj (Option.some.inj ((PySem.W.mg_of X G a33).symm.trans hfa))
  subst e
  have T : Txt K mg ⟨f1, (PySem.W.fnOf "ascending" "ascending" (defArgs s_ascending) (defBody s_ascending) (defScope s_ascending) .none kV1 dc1 pm1 an1 cd1 ct1), f2, (PySem.W.fnOf "least_of" "least_of" (defArgs s_least_of) (defBody s_least_of) (defScope s_least_of) .none kV2 dc2 pm2 an2 cd2 ct2), f3, (PySem.W.fnOf "aligned" "aligned" (defArgs s_aligned) (defBody s_aligned) (defScope s_aligned) .none kV3 dc3 pm3 an3 cd3 ct3), f4, (PySem.W.fnOf "laid_behind" "laid_behind" (defArgs s_laid_behind) (defBody s_laid_behind) (defScope s_laid_behind) .none kV4 dc4 pm4 an4 cd4 ct4), f5, (PySem.W.fnOf "end_of_order" "end_of_order" (defArgs s_end_of_order) (defBody s_end_of_order) (defScope s_end_of_order) .none kV5 dc5 pm5 an5 cd5 ct5), f6, (PySem.W.fnOf "least_ends" "least_ends" (defArgs s_least_ends) (defBody s_least_ends) (defScope s_least_ends) .none kV6 dc6 pm6 an6 cd6 ct6), f7, (PySem.W.fnOf "numbers_in" "numbers_in" (defArgs s_numbers_in) (defBody s_numbers_in) (defScope s_numbers_in) .none kV7 dc7 pm7 an7 cd7 ct7), f8, (PySem.W.fnOf "least_behind" "least_behind" (defArgs s_least_behind) (defBody s_least_behind) (defScope s_least_behind) .none kV8 dc8 pm8 an8 cd8 ct8), f9, (PySem.W.fnOf "first_order" "first_order" (defArgs s_first_order) (defBody s_first_order) (defScope s_first_order) .none kV9 dc9 pm9 an9 cd9 ct9), f10, (PySem.W.fnOf "dealings" "dealings" (defArgs s_dealings) (defBody s_dealings) (defScope s_dealings) .none kV10 dc10 pm10 an10 cd10 ct10), f11, (PySem.W.fnOf "dealt_to" "dealt_to" (defArgs s_dealt_to) (defBody s_dealt_to) (defScope s_dealt_to) .none kV11 dc11 pm11 an11 cd11 ct11), f12, (PySem.W.fnOf "check_counts" "check_counts" (defArgs s_check_counts) (defBody s_check_counts) (defScope s_check_counts) .none kV12 dc12 pm12 an12 cd12 ct12), f13, (PySem.W.fnOf "least_packings" "least_packings" (defArgs s_least_packings) (defBody s_least_packings) (defScope s_least_packings) .none kV13 dc13 pm13 an13 cd13 ct13), f14, (PySem.W.fnOf "is_at_most" "is_at_most" (defArgs s_is_at_most) (defBody s_is_at_most) (defScope s_is_at_most) .none kV14 dc14 pm14 an14 cd14 ct14), f15, (PySem.W.fnOf "corners" "corners" (defArgs s_corners) (defBody s_corners) (defScope s_corners) .none kV15 dc15 pm15 an15 cd15 ct15), f16, (PySem.W.fnOf "_law_source" "_law_source" (defArgs s_law_source) (defBody s_law_source) (defScope s_law_source) .none kV16 dc16 pm16 an16 cd16 ct16), f17, (PySem.W.fnOf "_law_draw" "_law_draw" (defArgs s_law_draw) (defBody s_law_draw) (defScope s_law_draw) .none kV17 dc17 pm17 an17 cd17 ct17), f18, (PySem.W.fnOf "_law_is_number" "_law_is_number" (defArgs s_law_is_number) (defBody s_law_is_number) (defScope s_law_is_number) .none kV18 dc18 pm18 an18 cd18 ct18), f19, (PySem.W.fnOf "_law_plain" "_law_plain" (defArgs s_law_plain) (defBody s_law_plain) (defScope s_law_plain) .none kV19 dc19 pm19 an19 cd19 ct19), f20, (PySem.W.fnOf "_law_things" "_law_things" (defArgs s_law_things) (defBody s_law_things) (defScope s_law_things) .none kV20 dc20 pm20 an20 cd20 ct20), f21, (PySem.W.fnOf "_law_orders" "_law_orders" (defArgs s_law_orders) (defBody s_law_orders) (defScope s_law_orders) .none kV21 dc21 pm21 an21 cd21 ct21), f22, (PySem.W.fnOf "_law_end" "_law_end" (defArgs s_law_end) (defBody s_law_end) (defScope s_law_end) .none kV22 dc22 pm22 an22 cd22 ct22), f23, (PySem.W.fnOf "_law_choice" "_law_choice" (defArgs s_law_choice) (defBody s_law_choice) (defScope s_law_choice) .none kV23 dc23 pm23 an23 cd23 ct23), f24, (PySem.W.fnOf "_law_dealings" "_law_dealings" (defArgs s_law_dealings) (defBody s_law_dealings) (defScope s_law_dealings) .none kV24 dc24 pm24 an24 cd24 ct24), f25, (PySem.W.fnOf "_law_packings" "_law_packings" (defArgs s_law_packings) (defBody s_law_packings) (defScope s_law_packings) .none kV25 dc25 pm25 an25 cd25 ct25), f26, (PySem.W.fnOf "_law_lot" "_law_lot" (defArgs s_law_lot) (defBody s_law_lot) (defScope s_law_lot) .none kV26 dc26 pm26 an26 cd26 ct26), f27, (PySem.W.fnOf "_law_same" "_law_same" (defArgs s_law_same) (defBody s_law_same) (defScope s_law_same) .none kV27 dc27 pm27 an27 cd27 ct27), f28, (PySem.W.fnOf "_law_firsts" "_law_firsts" (defArgs s_law_firsts) (defBody s_law_firsts) (defScope s_law_firsts) .none kV28 dc28 pm28 an28 cd28 ct28), f29, (PySem.W.fnOf "_law_at_most" "_law_at_most" (defArgs s_law_at_most) (defBody s_law_at_most) (defScope s_law_at_most) .none kV29 dc29 pm29 an29 cd29 ct29), f30, (PySem.W.fnOf "_law_is_corner" "_law_is_corner" (defArgs s_law_is_corner) (defBody s_law_is_corner) (defScope s_law_is_corner) .none kV30 dc30 pm30 an30 cd30 ct30), f31, (PySem.W.fnOf "_law_asked" "_law_asked" (defArgs s_law_asked) (defBody s_law_asked) (defScope s_law_asked) .none kV31 dc31 pm31 an31 cd31 ct31), f32, (PySem.W.fnOf "_law_refused" "_law_refused" (defArgs s_law_refused) (defBody s_law_refused) (defScope s_law_refused) .none kV32 dc32 pm32 an32 cd32 ct32), f33, (PySem.W.fnOf "law" "law" (defArgs s_law) (defBody s_law) (defScope s_law) .none kV33 dc33 pm33 an33 cd33 ct33), C_TooMany, f34, (PySem.W.fnOf "__init__" "TooMany.__init__" (defArgs s_TooMany_init) (defBody s_TooMany_init) (defScope s_TooMany_init) .none kV34 dc34 pm34 an34 cd34 ct34), C_NoFit, f35, (PySem.W.fnOf "__init__" "NoFit.__init__" (defArgs s_NoFit_init) (defBody s_NoFit_init) (defScope s_NoFit_init) .none kV35 dc35 pm35 an35 cd35 ct35), C_Packing, f36, (PySem.W.fnOf "__init__" "Packing.__init__" (defArgs s_Packing_init) (defBody s_Packing_init) (defScope s_Packing_init) .none kV36 dc36 pm36 an36 cd36 ct36)⟩ :=
    { F_ascending := fun_mk (st := s_ascending) l1 c1 k1,
      g_ascending := PySem.W.mg_of X G a1,
      b_ascending := (fun_mk (st := s_ascending) l1 c1 k1).binds (ps := ["rows"]) fun _ _ _ _ _ _ us hl => match us, hl with | [_], _ => rfl,
      F_least_of := fun_mk (st := s_least_of) l2 c2 k2,
      g_least_of := PySem.W.mg_of X G a2,
      b_least_of := (fun_mk (st := s_least_of) l2 c2 k2).binds (ps := ["numbers"]) fun _ _ _ _ _ _ us hl => match us, hl with | [_], _ => rfl,
      F_aligned := fun_mk (st := s_aligned) l3 c3 k3,
      g_aligned := PySem.W.mg_of X G a3,
      b_aligned := (fun_mk (st := s_aligned) l3 c3 k3).binds (ps := ["address", "align"]) fun _ _ _ _ _ _ us hl => match us, hl with | [_, _], _ => rfl,
      F_laid_behind := fun_mk (st := s_laid_behind) l4 c4 k4,
      g_laid_behind := PySem.W.mg_of X G a4,
      b_laid_behind := (fun_mk (st := s_laid_behind) l4 c4 k4).binds (ps := ["end", "thing"]) fun _ _ _ _ _ _ us hl => match us, hl with | [_, _], _ => rfl,
      F_end_of_order := fun_mk (st := s_end_of_order) l5 c5 k5,
      g_end_of_order := PySem.W.mg_of X G a5,
      b_end_of_order := (fun_mk (st := s_end_of_order) l5 c5 k5).binds (ps := ["start", "things", "order"]) fun _ _ _ _ _ _ us hl => match us, hl with | [_, _, _], _ => rfl,
      F_least_ends := fun_mk (st := s_least_ends) l6 c6 k6,
      g_least_ends := PySem.W.mg_of X G a6,
      b_least_ends := (fun_mk (st := s_least_ends) l6 c6 k6).binds (ps := ["start", "things"]) fun _ _ _ _ _ _ us hl => match us, hl with | [_, _], _ => rfl,
      F_numbers_in := fun_mk (st := s_numbers_in) l7 c7 k7,
      g_numbers_in := PySem.W.mg_of X G a7,
      b_numbers_in := (fun_mk (st := s_numbers_in) l7 c7 k7).binds (ps := ["chosen", "count"]) fun _ _ _ _ _ _ us hl => match us, hl with | [_, _], _ => rfl,
      F_least_behind := fun_mk (st := s_least_behind) l8 c8 k8,
      g_least_behind := PySem.W.mg_of X G a8,
      b_least_behind := (fun_mk (st := s_least_behind) l8 c8 k8).binds (ps := ["things", "ends", "chosen"]) fun _ _ _ _ _ _ us hl => match us, hl with | [_, _, _], _ => rfl,
      F_first_order := fun_mk (st := s_first_order) l9 c9 k9,
      g_first_order := PySem.W.mg_of X G a9,
      b_first_order := (fun_mk (st := s_first_order) l9 c9 k9).binds (ps := ["start", "things", "chosen"]) fun _ _ _ _ _ _ us hl => match us, hl with | [_, _, _], _ => rfl,
      F_dealings := fun_mk (st := s_dealings) l10 c10 k10,
      g_dealings := PySem.W.mg_of X G a10,
      b_dealings := (fun_mk (st := s_dealings) l10 c10 k10).binds (ps := ["choices"]) fun _ _ _ _ _ _ us hl => match us, hl with | [_], _ => rfl,
      F_dealt_to := fun_mk (st := s_dealt_to) l11 c11 k11,
      g_dealt_to := PySem.W.mg_of X G a11,
      b_dealt_to := (fun_mk (st := s_dealt_to) l11 c11 k11).binds (ps := ["dealing", "room"]) fun _ _ _ _ _ _ us hl => match us, hl with | [_, _], _ => rfl,
      F_check_counts := fun_mk (st := s_check_counts) l12 c12 k12,
      g_check_counts := PySem.W.mg_of X G a12,
      b_check_counts := (fun_mk (st := s_check_counts) l12 c12 k12).binds (ps := ["rooms", "things"]) fun _ _ _ _ _ _ us hl => match us, hl with | [_, _], _ => rfl,
      F_least_packings := fun_mk (st := s_least_packings) l13 c13 k13,
      g_least_packings := PySem.W.mg_of X G a13,
      b_least_packings := (fun_mk (st := s_least_packings) l13 c13 k13).binds (ps := ["starts", "things", "choices"]) fun _ _ _ _ _ _ us hl => match us, hl with | [_, _, _], _ => rfl,
      F_is_at_most := fun_mk (st := s_is_at_most) l14 c14 k14,
      g_is_at_most := PySem.W.mg_of X G a14,
      b_is_at_most := (fun_mk (st := s_is_at_most) l14 c14 k14).binds (ps := ["first", "second"]) fun _ _ _ _ _ _ us hl => match us, hl with | [_, _], _ => rfl,
      F_corners := fun_mk (st := s_corners) l15 c15 k15,
      g_corners := PySem.W.mg_of X G a15,
      b_corners := (fun_mk (st := s_corners) l15 c15 k15).binds (ps := ["starts", "things", "choices"]) fun _ _ _ _ _ _ us hl => match us, hl with | [_, _, _], _ => rfl,
      F_law_source := fun_mk (st := s_law_source) l16 c16 k16,
      g_law_source := PySem.W.mg_of X G a16,
      b_law_source := (fun_mk (st := s_law_source) l16 c16 k16).binds (ps := ["_law_script"]) fun _ _ _ _ _ _ us hl => match us, hl with | [_], _ => rfl,
      F_law_draw := fun_mk (st := s_law_draw) l17 c17 k17,
      g_law_draw := PySem.W.mg_of X G a17,
      b_law_draw := (fun_mk (st := s_law_draw) l17 c17 k17).binds (ps := ["_law_source_here", "_law_limit"]) fun _ _ _ _ _ _ us hl => match us, hl with | [_, _], _ => rfl,
      F_law_is_number := fun_mk (st := s_law_is_number) l18 c18 k18,
      g_law_is_number := PySem.W.mg_of X G a18,
      b_law_is_number := (fun_mk (st := s_law_is_number) l18 c18 k18).binds (ps := ["_law_thing"]) fun _ _ _ _ _ _ us hl => match us, hl with | [_], _ => rfl,
      F_law_plain := fun_mk (st := s_law_plain) l19 c19 k19,
      g_law_plain := PySem.W.mg_of X G a19,
      b_law_plain := (fun_mk (st := s_law_plain) l19 c19 k19).binds (ps := ["_law_thing"]) fun _ _ _ _ _ _ us hl => match us, hl with | [_], _ => rfl,
      F_law_things := fun_mk (st := s_law_things) l20 c20 k20,
      g_law_things := PySem.W.mg_of X G a20,
      b_law_things := (fun_mk (st := s_law_things) l20 c20 k20).binds (ps := ["_law_source_here", "_law_count"]) fun _ _ _ _ _ _ us hl => match us, hl with | [_, _], _ => rfl,
      F_law_orders := fun_mk (st := s_law_orders) l21 c21 k21,
      g_law_orders := PySem.W.mg_of X G a21,
      b_law_orders := (fun_mk (st := s_law_orders) l21 c21 k21).binds (ps := ["_law_numbers"]) fun _ _ _ _ _ _ us hl => match us, hl with | [_], _ => rfl,
      F_law_end := fun_mk (st := s_law_end) l22 c22 k22,
      g_law_end := PySem.W.mg_of X G a22,
      b_law_end := (fun_mk (st := s_law_end) l22 c22 k22).binds (ps := ["_law_start", "_law_things_here", "_law_order"]) fun _ _ _ _ _ _ us hl => match us, hl with | [_, _, _], _ => rfl,
      F_law_choice := fun_mk (st := s_law_choice) l23 c23 k23,
      g_law_choice := PySem.W.mg_of X G a23,
      b_law_choice := (fun_mk (st := s_law_choice) l23 c23 k23).binds (ps := ["_law_source_here", "_law_count"]) fun _ _ _ _ _ _ us hl => match us, hl with | [_, _], _ => rfl,
      F_law_dealings := fun_mk (st := s_law_dealings) l24 c24 k24,
      g_law_dealings := PySem.W.mg_of X G a24,
      b_law_dealings := (fun_mk (st := s_law_dealings) l24 c24 k24).binds (ps := ["_law_choices"]) fun _ _ _ _ _ _ us hl => match us, hl with | [_], _ => rfl,
      F_law_packings := fun_mk (st := s_law_packings) l25 c25 k25,
      g_law_packings := PySem.W.mg_of X G a25,
      b_law_packings := (fun_mk (st := s_law_packings) l25 c25 k25).binds (ps := ["_law_starts", "_law_things_here", "_law_choices"]) fun _ _ _ _ _ _ us hl => match us, hl with | [_, _, _], _ => rfl,
      F_law_lot := fun_mk (st := s_law_lot) l26 c26 k26,
      g_law_lot := PySem.W.mg_of X G a26,
      b_law_lot := (fun_mk (st := s_law_lot) l26 c26 k26).binds (ps := ["_law_source_here", "_law_most"]) fun _ _ _ _ _ _ us hl => match us, hl with | [_, _], _ => rfl,
      F_law_same := fun_mk (st := s_law_same) l27 c27 k27,
      g_law_same := PySem.W.mg_of X G a27,
      b_law_same := (fun_mk (st := s_law_same) l27 c27 k27).binds (ps := ["_law_packing", "_law_row", "_law_starts"]) fun _ _ _ _ _ _ us hl => match us, hl with | [_, _, _], _ => rfl,
      F_law_firsts := fun_mk (st := s_law_firsts) l28 c28 k28,
      g_law_firsts := PySem.W.mg_of X G a28,
      b_law_firsts := (fun_mk (st := s_law_firsts) l28 c28 k28).binds (ps := ["_law_starts", "_law_found"]) fun _ _ _ _ _ _ us hl => match us, hl with | [_, _], _ => rfl,
      F_law_at_most := fun_mk (st := s_law_at_most) l29 c29 k29,
      g_law_at_most := PySem.W.mg_of X G a29,
      b_law_at_most := (fun_mk (st := s_law_at_most) l29 c29 k29).binds (ps := ["_law_one", "_law_other"]) fun _ _ _ _ _ _ us hl => match us, hl with | [_, _], _ => rfl,
      F_law_is_corner := fun_mk (st := s_law_is_corner) l30 c30 k30,
      g_law_is_corner := PySem.W.mg_of X G a30,
      b_law_is_corner := (fun_mk (st := s_law_is_corner) l30 c30 k30).binds (ps := ["_law_pair", "_law_starts", "_law_firsts_here"]) fun _ _ _ _ _ _ us hl => match us, hl with | [_, _, _], _ => rfl,
      F_law_asked := fun_mk (st := s_law_asked) l31 c31 k31,
      g_law_asked := PySem.W.mg_of X G a31,
      b_law_asked := (fun_mk (st := s_law_asked) l31 c31 k31).binds (ps := ["_law_lot_here", "_law_firsts_here"]) fun _ _ _ _ _ _ us hl => match us, hl with | [_, _], _ => rfl,
      F_law_refused := fun_mk (st := s_law_refused) l32 c32 k32,
      g_law_refused := PySem.W.mg_of X G a32,
      b_law_refused := (fun_mk (st := s_law_refused) l32 c32 k32).binds (ps := ["_law_starts", "_law_things_here", "_law_due"]) fun _ _ _ _ _ _ us hl => match us, hl with | [_, _, _], _ => rfl,
      F_law := fun_mk (st := s_law) l33 c33 k33,
      g_law := PySem.W.mg_of X G a33,
      b_law := (fun_mk (st := s_law) l33 c33 k33).binds (ps := ["_law_script"]) fun _ _ _ _ _ _ us hl => match us, hl with | [_], _ => rfl,
      F_TooMany_init := fun_mk (st := s_TooMany_init) l34 c34 k34,
      x_TooMany := ⟨PySem.W.mg_of X G gc_TooMany, ⟨⟨_, _, _, _, _, _, _, _, _, _, _, _, _, _, _, xl_TooMany, vb_TooMany⟩, sa_TooMany, ec_TooMany, tc_TooMany, kc_TooMany⟩, no_TooMany, ic_TooMany, ti_TooMany, (fun_mk (st := s_TooMany_init) l34 c34 k34).binds (ps := ["self", "limit"]) fun _ _ _ _ _ _ us hl => match us, hl with | [_, _], _ => rfl, ⟨ga_TooMany, gg_TooMany, ec_TooMany, hd_TooMany⟩, ⟨ga_TooMany, gg_TooMany, ec_TooMany, hd_TooMany, ha_TooMany, hn0, ht0, hm_TooMany⟩, PySem.W.exm_ref ec_TooMany hd_TooMany tc_TooMany ss_TooMany⟩,
      F_NoFit_init := fun_mk (st := s_NoFit_init) l35 c35 k35,
      x_NoFit := ⟨PySem.W.mg_of X G gc_NoFit, ⟨⟨_, _, _, _, _, _, _, _, _, _, _, _, _, _, _, xl_NoFit, vb_NoFit⟩, sa_NoFit, ec_NoFit, tc_NoFit, kc_NoFit⟩, no_NoFit, ic_NoFit, ti_NoFit, (fun_mk (st := s_NoFit_init) l35 c35 k35).binds (ps := ["self", "count"]) fun _ _ _ _ _ _ us hl => match us, hl with | [_, _], _ => rfl, ⟨ga_NoFit, gg_NoFit, ec_NoFit, hd_NoFit⟩, ⟨ga_NoFit, gg_NoFit, ec_NoFit, hd_NoFit, ha_NoFit, hn0, ht0, hm_NoFit⟩, PySem.W.exm_ref ec_NoFit hd_NoFit tc_NoFit ss_NoFit⟩,
      F_Packing_init := fun_mk (st := s_Packing_init) l36 c36 k36,
      b_Packing_init := (fun_mk (st := s_Packing_init) l36 c36 k36).binds (ps := ["self", "starts", "things", "dealing", "orders"]) fun _ _ _ _ _ _ us hl => match us, hl with | [_, _, _, _, _], _ => rfl,
      m_Packing := ⟨mk_Packing, ic_Packing_init, fn_Packing_init, kp_Packing⟩,
      cl_Packing := ⟨pg_Packing, hd_Packing, po_Packing, sa_Packing⟩,
      na_Packing_dealing := na_Packing_dealing,
      na_Packing_orders := na_Packing_orders,
      na_Packing_ends := na_Packing_ends,
      na_Packing_words := na_Packing_words,
      ty_Packing := fun e => .base (.ins e ⟨pg_Packing, hd_Packing, po_Packing, sa_Packing⟩ ha_Packing hn0 ht0 hm_Packing),
      g_TooMany := PySem.W.mg_of X G gc_TooMany,
      g_NoFit := PySem.W.mg_of X G gc_NoFit,
      g_Packing := PySem.W.mg_of X G gc_Packing,
      k_Packing_Packing := ki_Packing_Packing,
      k_TooMany_NoFit := ki_TooMany_NoFit,
      k_NoFit_TooMany := ki_NoFit_TooMany,
      k_NoFit_ValueError := ki_NoFit_ValueError,
      n_abs := PySem.W.mg_none_of X G z_abs,
      n_all := PySem.W.mg_none_of X G z_all,
      n_any := PySem.W.mg_none_of X G z_any,
      n_bool := PySem.W.mg_none_of X G z_bool,
      n_enumerate := PySem.W.mg_none_of X G z_enumerate,
      n_int := PySem.W.mg_none_of X G z_int,
      n_isinstance := PySem.W.mg_none_of X G z_isinstance,
      n_len := PySem.W.mg_none_of X G z_len,
      n_list := PySem.W.mg_none_of X G z_list,
      n_max := PySem.W.mg_none_of X G z_max,
      n_min := PySem.W.mg_none_of X G z_min,
      n_range := PySem.W.mg_none_of X G z_range,
      n_set := PySem.W.mg_none_of X G z_set,
      n_sorted := PySem.W.mg_none_of X G z_sorted,
      n_sum := PySem.W.mg_none_of X G z_sum,
      n_tuple := PySem.W.mg_none_of X G z_tuple,
      n_zip := PySem.W.mg_none_of X G z_zip }
  exact ⟨(PySem.W.fnOf "law" "law" (defArgs s_law) (defBody s_law) (defScope s_law) .none kV33 dc33 pm33 an33 cd33 ct33), fun s v => .of_eq rfl, fun base _ _ => ok_law T⟩
end R1
open PySem PySem.W PyProof.Rows
set_option maxHeartbeats 0 in
theorem PySem.Challenge.cw_romwright_k43_whole_corners_holds : PySem.Challenge.rw_romwright_k43_whole_corners.Holds := by
  w_on; o_law; k_head; (case hw => w_witness2)
  k_fill
  refine L2.walk_of (l := PySem.Challenge.rw_romwright_k43_whole_corners) (n := 63) (k := 14) (x := "_law_script") (CX := fun _ => L2.CX0) (sp := fun w => R1.spLaw _) rfl (by decide) rfl ⟨rfl, by decide, by decide⟩ (fun w h Y => PySem.W.kIn_of Y) ?F (fun _ _ a ns hl _ hS => ⟨a, ns, rfl, hS, hl, fun _ => rfl⟩) (fun _ _ _ _ _ h => h)
  case F =>
    intro w mg fa h KX G hmg
    refine' R1.all_mk KX G hmg ?a1 ?l1 ?c1 ?k1 ?a2 ?l2 ?c2 ?k2 ?a3 ?l3 ?c3 ?k3 ?a4 ?l4 ?c4 ?k4 ?a5 ?l5 ?c5 ?k5 ?a6 ?l6 ?c6 ?k6 ?a7 ?l7 ?c7 ?k7 ?a8 ?l8 ?c8 ?k8 ?a9 ?l9 ?c9 ?k9 ?a10 ?l10 ?c10 ?k10 ?a11 ?l11 ?c11 ?k11 ?a12 ?l12 ?c12 ?k12 ?a13 ?l13 ?c13 ?k13 ?a14 ?l14 ?c14 ?k14 ?a15 ?l15 ?c15 ?k15 ?a16 ?l16 ?c16 ?k16 ?a17 ?l17 ?c17 ?k17 ?a18 ?l18 ?c18 ?k18 ?a19 ?l19 ?c19 ?k19 ?a20 ?l20 ?c20 ?k20 ?a21 ?l21 ?c21 ?k21 ?a22 ?l22 ?c22 ?k22 ?a23 ?l23 ?c23 ?k23 ?a24 ?l24 ?c24 ?k24 ?a25 ?l25 ?c25 ?k25 ?a26 ?l26 ?c26 ?k26 ?a27 ?l27 ?c27 ?k27 ?a28 ?l28 ?c28 ?k28 ?a29 ?l29 ?c29 ?k29 ?a30 ?l30 ?c30 ?k30 ?a31 ?l31 ?c31 ?k31 ?a32 ?l32 ?c32 ?k32 ?a33 ?l33 ?c33 ?k33 ?l34 ?c34 ?k34 ?l35 ?c35 ?k35 ?l36 ?c36 ?k36 ?gc_TooMany ?xl_TooMany ?vb_TooMany ?sa_TooMany ?ec_TooMany ?tc_TooMany ?kc_TooMany ?no_TooMany ?ic_TooMany ?ti_TooMany ?ga_TooMany ?gg_TooMany ?hd_TooMany ?ha_TooMany ?hm_TooMany ?ss_TooMany ?gc_NoFit ?xl_NoFit ?vb_NoFit ?sa_NoFit ?ec_NoFit ?tc_NoFit ?kc_NoFit ?no_NoFit ?ic_NoFit ?ti_NoFit ?ga_NoFit ?gg_NoFit ?hd_NoFit ?ha_NoFit ?hm_NoFit ?ss_NoFit ?hn0 ?ht0 ?gc_Packing ?ic_Packing_init ?fn_Packing_init ?mk_Packing ?kp_Packing ?pg_Packing ?hd_Packing ?po_Packing ?sa_Packing ?na_Packing_dealing ?na_Packing_orders ?na_Packing_ends ?na_Packing_words ?ha_Packing ?hm_Packing ?ki_Packing_Packing ?ki_TooMany_NoFit ?ki_NoFit_TooMany ?ki_NoFit_ValueError ?z_abs ?z_all ?z_any ?z_bool ?z_enumerate ?z_int ?z_isinstance ?z_len ?z_list ?z_max ?z_min ?z_range ?z_set ?z_sorted ?z_sum ?z_tuple ?z_zip
    (case a1 => k_is)
    (case a2 => k_is)
    (case a3 => k_is)
    (case a4 => k_is)
    (case a5 => k_is)
    (case a6 => k_is)
    (case a7 => k_is)
    (case a8 => k_is)
    (case a9 => k_is)
    (case a10 => k_is)
    (case a11 => k_is)
    (case a12 => k_is)
    (case a13 => k_is)
    (case a14 => k_is)
    (case a15 => k_is)
    (case a16 => k_is)
    (case a17 => k_is)
    (case a18 => k_is)
    (case a19 => k_is)
    (case a20 => k_is)
    (case a21 => k_is)
    (case a22 => k_is)
    (case a23 => k_is)
    (case a24 => k_is)
    (case a25 => k_is)
    (case a26 => k_is)
    (case a27 => k_is)
    (case a28 => k_is)
    (case a29 => k_is)
    (case a30 => k_is)
    (case a31 => k_is)
    (case a32 => k_is)
    (case a33 => k_is)
    (case gc_TooMany => k_is)
    (case gc_NoFit => k_is)
    (case gc_Packing => k_is)
    (case ic_TooMany => k_is)
    (case ic_NoFit => k_is)
    (case ic_Packing_init => k_is)
    (case l1 => k_is)
    (case c1 => k_is)
    (case k1 => k_is)
    (case l2 => k_is)
    (case c2 => k_is)
    (case k2 => k_is)
    (case l3 => k_is)
    (case c3 => k_is)
    (case k3 => k_is)
    (case l4 => k_is)
    (case c4 => k_is)
    (case k4 => k_is)
    (case l5 => k_is)
    (case c5 => k_is)
    (case k5 => k_is)
    (case l6 => k_is)
    (case c6 => k_is)
    (case k6 => k_is)
    (case l7 => k_is)
    (case c7 => k_is)
    (case k7 => k_is)
    (case l8 => k_is)
    (case c8 => k_is)
    (case k8 => k_is)
    (case l9 => k_is)
    (case c9 => k_is)
    (case k9 => k_is)
    (case l10 => k_is)
    (case c10 => k_is)
    (case k10 => k_is)
    (case l11 => k_is)
    (case c11 => k_is)
    (case k11 => k_is)
    (case l12 => k_is)
    (case c12 => k_is)
    (case k12 => k_is)
    (case l13 => k_is)
    (case c13 => k_is)
    (case k13 => k_is)
    (case l14 => k_is)
    (case c14 => k_is)
    (case k14 => k_is)
    (case l15 => k_is)
    (case c15 => k_is)
    (case k15 => k_is)
    (case l16 => k_is)
    (case c16 => k_is)
    (case k16 => k_is)
    (case l17 => k_is)
    (case c17 => k_is)
    (case k17 => k_is)
    (case l18 => k_is)
    (case c18 => k_is)
    (case k18 => k_is)
    (case l19 => k_is)
    (case c19 => k_is)
    (case k19 => k_is)
    (case l20 => k_is)
    (case c20 => k_is)
    (case k20 => k_is)
    (case l21 => k_is)
    (case c21 => k_is)
    (case k21 => k_is)
    (case l22 => k_is)
    (case c22 => k_is)
    (case k22 => k_is)
    (case l23 => k_is)
    (case c23 => k_is)
    (case k23 => k_is)
    (case l24 => k_is)
    (case c24 => k_is)
    (case k24 => k_is)
    (case l25 => k_is)
    (case c25 => k_is)
    (case k25 => k_is)
    (case l26 => k_is)
    (case c26 => k_is)
    (case k26 => k_is)
    (case l27 => k_is)
    (case c27 => k_is)
    (case k27 => k_is)
    (case l28 => k_is)
    (case c28 => k_is)
    (case k28 => k_is)
    (case l29 => k_is)
    (case c29 => k_is)
    (case k29 => k_is)
    (case l30 => k_is)
    (case c30 => k_is)
    (case k30 => k_is)
    (case l31 => k_is)
    (case c31 => k_is)
    (case k31 => k_is)
    (case l32 => k_is)
    (case c32 => k_is)
    (case k32 => k_is)
    (case l33 => k_is)
    (case c33 => k_is)
    (case k33 => k_is)
    (case l34 => k_is)
    (case c34 => k_is)
    (case k34 => k_is)
    (case l35 => k_is)
    (case c35 => k_is)
    (case k35 => k_is)
    (case l36 => k_is)
    (case c36 => k_is)
    (case k36 => k_is)
    (case xl_TooMany => k_is)
    (case vb_TooMany => first | k_is | decide +kernel)
    (case sa_TooMany => k_is)
    (case ec_TooMany => k_is)
    (case tc_TooMany => k_is)
    (case kc_TooMany => k_is)
    (case no_TooMany => k_is)
    (case ti_TooMany => k_is)
    (case ga_TooMany => k_is)
    (case gg_TooMany => k_is)
    (case hd_TooMany => k_is)
    (case ha_TooMany => k_is)
    (case hm_TooMany => k_is)
    (case ss_TooMany => k_is)
    (case xl_NoFit => k_is)
    (case vb_NoFit => first | k_is | decide +kernel)
    (case sa_NoFit => k_is)
    (case ec_NoFit => k_is)
    (case tc_NoFit => k_is)
    (case kc_NoFit => k_is)
    (case no_NoFit => k_is)
    (case ti_NoFit => k_is)
    (case ga_NoFit => k_is)
    (case gg_NoFit => k_is)
    (case hd_NoFit => k_is)
    (case ha_NoFit => k_is)
    (case hm_NoFit => k_is)
    (case ss_NoFit => k_is)
    (case hn0 => k_is)
    (case ht0 => k_is)
    (case fn_Packing_init => k_is)
    (case mk_Packing => k_is)
    (case kp_Packing => k_is)
    (case pg_Packing => k_is)
    (case hd_Packing => k_is)
    (case po_Packing => k_is)
    (case sa_Packing => k_is)
    (case na_Packing_dealing => k_is)
    (case na_Packing_orders => k_is)
    (case na_Packing_ends => k_is)
    (case na_Packing_words => k_is)
    (case ha_Packing => k_is)
    (case hm_Packing => k_is)
    (case ki_Packing_Packing => first | k_is | kit_is | decide +kernel)
    (case ki_TooMany_NoFit => first | k_is | kit_is | decide +kernel)
    (case ki_NoFit_TooMany => first | k_is | kit_is | decide +kernel)
    (case ki_NoFit_ValueError => first | k_is | kit_is | decide +kernel)
    (case z_abs => k_is)
    (case z_all => k_is)
    (case z_any => k_is)
    (case z_bool => k_is)
    (case z_enumerate => k_is)
    (case z_int => k_is)
    (case z_isinstance => k_is)
    (case z_len => k_is)
    (case z_list => k_is)
    (case z_max => k_is)
    (case z_min => k_is)
    (case z_range => k_is)
    (case z_set => k_is)
    (case z_sorted => k_is)
    (case z_sum => k_is)
    (case z_tuple => k_is)
    (case z_zip => k_is)

