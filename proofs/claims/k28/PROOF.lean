import PyProof.Rows.All
import Wide.All
import OpenK.AllK
import Wide.FinOn
import HandS.ForMost
import HandS.Wide
import HandS.Walk
import HandS.IsInst
import HandS.TupAny
import HandS.StrMore
import HandS.Replace
import HandS.Style
import HandS.Evl
import HandS.SetFor
import HandS.Strs
import PyProof.Rows.SortShellAny
import HandS.ForExc
import HandS.ExcInit
import HandS.ExcField
import HandS.ExcIs
import KE.KExcIs
import HandS.HotCalls
import HandS.ExcInitHot
import KE.KxField
import HandS.FStr
import HandS.Iter
import PyProof.Rows.ChunkEnd
import HandS.Star
import HandS.WideBits
import HandS.OwnEq
import HandS.OwnIter
import HandS.IterVal
import OpenK.KMeth
import OpenK.KOps
import PySem.Challenge.RW_romwright_k28_lets_and_rings
import HandS.Conv
import HandS.GenBody
import HandS.GenYield
import HandS.GenList
import HandS.DictComp
import HandS.Spec
import PyProof.Rows.TupDisplay
import KE.DataCmp
import HandS.Deep
set_option Elab.async false
set_option linter.all false
set_option maxRecDepth 100000
set_option maxHeartbeats 4000000
namespace RK
open PySem PySem.Spec PyProof.Rows L2
/-! ### heaps -/
/-- all but what stands at p is as it was -/
def But (p : Addr) (H H' : Hp) : Prop := ∀ b o, b ≠ p → H b = some o → H' b = some o
theorem But.refl (p : Addr) (H : Hp) : But p H H := fun _ _ _ h => h
theorem But.upd {p : Addr} {H H' : Hp} {o : HO} (h : But p H H') : But p H (upd H' p o) := fun b u n e => by
  rw [upd_ne n]
  exact h b u n e
theorem But.trans {p : Addr} {H H1 H2 : Hp} (a : But p H H1) (b : But p H1 H2) : But p H H2 := fun c o n h => b c o n (a c o n h)
theorem but_new {p D : Addr} {H H' : Hp} {o : HO} (h : But p H H') (n : H D = none) : But p H (upd H' D o) := fun b u nb e => by
  rw [upd_ne (ne_of_none e n)]
  exact h b u nb e
theorem But.of {p : Addr} {H H' : Hp} (h : Same H H') : But p H H' := fun b o _ e => h b o e
theorem same_new {H : Hp} {p : Addr} {o : HO} (h : H p = none) : Same H (upd H p o) := fun b x e => by
  rw [upd_ne (ne_of_none e h)]
  exact e
theorem sqT_up {K : PySem.W.Frag} {H H' : Hp} {a : Addr} {xs : List V} (h : SqT K H a xs) (e : Same H H') : SqT K H' a xs := by
  rcases h with (h | ⟨o, h⟩) | h
  · exact .inl (.inl (e _ _ h))
  · exact .inl (.inr ⟨o, e _ _ h⟩)
  · exact .inr h
theorem sqL_up {K : PySem.W.Frag} {H H' : Hp} {a : Addr} {xs : List V} (h : SqL K H a xs) (e : Same H H') : SqL K H' a xs := e.seq h
/-- a new object that H did not know changes -/
theorem same_mut {H H' : Hp} {p : Addr} {o : HO} (e : Same H H') (h : H p = none) : Same H (upd H' p o) := fun a u ha => by
  rw [upd_ne (ne_of_none ha h)]
  exact e a u ha
/-- the heap without p -/
def hid (H : Hp) (p : Addr) : Hp := fun b => if b = p then none else H b
theorem hid_same {H : Hp} {p : Addr} : Same (hid H p) H := fun b o e => by
  unfold hid at e
  split at e
  · cases e
  · exact e
theorem hid_at {H : Hp} {p b : Addr} {o : HO} (h : H b = some o) (n : b ≠ p) : hid H p b = some o := by
  unfold hid
  rw [if_neg n]
  exact h
theorem hid_but {H H' : Hp} {p : Addr} (h : But p H H') : Same (hid H p) (hid H' p) := fun b o e => by
  unfold hid at e ⊢
  split at e
  · cases e
  · rename_i n
    rw [if_neg n]
    exact h b o n e
mutual
theorem dpUp {K : PySem.W.Frag} {H H' : Hp} (e : Same H H') : ∀ {v : V} {d : PyData}, Dp K H v d → Dp K H' v d
  | _, _, .non => .non
  | _, _, .bl b => .bl b
  | _, _, .int i => .int i
  | _, _, .str x => .str x
  | _, _, .lst h t => .lst (sqL_up h e) (dpAllUp e t)
  | _, _, .tup h t => .tup (sqT_up h e) (dpAllUp e t)
theorem dpAllUp {K : PySem.W.Frag} {H H' : Hp} (e : Same H H') : ∀ {vs : List V} {ds : List PyData}, DpAll K H vs ds → DpAll K H' vs ds
  | _, _, .nil => .nil
  | _, _, .cons h t => .cons (dpUp e h) (dpAllUp e t)
end
/-! ### data of any depth, none of whose changeable objects lies in S -/
abbrev ASet := Addr → Prop
def noS : ASet := fun _ => False
def inS (S : ASet) (a : Addr) : ASet := fun b => S b ∨ b = a
/-- at a: a list | a tuple that is not in S -/
def XL (K : PySem.W.Frag) (H : Hp) (S : ASet) (a : Addr) (xs : List V) : Prop := (¬ S a ∧ Rd H a (.lst xs)) ∨ SqL K (fun _ => none) a xs
def XT (K : PySem.W.Frag) (H : Hp) (S : ASet) (a : Addr) (xs : List V) : Prop := (¬ S a ∧ Rd H a (.tup xs)) ∨ SqT K (fun _ => none) a xs
/-- what stood outside of S stands -/
def Out (S : ASet) (H H' : Hp) : Prop := ∀ b o, ¬ S b → H b = some o → H' b = some o
theorem Out.of {S : ASet} {H H' : Hp} (h : Same H H') : Out S H H' := fun b o _ e => h b o e
theorem Out.refl (S : ASet) (H : Hp) : Out S H H := fun _ _ _ h => h
theorem Out.trans {S : ASet} {H H1 H2 : Hp} (a : Out S H H1) (b : Out S H1 H2) : Out S H H2 := fun c o n h => b c o n (a c o n h)
theorem Out.mono {S S' : ASet} {H H' : Hp} (h : Out S H H') (k : ∀ a, S a → S' a) : Out S' H H' := fun b o n e => h b o (fun z => n (k b z)) e
theorem Out.put {S : ASet} {H H' : Hp} {a : Addr} {o : HO} (h : Out S H H') (ha : S a) : Out S H (upd H' a o) := fun b u n e => by
  rw [upd_ne fun z => n (by rw [z]; exact ha)]
  exact h b u n e
section
variable {K : PySem.W.Frag} {H H' : Hp} {S S' : ASet} {v x : V} {a p : Addr} {xs : List V} {d : PyData} {ds : List PyData}
theorem XL.sq (h : XL K H S a xs) : SqL K H a xs := by
  rcases h with ⟨_, h⟩ | (h | ⟨_, h⟩) | h
  · exact .inl h
  · cases h
  · cases h
  · exact .inr h
theorem XT.sq (h : XT K H S a xs) : SqT K H a xs := by
  rcases h with ⟨_, h⟩ | (h | ⟨_, h⟩) | h
  · exact .inl h
  · cases h
  · cases h
  · exact .inr h
theorem XL.of (h : H a = some (.lst xs)) (n : ¬ S a) : XL K H S a xs := .inl ⟨n, .inl h⟩
theorem XT.of (h : H a = some (.tup xs)) (n : ¬ S a) : XT K H S a xs := .inl ⟨n, .inl h⟩
theorem XL.up (h : XL K H S a xs) (e : Out S H H') : XL K H' S a xs := by
  rcases h with ⟨n, h | ⟨o, h⟩⟩ | h
  · exact .inl ⟨n, .inl (e _ _ n h)⟩
  · exact .inl ⟨n, .inr ⟨o, e _ _ n h⟩⟩
  · exact .inr h
theorem XT.up (h : XT K H S a xs) (e : Out S H H') : XT K H' S a xs := by
  rcases h with ⟨n, h | ⟨o, h⟩⟩ | h
  · exact .inl ⟨n, .inl (e _ _ n h)⟩
  · exact .inl ⟨n, .inr ⟨o, e _ _ n h⟩⟩
  · exact .inr h
/-- a further address that is not in the heap is kept out -/
theorem XL.add (h : XL K H S a xs) (hp : H p = none) : XL K H (inS S p) a xs := by
  rcases h with ⟨n, h⟩ | h
  · refine .inl ⟨fun z => ?_, h⟩
    rcases z with z | z
    · exact n z
    · subst z
      rcases h with h | ⟨o, h⟩ <;> rw [hp] at h <;> cases h
  · exact .inr h
theorem XT.add (h : XT K H S a xs) (hp : H p = none) : XT K H (inS S p) a xs := by
  rcases h with ⟨n, h⟩ | h
  · refine .inl ⟨fun z => ?_, h⟩
    rcases z with z | z
    · exact n z
    · subst z
      rcases h with h | ⟨o, h⟩ <;> rw [hp] at h <;> cases h
  · exact .inr h
theorem XL.less (h : XL K H S a xs) (k : ∀ a, S' a → S a) : XL K H S' a xs := by
  rcases h with ⟨n, h⟩ | h
  · exact .inl ⟨fun z => n (k _ z), h⟩
  · exact .inr h
theorem XT.less (h : XT K H S a xs) (k : ∀ a, S' a → S a) : XT K H S' a xs := by
  rcases h with ⟨n, h⟩ | h
  · exact .inl ⟨fun z => n (k _ z), h⟩
  · exact .inr h
mutual
inductive Dx (K : PySem.W.Frag) (H : Hp) (S : ASet) : V → PyData → Prop
  | non : Dx K H S .non .none
  | bl (b : Bool) : Dx K H S (.bl b) (.bool b)
  | int (i : Int) : Dx K H S (.int i) (.int i)
  | str (x : Str) : Dx K H S (.str x) (.str x)
  | lst {a : Addr} {xs : List V} {ds : List PyData} : XL K H S a xs → DxAll K H S xs ds → Dx K H S (.ref a) (.list ds)
  | tup {a : Addr} {xs : List V} {ds : List PyData} : XT K H S a xs → DxAll K H S xs ds → Dx K H S (.ref a) (.tuple ds)
inductive DxAll (K : PySem.W.Frag) (H : Hp) (S : ASet) : List V → List PyData → Prop
  | nil : DxAll K H S [] []
  | cons {v : V} {vs : List V} {d : PyData} {ds : List PyData} : Dx K H S v d → DxAll K H S vs ds → DxAll K H S (v :: vs) (d :: ds)
end
mutual
theorem Dx.up (e : Out S H H') : ∀ {v : V} {d : PyData}, Dx K H S v d → Dx K H' S v d
  | _, _, .non => .non
  | _, _, .bl b => .bl b
  | _, _, .int i => .int i
  | _, _, .str x => .str x
  | _, _, .lst h t => .lst (h.up e) (DxAll.up e t)
  | _, _, .tup h t => .tup (h.up e) (DxAll.up e t)
theorem DxAll.up (e : Out S H H') : ∀ {vs : List V} {ds : List PyData}, DxAll K H S vs ds → DxAll K H' S vs ds
  | _, _, .nil => .nil
  | _, _, .cons h t => .cons (Dx.up e h) (DxAll.up e t)
end
mutual
theorem Dx.add (hp : H p = none) : ∀ {v : V} {d : PyData}, Dx K H S v d → Dx K H (inS S p) v d
  | _, _, .non => .non
  | _, _, .bl b => .bl b
  | _, _, .int i => .int i
  | _, _, .str x => .str x
  | _, _, .lst h t => .lst (h.add hp) (DxAll.add hp t)
  | _, _, .tup h t => .tup (h.add hp) (DxAll.add hp t)
theorem DxAll.add (hp : H p = none) : ∀ {vs : List V} {ds : List PyData}, DxAll K H S vs ds → DxAll K H (inS S p) vs ds
  | _, _, .nil => .nil
  | _, _, .cons h t => .cons (Dx.add hp h) (DxAll.add hp t)
end
mutual
theorem Dx.less (k : ∀ a, S' a → S a) : ∀ {v : V} {d : PyData}, Dx K H S v d → Dx K H S' v d
  | _, _, .non => .non
  | _, _, .bl b => .bl b
  | _, _, .int i => .int i
  | _, _, .str x => .str x
  | _, _, .lst h t => .lst (h.less k) (DxAll.less k t)
  | _, _, .tup h t => .tup (h.less k) (DxAll.less k t)
theorem DxAll.less (k : ∀ a, S' a → S a) : ∀ {vs : List V} {ds : List PyData}, DxAll K H S vs ds → DxAll K H S' vs ds
  | _, _, .nil => .nil
  | _, _, .cons h t => .cons (Dx.less k h) (DxAll.less k t)
end
mutual
theorem Dx.dp : ∀ {v : V} {d : PyData}, Dx K H S v d → Dp K H v d
  | _, _, .non => .non
  | _, _, .bl b => .bl b
  | _, _, .int i => .int i
  | _, _, .str x => .str x
  | _, _, .lst h t => .lst h.sq (DxAll.dp t)
  | _, _, .tup h t => .tup h.sq (DxAll.dp t)
theorem DxAll.dp : ∀ {vs : List V} {ds : List PyData}, DxAll K H S vs ds → DpAll K H vs ds
  | _, _, .nil => .nil
  | _, _, .cons h t => .cons (Dx.dp h) (DxAll.dp t)
end
theorem dxAll_get : ∀ {vs : List V} {ds : List PyData} {i : Nat} {x : V}, DxAll K H S vs ds → vs[i]? = some x → ∃ d, ds[i]? = some d ∧ Dx K H S x d
  | _, _, _, _, .nil, e => by simp at e
  | _, _, 0, _, .cons h _, e => by
    simp at e
    subst e
    exact ⟨_, rfl, h⟩
  | _, _, i + 1, x, .cons _ t, e => by
    obtain ⟨d, h1, h2⟩ := dxAll_get (i := i) (x := x) t (by simpa using e)
    exact ⟨d, by simpa using h1, h2⟩
theorem Dx.of_get {vs : List V} {ds : List PyData} {i : Nat} (h : DxAll K H S vs ds) (e : vs[i]? = some x) (e2 : ds[i]? = some d) : Dx K H S x d := by
  obtain ⟨d', h1, h2⟩ := dxAll_get h e
  rw [e2] at h1
  rw [Option.some.inj h1]
  exact h2
theorem dxAll_len : ∀ {vs : List V} {ds : List PyData}, DxAll K H S vs ds → vs.length = ds.length
  | _, _, .nil => rfl
  | _, _, .cons _ t => by
    rw [List.length_cons, List.length_cons, dxAll_len t]
theorem dxAll_app : ∀ {vs ws : List V} {ds es : List PyData}, DxAll K H S vs ds → DxAll K H S ws es → DxAll K H S (vs ++ ws) (ds ++ es)
  | _, _, _, _, .nil, h => h
  | _, _, _, _, .cons a t, h => .cons a (dxAll_app t h)
theorem dxAll_ints : ∀ ns : List Int, DxAll K H S (ns.map V.int) (ns.map PyData.int)
  | [] => .nil
  | n :: r => .cons (.int n) (dxAll_ints r)
theorem dxAll_strs : ∀ ns : List Str, DxAll K H S (ns.map V.str) (ns.map PyData.str)
  | [] => .nil
  | n :: r => .cons (.str n) (dxAll_strs r)
theorem dxAll_ints_inv : ∀ {vs : List V} {ns : List Int}, DxAll K H S vs (ns.map PyData.int) → vs = ns.map V.int
  | _, [], .nil => rfl
  | _, n :: r, .cons h t => by
    cases h
    rw [dxAll_ints_inv t]
    rfl
end
section
variable {K : PySem.W.Frag} {H H' : Hp} {v x : V} {a p : Addr} {xs : List V} {d : PyData} {ds : List PyData}
/-! ### isinstance -/
def tn : PyData → String
  | .none => "NoneType"
  | .bool _ => "bool"
  | .int _ => "int"
  | .str _ => "str"
  | .list _ => "list"
  | .tuple _ => "tuple"
  | .dict _ => "dict"
def isB (a c : String) : Bool := a == c || (a == "bool" && c == "int")
theorem kitT : ∀ a ∈ (["NoneType", "bool", "int", "str", "list", "tuple"] : List String), ∀ c ∈ (["int", "bool", "str", "list", "tuple"] : List String), kitB a c = some (isB a c) := by decide +kernel
theorem dp_tn (h : Dp K H v d) : tn d ∈ (["NoneType", "bool", "int", "str", "list", "tuple"] : List String) := by
  cases h <;> simp [tn]
theorem dp_ty (h : Dp K H v d) : TyX K H v (.type (tn d)) := by
  cases h with
  | non => exact .base .non
  | bl b => exact .base (.bl b)
  | int i => exact .base (.int i)
  | str x => exact .base (.str x)
  | lst h _ =>
    rcases h with (h | ⟨o, h⟩) | ⟨o, its, n, hk, hc, _⟩
    · exact .base (.lst h)
    · exact .base (.frz h)
    · exact .kList hk hc
  | tup h _ =>
    rcases h with (h | ⟨o, h⟩) | ⟨o, its, n, hk, hc, _⟩
    · exact .base (.tup h)
    · exact .fTuple h
    · exact .kTuple hk hc
theorem r_isi {c : String} {Q : VK} (h : Dp K H v d) (hc : c ∈ (["int", "bool", "str", "list", "tuple"] : List String)) (q : Q (.bl (isB (tn d) c)) H) : rIsi K [v, .ty c] H Q :=
  ⟨v, .ty c, _, _, _, rfl, .ty c, dp_ty h, kit_ty (kitT _ (dp_tn h) c hc), q⟩
theorem kit_any {t : String} (ht : t ∈ (["NoneType", "bool", "int", "str", "list", "tuple"] : List String)) : ∀ cs : List String, (∀ c ∈ cs, c ∈ (["int", "bool", "str", "list", "tuple"] : List String)) →
    PySem.W.kitAny K (.type t) (cs.map Value.type) = some (cs.any (isB t))
  | [], _ => rfl
  | c :: r, h => by
    have h1 : PySem.W.kitOne K (.type t) (.type c) = some (isB t c) := kit_ty (kitT t ht c (h c List.mem_cons_self))
    have h2 := kit_any ht r fun x hx => h x (List.mem_cons_of_mem _ hx)
    show PySem.W.kitAny K (.type t) (.type c :: r.map Value.type) = some (isB t c || r.any (isB t))
    refine kitAny_cons h1 (fun e => ?_) (fun e => ?_)
    · rw [e, Bool.false_or]
      exact h2
    · rw [e, Bool.true_or]
theorem paired_ty : ∀ cs : List String, Paired ClsV (cs.map V.ty) (cs.map Value.type)
  | [] => .nil
  | c :: r => .cons (.ty c) (paired_ty r)
theorem r_isiT {cs : List String} {Q : VK} (h : Dp K H v d) (hp : H p = some (.tup (cs.map V.ty))) (hc : ∀ c ∈ cs, c ∈ (["int", "bool", "str", "list", "tuple"] : List String)) (q : Q (.bl (cs.any (isB (tn d)))) H) : rIsiT K [v, .ref p] H Q :=
  ⟨v, p, _, _, _, _, rfl, hp, paired_ty cs, dp_ty h, kit_any (dp_tn h) cs hc, q⟩
end
theorem ifT {c : Bool} {A B : Prop} (h : c = true) (a : A) : if c = true then A else B := by
  rw [if_pos h]
  exact a
theorem ifF {c : Bool} {A B : Prop} (h : c = false) (b : B) : if c = true then A else B := by
  rw [h, if_neg Bool.false_ne_true]
  exact b
theorem ifB {c : Bool} {A B : Prop} (ht : c = true → A) (hf : c = false → B) : if c = true then A else B := by
  cases c with
  | true => exact ifT rfl (ht rfl)
  | false => exact ifF rfl (hf rfl)
theorem lenOk {α : Type} {xs : List α} {n : Nat} (h : xs.length = n) (hn : n ≤ 100000) : xs.length ≤ sizeLine := by
  rw [h]
  exact Nat.le_trans hn (by decide)
theorem range_getD {α β : Type} (g : α → β) (z : α) : ∀ l : List α, (List.range l.length).map (fun i => g (l.getD i z)) = l.map g := fun l => by
  apply List.ext_getElem?
  intro i
  by_cases h : i < l.length
  · rw [List.getElem?_map, List.getElem?_range h, List.getElem?_map, List.getElem?_eq_getElem h]
    simp [List.getD_eq_getElem?_getD, List.getElem?_eq_getElem h]
  · rw [List.getElem?_eq_none (by simp; omega), List.getElem?_eq_none (by simp; omega)]
theorem depth_get : ∀ {ds : List PyData} {i : Nat} {d : PyData}, ds[i]? = some d → d.depth ≤ PyData.depthAll ds
  | [], _, _, h => by simp at h
  | x :: r, 0, d, h => by
    simp at h
    subst h
    exact Nat.le_max_left _ _
  | x :: r, i + 1, d, h => Nat.le_trans (depth_get (ds := r) (i := i) (by simpa using h)) (Nat.le_max_right _ _)
/-! no list or tuple in it is very long -/
mutual
def wdB : PyData → Bool
  | .list xs => decide (xs.length ≤ 100000) && wdA xs
  | .tuple xs => decide (xs.length ≤ 100000) && wdA xs
  | .none => true
  | .bool _ => true
  | .int _ => true
  | .str _ => true
  | .dict _ => true
def wdA : List PyData → Bool
  | [] => true
  | x :: r => wdB x && wdA r
end
theorem wdA_get : ∀ {ds : List PyData} {i : Nat} {d : PyData}, wdA ds = true → ds[i]? = some d → wdB d = true
  | [], _, _, _, h => by simp at h
  | x :: r, 0, d, w, h => by
    simp at h
    subst h
    exact (Bool.and_eq_true_iff.mp w).1
  | x :: r, i + 1, d, w, h => wdA_get (ds := r) (i := i) (Bool.and_eq_true_iff.mp w).2 (by simpa using h)
theorem wdA_all : ∀ {ds : List PyData}, (∀ d ∈ ds, wdB d = true) → wdA ds = true
  | [], _ => rfl
  | x :: r, h => Bool.and_eq_true_iff.mpr ⟨h x List.mem_cons_self, wdA_all fun d hd => h d (List.mem_cons_of_mem _ hd)⟩
/-! ### rules whose reading has a name -/
def rTupOf (K : PySem.W.Frag) : List V → Hp → VK → Prop := fun xs H Q => ∃ p ys, xs = [.ref p] ∧ ((SqL K H p ys ∧ ∀ l, H l = none → Q (.ref l) (upd H l (.tup ys))) ∨ (SqT K H p ys ∧ Q (.ref p) H))
section
variable {X : Cx}
theorem tuple_of : CallR X (.type "tuple") (rTupOf X.K) := call_tuple_of
theorem len_seq : CallR X (.builtin "len") (Evl.rLenS X.K) := call_len_seq
theorem list_of : CallR X (.type "list") (Evl.rListS X.K) := call_list_of
end
/-! ### what a walk goes over, lists or tuples -/
theorem PI_or {X : Cx} {tg l : Expr} {w1 w2 : TI} (h1 : PI X tg l w1) (h2 : PI X tg l w2) : PI X tg l (fun σ H R => w1 σ H R ∨ w2 σ H R) :=
  ⟨fun pins s σ H R I h => h.elim (h1.run pins s σ H R I) (h2.run pins s σ H R I)⟩
/-! ### comprehensions without tests whose elements have a value each; the target is the name at k -/
section
variable {J : It} {n : Nat} {G : Hp → Prop} {Y : Nat → Hp → V → Hp → Prop}
theorem lc_vals (w : Walk J n G Y) {te : TE} {σ : L2.St} {H1 : Hp} {D : Addr} {Qd : Hp → Prop} {k : Nat} (I : Nat → V → Prop) (f : Nat → V) (hD : H1 D = none) (hG : ∀ H, Same H1 H → G H) (hn : n ≤ 1000000)
    (hY : ∀ i H x H', i < n → Y i H x H' → H' = H ∧ I i x)
    (hs : ∀ i x H, i < n → Same H1 H → I i x → ∀ Q : VK, (∀ H3, Same H H3 → Q (f i) H3) → te ((σ.set k none).set k (some x)) H Q) (hd : ∀ H, Same H1 H → H D = some (.lst ((List.range n).map f)) → Qd H) :
    ∃ W : Nat → Nat → Hp → Prop, (∃ m, W 0 m (upd H1 D (.lst []))) ∧ ∀ i m H, W i m H →
      (J.stop i H ∧ Qd H) ∨ (J.go i H ∧ ∃ Nx : Hp → Prop, (∀ H', Nx H' → ∃ m', m' < m ∧ W (i + 1) m' H') ∧ ∀ x H', J.yld i H x H' → gName k x (wipe σ [k]) H' fun σ2 H2 => wipe σ2 [k] = wipe σ [k] ∧ tYes σ2 H2 fun b H3 =>
        if b = true then te σ2 H3 fun y H4 => ∃ acc, H4 D = some (.lst acc) ∧ acc.length < sizeLine ∧ Nx (upd H4 D (.lst (acc ++ [y]))) else Nx H3) := by
  refine lc_it w (fun i H => Same H1 H ∧ H D = some (.lst ((List.range i).map f))) ⟨same_new hD, upd_same⟩ (fun i H _ h => hG H h.1) (fun i x H H' hi hp y => ?_) fun H h => hd H h.1 h.2
  obtain ⟨sm, e⟩ := hp
  obtain ⟨rfl, hx⟩ := hY i H x H' hi y
  refine ⟨?_, ?_⟩
  · show ((σ.set k none).set k (some x)).set k none = σ.set k none
    rw [List.set_set, List.set_set]
  show te ((σ.set k none).set k (some x)) H' _
  refine hs i x H' hi sm hx _ fun H3 s3 => ?_
  have e3 : H3 D = some (.lst ((List.range i).map f)) := s3 _ _ e
  refine ⟨_, e3, ?_, same_mut (sm.trans s3) hD, ?_⟩
  · rw [List.length_map, List.length_range]
    exact Nat.lt_of_lt_of_le (Nat.lt_of_lt_of_le hi hn) (by decide)
  · rw [upd_same, List.range_succ, List.map_append]
    rfl
/-- a comprehension whose elements may change what stands; Pv speaks of the turn, the list so far and the heap -/
theorem lc_inv (w : Walk J n G Y) {te : TE} {σ : L2.St} {H1 : Hp} {D : Addr} {Qd : Hp → Prop} {k : Nat} (I : Nat → V → Prop) (Pv : Nat → List V → Hp → Prop) (hn : n ≤ 1000000) (h0 : Pv 0 [] (upd H1 D (.lst [])))
    (hG : ∀ i acc H, Pv i acc H → G H) (hY : ∀ i H x H', i < n → Y i H x H' → H' = H ∧ I i x)
    (hs : ∀ i x acc H, i < n → acc.length = i → Pv i acc H → H D = some (.lst acc) → I i x → ∀ Q : VK, (∀ v H3, H3 D = some (.lst acc) → Pv (i + 1) (acc ++ [v]) (upd H3 D (.lst (acc ++ [v]))) → Q v H3) → te ((σ.set k none).set k (some x)) H Q)
    (hd : ∀ acc H, acc.length = n → Pv n acc H → H D = some (.lst acc) → Qd H) :
    ∃ W : Nat → Nat → Hp → Prop, (∃ m, W 0 m (upd H1 D (.lst []))) ∧ ∀ i m H, W i m H →
      (J.stop i H ∧ Qd H) ∨ (J.go i H ∧ ∃ Nx : Hp → Prop, (∀ H', Nx H' → ∃ m', m' < m ∧ W (i + 1) m' H') ∧ ∀ x H', J.yld i H x H' → gName k x (wipe σ [k]) H' fun σ2 H2 => wipe σ2 [k] = wipe σ [k] ∧ tYes σ2 H2 fun b H3 =>
        if b = true then te σ2 H3 fun y H4 => ∃ acc, H4 D = some (.lst acc) ∧ acc.length < sizeLine ∧ Nx (upd H4 D (.lst (acc ++ [y]))) else Nx H3) := by
  refine lc_it w (fun i H => ∃ acc, acc.length = i ∧ H D = some (.lst acc) ∧ Pv i acc H) ⟨[], rfl, upd_same, h0⟩ (fun i H _ h => ?_) (fun i x H H' hi hp y => ?_) fun H h => ?_
  · obtain ⟨acc, _, _, p⟩ := h
    exact hG i acc H p
  · obtain ⟨acc, hl, e, p⟩ := hp
    obtain ⟨rfl, hx⟩ := hY i H x H' hi y
    refine ⟨?_, ?_⟩
    · show ((σ.set k none).set k (some x)).set k none = σ.set k none
      rw [List.set_set, List.set_set]
    show te ((σ.set k none).set k (some x)) H' _
    refine hs i x acc H' hi hl p e hx _ fun v H3 e3 p3 => ⟨acc, e3, ?_, acc ++ [v], ?_, upd_same, p3⟩
    · rw [hl]
      exact Nat.lt_of_lt_of_le (Nat.lt_of_lt_of_le hi hn) (by decide)
    · rw [List.length_append, hl]
      rfl
  · obtain ⟨acc, hl, e, p⟩ := h
    exact hd acc H hl p e
theorem lc_data {K : PySem.W.Frag} {S : ASet} (w : Walk J n G Y) {te : TE} {σ : L2.St} {H1 : Hp} {D : Addr} {Qd : Hp → Prop} {k : Nat} (I : Nat → V → Prop) (f : Nat → PyData) (hS : ∀ a, S a → H1 a ≠ none) (hD : H1 D = none) (hG : ∀ H, Same H1 H → G H) (hn : n ≤ 1000000)
    (hY : ∀ i H x H', i < n → Y i H x H' → H' = H ∧ I i x)
    (hs : ∀ i x H, i < n → Same H1 H → H D ≠ none → I i x → ∀ Q : VK, (∀ v H3, Same H H3 → Dx K H3 (inS S D) v (f i) → Q v H3) → te ((σ.set k none).set k (some x)) H Q)
    (hd : ∀ H, Same H1 H → Dx K H S (.ref D) (.list ((List.range n).map f)) → Qd H) :
    ∃ W : Nat → Nat → Hp → Prop, (∃ m, W 0 m (upd H1 D (.lst []))) ∧ ∀ i m H, W i m H →
      (J.stop i H ∧ Qd H) ∨ (J.go i H ∧ ∃ Nx : Hp → Prop, (∀ H', Nx H' → ∃ m', m' < m ∧ W (i + 1) m' H') ∧ ∀ x H', J.yld i H x H' → gName k x (wipe σ [k]) H' fun σ2 H2 => wipe σ2 [k] = wipe σ [k] ∧ tYes σ2 H2 fun b H3 =>
        if b = true then te σ2 H3 fun y H4 => ∃ acc, H4 D = some (.lst acc) ∧ acc.length < sizeLine ∧ Nx (upd H4 D (.lst (acc ++ [y]))) else Nx H3) := by
  have hnS : ¬ S D := fun z => hS D z hD
  refine lc_it w (fun i H => Same H1 H ∧ ∃ acc, H D = some (.lst acc) ∧ DxAll K H (inS S D) acc ((List.range i).map f)) ⟨same_new hD, [], upd_same, .nil⟩ (fun i H _ h => hG H h.1) (fun i x H H' hi hp y => ?_) fun H h => ?_
  · obtain ⟨sm, acc, e, da⟩ := hp
    obtain ⟨rfl, hx⟩ := hY i H x H' hi y
    refine ⟨?_, ?_⟩
    · show ((σ.set k none).set k (some x)).set k none = σ.set k none
      rw [List.set_set, List.set_set]
    show te ((σ.set k none).set k (some x)) H' _
    refine hs i x H' hi sm (by rw [e]; exact fun z => nomatch z) hx _ fun v H3 s3 dv => ?_
    have hl : acc.length = i := by rw [dxAll_len da, List.length_map, List.length_range]
    refine ⟨acc, s3 _ _ e, ?_, same_mut (sm.trans s3) hD, acc ++ [v], upd_same, ?_⟩
    · rw [hl]
      exact Nat.lt_of_lt_of_le (Nat.lt_of_lt_of_le hi hn) (by decide)
    · rw [List.range_succ, List.map_append]
      have o : Out (inS S D) H3 (upd H3 D (.lst (acc ++ [v]))) := (Out.refl _ _).put (.inr rfl)
      exact dxAll_app (DxAll.up o (DxAll.up (Out.of s3) da)) (.cons (Dx.up o dv) .nil)
  · obtain ⟨sm, acc, e, da⟩ := h
    exact hd H sm (.lst (XL.of e hnS) (DxAll.less (fun a z => .inl z) da))
end
end RK

/-! sorted(set(l)) of a list of texts, all different -/
namespace UX
open PySem PySem.Spec PyProof.Rows L2
/-- the text of an entry -/
def kS (e : Int × Value) : Str := match e.2 with | .str x _ => x | _ => Str.empty
def GoodS (P : Program) (w : World) (e : Int × Value) : Prop := ∃ x tk, e.2 = Value.str x tk ∧ e.1 = (PySem.strKind P w).hash x
/-- what a table of a set must keep -/
structure TbOk (P : Program) (w : World) (es : Array (Int × Value)) (t : SetTable) (xs : List Str) : Prop where
  good : ∀ e ∈ es.toList, GoodS P w e
  perm : (es.toList.map kS).Perm xs
  fits : t.fits es.size = true
  ris : Ris t.place.toList
  led : w.params.followText "set-order" = true ∨ t.led = true
/-- the set of the texts xs at a -/
def TxS (P : Program) (w : World) (h : Heap) (a : Addr) (xs : List Str) : Prop := ∃ o es ep t, h.get? a = some o ∧ o.ExactSet ∧ o.data = .set es ep t ∧ TbOk P w es t xs
section
variable {P : Program} {w : World} {h h' : Heap} {a : Addr} {xs : List Str} {es : Array (Int × Value)} {t : SetTable}
theorem TbOk.size (R : TbOk P w es t xs) : es.size = xs.length := by rw [← Array.length_toList, ← R.perm.length_eq, List.length_map]
theorem TbOk.elems (R : TbOk P w es t xs) : ElemsOf (PySem.strKind P w) es.toList := fun e he => by
  obtain ⟨k, tk, h1, h2⟩ := R.good e he
  exact ⟨⟨k, by rw [h1]; exact strKind_is P w k tk, h2⟩, by rw [h1] <;> rfl⟩
theorem goodS_is {e : Int × Value} (g : GoodS P w e) (k : Str) : (PySem.strKind P w).is k e.2 = true ↔ kS e = k := by
  obtain ⟨k0, tk, h1, _⟩ := g
  unfold kS
  rw [h1]
  show (Value.isStrOf k (.str k0 tk)) = true ↔ k0 = k
  simp [Value.isStrOf]
theorem TxS.at (R : TxS P w h a xs) (k : ∀ o, h.get? a = some o → h'.get? a = some o) : TxS P w h' a xs := let ⟨o, es, ep, t, ho, r⟩ := R; ⟨o, es, ep, t, k o ho, r⟩
theorem TxS.lt (R : TxS P w h a xs) : a < h.objs.size := let ⟨_, _, _, _, ho, _⟩ := R; Heap.lt_size ho
end
section
variable {P : Program} {w : World} {A : Around} {E : Value → Shared → Prop} {s : Shared} {a : Addr} {xs : List Str}
/-- the end of an add: the table stored, and laid anew where it is too full -/
theorem txS_tail {g : Bool → Sem Unit} (hg : ∀ (b : Bool) (s₁ : Shared) (Q' : Unit → Shared → Prop), Q' () s₁ → wpAny (model P w) A (g b) Q' E s₁) {o : Obj} {es : Array (Int × Value)} {ep : Nat} {t : SetTable} (ho : s.heap.get? a = some o) (hex : o.ExactSet) (hd : o.data = .set es ep t)
    {es1 : Array (Int × Value)} {t2 : SetTable} (T : TbOk P w es1 t2 xs) (hb : es1.size < scanBound) {wasDummy : Bool} {R : Option Bool → Shared → Prop} (hR : ∀ h', Heap.SameBut a s.heap h' → TxS P w h' a xs → R (some true) { s with heap := h' }) :
    wpAny (model P w) A (do storeSet a es1 t2; if (!wasDummy && t2.tooFull) = true then do { g (relayAll t2 es1 (SetTable.grown es1.size)).2.2; storeSet a (relayAll t2 es1 (SetTable.grown es1.size)).1 (relayAll t2 es1 (SetTable.grown es1.size)).2.1; pure (some true) } else pure (some true)) R E s := by
  refine wpAny_bind (wpAny_storeSet_of ho hd ?_ (fits_of_scanBound hb))
  have ho1 := store_at (es' := es1) (t' := t2) ho hd
  have sb := Heap.SameBut.update s.heap a (Obj.putSet es1 t2)
  split
  · have pm := relayAll_perm t2 es1 (SetTable.grown es1.size)
    have T3 : TbOk P w (relayAll t2 es1 (SetTable.grown es1.size)).1 (relayAll t2 es1 (SetTable.grown es1.size)).2.1 xs :=
      ⟨fun e he => T.good e (pm.mem_iff.mp he), (pm.map kS).trans T.perm, relayAll_fits t2 es1 _, relayAll_ris t2 es1 _, T.led.imp id fun z => (relayAll_led t2 es1 _).trans z⟩
    have hz : (relayAll t2 es1 (SetTable.grown es1.size)).1.size < scanBound := by rw [T3.size, ← T.size]; exact hb
    refine wpAny_bind (hg _ _ _ (wpAny_bind (wpAny_storeSet_of ho1 rfl ?_ (fits_of_scanBound hz))))
    exact wpAny_pure (hR _ (sb.trans (Heap.SameBut.update _ a _)) ⟨_, _, _, _, store_at ho1 rfl, hex, rfl, T3⟩)
  · exact wpAny_pure (hR _ sb ⟨_, es1, _, t2, ho1, hex, rfl, T⟩)
theorem txS_add {x : Str} {tk : Tok} {Q : Bool → Shared → Prop} (R : TxS P w s.heap a xs) (nx : x ∉ xs) (room : xs.length + 1 < scanBound) (hQ : ∀ h', Heap.SameBut a s.heap h' → TxS P w h' a (x :: xs) → Q true { s with heap := h' }) :
    wpAny (model P w) A (setAddHashed a (.str x tk) ((PySem.strKind P w).hash x)) Q E s := by
  obtain ⟨o, es, ep, t, ho, hex, hd, T⟩ := R
  have hsc : (Value.str x tk).scannable = true := rfl
  have hb : es.size < scanBound := by rw [T.size]; omega
  unfold setAddHashed setAddHashedIn
  refine wpAny_holding (wpAny_bind (wpAny_setState_of ho hd T.fits ?_))
  dsimp only
  rw [byScan_of hsc hb T.elems]
  simp only [↓reduceIte]
  unfold setAddByScan
  refine wpAny_bind (wpAny_bind (wpAny_rule (wpAny_bind (wpAny_setScan_of (strKind_is P w x tk) ho hd T.fits T.elems ?_))))
  have hno : List.findIdx? (fun e => (PySem.strKind P w).is x e.2) es.toList = none := List.findIdx?_eq_none_iff.mpr fun e he => by
    cases c : (PySem.strKind P w).is x e.2 with
    | false => rfl
    | true => exact absurd (T.perm.mem_iff.mp (List.mem_map.mpr ⟨e, he, (goodS_is (T.good e he) x).mp c⟩)) nx
  rw [hno]
  dsimp only
  have hgw : ∀ (b : Bool) {s₁ : Shared} {Q' : Unit → Shared → Prop}, Q' () s₁ → wpAny (model P w) A (match b with | true => rule "set.scan.the-table-gave-way" | false => pure ()) Q' E s₁ := fun b s₁ Q' q => by (cases b; exact wpAny_pure q; exact wpAny_rule q)
  have pm := layNew_perm t es ((PySem.strKind P w).hash x) (.str x tk)
  have T1 : TbOk P w (layNew t es ((PySem.strKind P w).hash x) (.str x tk)).1 (layNew t es ((PySem.strKind P w).hash x) (.str x tk)).2.1 (x :: xs) := by
    rw [Array.toList_push] at pm
    have pc := pm.trans (List.perm_append_singleton _ _)
    refine ⟨fun e he => ?_, (pc.map kS).trans (T.perm.cons x), layNew_fits t es _ _, layNew_ris t es _ _ T.ris, T.led.imp id fun z => (layNew_led t es _ _).trans z⟩
    rcases List.mem_cons.mp (pc.mem_iff.mp he) with z | z
    · rw [z]; exact ⟨x, tk, rfl, rfl⟩
    · exact T.good e z
  generalize layNew t es ((PySem.strKind P w).hash x) (.str x tk) = Z at T1 ⊢
  obtain ⟨es1, t1, wasDummy, gave⟩ := Z
  dsimp only at T1 ⊢
  have hb1 : es1.size < scanBound := by rw [T1.size]; exact room
  refine wpAny_bind (hgw _ ?_)
  have T1' : ∀ t' : SetTable, t'.fits es1.size = true → Ris t'.place.toList → (w.params.followText "set-order" = true ∨ t'.led = true) → TbOk P w es1 t' (x :: xs) := fun t' h1 h2 h3 => ⟨T1.good, T1.perm, h1, h2, h3⟩
  split
  · refine wpAny_bind ?_
    rw [hashByValue_scannable 8 hsc]
    refine wpAny_pure (txS_tail (xs := x :: xs) ?_ ho hex hd (T1' _ ?_ ?_ ?_) hb1 fun h' sb r => ?_)
    · intro b s₁ Q' q; (cases b; exact wpAny_pure q; exact wpAny_rule q)
    · first | (split <;> first | exact T1.fits | exact SetTable.fits_plain_off T1.fits) | exact T1.fits
    · first | (split <;> exact T1.ris) | exact T1.ris
    · first | (split <;> exact T1.led) | exact T1.led
    · dsimp only; exact wpAny_pure (hQ h' sb r)
  · refine wpAny_bind (wpAny_pure ?_)
    simp only [↓reduceIte]
    refine txS_tail (xs := x :: xs) ?_ ho hex hd T1 hb1 fun h' sb r => ?_
    · intro b s₁ Q' q; (cases b; exact wpAny_pure q; exact wpAny_rule q)
    · dsimp only; exact wpAny_pure (hQ h' sb r)
end
theorem TxS.perm {P : Program} {w : World} {h : Heap} {a : Addr} {xs ys : List Str} (R : TxS P w h a xs) (p : xs.Perm ys) : TxS P w h a ys := let ⟨o, es, ep, t, h1, h2, h3, T⟩ := R; ⟨o, es, ep, t, h1, h2, h3, ⟨T.good, T.perm.trans p, T.fits, T.ris, T.led⟩⟩
/-- a set that is new -/
abbrev sNew (w : World) : Obj := { cls := .type "set", dict := none, data := .set #[] 0 (.fresh 0 0 (!w.params.followText "set-order")) }
theorem txS_new {P : Program} {w : World} {h : Heap} {a : Addr} (ho : h.get? a = some (sNew w)) : TxS P w h a [] :=
  ⟨_, #[], 0, _, ho, ⟨rfl, rfl, rfl⟩, rfl, ⟨fun e he => by simp at he, .nil, by rfl, List.Pairwise.nil, by show _ ∨ (!w.params.followText "set-order") = true; cases w.params.followText "set-order" <;> simp⟩⟩
section
variable {P : Program} {w : World} {A : Around} {E : Value → Shared → Prop} {s : Shared}
theorem take_snoc {xs : List Str} {i : Nat} {x : Str} (h : xs[i]? = some x) : (x :: xs.take i).Perm (xs.take (i + 1)) := by
  rw [List.take_add_one, h]
  exact (List.perm_append_singleton x (xs.take i)).symm
theorem nodup_at {xs : List Str} (hn : xs.Nodup) {i : Nat} {x : Str} (h : xs[i]? = some x) : x ∉ xs.take i := fun m => by
  obtain ⟨j, hj, e⟩ := List.mem_iff_getElem.mp m
  rw [List.length_take] at hj
  rw [List.getElem_take] at e
  obtain ⟨hi, e2⟩ := List.getElem?_eq_some_iff.mp h
  have := (List.getElem_inj hn).mp (e.trans e2.symm)
  omega
theorem txS_loop {I : Addr} {fp wr : List Addr} {G : Array GenState → Array GenState → Prop} {n : Nat} {Pv : Nat → Value → Prop} {St : Nat → Shared → Prop} {R : Result → Shared → Prop} (W : WalksS P w A.in1 I fp wr G n Pv St) (S : Addr) (hSf : S ∉ fp) (xs : List Str) (hd : xs.Nodup) (hn : n = xs.length) (hb : xs.length + 1 < scanBound)
    (hval : ∀ i v, Pv i v → ∃ k t, xs[i]? = some k ∧ v = .str k t) : ∀ (k i : Nat) (s : Shared), n - i = k → i ≤ n → St i s → TxS P w s.heap S (xs.take i) →
      (∀ s', Moved (S :: wr) G s s' → TxS P w s'.heap S xs → R (.ok (.ret .none)) s') → codeAny (model P w) A (.builtin "set.update.loop" ⟨[.ref S, .ref I], []⟩) R s := by
  have hSw : S ∉ wr := fun z => hSf (W.sub _ z)
  have up : ∀ b ∈ wr, b ∈ S :: wr := fun b hb => List.mem_cons_of_mem _ hb
  intro k
  induction k with
  | zero =>
    intro i s hk hi hst hS hR
    have hin : i = xs.length := by omega
    refine codeAny_builtin F.entry_set_update_loop ?_; rw [Around.under_plainId F.plain_set_update_loop _]
    show wpAny _ A.in1 (pyNext (.ref I) >>= _) _ _ s
    rw [hin, ← hn] at hst
    refine wpAny_bind (W.done s _ _ hst fun s' hm => ?_)
    rw [List.take_of_length_le (by omega)] at hS
    exact wpAny_pure (hR s' (hm.mono up) (hS.at fun o e => hm.heap S o hSw e))
  | succ k ih =>
    intro i s hk hi hst hS hR
    refine codeAny_builtin F.entry_set_update_loop ?_; rw [Around.under_plainId F.plain_set_update_loop _]
    show wpAny _ A.in1 (pyNext (.ref I) >>= _) _ _ s
    refine wpAny_bind (W.item i s _ _ (by omega) hst fun v s' hP hst' hm => ?_)
    obtain ⟨x, t, hx, rfl⟩ := hval i v hP
    show wpAny _ A.in1 (holding [Value.str x t] (setAdd S (.str x t)) >>= _) _ _ s'
    unfold setAdd
    refine wpAny_bind (wpAny_holding (wpAny_holding (wpAny_bind ((PySem.strKind P w).pyHash (k := x) (strKind_is _ _ _ _) ?_))))
    have hS' : TxS P w s'.heap S (xs.take i) := hS.at fun o e => hm.heap S o hSw e
    refine txS_add (s := { s' with toks := s'.toks + 1 }) hS' (nodup_at hd hx) (by rw [List.length_take]; omega) fun h' hsb hS2 => ?_
    refine wpAny_pure ⟨plainId_quiet F.plain_set_update_loop _, ih (i + 1) _ (by omega) (by omega) (W.frame _ s' _ _ hst' (Nat.le_succ _) fun b hb o e => ?_) (hS2.perm (take_snoc hx)) fun s2 hm2 hS3 => ?_⟩
    · rw [hsb.2 b fun z => hSf (z ▸ hb)]
      exact e
    · refine hR s2 (Moved.trans W.gtrans ((hm.mono up).then_heap (Nat.le_succ _) fun b o hb e => ?_) hm2) hS3
      rw [hsb.2 b fun z => hb (z ▸ List.mem_cons_self)]
      exact e
set_option maxHeartbeats 6400000 in
theorem call_setS {l : Addr} {items : Array Value} (xs : List Str) {Q : Value → Shared → Prop} (hh : A.handled = none) (hl : s.heap.IsList l items) (hit : StrsAre items.toList xs) (hd : xs.Nodup) (hb : xs.length + 1 < scanBound)
    (q : ∀ (h' : Heap) (tk : Nat), TxS P w h' s.heap.objs.size xs → (∀ b o, s.heap.get? b = some o → h'.get? b = some o) → Q (.ref s.heap.objs.size) { s with heap := h', toks := tk }) : wpAny (model P w) A (call (.type "set") [.ref l]) Q E s := by
  have hisz : items.size = xs.length := by rw [← StrsAre.len_eq hit, Array.length_toList]
  obtain ⟨c, tl, hmro⟩ := F.called_set.mro
  have hmade := F.called_set.made
  have hsub := F.called_set.sub
  refine wpAny_call (codeAny_of_tree ?_)
  show wpAny _ _ (callAny (.type "set") _) _ _ _
  refine wpAny_pure ⟨Code.quiet_builtin _ (by decide +kernel), codeAny_builtin F.entry_type_call ?_⟩; rw [Around.under_plain (weight_type_call_type "set" [.ref l] []) rfl]
  have h1 := F.called_set.notType
  have h2 := F.called_set.canCreate
  have hct := F.typeCall_set_1 (.ref l)
  repeat (any_goals (first | assumption | wp_step))
  refine codeAny_mono (code_set_led1 (.ref l) (E := E) (Q₁ := fun ob s₁ => ob = .ref s.heap.objs.size ∧ s₁ = { s with heap := s.heap.push (sNew w) }) ⟨rfl, rfl⟩) fun r s₁ hr => ?_
  cases r with
  | error e => exact hr
  | ok fl =>
    cases fl with
    | ret obj =>
      obtain ⟨rfl, rfl⟩ := hr
      have hS : (s.heap.push (sNew w)).get? s.heap.objs.size = some (sNew w) := Heap.get?_push_size _ rfl
      have hT : Shared.TypeIs { s with heap := s.heap.push (sNew w) } (.ref s.heap.objs.size) "set" := ⟨_, hS, rfl⟩
      have hli := F.called_set.init.lookup
      have hbi := F.called_set.init.bind (.ref s.heap.objs.size)
      repeat (any_goals (first | assumption | wp_step))
      refine codeAny_mono (codeAny_call_builtin (R := wants (fun r s₂ => r = .none ∧ ∃ h' tk, s₂ = { s with heap := h', toks := tk } ∧ TxS P w h' s.heap.objs.size xs ∧ ∀ b o, s.heap.get? b = some o → h'.get? b = some o) E) F.called_set.init.plain F.entry_set_init (check_set_init_1 hT ?_)) fun r₂ s₂ hr₂ => ?_
      · obtain ⟨⟨ocls, odict, odata, oslots⟩, hol, hcl, nl, hdl⟩ := hl
        simp only at hcl hdl
        subst hcl; subst hdl
        have hsls := F.sub_list_set
        have hslf := F.sub_list_frozenset
        have hne : (Value.type "list" == Value.type "dict") = false := by decide
        have hol' : (s.heap.push (sNew w)).get? l = some { cls := .type "list", dict := odict, data := .seq items nl, slots := oslots } := Heap.get?_push_of_some _ hol
        have hl1 : (s.heap.push (sNew w)).IsList l items := ⟨_, hol', rfl, nl, rfl⟩
        unfold Builtin.«set.__init__» noKeywords Builtin.Frozenset.updateFrom
        generalize hPI : pyIter = PI
        wp_walk
        subst hPI
        refine wpAny_pyIter_list hl1 (wpAny_bind (wpAny_runValue ?_))
        have hlS : l < s.heap.objs.size := Heap.lt_size hol
        have hz : (s.heap.push (sNew w)).objs.size = s.heap.objs.size + 1 := Heap.size_push ..
        refine txS_loop ((Walks.list (by simp [hh]) _ l (by rw [hz]; exact Nat.ne_of_lt (Nat.lt_succ_of_lt hlS)) items).toS) s.heap.objs.size (fun m => ?_) xs hd hisz hb (fun i v hv => ?_) (items.size - 0) 0 _ (by omega) (Nat.zero_le _)
          ⟨⟨_, Heap.get?_push_size _ rfl, rfl, rfl⟩, (hl1.push _)⟩ (txS_new (Heap.get?_push_of_some _ hS)) fun s' hm hS' => ?_
        · rw [hz] at m
          rcases List.mem_cons.mp m with z | z
          · exact absurd z (Nat.ne_of_lt (Nat.lt_succ_self _))
          · exact absurd (List.mem_singleton.mp z) (Nat.ne_of_gt hlS)
        · have hi : i < xs.length := by rw [← hisz]; exact (Array.getElem?_eq_some_iff.mp hv).1
          obtain ⟨t, e⟩ := SS.strs_at hit i v (by rw [Array.getElem?_toList]; exact hv)
          refine ⟨xs[i], t, List.getElem?_eq_getElem hi, ?_⟩
          rw [e, List.getD_eq_getElem?_getD, List.getElem?_eq_getElem hi] <;> rfl
        · obtain ⟨h', g', d', tk', os'⟩ := s'
          obtain rfl : g' = s.gens := hm.gens
          obtain rfl : d' = s.drawn := hm.drawn
          obtain rfl : os' = s.os := hm.os
          show wpAny _ _ _ _ _ _
          refine wpAny_pure (wpAny_pure ⟨rfl, h', tk', rfl, hS', fun b o e => ?_⟩)
          have hb0 : b < s.heap.objs.size := Heap.lt_size e
          refine hm.heap b o (fun m => ?_) (Heap.get?_push_of_some _ (Heap.get?_push_of_some _ e))
          rw [hz] at m
          rcases List.mem_cons.mp m with z | z
          · exact absurd z (Nat.ne_of_lt hb0)
          · exact absurd (List.mem_singleton.mp z) (Nat.ne_of_lt (Nat.lt_succ_of_lt hb0))
      · cases r₂ with
        | error e => exact hr₂
        | ok fl₂ =>
          cases fl₂ with
          | ret r =>
            obtain ⟨rfl, h', tk, rfl, hS', hk'⟩ := hr₂
            repeat (any_goals (first | assumption | wp_step))
            exact q _ _ hS' hk'
          | _ => exact hr₂.elim
    | _ => exact hr.elim
end
end UX

/-! set(l) and sorted(s) as readings -/
namespace UX
open PySem PySem.Spec PyProof.Rows L2
section
variable {P : Program} {w : World} {A : Around} {E : Value → Shared → Prop} {s : Shared} {a : Addr} {xs : List Str}
theorem strs_of : ∀ l : List Value, (∀ v ∈ l, ∃ x tk, v = Value.str x tk) → StrsAre l (l.map fun v => kS (0, v))
  | [], _ => .nil
  | v :: l, h => by
    obtain ⟨x, tk, rfl⟩ := h v List.mem_cons_self
    exact .cons x tk (strs_of l fun u hu => h u (List.mem_cons_of_mem _ hu))
theorem sorted_setS {Q : Value → Shared → Prop} (R : TxS P w s.heap a xs) (hh : A.handled = none) (hb : xs.length < scanBound)
    (hQ : ∀ s' p (out : Array Value) (c : Nat) (ys : List Str), (∀ b o, s.heap.get? b = some o → s'.heap.get? b = some o) → s'.gens = s.gens → s'.os = s.os → s.heap.objs.size ≤ p → s'.heap.get? p = some (seqObj "list" out c) → StrsAre out.toList ys → ys.Perm xs → sortedS ys = true → Q (.ref p) s') :
    wpAny (model P w) A (call (.builtin "sorted") [.ref a]) Q E s := by
  obtain ⟨o, es, ep, t, ho, hex, hd, T⟩ := R
  have hsz : es.size < scanBound := by rw [T.size]; exact hb
  refine Calls.call_function_entry kind_sorted plain_sorted entry_sorted (args_sorted1 _) ?_
  unfold Builtin.«sorted»
  refine wpAny_bind (m := checkCount "sorted" 1 1 _) (wpAny_pure (wpAny_bind (collect_set (A := A.in1) hh ⟨o, ho, hex.1, hd⟩ T.fits hsz T.ris T.led fun s1 vs k1 hz g1 o1 pm => ?_)))
  have hv : StrsAre vs (vs.map fun v => kS (0, v)) := strs_of vs fun v hv => by
    obtain ⟨e, he, q⟩ := List.mem_map.mp (pm.mem_iff.mp hv)
    obtain ⟨x, tk, h1, _⟩ := T.good e he
    exact ⟨x, tk, by rw [← q]; exact h1⟩
  have pk : (vs.map fun v => kS (0, v)).Perm xs := by
    refine (pm.map _).trans ?_
    rw [List.map_map]
    exact T.perm
  have hvl : vs.length ≤ sizeLine := by rw [← List.length_map (f := fun v => kS (0, v)), pk.length_eq]; exact fits_of_scanBound hb
  refine wpAny_bind (wpAny_newList ?_ hvl)
  have hoL : (s1.heap.push (seqObj "list" vs.toArray 0)).get? s1.heap.objs.size = some (seqObj "list" vs.toArray 0) := Heap.get?_push_size _ rfl
  refine wpAny_bind (wpAny_holding (wpAny_call_entry slot_list_sort ⟨_, hoL, rfl⟩ entry_list_sort (list_sort_treeKAny strKind_oneLt hoL hv.keysOf (fun v₁ v₂ rest e => keyKind_strs (by rw [← e]; exact hv)) hvl fun st' hp hs => ⟨_, rfl, ?_⟩) (args_list_sort _)))
  obtain ⟨ys, h1, h2, h3⟩ := sorted_out_str hv hp hs
  obtain ⟨c, hc⟩ := sortedHeap_at (vs := vs) (out := (arrOf st').map (·.2)) hoL
  refine wpAny_pure ⟨_, rfl, hQ _ s1.heap.objs.size _ c ys (fun b u e => ?_) g1 o1 hz hc h1 (h2.trans pk) h3⟩
  have q := k1 b u e
  have hlt := Heap.lt_size q
  show (sortedHeap (s1.heap.push (seqObj "list" vs.toArray 0)) s1.heap.objs.size vs _).get? b = some u
  rw [sortedHeap_old (Nat.ne_of_lt hlt) (by rw [size_push']; exact Nat.lt_succ_of_lt hlt)]
  exact Heap.get?_push_of_some _ q
end
/-- the set of the texts xs, as an object -/
def TxO (P : Program) (w : World) (a : Addr) (xs : List Str) : HO := .ext fun h => TxS P w h a xs
section
variable {X : Cx}
theorem txO_new {P : Program} {w : World} {H : Hp} {h : Heap} {a : Addr} {xs : List Str} (R : TxS P w h a xs) : ObjOk P w H h a (TxO P w a xs) := by
  have ⟨o, _, _, _, ho, _⟩ := R
  exact ⟨R, ⟨o, ho⟩, fun h1 h2 p k => TxS.at p k⟩
theorem txO_get {pins : List (Addr × Obj)} {σ : L2.St} {H : Hp} {s : Shared} {a : Addr} {xs : List Str} (I : Inv X pins σ H s) (ha : H a = some (TxO X.prog X.w a xs)) : TxS X.prog X.w s.heap a xs := (I.hok a _ ha).1
/-- set(l), texts that are all different -/
def rSetLS (P : Program) (w : World) (K : PySem.W.Frag) : List V → Hp → VK → Prop := fun vs H Q => ∃ (l : Addr) (xs : List Str), vs = [V.ref l] ∧ SqL K H l (xs.map V.str) ∧ xs.Nodup ∧ xs.length ≤ 1000 ∧ ∀ p, H p = none → Q (.ref p) (upd H p (TxO P w p xs))
theorem cr_setLS (hc : X.calm = true) : CallR X (.type "set") (rSetLS X.prog X.w X.K) := by
  intro pins s σ H vs us Q I r h
  obtain ⟨l, xs, rfl, hl, hd, hn, q⟩ := h
  obtain ⟨its, rv, pl, _⟩ := I.list hl
  rw [Vals.ref1 r]
  refine call_setS xs (I.ok.hd hc) pl.isList rv.strs hd (by unfold scanBound; omega) fun h' tk new k => ?_
  exact ⟨.ref _, upd H s.heap.objs.size (TxO X.prog X.w s.heap.objs.size xs), I.laid (t' := tk) k (Nat.le_refl _) (txO_new new), rfl, q _ (I.hok.fresh (Nat.le_refl _))⟩
/-- sorted(s) of such a set -/
def rSortTx (P : Program) (w : World) : List V → Hp → VK → Prop := fun vs H Q => ∃ (a : Addr) (xs : List Str), vs = [V.ref a] ∧ H a = some (TxO P w a xs) ∧ xs.length ≤ 1000 ∧ ∀ (ys : List Str) (p : Addr), ys.Perm xs → sortedS ys = true → H p = none → Q (.ref p) (upd H p (.lst (ys.map V.str)))
theorem cr_sortTx (hc : X.calm = true) : CallR X (.builtin "sorted") (rSortTx X.prog X.w) := by
  intro pins s σ H vs us Q I r h
  obtain ⟨a, xs, rfl, ha, hn, q⟩ := h
  rw [Vals.ref1 r]
  refine sorted_setS (txO_get I ha) (I.ok.hd hc) (by unfold scanBound; omega) fun s' p out c ys k g o hp hg hi hs hm => ?_
  have hlen : (ys.map V.str).length ≤ sizeLine := by rw [List.length_map, hs.length_eq]; exact Nat.le_trans hn (by decide)
  have hnp : H p = none := I.hok.fresh hp
  have J : Inv X pins σ (upd H p (.lst (ys.map V.str))) { s with heap := s'.heap, gens := s'.gens, drawn := s'.drawn, toks := s'.toks } := I.call (ch := []) (Un.laid k hp hnp) (I.hok.laid k hp ⟨hlen, out.toList, c, vals_of_strs hi, hg⟩) (by rw [g]; exact I.bare) (fun _ z => nomatch z)
  have e : s' = { s with heap := s'.heap, gens := s'.gens, drawn := s'.drawn, toks := s'.toks } := by
    cases s'
    cases s
    cases o
    rfl
  rw [e]
  exact ⟨.ref p, _, J, rfl, q ys p hs hm hnp⟩
end
end UX

namespace RK
open PySem PySem.Spec PyProof.Rows L2 PySem.Builtin.Str
/-! ### texts as lists of code points -/
def sO (l : List Nat) : Str := ⟨l.toArray⟩
theorem sO_eta (x : Str) : sO x.cps.toList = x := rfl
theorem sO_list (l : List Nat) : (sO l).cps.toList = l := rfl
theorem sO_len (l : List Nat) : (sO l).length = l.length := rfl
theorem sO_inj {a b : List Nat} (h : sO a = sO b) : a = b := by
  have := congrArg (fun s : Str => s.cps.toList) h
  exact this
theorem sO_app (a b : List Nat) : sO a ++ sO b = sO (a ++ b) := by
  show (⟨a.toArray ++ b.toArray⟩ : Str) = ⟨(a ++ b).toArray⟩
  rw [List.append_toArray]
theorem sO_at {l : List Nat} {i : Nat} {c : Nat} (h : l[i]? = some c) : atI (sO l).cps.toList (i : Int) = some c := atI_nat h
theorem join_fold (l : List Str) : ∀ (acc : Array Nat), (l.foldl (fun acc p => acc ++ (sO []).cps ++ p.cps) acc) = (acc.toList ++ (l.map fun s => s.cps.toList).flatten).toArray := by
  induction l with
  | nil => intro acc; simp
  | cons p r ih =>
    intro acc
    rw [List.foldl_cons, ih]
    simp [sO]
theorem join_nil (l : List Str) : Txt.join (sO []) l = sO (l.map fun s => s.cps.toList).flatten := by
  cases l with
  | nil => rfl
  | cons p r =>
    show (⟨(r.foldl (fun acc p => acc ++ (sO []).cps ++ p.cps) p.cps)⟩ : Str) = _
    rw [join_fold]
    simp [sO]
theorem strip_take (goes : Nat → Bool) : ∀ l : List Nat, l.take (l.length - (l.reverse.takeWhile goes).length) = (l.reverse.dropWhile goes).reverse := fun l => by
  have h : l.reverse = l.reverse.takeWhile goes ++ l.reverse.dropWhile goes := (List.takeWhile_append_dropWhile).symm
  have h2 : l = (l.reverse.dropWhile goes).reverse ++ (l.reverse.takeWhile goes).reverse := by
    rw [← List.reverse_append, List.takeWhile_append_dropWhile, List.reverse_reverse]
  have h3 : l.length = (l.reverse.dropWhile goes).length + (l.reverse.takeWhile goes).length := by
    have := congrArg List.length h2
    rw [List.length_append, List.length_reverse, List.length_reverse] at this
    exact this
  have h4 : l.length - (l.reverse.takeWhile goes).length = (l.reverse.dropWhile goes).reverse.length := by
    rw [List.length_reverse]
    omega
  rw [h4]
  conv => lhs; arg 2; rw [h2]
  rw [List.take_left]
theorem rstrip_sO (l : List Nat) : Txt.rstrip (sO l) = sO (l.reverse.dropWhile Unicode.isSpace).reverse := by
  have hi : stripHi Unicode.isSpace true (sO l) 0 = l.length - (l.reverse.takeWhile Unicode.isSpace).length := rfl
  show (if (stripSame Unicode.isSpace false true (sO l)) = true then sO l else stripped Unicode.isSpace false true (sO l)) = _
  have e : stripped Unicode.isSpace false true (sO l) = sO (l.reverse.dropWhile Unicode.isSpace).reverse := by
    show (⟨l.toArray.extract 0 (l.length - (l.reverse.takeWhile Unicode.isSpace).length)⟩ : Str) = _
    rw [List.extract_toArray, List.extract_eq_take_drop, List.drop_zero, Nat.sub_zero, strip_take]
    rfl
  split
  · rename_i h
    have h1 : (l.length - (l.reverse.takeWhile Unicode.isSpace).length == l.length) = true := (Bool.and_eq_true_iff.mp h).2
    have h2 : l.length - (l.reverse.takeWhile Unicode.isSpace).length = l.length := by simpa using h1
    have h3 := strip_take Unicode.isSpace l
    rw [h2, List.take_length] at h3
    rw [← h3]
  · exact e
theorem ljust_sO (l : List Nat) (n : Nat) (h : l.length ≤ n) : Txt.ljust (sO l) (n : Int) = sO (l ++ List.replicate (n - l.length) 32) := by
  show (if (n : Int) ≤ (l.length : Nat) then sO l else padded (sO l) 0 ((n : Int).toNat - l.length) 32) = _
  split
  · rename_i h2
    have : n - l.length = 0 := by omega
    rw [this]
    simp [sO]
  · show (⟨Array.replicate 0 32 ++ l.toArray ++ Array.replicate ((n : Int).toNat - l.length) 32⟩ : Str) = _
    rw [Int.toNat_natCast]
    simp [sO]
/-- parts of a text -/
theorem cut_lo (l : List Nat) (k : Nat) : cutS (sO l) (some (k : Int)) none = sO (l.drop k) := by
  show (⟨((l.drop (HT.sIx l.length 0 (some (k : Int)))).take (HT.sIx l.length l.length none - HT.sIx l.length 0 (some (k : Int)))).toArray⟩ : Str) = _
  rw [HT.sIx_nat, HT.sIx_none]
  have e : (l.drop (min k l.length)).take (l.length - min k l.length) = l.drop k := by
    rw [List.take_of_length_le (by rw [List.length_drop]; omega)]
    by_cases h : k ≤ l.length
    · rw [Nat.min_eq_left h]
    · rw [Nat.min_eq_right (by omega), List.drop_length, List.drop_of_length_le (by omega)]
  rw [e]
  rfl
theorem cut_hi (l : List Nat) (k : Nat) : cutS (sO l) none (some (k : Int)) = sO (l.take k) := by
  show (⟨((l.drop (HT.sIx l.length 0 none)).take (HT.sIx l.length l.length (some (k : Int)) - HT.sIx l.length 0 none)).toArray⟩ : Str) = _
  rw [HT.sIx_nat, HT.sIx_none, List.drop_zero, Nat.sub_zero]
  have e : l.take (min k l.length) = l.take k := by
    by_cases h : k ≤ l.length
    · rw [Nat.min_eq_left h]
    · rw [Nat.min_eq_right (by omega), List.take_length, List.take_of_length_le (by omega)]
  rw [e]
  rfl
theorem rep_fold (a : Array Nat) : ∀ (n : Nat) (acc : Array Nat), (List.replicate n a).foldl (· ++ ·) acc = (acc.toList ++ (List.replicate n a.toList).flatten).toArray
  | 0, acc => by simp
  | n + 1, acc => by
    rw [List.replicate_succ, List.foldl_cons, rep_fold a n, List.replicate_succ]
    simp
section
variable {X : Cx}
/-- a text times a small number -/
theorem op_rep_str : OpR X (binaryOp .Mult) (fun x y H Q => ∃ (l : List Nat) (n : Nat), x = .str (sO l) ∧ y = .int (n : Int) ∧ l.length ≤ 1000 ∧ n ≤ 1000 ∧ Q (.str (sO (List.replicate n l).flatten)) H) := by
  intro pins s σ H x y v u Q I rx ry h
  obtain ⟨l, n, rfl, rfl, hl, hn, q⟩ := h
  obtain ⟨t, rfl⟩ := rx
  obtain ⟨t2, rfl⟩ := ry
  have big : l.length * n ≤ 1000000 := Nat.mul_le_mul hl hn
  refine P.mul_str ?_ (fun _ _ => ?_) (fun _ _ => ?_) ?_
  · rw [decide_eq_false (show ¬ (n : Int) < -(2 ^ 63) by omega), decide_eq_false (show ¬ (n : Int) ≥ 2 ^ 63 by omega)]
    rfl
  · show ¬ ((l.length : Nat) : Int) > (2 ^ 63 - 1) / (n : Int)
    have h1 : (0 : Int) < n := by omega
    have h2 : (1000 : Int) ≤ (2 ^ 63 - 1) / (n : Int) := (Int.le_ediv_iff_mul_le h1).mpr (by omega)
    omega
  · show tooLong (l.length * (n : Int).toNat) = false
    rw [Int.toNat_natCast]
    exact decide_eq_false (by show ¬ _; have : (1000000 : Nat) ≤ sizeLine := by decide
                              omega)
  · have fin : ∀ (z : Str) tk tok, z = sO (List.replicate n l).flatten → EP X pins σ Q (Value.str z tok) { s with toks := tk } := fun z tk tok e => by subst e; exact ⟨.str _, H, I.tok _, ⟨_, rfl⟩, q⟩
    have hsz : ∀ z : Str, z = sO (List.replicate n l).flatten → z.length ≤ sizeLine := fun z e => by
      rw [e, sO_len]
      have e2 : (List.replicate n l).flatten.length = n * l.length := by simp
      rw [e2, Nat.mul_comm]
      exact Nat.le_trans big (by decide)
    split
    · have : n = 0 := by omega
      subst this
      exact ⟨by decide, fin _ _ _ rfl⟩
    · split
      · rename_i h2
        rcases Bool.or_eq_true_iff.mp h2 with h3 | h3
        · have h4 : (n : Int) = 1 := by simpa using h3
          have h5 : n = 1 := by omega
          subst h5
          refine fin _ s.toks _ ?_
          simp
        · have h4 : l.length = 0 := (eq_of_beq h3 : (sO l).length = 0)
          have h5 : l = [] := List.eq_nil_of_length_eq_zero h4
          subst h5
          refine fin _ s.toks _ ?_
          have : (List.replicate n ([] : List Nat)).flatten = [] := by simp
          rw [this]
      · have e : (⟨(List.replicate (n : Int).toNat (sO l).cps).foldl (· ++ ·) #[]⟩ : Str) = sO (List.replicate n l).flatten := by
          rw [rep_fold, Int.toNat_natCast]
          simp [sO]
        exact ⟨hsz _ e, fin _ _ _ e⟩
end
end RK

namespace RK
open PySem PySem.Spec PyProof.Rows L2 PySem.Builtin.Str
/-! ### names and the words that pack them -/
def sg (k : Nat) : Nat := if k = 0 then 32 else if k ≤ 26 then 96 + k else 21 + k
abbrev LTR : List Nat := (Str.ofString "abcdefghijklmnopqrstuvwxyz").cps.toList
abbrev SGN : List Nat := (Str.ofString " abcdefghijklmnopqrstuvwxyz0123456789").cps.toList
theorem SGN_eq : SGN = (List.range 37).map sg := by decide +kernel
theorem LTR_eq : LTR = (List.range 26).map fun k => sg (k + 1) := by decide +kernel
def isN (l : List Nat) : Bool := (decide (1 ≤ l.length) && decide (l.length ≤ 9) && decide (l.headD 0 ∈ LTR)) && l.all fun c => decide (c ∈ SGN) && !decide (c = 32)
theorem dec_blank (c : Nat) : decide (V.str (sO [c]) = V.str (Str.ofString " ")) = decide (c = 32) := by
  have e : Str.ofString " " = sO [32] := by decide +kernel
  rw [e, decide_eq_decide]
  constructor
  · intro h
    have := sO_inj (V.str.inj h)
    exact (List.cons.inj this).1
  · intro h
    rw [h]
/-- the codes of a name -/
structure Nk (ks : List Nat) : Prop where
  pos : 1 ≤ ks.length
  le : ks.length ≤ 9
  head : 1 ≤ ks.headD 0 ∧ ks.headD 0 ≤ 26
  all : ∀ k ∈ ks, 1 ≤ k ∧ k ≤ 36
theorem sg_mem {k : Nat} (h : k ≤ 36) : sg k ∈ SGN := by
  rw [SGN_eq]
  exact List.mem_map.mpr ⟨k, List.mem_range.mpr (by omega), rfl⟩
theorem sg_ne {k : Nat} (h : 1 ≤ k) : sg k ≠ 32 := by
  unfold sg
  split
  · omega
  · split <;> omega
theorem sg_inj {a b : Nat} (ha : a ≤ 36) (hb : b ≤ 36) (h : sg a = sg b) : a = b := by
  unfold sg at h
  split at h <;> split at h <;> (try split at h) <;> (try split at h) <;> omega
theorem sg_lt {k : Nat} (h : k ≤ 36) : sg k ∈ LTR ↔ 1 ≤ k ∧ k ≤ 26 := by
  rw [LTR_eq, List.mem_map]
  constructor
  · rintro ⟨j, hj, e⟩
    have hj := List.mem_range.mp hj
    have := sg_inj (by omega) h e
    omega
  · rintro ⟨h1, h2⟩
    exact ⟨k - 1, List.mem_range.mpr (by omega), by rw [Nat.sub_add_cancel h1]⟩
theorem isN_codes {ks : List Nat} (h36 : ∀ k ∈ ks, k ≤ 36) : isN (ks.map sg) = (decide (1 ≤ ks.length) && decide (ks.length ≤ 9) && decide (1 ≤ ks.headD 0 ∧ ks.headD 0 ≤ 26) && ks.all fun k => decide (1 ≤ k)) := by
  unfold isN
  rw [List.length_map]
  have e1 : decide ((ks.map sg).headD 0 ∈ LTR) = decide (1 ≤ ks.headD 0 ∧ ks.headD 0 ≤ 26) := by
    cases ks with
    | nil => decide +kernel
    | cons k r =>
      show decide (sg k ∈ LTR) = decide (1 ≤ k ∧ k ≤ 26)
      rw [decide_eq_decide]
      exact sg_lt (h36 k List.mem_cons_self)
  have e2 : ((ks.map sg).all fun c => decide (c ∈ SGN) && !decide (c = 32)) = ks.all fun k => decide (1 ≤ k) := by
    rw [List.all_map]
    apply Bool.eq_iff_iff.mpr
    rw [List.all_eq_true, List.all_eq_true]
    constructor
    · intro h k hk
      have := h k hk
      apply decide_eq_true
      rcases Nat.eq_zero_or_pos k with z | z
      · subst z
        exact absurd this (by decide +kernel)
      · exact z
    · intro h k hk
      have hk1 : 1 ≤ k := of_decide_eq_true (h k hk)
      show (decide (sg k ∈ SGN) && !decide (sg k = 32)) = true
      rw [decide_eq_true (sg_mem (h36 k hk)), decide_eq_false (sg_ne hk1)]
      rfl
  rw [e1, e2]
theorem isN_of {ks : List Nat} (h : Nk ks) : isN (ks.map sg) = true := by
  rw [isN_codes fun k hk => (h.all k hk).2, decide_eq_true h.pos, decide_eq_true h.le, decide_eq_true h.head]
  rw [List.all_eq_true.mpr fun k hk => decide_eq_true (h.all k hk).1]
  rfl
theorem isN_long {l : List Nat} (h : 10 ≤ l.length) : isN l = false := by
  unfold isN
  rw [decide_eq_false (show ¬ l.length ≤ 9 by omega), Bool.and_false]
  rfl
theorem isN_head {l : List Nat} (h : l.headD 0 ∉ LTR) : isN l = false := by
  unfold isN
  rw [decide_eq_false h, Bool.and_false]
  rfl
theorem isN_mem {l : List Nat} {c : Nat} (h : c ∈ l) (hc : (decide (c ∈ SGN) && !decide (c = 32)) = false) : isN l = false := by
  unfold isN
  rw [show (l.all fun c => decide (c ∈ SGN) && !decide (c = 32)) = false from ?_, Bool.and_false]
  apply Bool.eq_false_iff.mpr
  intro z
  have := List.all_eq_true.mp z c h
  rw [hc] at this
  cases this
/-! words -/
def cds (w : Nat) : List Nat := [w / 1600, w / 40 % 40, w % 40]
def rtrim (ks : List Nat) : List Nat := (ks.reverse.dropWhile (· == 0)).reverse
theorem rtrim_app (l : List Nat) (x : Nat) : rtrim (l ++ [x]) = if x = 0 then rtrim l else l ++ [x] := by
  unfold rtrim
  rw [List.reverse_append]
  show ((x :: l.reverse).dropWhile (· == 0)).reverse = _
  rw [List.dropWhile_cons]
  by_cases h : x = 0
  · rw [if_pos h, if_pos (by rw [h]; rfl)]
  · rw [if_neg h, if_neg (by simpa using h)]
    simp
theorem rtrim_pre (l : List Nat) : rtrim l = l.take (rtrim l).length := by
  have h : l.reverse = l.reverse.takeWhile (· == 0) ++ l.reverse.dropWhile (· == 0) := (List.takeWhile_append_dropWhile).symm
  have h2 : l = rtrim l ++ (l.reverse.takeWhile (· == 0)).reverse := by
    unfold rtrim
    rw [← List.reverse_append, List.takeWhile_append_dropWhile, List.reverse_reverse]
  conv => rhs; arg 2; rw [h2]
  rw [List.take_left]
theorem rtrim_big {l : List Nat} {x : Nat} (h : x ∈ l) (hx : x ≠ 0) : x ∈ rtrim l := by
  have h2 : l = rtrim l ++ (l.reverse.takeWhile (· == 0)).reverse := by
    unfold rtrim
    rw [← List.reverse_append, List.takeWhile_append_dropWhile, List.reverse_reverse]
  rw [h2] at h
  rcases List.mem_append.mp h with h | h
  · exact h
  · have := List.mem_reverse.mp h
    have h3 : ∀ (r : List Nat), x ∈ r.takeWhile (· == 0) → x = 0 := fun r => by
      induction r with
      | nil => intro z; cases z
      | cons y r ih =>
        rw [List.takeWhile_cons]
        split
        · rename_i hy
          intro z
          rcases List.mem_cons.mp z with z | z
          · rw [z]; simpa using hy
          · exact ih z
        · intro z; cases z
    exact absurd (h3 _ this) hx
theorem rtrim_sub {l : List Nat} {x : Nat} (h : x ∈ rtrim l) : x ∈ l := by
  rw [rtrim_pre] at h
  exact List.mem_of_mem_take h
theorem rtrim_len (l : List Nat) : (rtrim l).length ≤ l.length := by
  rw [rtrim_pre, List.length_take]
  omega
theorem rtrim_head {l : List Nat} (h : rtrim l ≠ []) : (rtrim l).headD 0 = l.headD 0 := by
  rw [rtrim_pre] at h ⊢
  cases l with
  | nil => simp at h
  | cons x r =>
    cases e : (rtrim (x :: r)).length with
    | zero => rw [e] at h; exact absurd rfl h
    | succ n => rfl
/-- the program's way -/
def wn (ks : List Nat) : Option (List Nat) := if ks.any (fun k => decide (37 ≤ k)) then none else if isN ((rtrim ks).map sg) then some ((rtrim ks).map sg) else none
/-- the law's way -/
def un (ks : List Nat) : Option (List Nat) := if (rtrim ks).all (fun k => decide (1 ≤ k ∧ k ≤ 36)) && (decide ((rtrim ks).length ≠ 0) && decide (ks.headD 0 ≤ 26)) then some ((rtrim ks).map sg) else none
theorem wn_un (ks : List Nat) (h9 : ks.length ≤ 9) : wn ks = un ks := by
  unfold wn un
  by_cases hb : ks.any (fun k => decide (37 ≤ k)) = true
  · rw [if_pos hb]
    obtain ⟨k, hk, hk2⟩ := List.any_eq_true.mp hb
    have hk3 : 37 ≤ k := of_decide_eq_true hk2
    have : (rtrim ks).all (fun k => decide (1 ≤ k ∧ k ≤ 36)) = false := by
      apply Bool.eq_false_iff.mpr
      intro z
      have := of_decide_eq_true (List.all_eq_true.mp z k (rtrim_big hk (by omega)))
      omega
    rw [this]
    rfl
  · rw [if_neg hb]
    have h36 : ∀ k ∈ ks, k ≤ 36 := fun k hk => by
      apply Decidable.byContradiction
      intro z
      exact hb (List.any_eq_true.mpr ⟨k, hk, decide_eq_true (by omega)⟩)
    have h36' : ∀ k ∈ rtrim ks, k ≤ 36 := fun k hk => h36 k (rtrim_sub hk)
    have hl := rtrim_len ks
    have e : isN ((rtrim ks).map sg) = ((rtrim ks).all (fun k => decide (1 ≤ k ∧ k ≤ 36)) && (decide ((rtrim ks).length ≠ 0) && decide (ks.headD 0 ≤ 26))) := by
      rw [isN_codes h36']
      apply Bool.eq_iff_iff.mpr
      simp only [Bool.and_eq_true, decide_eq_true_eq, List.all_eq_true]
      constructor
      · rintro ⟨⟨⟨h1, _⟩, h3, h4⟩, h5⟩
        have hne : rtrim ks ≠ [] := fun z => by rw [z] at h1; exact absurd h1 (by decide)
        rw [rtrim_head hne] at h3 h4
        exact ⟨fun k hk => ⟨h5 k hk, h36' k hk⟩, by omega, h4⟩
      · rintro ⟨h1, h2, h3⟩
        have hne : rtrim ks ≠ [] := fun z => by rw [z] at h2; exact h2 rfl
        refine ⟨⟨⟨by omega, by omega⟩, ?_⟩, fun k hk => (h1 k hk).1⟩
        have hm : (rtrim ks).headD 0 ∈ rtrim ks := by
          cases hr : rtrim ks with
          | nil => exact absurd hr hne
          | cons x r => exact List.mem_cons_self
        have := h1 _ hm
        rw [rtrim_head hne] at this ⊢
        exact ⟨this.1, h3⟩
    rw [e]
def pad (ks : List Nat) : List Nat := ks ++ List.replicate (9 - ks.length) 0
theorem pad_len {ks : List Nat} (h : ks.length ≤ 9) : (pad ks).length = 9 := by
  unfold pad
  rw [List.length_append, List.length_replicate]
  omega
def pk1 (cs : List Nat) (k : Nat) : Nat := (cs.getD k 0 * 40 + cs.getD (k + 1) 0) * 40 + cs.getD (k + 2) 0
def pk3 (cs : List Nat) : List Nat := [pk1 cs 0, pk1 cs 3, pk1 cs 6]
theorem cds_pk1 {cs : List Nat} {k : Nat} (h : ∀ x ∈ cs, x ≤ 39) : cds (pk1 cs k) = [cs.getD k 0, cs.getD (k + 1) 0, cs.getD (k + 2) 0] := by
  have g : ∀ i, cs.getD i 0 ≤ 39 := fun i => by
    rw [List.getD_eq_getElem?_getD]
    cases e : cs[i]? with
    | none => exact Nat.zero_le _
    | some x => exact h x (List.mem_of_getElem? e)
  have a := g k
  have b := g (k + 1)
  have c := g (k + 2)
  unfold cds pk1
  congr 1
  · omega
  · congr 1
    · omega
    · congr 1
      omega
theorem cds_pk3 {cs : List Nat} (h : ∀ x ∈ cs, x ≤ 39) (h9 : cs.length = 9) : (pk3 cs).flatMap cds = cs := by
  match cs, h9 with
  | [a, b, c, d, e, f, g, i, j], _ =>
    show cds _ ++ (cds _ ++ (cds _ ++ [])) = _
    rw [cds_pk1 h, cds_pk1 h, cds_pk1 h]
    rfl
theorem rtrim_pad {ks : List Nat} (h : Nk ks) : rtrim (pad ks) = ks := by
  unfold pad
  generalize 9 - ks.length = n
  induction n with
  | zero =>
    rw [List.replicate_zero, List.append_nil]
    cases e : ks.reverse with
    | nil =>
      have := congrArg List.reverse e
      rw [List.reverse_reverse] at this
      rw [this]
      rfl
    | cons x r =>
      have e2 : ks = r.reverse ++ [x] := by
        have := congrArg List.reverse e
        rw [List.reverse_reverse, List.reverse_cons] at this
        exact this
      rw [e2, rtrim_app, if_neg]
      have := h.all x (by rw [e2]; simp)
      omega
  | succ n ih =>
    rw [List.replicate_succ', ← List.append_assoc, rtrim_app, if_pos rfl]
    exact ih
theorem pad_le {ks : List Nat} (h : Nk ks) : ∀ x ∈ pad ks, x ≤ 39 := fun x hx => by
  unfold pad at hx
  rcases List.mem_append.mp hx with hx | hx
  · have := h.all x hx
    omega
  · have := List.eq_of_mem_replicate hx
    omega
theorem wn_pad {ks : List Nat} (h : Nk ks) : wn (pad ks) = some (ks.map sg) := by
  unfold wn
  rw [rtrim_pad h, isN_of h, if_neg, if_pos rfl]
  intro z
  obtain ⟨k, hk, hk2⟩ := List.any_eq_true.mp z
  have hk3 : 37 ≤ k := of_decide_eq_true hk2
  unfold pad at hk
  rcases List.mem_append.mp hk with hx | hx
  · have := h.all k hx
    omega
  · have := List.eq_of_mem_replicate hx
    omega
/-- signs found in the tables -/
theorem find_sg : ∀ k : _root_.Fin 37, Txt.find (Str.ofString " abcdefghijklmnopqrstuvwxyz0123456789") (sO [sg k.val]) = (k.val : Int) := by decide +kernel
theorem occ_sg : ∀ k : _root_.Fin 37, occurrences (Str.ofString " abcdefghijklmnopqrstuvwxyz0123456789") (sO [sg k.val]) 0 (Str.ofString " abcdefghijklmnopqrstuvwxyz0123456789").length 1 = [k.val] := by decide +kernel
theorem space_sg : ∀ k : _root_.Fin 37, Unicode.isSpace (sg k.val) = (k.val == 0) := by decide +kernel
theorem rstrip_sg {ks : List Nat} (h : ∀ k ∈ ks, k ≤ 36) : Txt.rstrip (sO (ks.map sg)) = sO ((rtrim ks).map sg) := by
  rw [rstrip_sO]
  unfold rtrim
  rw [← List.map_reverse]
  have e : ∀ r : List Nat, (∀ k ∈ r, k ≤ 36) → (r.map sg).dropWhile Unicode.isSpace = (r.dropWhile (· == 0)).map sg := fun r => by
    induction r with
    | nil => intro _; rfl
    | cons x r ih =>
      intro hr
      rw [List.map_cons, List.dropWhile_cons, List.dropWhile_cons]
      have hx : Unicode.isSpace (sg x) = (x == 0) := space_sg ⟨x, by have := hr x List.mem_cons_self; omega⟩
      rw [hx]
      split
      · exact ih fun k hk => hr k (List.mem_cons_of_mem _ hk)
      · rfl
  rw [e _ fun k hk => h k (List.mem_reverse.mp hk), ← List.map_reverse]
/-! lists of small numbers as they stand in the program -/
def intV (l : List Nat) : List V := l.map fun (n : Nat) => V.int (n : Int)
theorem atI_intV {cs : List Nat} {k : Int} (h0 : 0 ≤ k) (h1 : k < (cs.length : Int)) : atI (intV cs) k = some (.int ((cs.getD k.toNat 0 : Nat) : Int)) := by
  obtain ⟨j, rfl⟩ : ∃ j : Nat, k = (j : Int) := ⟨k.toNat, by omega⟩
  have hj : j < cs.length := by omega
  refine atI_nat ?_
  unfold intV
  rw [List.getElem?_map, List.getElem?_eq_getElem hj, Int.toNat_natCast, List.getD_eq_getElem?_getD, List.getElem?_eq_getElem hj]
  rfl
theorem intV_map {α : Type} (g : α → Nat) (l : List α) : intV (l.map g) = l.map fun x => V.int ((g x : Nat) : Int) := by
  unfold intV
  rw [List.map_map]
  rfl
theorem intV_ints (l : List Nat) : intV l = (l.map fun (n : Nat) => (n : Int)).map V.int := by
  unfold intV
  rw [List.map_map]
  rfl
theorem intV_range (cs : List Nat) : (List.range cs.length).map (fun i => V.int ((cs.getD i 0 : Nat) : Int)) = intV cs := range_getD (fun n : Nat => V.int (n : Int)) 0 cs
theorem ljust_pad {ks : List Nat} (h : ks.length ≤ 9) : Txt.ljust (sO (ks.map sg)) 9 = sO ((pad ks).map sg) := by
  have e := ljust_sO (ks.map sg) 9 (by rw [List.length_map]; exact h)
  rw [List.length_map] at e
  unfold pad
  rw [List.map_append, List.map_replicate]
  exact e
/-! numbers as data -/
def intsD (l : List Nat) : PyData := .tuple ((l.map fun (n : Nat) => (n : Int)).map PyData.int)
theorem lay_ints : ∀ l : List Int, PyData.canLayAll0 (l.map PyData.int) = true
  | [] => rfl
  | _ :: r => lay_ints r
theorem lay_intsD (l : List Nat) : (intsD l).canLay0 = true := lay_ints _
theorem dep_ints : ∀ l : List Int, PyData.depthAll (l.map PyData.int) = 0
  | [] => rfl
  | x :: r => by
    show max 0 (PyData.depthAll (r.map PyData.int)) = 0
    rw [dep_ints r]
    rfl
theorem dep_intsD (l : List Nat) : (intsD l).depth ≤ 1 := by
  show PyData.depthAll _ + 1 ≤ 1
  rw [dep_ints]
  exact Nat.le_refl 1
theorem wd_ints : ∀ l : List Int, wdA (l.map PyData.int) = true
  | [] => rfl
  | _ :: r => wd_ints r
theorem wd_intsD {l : List Nat} (h : l.length ≤ 100000) : wdB (intsD l) = true := by
  show (decide (_ ≤ 100000) && wdA _) = true
  rw [wd_ints, List.length_map, List.length_map, decide_eq_true h]
  rfl
theorem dx_intsD {K : PySem.W.Frag} {H : Hp} {p : Addr} {l : List Nat} (h : H p = some (.tup (intV l))) : Dx K H noS (.ref p) (intsD l) := by
  rw [intV_ints] at h
  exact .tup (XT.of h fun z => z.elim) (dxAll_ints _)
/-! parts of a tuple -/
theorem cutV_lo {xs : List V} (k : Nat) : cutV xs (some (k : Int)) none = xs.drop k := by
  show (xs.drop (HT.sIx xs.length 0 (some (k : Int)))).take (HT.sIx xs.length xs.length none - HT.sIx xs.length 0 (some (k : Int))) = _
  rw [HT.sIx_nat, HT.sIx_none, List.take_of_length_le (by rw [List.length_drop]; omega)]
  by_cases h : k ≤ xs.length
  · rw [Nat.min_eq_left h]
  · rw [Nat.min_eq_right (by omega), List.drop_length, List.drop_of_length_le (by omega)]
theorem cutV_hi {xs : List V} (k : Nat) : cutV xs none (some (k : Int)) = xs.take k := by
  show (xs.drop (HT.sIx xs.length 0 none)).take (HT.sIx xs.length xs.length (some (k : Int)) - HT.sIx xs.length 0 none) = _
  rw [HT.sIx_nat, HT.sIx_none, List.drop_zero, Nat.sub_zero]
  by_cases h : k ≤ xs.length
  · rw [Nat.min_eq_left h]
  · rw [Nat.min_eq_right (by omega), List.take_length, List.take_of_length_le (by omega)]
theorem slA_of {K : PySem.W.Frag} {H : Hp} {a : Addr} {xs : List V} {lo hi : Option Int} {Q : VK} (h : SqT K H a xs) (q : ∀ p H', Same H H' → SqT K H' p (cutV xs lo hi) → Q (.ref p) H') : rSlA K (.ref a) lo hi H Q := by
  refine ⟨a, xs, rfl, h, fun e => q a H (Same.refl _) ?_, fun _ p hp => q p _ (same_new hp) (SqT.of upd_same)⟩
  have : cutV xs lo hi = xs := by
    show (xs.drop (HT.sIx xs.length 0 lo)).take (HT.sIx xs.length xs.length hi - HT.sIx xs.length 0 lo) = _
    rw [e.1, e.2, List.drop_zero, Nat.sub_zero, List.take_length]
  rw [this]
  exact h
end RK

namespace RK
open PySem PySem.Spec PyProof.Rows L2
/-! ### an own error that keeps one thing, and a try whose first clause names it -/
/-- what the first clause wishes: the error is its own -/
def wHit (K : PySem.W.Frag) (c : Value) (i : Nat) (ts : Addr → Value → Option Addr → TS) (D : Ends) : WX := fun cls d σ H => PySem.W.exmOne K cls c = some true ∧
  ∀ a, H a = none → ts a cls d ⟨fun σ' H' => D.nx (σ'.set i none) H', D.rt, fun σ' H' => D.bk (σ'.set i none) H', fun σ' H' => D.ct (σ'.set i none) H'⟩ (σ.set i (some (.ref a))) H
section
variable {X : Cx} {x n : Str} {c : Value} {i : Nat} {body suite : List Stmt} {hds : List ExceptHandler} {b₀ : Stmt} {np pos pos' : Pos} {tb : WX → TS} {ts : Addr → Value → Option Addr → TS} {pins : List (Addr × Obj)}
/-- what the body leaves, seen from outside the try -/
theorem flow_out {D : Ends} {xe : Value → Shared → Prop} (ok : X.Ok) {f : Flow} {s1 : Shared} (h : SP (X.tr (X.pn ++ pins) xe) [] D f s1) : SP X pins D f s1 := by
  cases f with
  | ret u => exact let ⟨v, σ', H', J, r, q⟩ := h; ⟨v, σ', H', J.ofTry ok, r, q⟩
  | next => exact let ⟨σ', H', J, q⟩ := h; ⟨σ', H', J.ofTry ok, q⟩
  | brk => exact let ⟨σ', H', J, q⟩ := h; ⟨σ', H', J.ofTry ok, q⟩
  | cont => exact let ⟨σ', H', J, q⟩ := h; ⟨σ', H', J.ofTry ok, q⟩
/-- an error that flies stands in no frame -/
theorem no_frame {B h : Heap} {l : List Env} {a : Addr} {o : Obj} {vs : Array Value} (ff : h.FunFrames B l) (e : h.get? a = some o) (hd : o.data = .fields vs) : a ∉ frs l := fun hm => by
  obtain ⟨_, o2, e2, no⟩ := ff.mem hm
  have : o2 = o := Option.some.inj (e2.symm.trans e)
  exact no vs (this ▸ hd)
/-- the first clause's test -/
theorem names_it {a : Addr} {o : Obj} {σ : L2.St} {H : Hp} {s : Shared} {Q : Value → Shared → Prop} {E : Value → Shared → Prop} (hc : Names X x c) (S : Inv (X.suite a ((a, o) :: (X.pn ++ pins))) [] σ H s) (q : Q c s) :
    wpAny (model X.prog X.w) (X.A.mark (some (.ref a))) (eval (.Name x np) X.env) Q E s := by
  rcases hc with ⟨hg, hd, h | ⟨h1, h2, h3⟩⟩
  · exact ld_glob (X := Cx.suite X a ((a, o) :: (X.pn ++ pins))) S hg h q hd
  · exact ld_blt (X := Cx.suite X a ((a, o) :: (X.pn ++ pins))) S hg h1 h2 q h3 hd
end

/-! ### an own error class C: __init__(self, f): self.f = f -/
/-- what __init__ does of a fresh error -/
def spKeep (f : Str) (C : Addr) : Sp := fun vs H Q _ => ∃ (a : Addr) (v : V), vs = [.ref a, v] ∧ H a = some (exo a C none) ∧ ∀ dx, H dx = none → dx ≠ a → Q .non (upd (upd H dx (exd dx [(f, v)])) a (exo a C (some dx)))
structure ErrC (K : PySem.W.Frag) (mg : Str → Option Value) (x f : Str) (C fI : Addr) (fd : FuncData) : Prop where
  g : mg x = some (.ref C)
  ox : OexC K C
  no : PySem.W.findIn K (.ref C) f = some none
  iC : PySem.W.findIn K (.ref C) "__init__" = some (some (.ref fI))
  tI : PySem.W.typeIn K (.ref fI) = some (.type "function")
  b : Binds K fd ["self", f] []
  xf : XfC K C
  ex : ExcC K C
  te : PySem.W.exmOne K (.ref C) (.ref C) = some true
section
variable {X : Cx} {x f : Str} {C fI : Addr} {fd : FuncData} {k : Nat} {e : Expr} {es : List Expr} {ta : TA} {p pos : Pos}
/-- C(e), to be raised -/
theorem pmk_err (T : ErrC X.K X.mg x f C fI fd) (F1 : FnOk X.prog X.w X.K X.mg X.base CX0 k fI fd ["self", f] (spKeep f C)) (hr : Room (k + 1) X.A) (ha : PA X (e :: es) ta) (hg : Gl X x := by rfl) (hdb : (x == ("__debug__" : Str)) = false := by decide)
    (he : starEach (e :: es) X.env = (false, eval e X.env) :: starEach es X.env := by rfl) (hpl : (backTo pos (starEach es X.env)).any (·.1) = false := by rfl) : PMk X (.Call (.Name x p) (e :: es) [] pos) (tMkO C (spKeep f C) [] ta) :=
  pmk_oex T.ox T.iC T.tI F1 hr T.b .nil (fun _ _ _ _ _ _ _ z => z.elim) hg T.g ha hdb he hpl
/-- the end of its reading -/
theorem keep_end {H1 : Hp} {v : V} {Q : XK} (q : ∀ d H2, Same H1 H2 → H1 d = none → H2 d = some (.xd [(f, v)]) → Q (.ref C) (some d) H2) : ([v] : List V).length ≤ 1000 ∧ ∀ a, H1 a = none → spKeep f C (.ref a :: ([v] ++ [])) (upd H1 a (exo a C none))
    (fun v H2 => v = .non ∧ ∃ (d : Addr) (fs : List (Str × V)), H2 a = some (exo a C (some d)) ∧ H2 d = some (exd d fs) ∧ H1 d = none ∧ Q (.ref C) (some d) (upd (del H2 a) d (.xd fs))) (fun _ _ _ => False) := by
  refine ⟨by show 1 ≤ 1000; decide, fun a na => ⟨a, v, rfl, upd_same, fun dx nd ne => ⟨rfl, dx, [(f, v)], upd_same, ?_, ?_, ?_⟩⟩⟩
  · rw [upd_ne ne, upd_same]
  · rw [upd_ne ne] at nd
    exact nd
  · rw [upd_ne ne] at nd
    refine q dx _ (fun b o eb => ?_) nd upd_same
    have b1 : b ≠ dx := ne_of_none eb nd
    have b2 : b ≠ a := ne_of_none eb na
    rw [upd_ne b1, del_ne b2, upd_ne b2, upd_ne b1, upd_ne b2]
    exact eb
/-- isinstance(e, c), e the error in hand whose own dict is dd -/
def rIsEx (K : PySem.W.Frag) (D a dd : Addr) : List V → Hp → VK → Prop := fun xs H Q => ∃ (c : V) (cv : Value) (b : Bool) (fs : List (Str × V)), xs = [.ref a, c] ∧ (∀ u, RelV c u → u = cv) ∧ PySem.W.kitOne K (.ref D) cv = some b ∧ H dd = some (.xd fs) ∧ Q (.bl b) H
theorem call_isEx {a D : Addr} {o : Obj} {cls : Value} {d : Option Addr} {ps : List (Addr × Obj)} (T : ExcC X.K D) (hz : Zc cls d o) (hf : ∃ vs, o.data = .fields vs) :
    CallR (X.suite a ((a, o) :: ps)) (.builtin "isinstance") (fun xs H Q => ∃ dd, cls = .ref D ∧ d = some dd ∧ rIsEx X.K D a dd xs H Q) := by
  intro pins s σ H xs us Q I r h
  obtain ⟨dd, rfl, rfl, c, cv, b, fs, rfl, hcv, hk, hd, q⟩ := h
  obtain ⟨u1, u2, rfl, r1, r2⟩ := vals2 r
  obtain rfl := hcv u2 r2
  cases r1
  obtain ⟨ga, _⟩ := I.pin (a, o) (List.mem_append_left _ List.mem_cons_self)
  obtain ⟨vs, ef⟩ := hf
  obtain ⟨mA, hns, _⟩ := (show ObjOk X.prog X.w H s.heap dd (.xd fs) from I.hok dd _ hd)
  obtain ⟨od, ho, _⟩ := lookIn_ns hns
  have J : PySem.W.InstAt s.heap a o D (some od) := ⟨ga, hz.1, by unfold PySem.W.notCls; rw [ef], by rw [hz.2]; exact ho⟩
  have hc : (PySem.W.clsIn X.K D).isSome = true := by
    have := T.hd
    unfold PySem.W.hasDictIn at this
    cases e : PySem.W.clsIn X.K D with
    | none => rw [e] at this; cases this
    | some => rfl
  exact PySem.W.kia_one (PySem.W.kitx_exc hc T.hg T.hk T.hs T.ha T.hn T.ht T.hm) I.kIn J hk (fun z => nomatch z) fun tk => ⟨.bl b, H, I.kept (t' := tk) fun _ _ z => z, rfl, q⟩
end
end RK

namespace RK
open PySem PySem.Spec PyProof.Rows L2 HotX
/-! ### the end of a walk over a list or a tuple while an error is handled -/
section
variable {prog : Program} {w : World} {A : Around} {E : Value → Shared → Prop} {s : Shared}
theorem next_list_hot {it l x1 : Addr} {i : Nat} {items : Array Value} {Q : Option Value → Shared → Prop} (hot : HotAt A x1 s.heap) (ne : x1 ≠ it) (hit : s.heap.IsListIter it l i) (hl : s.heap.IsList l items) (hx : items[i]? = none)
    (hQ : ∀ h', (∀ b o, b ≠ it → s.heap.get? b = some o → h'.get? b = some o) → Q none { s with heap := h' }) : wpAny (model prog w) A (pyNext (.ref it)) Q E s := by
  obtain ⟨hh, o1, vs1, h1, d1, c1⟩ := hot
  obtain ⟨oi, gi, ci, di⟩ := id hit
  obtain ⟨ol, gl, _, nl, dl⟩ := hl
  unfold pyNext
  refine wpAny_bind (wpAny_attempt (wpAny_callSpecial?_slot (name := "__next__") hit.typeIs slot_listiter_next (wpAny_call_entry slot_listiter_next hit.typeIs entry_listiter_next ?_ (args_listiter_next _))))
  refine wpAny_bind (m := field (.ref it) 0) (wpAny_field gi di (x := .ref l) rfl ?_)
  refine (if_neg (Bool.false_ne_true : ¬ ((Value.ref l == Value.none) = true))).symm ▸ ?_
  refine wpAny_bind (m := field (.ref it) 1) (wpAny_field gi di (x := .int i 0) rfl (wpAny_bind (m := seqItems? (.ref l)) (wpAny_seqItems gl dl ?_)))
  simp only [Int.toNat_natCast, hx]
  refine wpAny_bind (wpAny_rule (wpAny_bind (wpAny_setField gi di (by simp) (wpAny_bind (m := newExc (.type "StopIteration") []) ?_))))
  simp only [newExc, newTuple]
  refine wpAny_bind (wpAny_newObj_type (wpAny_bind (m := firstArgMember _ _) (wpAny_of_eq (a := Value.none) (by first | rfl | (simp only [firstArgMember]; rfl)) (wpAny_newObj_type ?_ (by size_fits)))) (by size_fits))
  have k0 : ∀ b o, b ≠ it → s.heap.get? b = some o → (s.heap.update it (Obj.mapFields (·.setIfInBounds 0 Value.none))).get? b = some o := fun b o n e => by
    rw [Heap.get?_update_other _ _ (Ne.symm n)]; exact e
  have u1 := Heap.get?_push_of_some { cls := .type "tuple", data := .seq #[] } (k0 _ _ ne h1)
  refine raiseNew_hot ⟨hh, o1, vs1, Heap.get?_push_of_some _ u1, d1, c1⟩ (Nat.ne_of_lt (Heap.lt_size u1)) (Heap.get?_push_size _ rfl) rfl (by first | (simp; done) | (simp; omega)) (wpAny_bind (wpAny_isInstance (T := "StopIteration") (b := true) ⟨_, Heap.get?_update_self _ (Heap.get?_push_size _ rfl) rfl, rfl⟩ isSubtype_stop (wpAny_pure (hQ _ fun b o n e => ?_))))
  have u2 := Heap.get?_push_of_some { cls := .type "tuple", data := .seq #[] } (k0 _ _ n e)
  rw [Heap.get?_update_other _ _ (Nat.ne_of_gt (Heap.lt_size u2))]; exact Heap.get?_push_of_some _ u2
theorem next_tuple_hot {it l x1 : Addr} {i : Nat} {items : Array Value} {Q : Option Value → Shared → Prop} (hot : HotAt A x1 s.heap) (ne : x1 ≠ it) (hit : s.heap.IsTupleIter it l i) (hl : s.heap.IsTuple l items) (hx : items[i]? = none)
    (hQ : ∀ h', (∀ b o, b ≠ it → s.heap.get? b = some o → h'.get? b = some o) → Q none { s with heap := h' }) : wpAny (model prog w) A (pyNext (.ref it)) Q E s := by
  obtain ⟨hh, o1, vs1, h1, d1, c1⟩ := hot
  obtain ⟨oi, gi, ci, di⟩ := id hit
  obtain ⟨ol, gl, _, nl, dl⟩ := hl
  unfold pyNext
  refine wpAny_bind (wpAny_attempt (wpAny_callSpecial?_slot (name := "__next__") hit.typeIs F.slot_tuple_iterator_next (wpAny_call_entry F.slot_tuple_iterator_next hit.typeIs F.entry_tuple_iterator_next ?_ (F.args_tuple_iterator_next_1 _))))
  refine wpAny_bind (m := field (.ref it) 0) (wpAny_field gi di (x := .ref l) rfl ?_)
  refine (if_neg (Bool.false_ne_true : ¬ ((Value.ref l == Value.none) = true))).symm ▸ ?_
  refine wpAny_bind (m := field (.ref it) 1) (wpAny_field gi di (x := .int i 0) rfl (wpAny_bind (m := seqItems? (.ref l)) (wpAny_seqItems gl dl ?_)))
  simp only [Int.toNat_natCast, hx]
  refine wpAny_bind (wpAny_rule (wpAny_bind (wpAny_setField gi di (by simp) (wpAny_bind (m := newExc (.type "StopIteration") []) ?_))))
  simp only [newExc, newTuple]
  refine wpAny_bind (wpAny_newObj_type (wpAny_bind (m := firstArgMember _ _) (wpAny_of_eq (a := Value.none) (by first | rfl | (simp only [firstArgMember]; rfl)) (wpAny_newObj_type ?_ (by size_fits)))) (by size_fits))
  have k0 : ∀ b o, b ≠ it → s.heap.get? b = some o → (s.heap.update it (Obj.mapFields (·.setIfInBounds 0 Value.none))).get? b = some o := fun b o n e => by
    rw [Heap.get?_update_other _ _ (Ne.symm n)]; exact e
  have u1 := Heap.get?_push_of_some { cls := .type "tuple", data := .seq #[] } (k0 _ _ ne h1)
  refine raiseNew_hot ⟨hh, o1, vs1, Heap.get?_push_of_some _ u1, d1, c1⟩ (Nat.ne_of_lt (Heap.lt_size u1)) (Heap.get?_push_size _ rfl) rfl (by first | (simp; done) | (simp; omega)) (wpAny_bind (wpAny_isInstance (T := "StopIteration") (b := true) ⟨_, Heap.get?_update_self _ (Heap.get?_push_size _ rfl) rfl, rfl⟩ isSubtype_stop (wpAny_pure (hQ _ fun b o n e => ?_))))
  have u2 := Heap.get?_push_of_some { cls := .type "tuple", data := .seq #[] } (k0 _ _ n e)
  rw [Heap.get?_update_other _ _ (Nat.ne_of_gt (Heap.lt_size u2))]; exact Heap.get?_push_of_some _ u2
end
/-! ### walks over lists and tuples there -/
section
variable {P : Program} {w : World} {K : PySem.W.Frag} {tg : Expr} (a it : Addr)
theorem turn_listH : L2H.TurnH P w K tg (Itl K a) [it] it (fun i h => h.IsListIter it a i) := by
  have T : Turn P w K tg (Itl K a) [it] it (fun i h => h.IsListIter it a i) := turn_list a it
  refine ⟨T.mem, T.obj, T.keep, ?_, ?_, T.self⟩
  · rintro X rfl rfl rfl - i pins s σ H E I hf st ⟨xs, x, hq, hx⟩
    obtain ⟨its, rv, pl, _⟩ := I.list hq
    obtain ⟨u, hu, ru⟩ := rv.get hx
    obtain ⟨g0, g1, g2, g3, g4, g5⟩ := hf it T.mem
    refine wpAny_pyNext_list_item st pl.isList (x := u) (by simpa using hu) fun h2 st2 sb => ⟨u, rfl, ?_⟩
    obtain ⟨o, eo, co, dd⟩ := id st2
    refine go_of (s := { s with heap := h2 }) eo co dd (by decide) ⟨x, H, I.turned (t' := s.toks) (fun b ob hb e => (sb.2 b hb).trans e) g0 g1 g3 g4 g5, ru, ⟨rfl, fun ys hy => ?_⟩, st2, fun b hb => (hf b hb).1⟩
    rw [I.list_inj hy hq, hx]
  · rintro X rfl rfl rfl hc i pins s σ H E I hf st ⟨xs, hq, hx⟩
    obtain ⟨its, rv, pl, _⟩ := I.list hq
    obtain ⟨g0, g1, g2, g3, g4, g5⟩ := hf it T.mem
    obtain ⟨p, ⟨hh, vs1, d1, c1⟩, hp⟩ := hc
    have P1 := I.pin p (List.mem_append_left _ hp)
    have hl := rv.length
    exact next_list_hot ⟨hh, p.2, vs1, P1.1, d1, c1⟩ (g5 p (List.mem_append_left _ hp)) st pl.isList (by simp; omega) fun h2 eb => ⟨rfl, I.turned (t' := s.toks) (fun b ob hb e => eb b ob hb e) g0 g1 g3 g4 g5⟩
theorem turn_tupleH : L2H.TurnH P w K tg (Itt K a) [it] it (fun i h => h.IsTupleIter it a i) := by
  have T : Turn P w K tg (Itt K a) [it] it (fun i h => h.IsTupleIter it a i) := turn_tuple a it
  refine ⟨T.mem, T.obj, T.keep, ?_, ?_, T.self⟩
  · rintro X rfl rfl rfl - i pins s σ H E I hf st ⟨xs, x, hq, hx⟩
    obtain ⟨its, rv, pl, _⟩ := I.tuple hq
    obtain ⟨u, hu, ru⟩ := rv.get hx
    obtain ⟨g0, g1, g2, g3, g4, g5⟩ := hf it T.mem
    refine wpAny_pyNext_tuple_item st (show s.heap.IsTuple a its.toArray from pl) (x := u) (by simpa using hu) fun h2 st2 sb => ⟨u, rfl, ?_⟩
    obtain ⟨o, eo, co, dd⟩ := id st2
    refine go_of (s := { s with heap := h2 }) eo co dd (by decide) ⟨x, H, I.turned (t' := s.toks) (fun b ob hb e => (sb.2 b hb).trans e) g0 g1 g3 g4 g5, ru, ⟨rfl, fun ys hy => ?_⟩, st2, fun b hb => (hf b hb).1⟩
    rw [I.tuple_inj hy hq, hx]
  · rintro X rfl rfl rfl hc i pins s σ H E I hf st ⟨xs, hq, hx⟩
    obtain ⟨its, rv, pl, _⟩ := I.tuple hq
    obtain ⟨g0, g1, g2, g3, g4, g5⟩ := hf it T.mem
    obtain ⟨p, ⟨hh, vs1, d1, c1⟩, hp⟩ := hc
    have P1 := I.pin p (List.mem_append_left _ hp)
    have hl := rv.length
    exact next_tuple_hot ⟨hh, p.2, vs1, P1.1, d1, c1⟩ (g5 p (List.mem_append_left _ hp)) st (show s.heap.IsTuple a its.toArray from pl) (by simp; omega) fun h2 eb => ⟨rfl, I.turned (t' := s.toks) (fun b ob hb e => eb b ob hb e) g0 g1 g3 g4 g5⟩
end
section
variable {X : Cx} {tg l : Expr} {tl : TE}
theorem pi_listH (hl : PE X l tl) : L2H.PIH X tg l (iList X.K tl) := by
  refine ⟨fun pins s σ H R I h => thn (hl.run pins s σ H _ I h) fun v s1 ⟨x, H1, I1, r1, a, ex, ⟨xs, hq⟩, q⟩ => ?_⟩
  subst ex; cases r1
  obtain ⟨its, rv, pl, _⟩ := I1.list hq
  refine wpAny_pyIter_list pl.isList ⟨s1.heap.objs.size, [s1.heap.objs.size], _, _, H1, rfl, I1.kept (t' := s1.toks) fun b o e => Heap.get?_push_of_some _ e, turn_listH a _, ⟨_, Heap.get?_push_size _ rfl, rfl, rfl⟩, fun b hb => ?_, q⟩
  rw [List.mem_singleton.mp hb]
  exact I1.fpOk (Nat.le_refl _) (I1.hok.fresh (Nat.le_refl _))
theorem pi_tupH (hl : PE X l tl) : L2H.PIH X tg l (iTup X.K tl) := by
  refine ⟨fun pins s σ H R I h => thn (hl.run pins s σ H _ I h) fun v s1 ⟨x, H1, I1, r1, a, ex, ⟨xs, hq⟩, q⟩ => ?_⟩
  subst ex; cases r1
  obtain ⟨its, rv, pl, _⟩ := I1.tuple hq
  refine wpAny_pyIter_tuple (show s1.heap.IsTuple a its.toArray from pl) ⟨s1.heap.objs.size, [s1.heap.objs.size], _, _, H1, rfl, I1.kept (t' := s1.toks) fun b o e => Heap.get?_push_of_some _ e, turn_tupleH a _, ⟨_, Heap.get?_push_size _ rfl, rfl, rfl⟩, fun b hb => ?_, q⟩
  rw [List.mem_singleton.mp hb]
  exact I1.fpOk (Nat.le_refl _) (I1.hok.fresh (Nat.le_refl _))
theorem PIH_or {w1 w2 : TI} (h1 : L2H.PIH X tg l w1) (h2 : L2H.PIH X tg l w2) : L2H.PIH X tg l (fun σ H R => w1 σ H R ∨ w2 σ H R) :=
  ⟨fun pins s σ H R I h => h.elim (h1.run pins s σ H R I) (h2.run pins s σ H R I)⟩
end
/-! ### list comprehensions there: the block keeps the error that is handled among its pins -/
abbrev blkH (X : Cx) (s : Shared) (H : Hp) (scope : Scope) (ce : Env) (fp : List Addr) (p : Addr × Obj) : Cx := { X.blk s H scope ce fp with pn := [p] }
section
variable {X : Cx} {pins : List (Addr × Obj)} {s : Shared} {σ : L2.St} {H : Hp} {Q : VK} {elt tg iter : Expr} {ifs : List Expr} {scope : Scope} {own : List (Str × Nat)} {pos pos2 : Pos} {wi : TI} {g : TG} {tt : TT} {te : TE}
theorem okH {s3 : Shared} {ce : Env} {fp : List Addr} {p : Addr × Obj} (nc : X.calm = false) (ok : (X.blk s3 H scope ce fp).Ok) : (blkH X s3 H scope ce fp p).Ok :=
  ⟨ok.mod, ok.kind, ok.glob, ok.blt, ok.above, ok.inj, ok.has, ok.cab, fun z => absurd (nc.symm.trans z) Bool.false_ne_true, ok.frames, ok.stk, ok.exf, ok.bs, ok.bsz, ok.noex, ok.exfs, ok.funs, ok.frf⟩
theorem comp_hot {Qf : Value → Shared → Prop} (nc : X.calm = false) {p : Addr × Obj} (hot : L2H.Hot1 X.A p) (hp : p ∈ X.pn) (hN : X.N.Nodup) (I : Inv X pins σ H s) (hi : L2H.PIH X tg iter wi) (ok : BlkOk X.N X.env.scope scope own)
    (hg : ∀ s H C cl fp, PG (blkH X s H scope (compEnvC scope cl C X.env) fp p) tg g) (ht : ∀ s H C cl fp, PTs (blkH X s H scope (compEnvC scope cl C X.env) fp p) ifs tt)
    (he : ∀ s H C cl fp, PE (blkH X s H scope (compEnvC scope cl C X.env) fp p) elt te) (hs : ∀ x, foldedSetIterable iter X.env x = pure x) (h : tLc wi g tt te (own.map (·.2)) σ H Q)
    (hR : ∀ D C s' m H', Inv X pins σ H' s' → Q (.ref D) H' → s'.heap.Ns C m → FpOk X pins H' C → compPost (model X.prog X.w) X.A X.xe none Qf (.ref D) C (.ok .next) s') :
    wpAny (model X.prog X.w) X.A (comprehension (.ListComp elt [⟨tg, iter, ifs, 0⟩] scope pos) scope X.env pos2 (newList []) false (eval iter X.env) none) Qf X.xe s := by
  have free : ∀ y ∈ scope.names, y.2 = .free → ∃ c, X.env.cells.lookup y.1 = some c := fun y hy e => I.ok.has _ (ok.free y hy e)
  refine wpAny_comprehension_free (use := none) rfl hs (closure_ok free) ok.kind (fun y hy e => (ok.uniq y hy).trans (congrArg some e)) (thn (hi.run pins s σ H _ I h) fun _ t1 hx => thn hx fun _ t2 ⟨it, fp, tn, J, H2, ei, I2, T, st2, f2, q⟩ => ?_)
  subst ei
  refine wpAny_newObj_type (newEnv_comp ?_) (Nat.zero_le _)
  have nD : H2 t2.heap.objs.size = none := I2.hok.fresh (Nat.le_refl _)
  obtain ⟨W, ⟨m0, w0⟩, turn⟩ := q _ nD
  generalize eD : t2.heap.objs.size = D at nD w0 turn ⊢
  generalize e3 : ({ t2 with heap := t2.heap.push { cls := .type "list", data := .seq ([] : List Value).toArray } } : Shared) = t3
  have hp3 : t3.heap = t2.heap.push { cls := .type "list", data := .seq ([] : List Value).toArray } := by rw [← e3]
  have I3 : Inv X pins σ (upd H2 D (.lst [])) t3 := by
    rw [← e3]
    exact I2.laid (t' := t2.toks) (fun b o e => Heap.get?_push_of_some _ e) (Nat.le_of_eq eD) ⟨Nat.zero_le _, [], 0, .nil, by rw [← eD]; exact Heap.get?_push_size _ rfl⟩
  have f3 : ∀ b ∈ fp, FpOk X pins (upd H2 D (.lst [])) b ∧ b < t3.heap.objs.size := fun b hb => by
    obtain ⟨o, eo, _⟩ := T.obj _ _ st2 b hb
    have lt : b < D := by rw [← eD]; exact Heap.lt_size eo
    exact ⟨⟨(upd_ne (Nat.ne_of_lt lt)).trans (f2 b hb).1, (f2 b hb).2⟩, by rw [hp3, Heap.size_push, eD]; exact Nat.lt_succ_of_lt lt⟩
  have I4 := block_start I3 ok hN f3
  have P3 := I3.pin p (List.mem_append_left _ hp)
  have pS : p.1 ∉ frs X.stack := fun hm => (List.mem_cons.mp (I3.stkSub p.1 hm)).elim P3.2.2.1 P3.2.2.2.1
  have pg := hg t3 (upd H2 D (.lst [])) t3.heap.objs.size (cellsFrom (t3.heap.objs.size + 1) scope.names (cloFrom X.env.cells scope.names [])) fp
  have pt := ht t3 (upd H2 D (.lst [])) t3.heap.objs.size (cellsFrom (t3.heap.objs.size + 1) scope.names (cloFrom X.env.cells scope.names [])) fp
  have pe := he t3 (upd H2 D (.lst [])) t3.heap.objs.size (cellsFrom (t3.heap.objs.size + 1) scope.names (cloFrom X.env.cells scope.names [])) fp
  show codeAny _ _ (.compStart _ 0 (.ref it) (.ref D) (compEnvC scope (cellsFrom (t3.heap.objs.size + 1) scope.names (cloFrom X.env.cells scope.names [])) t3.heap.objs.size X.env)) (compPost _ X.A X.xe none Qf (.ref D) t3.heap.objs.size) { t3 with heap := pushCells (t3.heap.push { cls := .type "dict", data := .dict #[] }) scope.names }
  have nfp : ∀ b ∈ fp, (upd H2 D (.lst [])) b = none := fun b hb => (f3 b hb).1.1
  generalize hce : compEnvC scope (cellsFrom (t3.heap.objs.size + 1) scope.names (cloFrom X.env.cells scope.names [])) t3.heap.objs.size X.env = ce at I4 pg pt pe ⊢
  have cL : ce.locals = t3.heap.objs.size := by rw [← hce]; rfl
  generalize hH3 : upd H2 D (.lst []) = H3 at I3 I4 P3 pg pt pe w0 nfp f3
  generalize hs4 : ({ t3 with heap := pushCells (t3.heap.push { cls := .type "dict", data := .dict #[] }) scope.names } : Shared) = t4 at I4 ⊢
  have k4 : ∀ b o, t3.heap.get? b = some o → t4.heap.get? b = some o := fun b o e => by rw [← hs4]; exact pushCells_keeps _ _ _ _ (Heap.get?_push_of_some _ e)
  have k3 : ∀ b o, t2.heap.get? b = some o → t4.heap.get? b = some o := fun b o e => k4 b o (by rw [hp3]; exact Heap.get?_push_of_some _ e)
  have st4 : tn 0 t4.heap := T.keep _ _ _ st2 fun b _ o e => k3 b o e
  have J4 : Inv (blkH X t3 H3 scope ce fp p) [] (wipe σ (own.map (·.2))) H3 t4 := ⟨okH nc I4.ok, I4.os, I4.bare, I4.base, I4.loc, I4.cell, I4.free, I4.freeC, fun r hr => by
    have er : r = p := by simpa using hr
    subst er
    exact ⟨k4 _ _ P3.1, P3.2.1, by rw [show (blkH X t3 H3 scope ce fp r).env.locals = t3.heap.objs.size from cL]; exact Nat.ne_of_lt (Heap.lt_size P3.1), pS, P3.2.2.2.2⟩, I4.hok, I4.len⟩
  have hc : L2H.HotC (blkH X t3 H3 scope ce fp p) := ⟨p, hot, List.mem_cons_self⟩
  have stat : ∀ {σ' : L2.St} {H' : Hp} {s' : Shared}, Inv (blkH X t3 H3 scope ce fp p) [] σ' H' s' → (∀ b ∈ fp, H' b = none) → ∀ b ∈ fp, FpOk (blkH X t3 H3 scope ce fp p) [] H' b := fun I' hn b hb =>
    ⟨hn b hb, (I'.ok.exf b hb).1, I'.ok.exfs b hb, .inl hb, (I'.ok.exf b hb).2, fun r hr => by
      have er : r = p := by simpa using hr
      rw [er]
      exact (f2 b hb).2.2.2.2.2 p (List.mem_append_left _ hp)⟩
  have loop : codeAny (model X.prog X.w) X.A (.compLoop (.ListComp elt [⟨tg, iter, ifs, 0⟩] scope pos) 0 (.ref it) (.ref D) ce) (compPost (model X.prog X.w) X.A X.xe none Qf (.ref D) t3.heap.objs.size) t4 := by
    refine compLoop_any (fun n s' => ∃ i H', Inv (blkH X t3 H3 scope ce fp p) [] (wipe σ (own.map (·.2))) H' s' ∧ tn i s'.heap ∧ (∀ b ∈ fp, H' b = none) ∧ W i n H') (fun n t5 ⟨i, H5, I5, st5, n5, w5⟩ => ?_) m0 ⟨0, H3, J4, st4, nfp, w0⟩
    rcases turn i n H5 w5 with ⟨stop, qq⟩ | ⟨go, Nx, hNx, step⟩
    · refine thnF (T.done (blkH X t3 H3 scope ce fp p) rfl rfl rfl hc i [] t5 _ H5 (fun _ _ => False) I5 (stat I5 n5) st5 stop) fun r t6 ⟨er, I6⟩ => ?_
      subst er
      have I7 : Inv X pins σ H5 t6 := I3.call' (ch := fp) I6.os I6.base I6.hok I6.bare fun b hb => ⟨(f3 b hb).1.2.2.2.1, (f3 b hb).1.2.1, (f3 b hb).1.2.2.2.2.1, (f3 b hb).1.2.2.2.2.2⟩
      have nC : H5 t3.heap.objs.size = none := cL ▸ (I6.free : H5 ce.locals = none)
      obtain ⟨m, hn, _⟩ := I6.loc
      exact hR D _ t6 m H5 I7 qq (cL ▸ (hn : t6.heap.Ns ce.locals m)) (I3.fpOk (Nat.le_refl _) nC)
    · refine thnF (T.item (blkH X t3 H3 scope ce fp p) rfl rfl rfl hc i [] t5 _ H5 (fun _ _ => False) I5 (stat I5 n5) st5 go) fun r t6 ⟨u, er, h6⟩ => ?_
      subst er
      refine thnF h6 fun _ t7 ⟨x, H7, I7, r7, y7, st7, n7⟩ => thnF (pg.run _ t7 _ H7 x u _ (I7.pinned (stat I7 n7) (T.obj _ _ st7)) r7 (step x H7 y7)) fun _ t8 ⟨σ8, H8, I8, hw8, q8⟩ => thnF (pt.run _ t8 σ8 H8 _ I8 q8) fun b t9 ⟨H9, I9, q9⟩ => ?_
      have back : ∀ {s' : Shared} {H' : Hp}, Inv (blkH X t3 H3 scope ce fp p) ([] ++ pinsAt fp t7.heap) σ8 H' s' → Nx H' → ∃ m, m < n ∧ ∃ i H', Inv (blkH X t3 H3 scope ce fp p) [] (wipe σ (own.map (·.2))) H' s' ∧ tn i s'.heap ∧ (∀ b ∈ fp, H' b = none) ∧ W i m H' := fun {s' H'} I' nx => by
        obtain ⟨m', lt, w'⟩ := hNx H' nx
        have at_ : ∀ b ∈ fp, ∀ o, t7.heap.get? b = some o → s'.heap.get? b = some o ∧ H' b = none := fun b hb o e => ⟨(I'.pin (b, o) (.tail _ (mem_pinsAt hb e))).1, (I'.pin (b, o) (.tail _ (mem_pinsAt hb e))).2.1⟩
        refine ⟨m', lt, i + 1, H', (I'.unpinned (pins := [])).weak (by rw [← hw8, wipe_length]) (fun j v e => (wipe_some (hw8 ▸ e)).1), T.keep _ _ _ st7 fun b hb o e => (at_ b hb o e).1, fun b hb => ?_, w'⟩
        exact let ⟨o, e, _⟩ := T.obj _ _ st7 b hb; (at_ b hb o e).2
      cases b with
      | false => exact back I9 q9
      | true => exact thnF (pe.run _ t9 σ8 H9 _ I9 q9) fun z t10 ⟨yv, H10, I10, r10, acc, d10, z10, nx⟩ => app_ok (X := blkH X t3 H3 scope ce fp p) I10 d10 z10 r10 fun t11 I11 => back I11 nx
  exact codeAny_compStart_list loop (T.self X.A 0 _ _ _ st4 loop)
theorem pe_lcH (nc : X.calm = false) {p : Addr × Obj} (hot : L2H.Hot1 X.A p) (hp : p ∈ X.pn) (hN : X.N.Nodup) (hi : L2H.PIH X tg iter wi) (ok : BlkOk X.N X.env.scope scope own)
    (hg : ∀ s H C cl fp, PG (blkH X s H scope (compEnvC scope cl C X.env) fp p) tg g) (ht : ∀ s H C cl fp, PTs (blkH X s H scope (compEnvC scope cl C X.env) fp p) ifs tt)
    (he : ∀ s H C cl fp, PE (blkH X s H scope (compEnvC scope cl C X.env) fp p) elt te) (hs : ∀ x, foldedSetIterable iter X.env x = pure x := by intro _; rfl) : PE X (.ListComp elt [⟨tg, iter, ifs, 0⟩] scope pos) (tLc wi g tt te (own.map (·.2))) := by
  refine ⟨fun pins s σ H Q I h => ?_⟩
  rw [eval_ListComp]
  exact comp_hot nc hot hp hN I hi ok hg ht he hs h fun D C s2 m H2 I2 q hn f => ⟨m, hn, fun h2 sb => ⟨.ref D, H2, I2.turned (t' := s2.toks) (fun b o hb e => (sb.2 b hb).trans e) f.1 f.2.1 f.2.2.2.1 f.2.2.2.2.1 f.2.2.2.2.2, rfl, q⟩⟩
end
/-! ### errors raised where nothing is handled, their context None -/
section
variable {X : Cx} {x f : Str} {C fI : Addr} {fd : FuncData} {k : Nat} {e : Expr} {ta : TA} {p pos : Pos}
theorem pmk_errN (T : ErrC X.K X.mg x f C fI fd) (F1 : FnOk X.prog X.w X.K X.mg X.base CX0 k fI fd ["self", f] (spKeep f C)) (hr : Room (k + 1) X.A) (ha : PA X [e] ta) (hg : Gl X x := by rfl) (hdb : (x == ("__debug__" : Str)) = false := by decide)
    (he : starEach [e] X.env = (false, eval e X.env) :: starEach [] X.env := by rfl) (hpl : (backTo pos (starEach [] X.env)).any (·.1) = false := by rfl) : L2N.PMk X (.Call (.Name x p) [e] [] pos) (tMkO C (spKeep f C) [] ta) := by
  intro pins s σ H Q I h
  obtain ⟨nm, q, N, bs, bm, sn, sub, ab, col, dd, k0, k1, k2, k3, k5, lkC, vbm⟩ := T.ox.cls
  refine wpAny_Call_Name_kw (ld_glob I hg T.g (PySem.W.callWith_K (h₀ := X.base) I.ok.mod.kin T.ox.kC (thn (ha.run pos pins s σ H _ I h) fun us s1 ⟨vs, H1, I1, r1, lv, q1⟩ => ⟨I1.kIn, ?_⟩) he hpl) hdb)
  obtain ⟨hp, g, dr, tk, os⟩ := s1
  generalize ea : hp.objs.size + 1 = a
  have ge : hp.objs.size ≤ a := by omega
  have hq := q1 a (I1.hok.fresh ge)
  have kk : ∀ b o, hp.get? b = some o → ((hp.push (PySem.W.kdv_tup us)).push (PySem.HandSPX.excO C hp.objs.size)).get? b = some o := fun b o z => Heap.get?_push_of_some _ (Heap.get?_push_of_some _ z)
  have ga : ((hp.push (PySem.W.kdv_tup us)).push (PySem.HandSPX.excO C hp.objs.size)).get? a = some (PySem.HandSPX.excO C hp.objs.size) := by rw [← ea]; heap_get
  have I2 : Inv X pins σ (upd H1 a (exo a C none)) ⟨(hp.push (PySem.W.kdv_tup us)).push (PySem.HandSPX.excO C hp.objs.size), g, dr, tk, os⟩ := I1.laid (t' := tk) (o := exo a C none) kk ge (exo_ok ga)
  have r2 : Vals (V.ref a :: (vs ++ [])) (Value.ref a :: (us ++ [])) := .cons rfl (r1.append .nil)
  have lu : us.length ≤ sizeLine := by
    have := Paired.length r1; have : (1000 : Nat) ≤ sizeLine := by decide
    omega
  have ll : (Value.ref a :: us ++ []).length = (["self", f] : List Str).length := (r2.length).symm.trans (F1.len _ _ _ _ hq)
  have bb := T.b ⟨(hp.push (PySem.W.kdv_tup us)).push (PySem.HandSPX.excO C hp.objs.size), g, dr, tk, os⟩ (Value.ref a :: us) I2.kIn ll
  subst ea
  refine wpAny_call (PySem.HandSPX.call_own F.excBase_ValueError (fun Y => PySem.HandSPX.refsVE_contains Y bm vbm) (I1.kIn _ _ lkC) (PySem.W.looks_findIn I1.kIn T.iC) (fun self => PySem.W.bind_fn I1.kIn self T.tI) lu
    (codeAny_mono (F1.run _ X.stack _ _ ⟨Value.ref _ :: us, []⟩ _ _ _ (fun _ _ _ => False) (hr.make C us []) (I2.env0.make C us []) bb r2 hq) fun r s2 z => ?_))
  match r, z with
  | .error _, z => exact False.elim z
  | .ok .next, z => exact False.elim z
  | .ok .brk, z => exact False.elim z
  | .ok .cont, z => exact False.elim z
  | .ok (.ret u), ⟨v, H2, os2, bare2, un2, hok2, rv, ev, d, fs, e1, e2, e3, q2⟩ =>
    subst ev
    obtain ⟨h2, g2, d2, t2, os3⟩ := s2
    obtain ⟨t0, G, J, kG, gn, go, na⟩ := mk_end0 (d2 := d2) (t2 := t2) I1 ge kk un2 hok2 os2 bare2 e1 e2 e3
    exact ⟨rv, _, _, _, ⟨G, g2, d2, t2, os3⟩, _, .ref C, some d, rfl, J, kG, gn, go, ⟨rfl, rfl, fun vs z => by cases z; rfl⟩, rfl, rfl, na, rfl, bare2, raises_own T.ox.exC T.ox.tyC, q2⟩
/-- a def that may raise so -/
theorem Fun.okN {P : Program} {w : World} {K : PySem.W.Frag} {mg : Str → Option Value} {base : Heap} {x qual : Str} {st : Stmt} {f : Addr} {fd : FuncData} {N ps : List Str} {k : Nat} {sp : Sp} (F : Fun K x qual st f fd) (S : FnScope N ps (defScope st))
    (len : ∀ vs H Q E, sp vs H Q E → vs.length = ps.length) (body : ∀ (cdv : Value) (A : Around) (outer : List Env) (s : Shared) (H : Hp) (vs : List V) (Q : VK) (E : XK), Room k (A.deeper (envOfC qual (defScope st) s.heap.objs.size f cdv)) → sp vs H Q E →
      ∃ t, PSs (cxOf (L2N.CX P w) P w K mg base N qual (defScope st) f cdv A outer s H E) (defBody st) t ∧ t { nx := fun _ H' => Q .non H', rt := Q } (start N vs) H) : FnOk P w K mg base (L2N.CX P w) (k + 1) f fd ps sp := by
  obtain ⟨oc, od, kV, doc, pm, an, cdv, ct, osl, rfl, lk, hcd⟩ := F.ex
  exact fn_of lk hcd S len fun A outer s H vs Q E hr z => body cdv A outer s H vs Q E hr z
/-- a def called while an error is handled -/
theorem Fun.okH {P : Program} {w : World} {K : PySem.W.Frag} {mg : Str → Option Value} {base : Heap} {x qual : Str} {st : Stmt} {f : Addr} {fd : FuncData} {N ps : List Str} {k : Nat} {sp : Sp} (F : Fun K x qual st f fd) (S : FnScope N ps (defScope st))
    (len : ∀ vs H Q E, sp vs H Q E → vs.length = ps.length) (body : ∀ (cdv : Value) (A : Around) (outer : List Env) (s : Shared) (H : Hp) (vs : List V) (Q : VK) (E : XK) (p : Addr × Obj), L2H.Hot1 A p → L2H.RoomH k (A.deeper (envOfC qual (defScope st) s.heap.objs.size f cdv)) → sp vs H Q E →
      ∃ t, PSs (L2H.cxH CX0 P w K mg base N qual (defScope st) f cdv A outer s H E p).nox (defBody st) t ∧ t { nx := fun _ H' => Q .non H', rt := Q } (start N vs) H) : L2H.FnH P w K mg base CX0 (k + 1) f fd ps sp := by
  obtain ⟨oc, od, kV, doc, pm, an, cdv, ct, osl, rfl, lk, hcd⟩ := F.ex
  refine L2H.fn_ofH lk hcd S len fun A outer s H vs Q E p hot hr z => ?_
  obtain ⟨t, h1, h2⟩ := body cdv A outer s H vs Q E p hot hr z
  exact ⟨t, h1.nox, h2⟩
end
section
variable {X : Cx} {x n : Str} {c : Value} {i : Nat} {body suite : List Stmt} {hds : List ExceptHandler} {b₀ : Stmt} {np pos pos' : Pos} {tb : WX → TS} {ts : Addr → Value → Option Addr → TS} {pins : List (Addr × Obj)}
theorem ps_try_hitN (st : X.stack = X.env :: X.outer) (fr : X.env.frame = some X.env.locals) (ndN : X.N.Nodup) (ni : X.N[i]? = some n) (nl : X.env.kindOf n = some .local) (nc : Names X x c)
    (hB : ∀ (W : WX) (ps : List (Addr × Obj)) (xe : Value → Shared → Prop), L2N.Takes (X.tr ps xe) W → PassesOwn (model X.prog X.w) X.A X.env xe → PSs (X.tr ps xe) body (tb W))
    (hS : ∀ (a : Addr) (o : Obj) (cls : Value) (d : Option Addr) (ps : List (Addr × Obj)), L2N.Zn cls d o → (∃ vs, o.data = .fields vs) → PSs (X.suite a ((a, o) :: ps)) (b₀ :: suite) (ts a cls d)) :
    PS X (.Try body (.ExceptHandler (some (.Name x np)) (some n) (b₀ :: suite) pos' :: hds) [] [] pos) (fun D σ H => tb (wHit X.K c i ts D) D σ H) := by
  refine ⟨fun pins s σ H D I h => wpAny_Try_except ?_⟩
  have fr2 : X.A.frames = some (X.env :: X.outer) := I.ok.frames.trans (congrArg some st)
  refine wpAny_mono ((hB _ (X.pn ++ pins) (fun e s₁ => wpAny (model X.prog X.w) X.A (noteFrame e X.env) (fun _ s₂ => wpAny (model X.prog X.w) X.A (setFlight e none) (fun _ s₃ => wpAny (model X.prog X.w) X.A
    (handleBy e X.env (.ExceptHandler (some (.Name x np)) (some n) (b₀ :: suite) pos' :: hds)) (SP X pins D) X.xe s₃) X.xe s₂) X.xe s₁) (fun u t xx => ?_) PassesOwn.looking).run [] s σ H D (I.toTry _) h) (fun f t q => ?_) (fun _ _ z => z)
  case refine_2 =>
    have q' := flow_out (pins := pins) I.ok q
    cases f with
    | next => exact wpAny_execs_nil q'
    | _ => exact q'
  obtain ⟨a, B, t0, ps, σ1, H1, cls, d, eu, J0, nB, u1, sk, na, eo, bare, hit, go⟩ := xx
  subst eu
  have J := J0.ofTry I.ok
  rw [show (X.tr (X.pn ++ pins) _).stack = X.env :: X.outer from st] at sk
  refine L2N.Sky.land L2N.Zn.steady fr2 fr sk fun h3 f3 u3 => ?_
  have J3 : Inv X pins σ1 H1 { t with heap := h3 } := J.landed nB f3.1 (u1.trans u3) eo bare
  obtain ⟨o3, v3, g3, z3, d3⟩ := f3.there
  have out := no_frame f3.2.2.1 g3 d3
  have aL : a ≠ X.env.locals := fun e => out (List.mem_filterMap.mpr ⟨X.env, .head _, by rw [e]; exact fr⟩)
  have aF : a ∉ X.fs := fun m => out (by rw [show frs (X.env :: X.outer) = X.env.locals :: frs X.outer from List.filterMap_cons_some fr]; exact .tail _ m)
  refine wpAny_handleBy_cons (codeAny_handlers_test (names_it nc (J3.suite g3 d3 na aL aF) ?_)) (by intro z; cases z)
  refine (PySem.W.exm_one (M := model X.prog X.w) J3.kIn (fun _ _ _ _ k z => wpAny_typeOf_ref (k _ _ g3) (by rw [z3.1]; exact z)) hit).here ?_
  refine codeAny_handlers_suite_as (HandSPX.lands_againZ f3 fun h4 f4 u4 => ?_)
  have J4 : Inv X pins σ1 H1 { t with heap := h4 } := J.landed nB f4.1 ((u1.trans u3).trans u4) eo bare
  obtain ⟨o4, v4, g4, z4, d4⟩ := f4.there
  refine store_ok (X := Cx.suite X a ((a, o4) :: (X.pn ++ pins))) (v := .ref a) (J4.suite g4 d4 na aL aF) ndN ni (.inl nl) rfl (fun t5 S5 => ?_) (.inr nl)
  refine wpAny_mono ((hS a o4 cls d (X.pn ++ pins) z4 ⟨_, d4⟩).run [] t5 _ H1 _ S5 (go a na)) (fun f t6 q => ?_) (fun _ _ z => z.elim)
  cases f with
  | ret u => exact let ⟨v6, σ6, H6, S6, r6, q6⟩ := q; gone_ok (S6.unsuite I.ok) ndN ni nl fun t7 J7 => ⟨v6, _, H6, J7, r6, q6⟩
  | next => exact let ⟨σ6, H6, S6, q6⟩ := q; gone_ok (S6.unsuite I.ok) ndN ni nl fun t7 J7 => ⟨_, H6, J7, q6⟩
  | brk => exact let ⟨σ6, H6, S6, q6⟩ := q; gone_ok (S6.unsuite I.ok) ndN ni nl fun t7 J7 => ⟨_, H6, J7, q6⟩
  | cont => exact let ⟨σ6, H6, S6, q6⟩ := q; gone_ok (S6.unsuite I.ok) ndN ni nl fun t7 J7 => ⟨_, H6, J7, q6⟩
/-- the suite's context bears the error -/
theorem hot_suite {a : Addr} {o : Obj} {cls : Value} {d : Option Addr} {ps : List (Addr × Obj)} (z : L2N.Zn cls d o) (h : ∃ vs, o.data = .fields vs) : L2H.HotC (X.suite a ((a, o) :: ps)) :=
  let ⟨vs, e⟩ := h
  ⟨(a, o), ⟨rfl, vs, e, z.2.2 vs e⟩, List.mem_cons_self⟩
theorem passN : Passes (L2N.CX X.prog X.w) X E0 := fun _ _ _ _ _ _ _ h => let ⟨_, _, _, _, _, _, _, _, _, _, _, _, z⟩ := h; z.elim
/-- nothing leaves a suite -/
theorem pass_at0 {σ : L2.St} : PassesAt CX0 X σ (fun _ _ _ => False) := fun _ _ _ _ _ _ h => h.elim
end
theorem unitsH {k : Nat} {A : Around} (r : L2H.RoomH k A) : A.units + 64 < cLine := by
  have := r.un
  omega
end RK

namespace RK
open PySem PySem.Spec PyProof.Rows L2 PySem.Builtin.Str
/-! ### {n:04x} of a word -/
def hx (k : Nat) : Nat := if k < 10 then 48 + k else 87 + k
def hexd (n : Nat) : List Nat := [hx (n / 4096), hx (n / 256 % 16), hx (n / 16 % 16), hx (n % 16)]
theorem hx_char : ∀ k : _root_.Fin 16, (Nat.digitChar k.val).toNat = hx k.val := by decide +kernel
theorem tod16 {n : Nat} (h : n < 65536) : (Nat.toDigits 16 n).length ≤ 4 ∧ List.replicate (4 - (Nat.toDigits 16 n).length) 48 ++ (Nat.toDigits 16 n).map Char.toNat = hexd n := by
  have hc : ∀ k, k < 16 → (Nat.digitChar k).toNat = hx k := fun k hk => hx_char ⟨k, hk⟩
  have z : hx 0 = 48 := rfl
  have base : ∀ k, k < 16 → Nat.toDigits 16 k = [Nat.digitChar k] := fun k hk => Nat.toDigits_of_lt_base hk
  have step : ∀ k, 16 ≤ k → Nat.toDigits 16 k = Nat.toDigits 16 (k / 16) ++ [Nat.digitChar (k % 16)] := fun k hk => Nat.toDigits_of_base_le (by decide) hk
  unfold hexd
  by_cases h1 : n < 16
  · rw [base n h1, show n / 4096 = 0 by omega, show n / 256 % 16 = 0 by omega, show n / 16 % 16 = 0 by omega, show n % 16 = n by omega]
    refine ⟨show 1 ≤ 4 by decide, ?_⟩
    show List.replicate 3 48 ++ [(Nat.digitChar n).toNat] = _
    rw [hc n h1]
    rfl
  rw [step n (by omega)]
  by_cases h2 : n / 16 < 16
  · rw [base (n / 16) h2, show n / 4096 = 0 by omega, show n / 256 % 16 = 0 by omega, show n / 16 % 16 = n / 16 by omega]
    refine ⟨show 2 ≤ 4 by decide, ?_⟩
    show List.replicate 2 48 ++ [(Nat.digitChar (n / 16)).toNat, (Nat.digitChar (n % 16)).toNat] = _
    rw [hc _ h2, hc _ (Nat.mod_lt _ (by decide))]
    rfl
  rw [step (n / 16) (by omega)]
  by_cases h3 : n / 16 / 16 < 16
  · rw [base (n / 16 / 16) h3, show n / 4096 = 0 by omega, show n / 256 % 16 = n / 16 / 16 by omega]
    refine ⟨show 3 ≤ 4 by decide, ?_⟩
    show List.replicate 1 48 ++ [(Nat.digitChar (n / 16 / 16)).toNat, (Nat.digitChar (n / 16 % 16)).toNat, (Nat.digitChar (n % 16)).toNat] = _
    rw [hc _ h3, hc _ (Nat.mod_lt _ (by decide)), hc _ (Nat.mod_lt _ (by decide))]
    rfl
  rw [step (n / 16 / 16) (by omega), base (n / 16 / 16 / 16) (by omega), show n / 4096 = n / 16 / 16 / 16 by omega, show n / 256 = n / 16 / 16 by omega]
  refine ⟨show 4 ≤ 4 by decide, ?_⟩
  show List.replicate 0 48 ++ [(Nat.digitChar (n / 16 / 16 / 16)).toNat, (Nat.digitChar (n / 16 / 16 % 16)).toNat, (Nat.digitChar (n / 16 % 16)).toNat, (Nat.digitChar (n % 16)).toNat] = _
  rw [hc _ (by omega), hc _ (Nat.mod_lt _ (by decide)), hc _ (Nat.mod_lt _ (by decide)), hc _ (Nat.mod_lt _ (by decide))]
  rfl
section
variable {X : Cx}
open Builtin PySem.W Builtin.Float
abbrev sp4 : Str := ⟨#[48, 52, 120]⟩
theorem ret_text2 {M : Model} {A : Around} {E : Value → Shared → Prop} {s : Shared} {X T : PySem.Str} {Q : Fin → Shared → Prop} (e : X = T) (hL : T.length ≤ sizeLine) (h : ∀ t k, Q (.done (.ret (.str T t))) { s with toks := k }) : wpAny M A (retStr X) Q E s := by
  subst e
  exact KXf.ret_text rfl hL h
def f4 : Builtin.Float.FormatSpec := { fill := 48, align := 61, width := some 4, type := some 120 }
theorem fmt4_meets {n : Nat} (h : n < 65536) (t u : Tok) : Meets («int.__format__» ⟨[.int (n : Int) t, .str sp4 u], []⟩) (fun _ R s => ∀ t' k, R (.ok (.ret (.str (sO (hexd n)) t'))) { s with toks := k }) := by
  apply KPc.meets_of
  intro prog w A s Q E hq
  unfold Builtin.«int.__format__»
  refine wpAny_bind (wpAny_of_eq (a := (_, _)) rfl ?_)
  refine wpAny_bind (wpAny_of_eq (a := _) rfl ?_)
  refine wpAny_ite (KPc.ite_no Bool.false_ne_true ?_)
  refine wpAny_bind (wpAny_typeNameOf (T := "str") (typeIs_str _ _ _) (by decide) fun _ => ?_)
  refine wpAny_bind (wpAny_of_eq (a := some _) rfl ?_)
  refine wpAny_ite (KPc.ite_no (by decide) ?_)
  refine wpAny_ite (KPc.ite_no (by decide) ?_)
  refine wpAny_bind (wpAny_typeNameOfCut_int ?_)
  have hp : parseFormatSpec sp4.cps.toList "int" 62 = .ok f4 := rfl
  have hty : f4.type.getD (if (sp4.cps.back? == some 0) = true then 0 else 100) = 120 := rfl
  have h1 : f4.precision = none := rfl
  have h2 : f4.noNeg0 = false := rfl
  have h3 : f4.alt = false := rfl
  have h4 : f4.width = some 4 := rfl
  have h5 : f4.grouping = none := rfl
  have h6 : f4.sign = none := rfl
  have h7 : f4.fill = 48 := rfl
  have h8 : f4.align = 61 := rfl
  obtain ⟨f, hf⟩ : ∃ f, f = f4 := ⟨_, rfl⟩
  rw [← hf] at hp hty h1 h2 h3 h4
  simp only [hp, hty]
  rw [if_pos (by decide)]
  show wpAny _ _ (if _ then _ else _) _ _ _
  rw [if_neg (by simp [h1])]
  show wpAny _ _ (if _ then _ else _) _ _ _
  rw [if_neg (by simp [h2])]
  show wpAny _ _ (if _ then _ else _) _ _ _
  rw [if_neg (by decide)]
  show wpAny _ _ (if _ then _ else _) _ _ _
  rw [if_neg (by decide)]
  show wpAny _ _ (if _ then _ else _) _ _ _
  rw [if_neg (by simp [h4])]
  refine ret_text2 (T := sO (hexd n)) ?_ ?_ hq
  case refine_1 =>
    obtain ⟨hl, ht⟩ := tod16 h
    simp only [h3, Bool.false_eq_true, if_false, Int.natAbs_natCast, decide_eq_false (by omega : ¬ (n : Int) < 0), show ((120 : Nat) == 88) = false by decide, show ((16 : Nat) == 10) = false by decide]
    generalize Nat.toDigits 16 n = ds at hl ht
    subst hf
    conv => lhs; whnf
    simp only [h4, h5, h6, h7, h8, List.length_nil, Bool.false_eq_true, if_false, beq_self_eq_true, Bool.and_self, if_true]
    have e4 : ((4 : Nat) : Int) - (((0 : Nat) : Int) + ((0 : Nat) : Int) + ((0 : Nat) : Int)) = 4 := by decide
    rw [e4]
    clear h1 h2 h3 h4 h5 h6 h7 h8 hty hp hq
    cases ds with
    | nil =>
      show _ = sO (hexd n)
      rw [← ht]
      rfl
    | cons c r =>
      have hm : ((c :: r).map Char.toNat).length = (c :: r).length := List.length_map ..
      show (⟨(([] ++ [] ++ [] ++ List.replicate (4 - ((List.replicate (4 - ((c :: r).map Char.toNat).length) 48 ++ (c :: r).map Char.toNat).length : Int)).toNat 48 ++ (List.replicate (4 - ((c :: r).map Char.toNat).length) 48 ++ (c :: r).map Char.toNat)) ++ [] ++ []).toArray⟩ : Str) = _
      rw [hm, ht]
      rfl
  case refine_2 => exact Nat.le_trans (show 4 ≤ 100 by decide) (by decide)
/-- {e:04x} of a word -/
def tF4 (te : TE) : TE := fun σ H Q => te σ H fun x H1 => ∃ n : Nat, x = .int (n : Int) ∧ n < 65536 ∧ Q (.str (sO (hexd n))) H1
theorem pe_fmt4 {e spec : Expr} {te : TE} {pos : Pos} (he : PE X e te) (hs : PE X spec (tC (.str (Str.ofString "04x")))) : PE X (.FormattedValue e (-1) (some spec) pos) (tF4 te) := by
  refine ⟨fun pins s σ H Q I h => ?_⟩
  refine wpAny_FormattedValue_spec (thn (he.run pins s σ H _ I h) fun v s1 ⟨x, H1, I1, r1, q⟩ => ?_)
  obtain ⟨n, rfl, hn, q⟩ := q
  obtain ⟨t, rfl⟩ := r1
  refine thn (hs.run pins s1 σ H1 (fun x H2 => x = .str (Str.ofString "04x") ∧ Q (.str (sO (hexd n))) H2) I1 ⟨rfl, q⟩) fun u s2 ⟨y, H2, I2, r2, ey, q2⟩ => ?_
  subst ey
  obtain ⟨t2, rfl⟩ := r2
  refine ⟨_, _, rfl, KXf.field_int (spec' := sp4) (by decide +kernel) rfl (by decide) (fun u => fmt4_meets hn _ u) fun t' k => ⟨.str _, H2, I2.tok _, ⟨_, rfl⟩, q2⟩⟩
end
/-! digits -/
abbrev HXD : List Nat := (Str.ofString "0123456789abcdef").cps.toList
/-- a digit's value -/
def dv (c : Nat) : Nat := if c ≤ 57 then c - 48 else c - 87
theorem HXD_eq : HXD = (List.range 16).map hx := by decide +kernel
theorem hx_mem {k : Nat} (h : k < 16) : hx k ∈ HXD := by
  rw [HXD_eq]
  exact List.mem_map.mpr ⟨k, List.mem_range.mpr h, rfl⟩
theorem hxd_of {c : Nat} (h : c ∈ HXD) : ∃ k, k < 16 ∧ c = hx k := by
  rw [HXD_eq] at h
  obtain ⟨k, h1, h2⟩ := List.mem_map.mp h
  exact ⟨k, List.mem_range.mp h1, h2.symm⟩
theorem hx_dv : ∀ k : _root_.Fin 16, dv (hx k.val) = k.val := by decide +kernel
theorem hx_find : ∀ k : _root_.Fin 16, Txt.find (Str.ofString "0123456789abcdef") (sO [hx k.val]) = (k.val : Int) := by decide +kernel
theorem hx_occ : ∀ k : _root_.Fin 16, occurrences (Str.ofString "0123456789abcdef") (sO [hx k.val]) 0 (Str.ofString "0123456789abcdef").length 1 = [k.val] := by decide +kernel
theorem hx_at : ∀ k : _root_.Fin 16, (Str.ofString "0123456789abcdef").cps.toList[k.val]? = some (hx k.val) := by decide +kernel
theorem find_dv {c : Nat} (h : c ∈ HXD) : Txt.find (Str.ofString "0123456789abcdef") (sO [c]) = (dv c : Int) := by
  obtain ⟨k, hk, rfl⟩ := hxd_of h
  rw [hx_find ⟨k, hk⟩, hx_dv ⟨k, hk⟩]
theorem occ_dv {c : Nat} (h : c ∈ HXD) : occurrences (Str.ofString "0123456789abcdef") (sO [c]) 0 (Str.ofString "0123456789abcdef").length 1 = [dv c] := by
  obtain ⟨k, hk, rfl⟩ := hxd_of h
  rw [hx_occ ⟨k, hk⟩, hx_dv ⟨k, hk⟩]
/-- the first place that is no digit | the length, if it is no multiple of four -/
def fbad (l : List Nat) : Option Nat := match l.findIdx? (fun c => !decide (c ∈ HXD)) with
  | some i => some i
  | none => if l.length % 4 = 0 then none else some l.length
theorem fbad_at {l : List Nat} {i : Nat} (hi : i < l.length) (h : l.getD i 0 ∉ HXD) (hp : ∀ j, j < i → l.getD j 0 ∈ HXD) : fbad l = some i := by
  have e : l.findIdx? (fun c => !decide (c ∈ HXD)) = some i := by
    rw [List.findIdx?_eq_some_iff_getElem]
    refine ⟨hi, ?_, fun j hj => ?_⟩
    · rw [List.getD_eq_getElem?_getD, List.getElem?_eq_getElem hi] at h
      have h2 : l[i] ∉ HXD := h
      rw [decide_eq_false h2]
      rfl
    · have := hp j hj
      rw [List.getD_eq_getElem?_getD, List.getElem?_eq_getElem (by omega)] at this
      have h2 : l[j] ∈ HXD := this
      rw [decide_eq_true h2]
      decide
  unfold fbad
  rw [e]
theorem fbad_all {l : List Nat} (h : ∀ j, j < l.length → l.getD j 0 ∈ HXD) : fbad l = if l.length % 4 = 0 then none else some l.length := by
  have e : l.findIdx? (fun c => !decide (c ∈ HXD)) = none := by
    rw [List.findIdx?_eq_none_iff]
    intro c hc
    obtain ⟨j, hj, rfl⟩ := List.mem_iff_getElem.mp hc
    have := h j hj
    rw [List.getD_eq_getElem?_getD, List.getElem?_eq_getElem hj] at this
    have h2 : l[j] ∈ HXD := this
    rw [decide_eq_true h2]
    rfl
  unfold fbad
  rw [e]
theorem fbad_none {l : List Nat} (h : fbad l = none) : (∀ c ∈ l, c ∈ HXD) ∧ l.length % 4 = 0 := by
  unfold fbad at h
  cases e : l.findIdx? (fun c => !decide (c ∈ HXD)) with
  | some i => rw [e] at h; cases h
  | none =>
    rw [e] at h
    have h2 : (if l.length % 4 = 0 then none else some l.length) = none := h
    refine ⟨fun c hc => ?_, ?_⟩
    · have := List.findIdx?_eq_none_iff.mp e c hc
      apply Decidable.byContradiction
      intro z
      rw [decide_eq_false z] at this
      cases this
    · apply Decidable.byContradiction
      intro z
      rw [if_neg z] at h2
      cases h2
def val4 (l : List Nat) : Nat := l.foldl (fun a c => a * 16 + dv c) 0
theorem val4_app (l : List Nat) (c : Nat) : val4 (l ++ [c]) = val4 l * 16 + dv c := by
  unfold val4
  rw [List.foldl_append]
  rfl
/-- the words of a text of digits -/
def rdw (l : List Nat) : List Nat := (List.range (l.length / 4)).map fun k => val4 ((l.drop (4 * k)).take 4)
theorem val4_hexd {w : Nat} (h : w ≤ 65535) : val4 (hexd w) = w := by
  have e : ∀ k, k < 16 → dv (hx k) = k := fun k hk => hx_dv ⟨k, hk⟩
  show (((0 * 16 + dv (hx (w / 4096))) * 16 + dv (hx (w / 256 % 16))) * 16 + dv (hx (w / 16 % 16))) * 16 + dv (hx (w % 16)) = w
  rw [e _ (by omega), e _ (by omega), e _ (by omega), e _ (by omega)]
  omega
theorem flat_hexd (ws : List Nat) : (ws.flatMap hexd).length = 4 * ws.length := by
  induction ws with
  | nil => rfl
  | cons x r ih =>
    rw [List.flatMap_cons, List.length_append, ih, List.length_cons]
    show 4 + _ = _
    omega
theorem rdw_flat {ws : List Nat} (h : ∀ w ∈ ws, w ≤ 65535) : rdw (ws.flatMap hexd) = ws := by
  unfold rdw
  rw [flat_hexd, show 4 * ws.length / 4 = ws.length by omega]
  apply List.ext_getElem?
  intro i
  by_cases hi : i < ws.length
  · rw [List.getElem?_map, List.getElem?_range hi]
    have e : ∀ (ws : List Nat) (i : Nat), i < ws.length → ((ws.flatMap hexd).drop (4 * i)).take 4 = hexd (ws.getD i 0) := fun ws => by
      induction ws with
      | nil => intro i hi; exact absurd hi (Nat.not_lt_zero _)
      | cons x r ih =>
        intro i hi
        cases i with
        | zero => rfl
        | succ i =>
          rw [List.flatMap_cons, show 4 * (i + 1) = 4 * i + 4 by omega]
          have := ih i (by simpa using hi)
          show ((hexd x ++ _).drop (4 * i + 4)).take 4 = _
          rw [show 4 * i + 4 = (hexd x).length + 4 * i from by show _ = 4 + 4 * i; omega, List.drop_length_add_append]
          exact this
    show some (val4 _) = _
    rw [e ws i hi, List.getD_eq_getElem?_getD, List.getElem?_eq_getElem hi]
    exact congrArg some (val4_hexd (h _ (List.getElem_mem hi)))
  · rw [List.getElem?_eq_none (by simp; omega), List.getElem?_eq_none (by omega)]
theorem fbad_flat {ws : List Nat} (hw : ∀ w ∈ ws, w ≤ 65535) : fbad (ws.flatMap hexd) = none := by
  have hm : ∀ c ∈ ws.flatMap hexd, c ∈ HXD := fun c hc => by
    obtain ⟨w, h1, h⟩ := List.mem_flatMap.mp hc
    have := hw w h1
    unfold hexd at h
    rcases List.mem_cons.mp h with z | h
    · rw [z]; exact hx_mem (by omega)
    rcases List.mem_cons.mp h with z | h
    · rw [z]; exact hx_mem (by omega)
    rcases List.mem_cons.mp h with z | h
    · rw [z]; exact hx_mem (by omega)
    rw [List.mem_singleton.mp h]
    exact hx_mem (by omega)
  rw [fbad_all fun j hj => by rw [List.getD_eq_getElem?_getD, List.getElem?_eq_getElem hj]; exact hm _ (List.getElem_mem hj), flat_hexd, if_pos (by omega)]
theorem cut_mid (l : List Nat) (a b : Nat) (h : a ≤ b) : cutS (sO l) (some (a : Int)) (some (b : Int)) = sO ((l.drop a).take (b - a)) := by
  show (⟨((l.drop (HT.sIx l.length 0 (some (a : Int)))).take (HT.sIx l.length l.length (some (b : Int)) - HT.sIx l.length 0 (some (a : Int)))).toArray⟩ : Str) = _
  rw [HT.sIx_nat, HT.sIx_nat]
  have e : (l.drop (min a l.length)).take (min b l.length - min a l.length) = (l.drop a).take (b - a) := by
    by_cases h1 : a ≤ l.length
    · rw [Nat.min_eq_left h1]
      by_cases h2 : b ≤ l.length
      · rw [Nat.min_eq_left h2]
      · rw [Nat.min_eq_right (by omega), List.take_of_length_le (by rw [List.length_drop]; omega), List.take_of_length_le (by rw [List.length_drop]; omega)]
    · have h3 : min a l.length = l.length := by omega
      rw [h3, List.drop_length, List.drop_of_length_le (by omega)]
      simp
  rw [e]
  rfl
end RK

namespace RK
open PySem PySem.Spec PyProof.Rows L2 PySem.Builtin.Str
/-! ### enumerate(text) -/
def Itse (x : Str) : It := ⟨fun i _ => i < x.cps.size, fun i H v H' => ∃ T c, v = .ref T ∧ H T = none ∧ H' = upd H T (.tup [.int (i : Nat), .str ⟨#[c]⟩]) ∧ x.cps[i]? = some c, fun i _ => x.cps.size ≤ i⟩
theorem draws_str {prog : Program} {w : World} {A : Around} (hh : A.handled = none) (it : Addr) (x : Str) (t : Tok) :
    Draws prog w A it [it] x.cps.size (fun i v => ∃ c u, x.cps[i]? = some c ∧ v = .str ⟨#[c]⟩ u) (fun i h => h.IsStrIter it (strIterType x) x t i) := by
  unfold strIterType
  cases x.cps.all (· < 128)
  · exact Draws.strWide hh it x t
  · exact Draws.strAscii hh it x t
theorem turn_enumS {P : Program} {w : World} {K : PySem.W.Frag} {elts : List Expr} {kk : Nat} {tpos : Pos} (x : Str) (t : Tok) (e it : Addr) :
    Turn P w K (.Tuple elts kk tpos) (Itse x) [e, it] e (fun i h => (∃ old, IsEnum h e it ((i : Nat) : Int) old) ∧ h.IsStrIter it (strIterType x) x t i ∧ e ≠ it ∧ i ≤ x.cps.size) where
  mem := by simp
  obj := fun i h st b hb => by
    obtain ⟨⟨old, he⟩, ⟨o, ho, hc, hd⟩, _⟩ := st
    have e' : b = e ∨ b = it := by simpa using hb
    rcases e' with z | z
    · rw [z]; exact ⟨_, he, fun v q => nomatch q⟩
    · rw [z]; exact ⟨o, ho, fun v q => by rw [hd] at q; cases q⟩
  keep := fun i h h' st k => let ⟨⟨old, he⟩, ⟨o, ho, r⟩, hne, hle⟩ := st; ⟨⟨old, k e (by simp) _ he⟩, ⟨o, k it (by simp) o ho, r⟩, hne, hle⟩
  item := by
    intro X hP hw hK hc i pins s σ H E I hf st hg
    subst hP hw hK
    obtain ⟨⟨old, he⟩, hit, hne, hle⟩ := st
    have hel : e < s.heap.objs.size := Heap.lt_size he
    have hil : it < s.heap.objs.size := by obtain ⟨_, q, _⟩ := hit; exact Heap.lt_size q
    have D := draws_str (A := X.A.in1) (prog := X.prog) (w := X.w) (show X.A.in1.handled = none from I.ok.hd hc) it x t
    refine wpAny_pyNext_enum_itemD D he hit hg hne (by simpa using hne) fun u h' tk hu ho hit' hT hsz hk => ?_
    obtain ⟨c, tc, hcx, rfl⟩ := hu
    refine ⟨_, rfl, wpAny_letOwnedTupleGo_enum (s := { s with heap := h', toks := tk + 1 }) ho fun h'' he' sb => ?_⟩
    have hT2 : h''.get? s.heap.objs.size = some { cls := .type "tuple", data := .seq #[.int i tk, .str ⟨#[c]⟩ tc] } := (sb.2 _ (Nat.ne_of_gt hel)).trans hT
    have new : ObjOk X.prog X.w (upd H s.heap.objs.size (.tup [.int (i : Nat), .str ⟨#[c]⟩])) h'' s.heap.objs.size (.tup [.int (i : Nat), .str ⟨#[c]⟩]) :=
      ⟨by show 2 ≤ sizeLine; decide, [.int i tk, .str ⟨#[c]⟩ tc], .cons ⟨_, rfl⟩ (.cons ⟨_, rfl⟩ .nil), ⟨_, hT2, rfl, _, rfl⟩⟩
    have I1 : Inv X pins σ (upd H s.heap.objs.size (.tup [.int (i : Nat), .str ⟨#[c]⟩])) { s with heap := h'', toks := tk + 1 } :=
      I.turnedNew (ch := [e, it]) (fun b ob hb q => (sb.2 b (fun z => hb (by simp [z]))).trans (hk b ob (fun z => hb (by simp [z])) (fun z => hb (by simp [z])) q)) hf (Nat.le_refl _) new
    refine ⟨.ref s.heap.objs.size, _, I1, rfl, ⟨_, c, rfl, I.hok.fresh (Nat.le_refl _), rfl, hcx⟩, ⟨⟨.str ⟨#[c]⟩ tc, ?_⟩, ?_, hne, hg⟩, fun b hb => ?_⟩
    · have e1 : ((i + 1 : Nat) : Int) = (i : Int) + 1 := by omega
      rw [e1]; exact he'
    · obtain ⟨o, ho2, r⟩ := hit'
      exact ⟨o, (sb.2 it (Ne.symm hne)).trans ho2, r⟩
    · have hb' : b < s.heap.objs.size := by
        have e' : b = e ∨ b = it := by simpa using hb
        rcases e' with z | z
        · rw [z]; exact hel
        · rw [z]; exact hil
      rw [upd_ne (Nat.ne_of_lt hb')]
      exact (hf b hb).1
  done := by
    intro X hP hw hK hc i pins s σ H E I hf st hg
    subst hP hw hK
    obtain ⟨⟨old, he⟩, hit, hne, hle⟩ := st
    obtain ⟨f0, f1, f2, f3, f4, f5⟩ := hf it (by simp)
    have ei : i = x.cps.size := Nat.le_antisymm hle hg
    have D := draws_str (A := X.A.in1) (prog := X.prog) (w := X.w) (show X.A.in1.handled = none from I.ok.hd hc) it x t
    subst ei
    exact wpAny_pyNext_enum_endD D he hit fun h' eb => ⟨rfl, I.turned (t' := s.toks) (fun b o hb q => eb b o hb q) f0 f1 f3 f4 f5⟩
  self := fun A i s Q E st h => let ⟨⟨_, he⟩, _⟩ := st; wpAny_pyIter_enum he h
/-- the text at each turn, each sign in a new pair -/
def iEnS (ta : TA) : TI := fun σ H R => ta σ H fun vs H1 => ∃ x, vs = [.str x] ∧ R (Itse x) H1
theorem pi_enumS {X : Cx} {e : Expr} {ta : TA} {p pos tpos : Pos} {elts : List Expr} {kk : Nat} (hg : Gl X "enumerate") (hm : X.mg "enumerate" = none) (ha : PA X [e] ta) (hs : starEach [e] X.env = [(false, eval e X.env)] := by rfl) :
    PI X (.Tuple elts kk tpos) (.Call (.Name "enumerate" p) [e] [] pos) (iEnS ta) := by
  refine ⟨fun pins s σ H R I h => ?_⟩
  refine Call_ (ld_blt I hg hm boot_enumerate (PyProof.Rows.callWith_type1 (thn (ha.run pos pins s σ H _ I h) fun us s1 ⟨vs, H1, I1, r1, q1⟩ => ?_) hs rfl))
  obtain ⟨x, ex, q⟩ := q1
  subst ex
  cases r1 with
  | cons r rr =>
    cases rr
    obtain ⟨t, rfl⟩ := r
    refine call_enumerate_str fun h' he hit hsz hk => wpAny_pyIter_enum he ?_
    have I2 : Inv X pins σ H1 { s1 with heap := h' } := I1.kept (t' := s1.toks) hk
    refine ⟨s1.heap.objs.size + 1, [s1.heap.objs.size + 1, s1.heap.objs.size], _, _, H1, rfl, I2, turn_enumS x t (s1.heap.objs.size + 1) s1.heap.objs.size, ⟨⟨.none, he⟩, hit, Nat.succ_ne_self _, Nat.zero_le _⟩, fun b hb => ?_, q⟩
    have e' : b = s1.heap.objs.size + 1 ∨ b = s1.heap.objs.size := by simpa using hb
    have hge : s1.heap.objs.size ≤ b := by
      rcases e' with z | z
      · rw [z]; omega
      · rw [z]; omega
    exact I1.fpOk hge (I1.hok.fresh hge)
theorem walk_enumS {x : Str} : Walk (Itse x) x.cps.size (fun _ => True) (fun i H v H' => ∃ T c, v = .ref T ∧ H T = none ∧ H' = upd H T (.tup [.int (i : Nat), .str ⟨#[c]⟩]) ∧ x.cps[i]? = some c) :=
  ⟨fun i H hi _ => hi, fun H _ => Nat.le_refl _, fun i H v H' _ _ y => y⟩
theorem rg4 {n : Nat} (h : n ≤ 10000) (hm : n % 4 = 0) : RgC 0 (n : Int) 4 (n / 4) := by
  have e : Builtin.Range.rangeSize 0 (n : Int) 4 = ((n / 4 : Nat) : Int) := by
    rw [rangeSize_pos (by decide) (by omega)]
    omega
  have fl : ∀ i : Int, -100000 ≤ i → i ≤ 100000 → Builtin.Range.rangeFitsLong i = true := fun i h1 h2 => by
    unfold Builtin.Range.rangeFitsLong
    rw [decide_eq_true (show -(2 ^ 63) ≤ i by omega), decide_eq_true (show i < 2 ^ 63 by omega)]
    rfl
  refine ⟨by decide, by decide, ?_, e⟩
  unfold Builtin.Range.small
  rw [e, fl 0 (by decide) (by decide), fl (n : Int) (by omega) (by omega), fl 4 (by decide) (by decide), fl _ (by omega) (by omega)]
  rw [if_pos (by decide), fl _ (by omega) (by omega), Bool.or_true]
  rfl
end RK

namespace RK
open PySem PySem.Spec PyProof.Rows L2 StX
/-! ### defs with *rest that may raise where nothing is handled -/
theorem cxUpN {P : Program} {w : World} : CXUp (L2N.CX P w) := by
  rintro outer s H s2 H2 E e s' un kp ho ⟨a, B, H', cls, d, ea, fl, hok, ub, na, os, ag, he⟩
  refine ⟨a, B, H', cls, d, ea, fl, hok, ⟨fun b o q n hb => ub.keep b o (kp b o q) (un.free b o q n (by simp)) hb, fun b o q hb => ub.slot b o (kp b o q) hb, fun b o q n => ub.free b o (kp b o q) (un.free b o q n (by simp)),
    fun b o q hb => ub.there b o (kp b o q) hb, fun b xs q => ub.tups b xs (un.tups b xs q), fun b o xs q => ub.frzs b o xs (un.frzs b o xs q), fun b ps q => ?_⟩, na, os.trans ho, ag, he⟩
  obtain ⟨m1, e1⟩ := un.tbls b ps q
  obtain ⟨m2, e2⟩ := ub.tbls b _ e1
  exact ⟨m1 ++ m2, by rw [e2, Array.append_assoc]⟩
section
variable {X : Cx} {CX : CXT} {k : Nat} {f : Addr} {sp : Sp} {x : Str} {e : Expr} {es : List Expr} {t : TA} {p pos : Pos} {E : L2.St → XK}
theorem run_fnRS {pins : List (Addr × Obj)} {σ : L2.St} {H : Hp} {s : Shared} {Q : VK} {us : List Value} {vs : List V} (F : FnR X.prog X.w X.K X.mg X.base CX k f sp) (hr : Room k X.A) (hx : PassesAt CX X σ (E σ))
    (I : Inv X pins σ H s) (r : Vals vs us) (h : sp vs H Q (E σ)) : wpAny (model X.prog X.w) X.A (call (.ref f) us) (EP X pins σ Q) X.xe s := by
  refine wpAny_call (codeAny_mono (F X.A X.stack s H us vs Q (E σ) hr I.env0 r h) fun r s' hq => ?_)
  cases r with
  | error e => exact hx pins H s e s' I hq
  | ok fl =>
    cases fl with
    | ret u => exact I.after hq
    | next => exact False.elim hq
    | brk => exact False.elim hq
    | cont => exact False.elim hq
theorem pe_callRS (F : FnR X.prog X.w X.K X.mg X.base CX k f sp) (hr : Room k X.A) (hg : Gl X x) (hm : X.mg x = some (.ref f)) (hk : PySem.W.keepIn X.K (.ref f) = true) (hx : ∀ σ, PassesAt CX X σ (E σ))
    (ha : PA X (e :: es) t) (hdb : (x == ("__debug__" : Str)) = false := by decide) (he : starEach (e :: es) X.env = (false, eval e X.env) :: starEach es X.env := by rfl) (hpl : (backTo pos (starEach es X.env)).any (·.1) = false := by rfl) :
    PE X (.Call (.Name x p) (e :: es) [] pos) (tCallS sp E t) := by
  refine ⟨fun pins s σ H Q I h => ?_⟩
  refine wpAny_Call_Name_kw (ld_glob I hg hm ?_ hdb)
  refine PySem.W.callWith_K (h₀ := X.base) I.ok.mod.kin hk (thn (ha.run pos pins s σ H _ I h) fun us s1 ⟨vs, H1, I1, r, q⟩ => ⟨I1.kIn, ?_⟩) he hpl
  exact run_fnRS F hr (hx σ) I1 r q
theorem passAtN {σ : L2.St} : PassesAt (L2N.CX X.prog X.w) X σ (fun _ _ _ => False) := fun _ _ _ _ _ _ h => let ⟨_, _, _, _, _, _, _, _, _, _, _, _, z⟩ := h; z.elim
end
/-- a def with *rest: its promise speaks of the bound names, the call's of all that is handed on -/
def spStar (n : Nat) (sp : Sp) : Sp := fun vs H Q E => ∃ ws rest, vs = ws ++ rest ∧ ws.length = n ∧ rest.length ≤ sizeLine ∧ ∀ p, H p = none → sp (ws ++ [V.ref p]) (upd H p (.tup rest)) Q E
theorem Fun.starN {P : Program} {w : World} {K : PySem.W.Frag} {mg : Str → Option Value} {base : Heap} {x qual pv : Str} {st : Stmt} {f : Addr} {fd : FuncData} {N ps : List Str} {k : Nat} {sp : Sp} (F : Fun K x qual st f fd) (S : FnScope N (ps ++ [pv]) (defScope st))
    (hb : ∀ us rest : List Value, us.length = ps.length → bindArgs fd ⟨us ++ rest, []⟩ = (newTuple rest >>= fun t => pure (ps.zip us ++ [(pv, t)])))
    (body : ∀ (cdv : Value) (A : Around) (outer : List Env) (s : Shared) (H : Hp) (vs : List V) (Q : VK) (E : XK), Room k (A.deeper (envOfC qual (defScope st) s.heap.objs.size f cdv)) → sp vs H Q E →
      ∃ t, PSs (cxOf (L2N.CX P w) P w K mg base N qual (defScope st) f cdv A outer s H E) (defBody st) t ∧ t { nx := fun _ H' => Q .non H', rt := Q } (start N vs) H) : FnR P w K mg base (L2N.CX P w) (k + 1) f (spStar ps.length sp) := by
  obtain ⟨oc, od, kV, doc, pm, an, cdv, ct, osl, rfl, lk, hcd⟩ := F.ex
  exact fn_star lk hcd S cxUpN hb fun A outer s H vs Q E hr z => body cdv A outer s H vs Q E hr z
section
variable {X : Cx}
/-- t.index(x), x a text, ahead of it texts and None -/
theorem mt_tupIdx : MtR X "tuple.index" (fun x xs H Q => ∃ p, ∃ ys : List V, ∃ z j, x = .ref p ∧ xs = [.str z] ∧ SqT X.K H p ys ∧ (∀ v ∈ ys, v = .non ∨ ∃ y, v = .str y) ∧ ys[j]? = some (.str z) ∧ (∀ m, m < j → ys[m]? ≠ some (.str z)) ∧ Q (.int (j : Nat)) H) := by
  intro pins s σ H x xs v us Q I rx rs h
  obtain ⟨p, ys, z, j, rfl, rfl, hq, hfl, hy, hno, q⟩ := h
  cases rx
  obtain ⟨u, rfl, t, rfl⟩ := vals1 rs
  obtain ⟨its, r, pl, hz⟩ := I.tuple hq
  obtain ⟨⟨cls, dd, dt, sl⟩, ho, hc, n, hd⟩ := pl
  simp only at hc hd
  subst hc
  subst hd
  have hl : its.toArray.size = ys.length := by rw [List.size_toArray, ← r.length]
  have hj : j < its.toArray.size := by rw [hl]; exact (List.getElem?_eq_some_iff.mp hy).1
  have at' : ∀ (m : Nat) (hm : m < its.toArray.size), (∃ y t', ys[m]? = some (.str y) ∧ its.toArray[m] = Value.str y t') ∨ (ys[m]? = some .non ∧ its.toArray[m] = Value.none) := fun m hm => by
    have hm' : m < ys.length := by rw [← hl]; exact hm
    have hg : ys[m]? = some ys[m] := List.getElem?_eq_getElem hm'
    obtain ⟨w, hw, hr⟩ := r.get hg
    have e := (List.getElem?_eq_some_iff.mp hw).2
    rcases hfl ys[m] (List.getElem_mem hm') with e2 | ⟨y, e2⟩
    · rw [e2] at hr hg
      refine .inr ⟨hg, ?_⟩
      have : w = Value.none := hr
      rw [← this, ← e]
      simp
    · rw [e2] at hr hg
      obtain ⟨t', hw'⟩ := hr
      refine .inl ⟨y, t', hg, ?_⟩
      rw [← hw', ← e]
      simp
  refine call_meets PySem.F.slot_tuple_index ⟨_, ho, rfl⟩ PySem.F.entry_tuple_index (PySem.F.args_tuple_index_2 _ _) (TI.tuple_indexAt p its.toArray n dd sl (.str z t) (eqU (.str z)) j hj ?_ ?_)
    ⟨ho, fun w hw => mem_eqAt (x := .str z) ⟨t, rfl⟩ rfl r ?_ w (by simpa using hw), ⟨.int (j : Nat), H, I.tok _, ⟨_, rfl⟩, q⟩⟩
  · rcases at' j hj with ⟨y, t', h1, h2⟩ | ⟨h1, h2⟩
    · rw [hy] at h1
      cases h1
      rw [h2]
      show (z == z) = true
      exact beq_self_eq_true z
    · rw [hy] at h1
      cases h1
  · intro m hm hmj
    rcases at' m hm with ⟨y, t', h1, h2⟩ | ⟨h1, h2⟩
    · rw [h2]
      show (y == z) = false
      exact beq_eq_false_iff_ne.mpr fun e => hno m hmj (by rw [h1, e])
    · rw [h2]
      rfl
  · rw [List.all_eq_true]
    intro v hv
    rcases hfl v hv with e | ⟨y, e⟩
    · rw [e]; rfl
    · rw [e]; rfl
end
/-- a tuple behind a tuple, whatever the two are -/
theorem catA_of {K : PySem.W.Frag} {H : Hp} {a b : Addr} {xs ys : List V} {Q : VK} (ha : SqT K H a xs) (hb : SqT K H b ys) (hl : xs.length + ys.length ≤ 100000) (q : ∀ p H', Same H H' → SqT K H' p (xs ++ ys) → Q (.ref p) H') : rCatA K (.ref a) (.ref b) H Q := by
  refine ⟨a, b, xs, ys, rfl, rfl, ha, hb, Nat.le_trans hl (lenOk (xs := List.replicate 100000 ()) (n := 100000) (List.length_replicate ..) (Nat.le_refl _) |> fun h => by rw [List.length_replicate] at h; exact h), fun e => q b H (Same.refl _) (by rw [e]; exact hb), fun _ e => q a H (Same.refl _) (by rw [e, List.append_nil]; exact ha), fun _ _ p hp => q p _ (same_new hp) (SqT.of upd_same)⟩
end RK

namespace RK
open PySem PySem.Spec PyProof.Rows L2
section
variable {J : It} {n : Nat} {G : Hp → Prop} {Y : Nat → Hp → V → Hp → Prop}
/-- a comprehension with one test, whose elements have a value each; the target is the name at k -/
theorem lc_filt (w : Walk J n G Y) {tt : TT} {te : TE} {σ : L2.St} {H1 : Hp} {D : Addr} {Qd : Hp → Prop} {k : Nat} (I : Nat → V → Prop) (c : Nat → Bool) (f : Nat → V) (hD : H1 D = none) (hG : ∀ H, Same H1 H → G H) (hn : n ≤ 1000000)
    (hY : ∀ i H x H', i < n → Y i H x H' → H' = H ∧ I i x)
    (ht : ∀ i x H, i < n → Same H1 H → I i x → ∀ Q : Bool → Hp → Prop, Q (c i) H → tt ((σ.set k none).set k (some x)) H Q)
    (hs : ∀ i x H, i < n → c i = true → Same H1 H → I i x → ∀ Q : VK, (∀ H3, Same H H3 → Q (f i) H3) → te ((σ.set k none).set k (some x)) H Q) (hd : ∀ H, Same H1 H → H D = some (.lst (((List.range n).filter c).map f)) → Qd H) :
    ∃ W : Nat → Nat → Hp → Prop, (∃ m, W 0 m (upd H1 D (.lst []))) ∧ ∀ i m H, W i m H →
      (J.stop i H ∧ Qd H) ∨ (J.go i H ∧ ∃ Nx : Hp → Prop, (∀ H', Nx H' → ∃ m', m' < m ∧ W (i + 1) m' H') ∧ ∀ x H', J.yld i H x H' → gName k x (wipe σ [k]) H' fun σ2 H2 => wipe σ2 [k] = wipe σ [k] ∧ tt σ2 H2 fun b H3 =>
        if b = true then te σ2 H3 fun y H4 => ∃ acc, H4 D = some (.lst acc) ∧ acc.length < sizeLine ∧ Nx (upd H4 D (.lst (acc ++ [y]))) else Nx H3) := by
  refine lc_it w (fun i H => Same H1 H ∧ H D = some (.lst (((List.range i).filter c).map f))) ⟨same_new hD, upd_same⟩ (fun i H _ h => hG H h.1) (fun i x H H' hi hp y => ?_) fun H h => hd H h.1 h.2
  obtain ⟨sm, e⟩ := hp
  obtain ⟨rfl, hx⟩ := hY i H x H' hi y
  refine ⟨?_, ?_⟩
  · show ((σ.set k none).set k (some x)).set k none = σ.set k none
    rw [List.set_set, List.set_set]
  show tt ((σ.set k none).set k (some x)) H' _
  refine ht i x H' hi sm hx _ ?_
  by_cases hc : c i = true
  · rw [if_pos hc]
    refine hs i x H' hi hc sm hx _ fun H3 s3 => ?_
    have e3 := s3 _ _ e
    refine ⟨_, e3, ?_, same_mut (sm.trans s3) hD, ?_⟩
    · rw [List.length_map]
      refine Nat.lt_of_le_of_lt (List.length_filter_le _ _) ?_
      rw [List.length_range]
      exact Nat.lt_of_lt_of_le (Nat.lt_of_lt_of_le hi hn) (by decide)
    · rw [upd_same, List.range_succ, List.filter_append, List.map_append]
      rw [show [i].filter c = [i] by simp only [List.filter, hc]]
      rfl
  · rw [if_neg hc]
    refine ⟨sm, ?_⟩
    rw [e, List.range_succ, List.filter_append, List.map_append]
    rw [show [i].filter c = [] by simp only [List.filter, hc]]
    rw [List.map_nil, List.append_nil]
end
end RK

namespace RK
open PySem PySem.Spec PyProof.Rows L2
/-! ### tuples where the rules know lists alone: xs.extend(t), sum(t), enumerate(t) -/
theorem meets_extendT (l b : Addr) (items items2 : Array Value) (n n2 : Nat) (dd : Option Addr) (sl : Array (Option Value)) (hz : items.size + items2.size ≤ sizeLine) :
    Meets (Builtin.«list.extend» ⟨[Value.ref l, Value.ref b], []⟩) fun x R s => s.heap.get? l = some { cls := Value.type "list", data := Data.seq items n } ∧
      s.heap.get? b = some { cls := Value.type "tuple", dict := dd, data := Data.seq items2 n2, slots := sl } ∧
      R (Except.ok (Flow.ret Value.none)) { s with heap := s.heap.update l (Obj.mapSeq fun x => x ++ items2) } := by
  refine Meets.of_wp fun prog w A R s h => ?_
  obtain ⟨hl, hb, h⟩ := h
  show wpAny _ _ (Builtin.List.listExtendWith (.ref l) (.ref b) .none) _ _ _
  unfold Builtin.List.listExtendWith
  refine wpAny_bind (wpAny_typeOf_ref hb ?_)
  refine wpAny_ite_true (by simp) ?_
  refine wpAny_bind ?_
  unfold Builtin.List.listItems
  refine wpAny_bind (wpAny_seqItems hb rfl (wpAny_pure ?_))
  refine wpAny_bind (wpAny_bind (wpAny_seqItems hl rfl (wpAny_pure ?_)))
  have hbig : Builtin.List.listTooLong (items.size + items2.size) = false := notLongL hz
  refine wpAny_ite_false (by rw [hbig, Bool.and_false]; rfl) ?_
  refine wpAny_bind ?_
  show wpAny _ _ (updateSeq l (fun x => x ++ items2)) _ _ _
  refine wpAny_updateSeq hl rfl (wpAny_pure ⟨_, rfl, h⟩) (by omega) (by rw [Array.size_append]; omega)
/-! enumerate over a tuple -/
theorem meets_enumerate_newT (l : Addr) (items : Array Value) (n : Nat) (dct : Option Addr) (sl : Array (Option Value)) :
    Meets (Builtin.«enumerate.__new__» ⟨[Value.type "enumerate", Value.ref l], []⟩) fun x R s => s.heap.get? l = some { cls := Value.type "tuple", dict := dct, data := Data.seq items n, slots := sl } ∧
      R (Except.ok (Flow.ret (Value.ref (s.heap.push { cls := Value.type "tuple_iterator", data := Data.fields #[Value.ref l, Value.int 0 0] }).objs.size)))
        { s with heap := (s.heap.push { cls := Value.type "tuple_iterator", data := Data.fields #[Value.ref l, Value.int 0 0] }).push { cls := Value.type "enumerate", data := Data.fields #[Value.none, Value.bool false, Value.ref s.heap.objs.size, rawInt 0, Value.none, Value.none] } } := by
  refine Meets.of_wp fun prog w A R s h => ?_
  obtain ⟨hl, h⟩ := h
  have hsub := sub_enumerate
  have hL : s.heap.IsTuple l items := ⟨_, hl, rfl, n, rfl⟩
  unfold Builtin.«enumerate.__new__»
  refine wpAny_bind ?_
  unfold Builtin.SmallTypes.newClass
  refine wpAny_bind (wpAny_pure (wpAny_ite_false rfl (wpAny_bind (wpAny_of_eq hsub (wpAny_ite_false rfl (wpAny_pure ?_))))))
  refine wpAny_ite_true rfl (wpAny_bind ?_)
  unfold Builtin.SmallTypes.calledThroughType
  refine wpAny_bind (wpAny_stack_any fun st => wpAny_pure ?_)
  have fin : wpAny (model prog w) A.in1 (pyIter (Value.ref l) >>= fun it => Builtin.SmallTypes.newRecord (Value.type "enumerate") (Builtin.SmallTypes.ownedTupleFields ++ [it, rawInt 0, Value.none, Value.none]) >>= fun v => ret v) (fun fin s' => ∃ v, fin = Fin.done (Flow.ret v) ∧ R (Except.ok (Flow.ret v)) s') (fun e s' => R (Except.error e) s') s := by
    refine wpAny_bind (wpAny_pyIter_tuple hL ?_)
    refine wpAny_bind ?_
    unfold Builtin.SmallTypes.newRecord
    show wpAny _ _ (newObj (Value.type "enumerate") (Data.fields #[Value.none, Value.bool false, Value.ref s.heap.objs.size, rawInt 0, Value.none, Value.none])) _ _ _
    exact wpAny_newObj_type (wpAny_pure ⟨_, rfl, h⟩) (by show 6 ≤ sizeLine + 2; decide)
  split
  · rename_i c tail kw snd tl heq
    generalize (c == Value.type "enumerate") = short
    cases short with
    | false =>
      refine wpAny_ite_false rfl (wpAny_bind (wpAny_of_eq (a := (Value.ref l, none)) rfl ?_))
      exact fin
    | true =>
      refine wpAny_ite_true rfl (wpAny_bind (wpAny_of_eq (a := (Value.ref l, none)) rfl ?_))
      exact fin
  · refine wpAny_ite_false rfl (wpAny_bind (wpAny_of_eq (a := (Value.ref l, none)) rfl ?_))
    exact fin
section
variable {prog : Program} {w : World} {A : Around} {E : Value → Shared → Prop} {s : Shared}
theorem nextOf_tup_item {it l : Addr} {i : Nat} {items : Array Value} {x : Value} {Q : Value → Shared → Prop} (hit : s.heap.IsTupleIter it l i) (hl : s.heap.IsTuple l items) (hx : items[i]? = some x)
    (hQ : ∀ h', h'.IsTupleIter it l (i + 1) → Heap.SameBut it s.heap h' → Q x { s with heap := h' }) : wpAny (model prog w) A (Builtin.SmallTypes.nextOf (Value.ref it)) Q E s := by
  obtain ⟨⟨oc, od, odt, osl⟩, gi, ci, di⟩ := id hit
  simp only at ci di
  subst ci
  subst di
  obtain ⟨ol, gl, _, nl, dl⟩ := hl
  unfold Builtin.SmallTypes.nextOf
  refine wpAny_bind (wpAny_callSpecial?_slot (name := "__next__") hit.typeIs F.slot_tuple_iterator_next (wpAny_call_entry F.slot_tuple_iterator_next hit.typeIs F.entry_tuple_iterator_next ?_ (F.args_tuple_iterator_next_1 _)))
  refine wpAny_bind (m := field (.ref it) 0) (wpAny_field gi rfl (x := .ref l) rfl ?_)
  refine (if_neg (Bool.false_ne_true : ¬ ((Value.ref l == Value.none) = true))).symm ▸ ?_
  refine wpAny_bind (m := field (.ref it) 1) (wpAny_field gi rfl (x := .int i 0) rfl (wpAny_bind (m := seqItems? (.ref l)) (wpAny_seqItems gl dl ?_)))
  simp only [Int.toNat_natCast, hx]
  refine wpAny_bind (wpAny_setField gi rfl (by simp) (wpAny_pure ⟨x, rfl, wpAny_pure (hQ _ ⟨_, Heap.get?_update_self _ gi rfl, rfl, rfl⟩ ⟨?_, fun b n => Heap.get?_update_other _ _ (Ne.symm n)⟩)⟩))
  exact Heap.size_update _ _ _
theorem nextOf_tup_end {it l : Addr} {i : Nat} {items : Array Value} {Q : Value → Shared → Prop} (hh : A.handled = none) (hit : s.heap.IsTupleIter it l i) (hl : s.heap.IsTuple l items) (hx : items[i]? = none)
    (hQ : ∀ (h' : Heap) (e : Addr), Heap.ExtBut it s.heap h' → (∃ o, h'.get? e = some o ∧ o.cls = Value.type "StopIteration") → E (Value.ref e) { s with heap := h' }) : wpAny (model prog w) A (Builtin.SmallTypes.nextOf (Value.ref it)) Q E s := by
  obtain ⟨oi, gi, ci, di⟩ := id hit
  obtain ⟨ol, gl, _, nl, dl⟩ := hl
  unfold Builtin.SmallTypes.nextOf
  refine wpAny_bind (wpAny_callSpecial?_slot (name := "__next__") hit.typeIs F.slot_tuple_iterator_next (wpAny_call_entry F.slot_tuple_iterator_next hit.typeIs F.entry_tuple_iterator_next ?_ (F.args_tuple_iterator_next_1 _)))
  refine wpAny_bind (m := field (.ref it) 0) (wpAny_field gi di (x := .ref l) rfl ?_)
  refine (if_neg (Bool.false_ne_true : ¬ ((Value.ref l == Value.none) = true))).symm ▸ ?_
  refine wpAny_bind (m := field (.ref it) 1) (wpAny_field gi di (x := .int i 0) rfl (wpAny_bind (m := seqItems? (.ref l)) (wpAny_seqItems gl dl ?_)))
  simp only [Int.toNat_natCast, hx]
  refine wpAny_bind (wpAny_rule (wpAny_bind (wpAny_setField gi di (by simp) ?_)))
  unfold Builtin.SmallTypes.stopIteration
  refine wpAny_bind (m := newExc (.type "StopIteration") []) ?_
  simp only [newExc, newTuple]
  refine wpAny_bind (wpAny_newObj_type (wpAny_bind (m := firstArgMember _ _) (wpAny_of_eq (a := Value.none) (by first | rfl | (simp only [firstArgMember]; rfl)) (wpAny_newObj_type ?_ (by size_fits)))) (by size_fits))
  unfold raiseNew
  refine wpAny_bind (wpAny_handled ?_)
  rw [show A.in1.handled = none from hh]
  refine wpAny_throw (hQ _ _ (fun b o n e => ?_) ⟨_, Heap.get?_push_size _ rfl, rfl⟩)
  refine Heap.get?_push_of_some _ (Heap.get?_push_of_some _ ?_)
  rw [Heap.get?_update_other _ _ (Ne.symm n)]
  exact e
theorem draws_tup (hh : A.handled = none) (it l : Addr) (ne : l ≠ it) (items : Array Value) :
    Draws prog w A it [it, l] items.size (fun i v => items[i]? = some v) fun i h => h.IsTupleIter it l i ∧ h.IsTuple l items := by
  refine ⟨fun i h st => let ⟨⟨o, g, _⟩, _⟩ := st; ⟨o, g⟩, fun i h h' st k => let ⟨⟨o, g, r⟩, ⟨o2, g2, r2⟩⟩ := st; ⟨⟨o, k it (by simp) o g, r⟩, ⟨o2, k l (by simp) o2 g2, r2⟩⟩, fun i s Q E hi st h => ?_, fun s Q E st h => ?_⟩
  · obtain ⟨h1, h2⟩ := st
    have hx : items[i]? = some items[i] := Array.getElem?_eq_getElem hi
    refine nextOf_tup_item h1 h2 hx fun h' st' sb => ?_
    obtain ⟨o2, g2, r2⟩ := h2
    exact h _ _ s.toks hx ⟨st', ⟨o2, (sb.2 l ne).trans g2, r2⟩⟩ sb
  · obtain ⟨h1, h2⟩ := st
    exact nextOf_tup_end hh h1 h2 (by simp) fun h' e eb he => h h' e eb he
theorem call_enumerate_tup {l : Addr} {items : Array Value} {Q : Value → Shared → Prop} (hL : s.heap.IsTuple l items)
    (h : ∀ h', IsEnum h' (s.heap.objs.size + 1) s.heap.objs.size 0 Value.none → h'.IsTupleIter s.heap.objs.size l 0 → h'.objs.size = s.heap.objs.size + 2 → (∀ b o, s.heap.get? b = some o → h'.get? b = some o) → Q (Value.ref (s.heap.objs.size + 1)) { s with heap := h' }) :
    wpAny (model prog w) A (call (Value.type "enumerate") [Value.ref l]) Q E s := by
  obtain ⟨⟨c, dct, dt, sl⟩, hl, hc, n, hd⟩ := hL
  simp only at hc hd
  subst hc
  subst hd
  have hz := Heap.size_push s.heap { cls := .type "tuple_iterator", data := Data.fields #[Value.ref l, Value.int 0 0] }
  refine callType_new F.called_enumerate (by decide) (F.typeCall_enumerate_1 (Value.ref l)) (F.newCall_enumerate_1 (Value.ref l)) (fun obj => F.args_object_init_2 obj (Value.ref l)) F.entry_enumerate_new (meets_enumerate_newT l items n dct sl) ⟨hl, ?_⟩
  have he := Heap.get?_push_size (s.heap.push { cls := Value.type "tuple_iterator", data := Data.fields #[Value.ref l, Value.int 0 0] }) (o := { cls := Value.type "enumerate", data := Data.fields #[Value.none, Value.bool false, Value.ref s.heap.objs.size, rawInt 0, Value.none, Value.none] }) rfl
  rw [hz] at he
  show Shared.TypeIs _ (Value.ref (Heap.objs _).size) "enumerate" ∧ Q (Value.ref (Heap.objs _).size) _
  rw [hz]
  refine ⟨⟨_, he, rfl⟩, h _ he ⟨_, Heap.get?_push_of_some _ (Heap.get?_push_size _ rfl), rfl, rfl⟩ ?_ fun b o e => Heap.get?_push_of_some _ (Heap.get?_push_of_some _ e)⟩
  rw [Heap.size_push, hz]
theorem draws_tup_end (hh : A.handled = none) (it l : Addr) (ne : l ≠ it) (items : Array Value) (i0 : Nat) (hx : items[i0]? = none) :
    Draws prog w A it [it, l] i0 (fun _ _ => False) fun i h => i = i0 ∧ h.IsTupleIter it l i ∧ h.IsTuple l items := by
  refine ⟨fun i h st => let ⟨_, ⟨o, g, _⟩, _⟩ := st; ⟨o, g⟩, fun i h h' st k => let ⟨e, ⟨o, g, r⟩, ⟨o2, g2, r2⟩⟩ := st; ⟨e, ⟨o, k it (by simp) o g, r⟩, ⟨o2, k l (by simp) o2 g2, r2⟩⟩, fun i s Q E hi st h => ?_, fun s Q E st h => ?_⟩
  · exact absurd st.1 (Nat.ne_of_lt hi)
  · obtain ⟨_, h1, h2⟩ := st
    exact nextOf_tup_end hh h1 h2 hx fun h' e eb he => h h' e eb he
end
def IteT (K : PySem.W.Frag) (a : Addr) : It := ⟨fun i H => ∃ xs x, SqT K H a xs ∧ xs[i]? = some x, fun i H v H' => ∃ T x, v = V.ref T ∧ H T = none ∧ H' = upd H T (.tup [.int (i : Nat), x]) ∧ ∀ xs, SqT K H a xs → xs[i]? = some x, fun i H => ∃ xs, SqT K H a xs ∧ xs.length ≤ i⟩
theorem tup_ne {h : Heap} {a it : Addr} {i : Nat} {items : Array Value} (hit : h.IsTupleIter it a i) (pl : h.IsTuple a items) : a ≠ it := fun z => by
  subst z
  obtain ⟨o, h1, c1, _⟩ := hit
  obtain ⟨o2, h2, c2, _⟩ := pl
  rw [h1] at h2
  cases h2
  rw [c1] at c2
  exact absurd c2 (by decide)
theorem enum_ne {h : Heap} {a e it : Addr} {i : Int} {old : Value} {items : Array Value} (he : IsEnum h e it i old) (pl : h.IsTuple a items) : e ≠ a := fun z => by
  subst z
  obtain ⟨o2, h2, c2, _⟩ := pl
  rw [show h.get? e = _ from he] at h2
  cases h2
  exact absurd (show Value.type "enumerate" = Value.type "tuple" from c2) (by decide)
theorem turn_enumT {P : Program} {w : World} {K : PySem.W.Frag} {elts : List Expr} {kk : Nat} {tpos : Pos} (a e it : Addr) :
    Turn P w K (.Tuple elts kk tpos) (IteT K a) [e, it] e (fun i h => (∃ old, IsEnum h e it ((i : Nat) : Int) old) ∧ h.IsTupleIter it a i ∧ e ≠ it) where
  mem := by simp
  obj := fun i h st b hb => by
    obtain ⟨⟨old, he⟩, ⟨o, ho, hc, hd⟩, _⟩ := st
    have e' : b = e ∨ b = it := by simpa using hb
    rcases e' with z | z
    · rw [z]; exact ⟨_, he, fun v q => nomatch q⟩
    · rw [z]; exact ⟨o, ho, fun v q => by rw [hd] at q; cases q⟩
  keep := fun i h h' st k => let ⟨⟨old, he⟩, ⟨o, ho, r⟩, hne⟩ := st; ⟨⟨old, k e (by simp) _ he⟩, ⟨o, k it (by simp) o ho, r⟩, hne⟩
  item := by
    intro X hP hw hK hc i pins s σ H E I hf st hg
    subst hP hw hK
    obtain ⟨⟨old, he⟩, hit, hne⟩ := st
    obtain ⟨xs, x, hq, hx⟩ := hg
    obtain ⟨its, rv, pl, _⟩ := I.tuple hq
    have pl' : s.heap.IsTuple a its.toArray := pl
    have hel : e < s.heap.objs.size := Heap.lt_size he
    have hil : it < s.heap.objs.size := by obtain ⟨_, q, _⟩ := hit; exact Heap.lt_size q
    have ne := tup_ne hit pl'
    have ne2 := enum_ne he pl'
    have D := draws_tup (A := X.A.in1) (prog := X.prog) (w := X.w) (show X.A.in1.handled = none from I.ok.hd hc) it a ne its.toArray
    have hlt : i < its.toArray.size := by
      rw [List.size_toArray, ← rv.length]
      exact (List.getElem?_eq_some_iff.mp hx).1
    obtain ⟨u0, hu0, ru⟩ := rv.get hx
    refine wpAny_pyNext_enum_itemD D he ⟨hit, pl'⟩ hlt hne (by simp [hne, ne2]) fun u h' tk hu ho hst hT hsz hk => ?_
    have eu : u = u0 := by
      have h1 : its[i]? = some u := by simpa using hu
      rw [hu0] at h1
      exact (Option.some.inj h1).symm
    subst eu
    obtain ⟨hit', pl2⟩ := hst
    refine ⟨_, rfl, wpAny_letOwnedTupleGo_enum (s := { s with heap := h', toks := tk + 1 }) ho fun h'' he' sb => ?_⟩
    have hT2 : h''.get? s.heap.objs.size = some { cls := .type "tuple", data := .seq #[.int i tk, u] } := (sb.2 _ (Nat.ne_of_gt hel)).trans hT
    have new : ObjOk X.prog X.w (upd H s.heap.objs.size (.tup [.int (i : Nat), x])) h'' s.heap.objs.size (.tup [.int (i : Nat), x]) :=
      ⟨by show 2 ≤ sizeLine; decide, [.int i tk, u], .cons ⟨_, rfl⟩ (.cons ru .nil), ⟨_, hT2, rfl, _, rfl⟩⟩
    have I1 : Inv X pins σ (upd H s.heap.objs.size (.tup [.int (i : Nat), x])) { s with heap := h'', toks := tk + 1 } :=
      I.turnedNew (ch := [e, it]) (fun b ob hb q => (sb.2 b (fun z => hb (by simp [z]))).trans (hk b ob (fun z => hb (by simp [z])) (fun z => hb (by simp [z])) q)) hf (Nat.le_refl _) new
    refine ⟨.ref s.heap.objs.size, _, I1, rfl, ⟨_, x, rfl, I.hok.fresh (Nat.le_refl _), rfl, fun ys hy => by rw [I.tuple_inj hy hq, hx]⟩, ⟨⟨u, ?_⟩, ?_, hne⟩, fun b hb => ?_⟩
    · have e1 : ((i + 1 : Nat) : Int) = (i : Int) + 1 := by omega
      rw [e1]; exact he'
    · obtain ⟨o, ho2, r⟩ := hit'
      exact ⟨o, (sb.2 it (Ne.symm hne)).trans ho2, r⟩
    · have hb' : b < s.heap.objs.size := by
        have e' : b = e ∨ b = it := by simpa using hb
        rcases e' with z | z
        · rw [z]; exact hel
        · rw [z]; exact hil
      rw [upd_ne (Nat.ne_of_lt hb')]
      exact (hf b hb).1
  done := by
    intro X hP hw hK hc i pins s σ H E I hf st hg
    subst hP hw hK
    obtain ⟨⟨old, he⟩, hit, hne⟩ := st
    obtain ⟨xs, hq, hx⟩ := hg
    obtain ⟨its, rv, pl, _⟩ := I.tuple hq
    have pl' : s.heap.IsTuple a its.toArray := pl
    obtain ⟨f0, f1, f2, f3, f4, f5⟩ := hf it (by simp)
    have D := draws_tup_end (A := X.A.in1) (prog := X.prog) (w := X.w) (show X.A.in1.handled = none from I.ok.hd hc) it a (tup_ne hit pl') its.toArray i (by
      have := rv.length
      simp
      omega)
    exact wpAny_pyNext_enum_endD D he ⟨rfl, hit, pl'⟩ fun h' eb => ⟨rfl, I.turned (t' := s.toks) (fun b o hb q => eb b o hb q) f0 f1 f3 f4 f5⟩
  self := fun A i s Q E st h => let ⟨⟨_, he⟩, _⟩ := st; wpAny_pyIter_enum he h
def iEnumT (K : PySem.W.Frag) (ta : TA) : TI := fun σ H R => ta σ H fun vs H1 => ∃ a xs, vs = [V.ref a] ∧ SqT K H1 a xs ∧ R (IteT K a) H1
theorem pi_enumT {X : Cx} {e : Expr} {ta : TA} {p pos tpos : Pos} {elts : List Expr} {kk : Nat} (hg : Gl X "enumerate") (hm : X.mg "enumerate" = none) (ha : PA X [e] ta) (hs : starEach [e] X.env = [(false, eval e X.env)] := by rfl) :
    PI X (.Tuple elts kk tpos) (.Call (.Name "enumerate" p) [e] [] pos) (iEnumT X.K ta) := by
  refine ⟨fun pins s σ H R I h => ?_⟩
  refine Call_ (ld_blt I hg hm boot_enumerate (PyProof.Rows.callWith_type1 (thn (ha.run pos pins s σ H _ I h) fun us s1 ⟨vs, H1, I1, r1, q1⟩ => ?_) hs rfl))
  obtain ⟨a, xs, ex, hq, q⟩ := q1
  subst ex
  cases r1 with
  | cons r rr =>
    cases rr
    cases r
    obtain ⟨its, rv, pl, _⟩ := I1.tuple hq
    refine call_enumerate_tup (show s1.heap.IsTuple a its.toArray from pl) fun h' he hit hsz hk => wpAny_pyIter_enum he ?_
    have I2 : Inv X pins σ H1 { s1 with heap := h' } := I1.kept (t' := s1.toks) hk
    refine ⟨s1.heap.objs.size + 1, [s1.heap.objs.size + 1, s1.heap.objs.size], _, _, H1, rfl, I2, turn_enumT a (s1.heap.objs.size + 1) s1.heap.objs.size, ⟨⟨.none, he⟩, hit, Nat.succ_ne_self _⟩, fun b hb => ?_, q⟩
    have e' : b = s1.heap.objs.size + 1 ∨ b = s1.heap.objs.size := by simpa using hb
    have hge : s1.heap.objs.size ≤ b := by
      rcases e' with z | z
      · rw [z]; omega
      · rw [z]; omega
    exact I1.fpOk hge (I1.hok.fresh hge)
theorem walk_enumT {K : PySem.W.Frag} {a : Addr} {xs : List V} : Walk (IteT K a) xs.length (fun H => SqT K H a xs) (fun i H v H' => ∃ T x, v = V.ref T ∧ H T = none ∧ H' = upd H T (.tup [.int (i : Nat), x]) ∧ xs[i]? = some x) :=
  ⟨fun i H hi h => ⟨xs, xs[i], h, List.getElem?_eq_getElem hi⟩, fun H h => ⟨xs, h, Nat.le_refl _⟩, fun i H v H' _ h y => let ⟨T, x, a, b, c, d⟩ := y; ⟨T, x, a, b, c, d xs h⟩⟩
section
variable {X : Cx}
def rExtendT (K : PySem.W.Frag) : V → List V → Hp → VK → Prop := fun x vs H Q => ∃ l b xs zs, x = .ref l ∧ vs = [.ref b] ∧ H l = some (.lst xs) ∧ SqT K H b zs ∧ xs.length + zs.length ≤ sizeLine ∧ Q .non (upd H l (.lst (xs ++ zs)))
theorem mt_extendT : MtR X "list.extend" (rExtendT X.K) := by
  intro pins s σ H x xs v us Q I rx rs h
  obtain ⟨l, b, ys, zs, rfl, rfl, hl, hb, hz, q⟩ := h
  cases rx
  obtain ⟨u, rfl, ru⟩ := rs.one
  cases ru
  obtain ⟨z1, its, n, r1, l1, e1⟩ := I.lstM hl
  obtain ⟨its2, r2, pl2, _⟩ := I.tuple hb
  obtain ⟨⟨cls, dd, dt, sl⟩, ho, hc, n2, hd⟩ := pl2
  simp only at hc hd
  subst hc
  subst hd
  have l2 := r2.length
  refine call_meets PySem.F.slot_list_extend ⟨_, e1, rfl⟩ PySem.F.entry_list_extend (PySem.F.args_list_extend_2 _ _) (meets_extendT l b its.toArray its2.toArray n n2 dd sl (by rw [List.size_toArray, List.size_toArray]; omega)) ⟨e1, ho, ?_⟩
  refine ⟨.non, upd H l (.lst (ys ++ zs)), ?_, rfl, q⟩
  exact I.lset (t' := s.toks) hl e1 (by simp) (r1.append r2) (by rw [List.length_append]; omega)
theorem ints_get : ∀ {vs : List Value} {ns : List Int} {i : Nat} {v : Value}, IntsAre vs ns → vs[i]? = some v → ∃ t, v = .int (ns.getD i 0) t
  | _, _, _, _, .nil, e => by simp at e
  | _, _, 0, _, .cons n t _, e => by
    simp at e
    exact ⟨t, e.symm⟩
  | _, _, i + 1, v, .cons n t r, e => by
    obtain ⟨t', e'⟩ := ints_get (i := i) (v := v) r (by simpa using e)
    exact ⟨t', by simpa using e'⟩
theorem preSum_getD : ∀ (ns : List Int) (m : Nat), m ≤ ns.length → preSum (fun i => ns.getD i 0) m = (ns.take m).sum := fun ns m => by
  induction m with
  | zero => intro _; rfl
  | succ m ih =>
    intro h
    show preSum _ m + ns.getD m 0 = _
    rw [ih (by omega), List.take_add_one, List.getElem?_eq_getElem (by omega), List.sum_append, List.getD_eq_getElem?_getD, List.getElem?_eq_getElem (by omega)]
    simp
def rSumT (K : PySem.W.Frag) : List V → Hp → VK → Prop := fun vs H Q => ∃ (a : Addr) (ns : List Int), vs = [V.ref a] ∧ SqT K H a (ns.map V.int) ∧ Q (.int ns.sum) H
theorem cr_sumT (hc : X.calm = true) : CallR X (.builtin "sum") (rSumT X.K) := by
  intro pins s σ H vs us Q I rv h
  obtain ⟨a, ns, rfl, ha, q⟩ := h
  obtain ⟨u, rfl, ru⟩ := rv.one
  cases ru
  obtain ⟨its, r, pl, _⟩ := I.tuple ha
  have hi := ints_of_vals r
  have hlen := r.length
  rw [List.length_map] at hlen
  have pl' : s.heap.IsTuple a its.toArray := pl
  have la : a < s.heap.objs.size := by obtain ⟨o, ho, _⟩ := pl'; exact Heap.lt_size ho
  refine call_sum_walkG (wpAny_pyIter_tuple pl' ?_)
  refine ⟨s.heap.objs.size, [s.heap.objs.size, a], [s.heap.objs.size], its.toArray.size, _, _, fun i => ns.getD i 0, rfl, Walks.tuple (by exact I.ok.hd hc) _ a (Nat.ne_of_lt la) its.toArray, ⟨⟨_, Heap.get?_push_size _ rfl, rfl, rfl⟩, ?_⟩, fun b hb => ?_, fun i v hv => ints_get (i := i) hi (by simpa using hv), fun h' tk t' k => ?_⟩
  · obtain ⟨o, ho, r⟩ := pl'
    exact ⟨o, Heap.get?_push_of_some _ ho, r⟩
  · rw [Heap.size_push]
    have e' : b = s.heap.objs.size ∨ b = a := by simpa using hb
    rcases e' with z | z
    · rw [z]; exact Nat.lt_succ_self _
    · rw [z]; exact Nat.lt_succ_of_lt la
  · refine ⟨.int ns.sum, H, ?_, ?_, q⟩
    · refine I.kept (t' := tk) fun b o e => k b o ?_ (Heap.get?_push_of_some _ e)
      have := Heap.lt_size e
      intro z
      have e' : b = s.heap.objs.size := by simpa using z
      exact absurd e' (Nat.ne_of_lt this)
    · rw [preSum_getD _ _ (by rw [List.size_toArray]; omega), List.size_toArray, ← hlen, List.take_length]
      exact ⟨_, rfl⟩
end
end RK

namespace RK
open PySem PySem.Spec PyProof.Rows L2
/-- a comprehension with two for, both targets names (at k and k1), no tests -/
theorem lc2_it {J : It} {n : Nat} {G : Hp → Prop} {Y : Nat → Hp → V → Hp → Prop} (w : Walk J n G Y) {wi1 : TI} {te : TE} {σ : L2.St} {H1 : Hp} {D : Addr} {Qd : Hp → Prop} {k k1 : Nat} (hk : k ≠ k1) (Pv : Nat → Hp → Prop) (h0 : Pv 0 (upd H1 D (.lst []))) (hG : ∀ i H, i ≤ n → Pv i H → G H)
    (hs : ∀ (i : Nat) (x : V) (H H' : Hp), i < n → Pv i H → Y i H x H' → ∀ R : It → Hp → Prop, (∀ (J1 : It) (H4 : Hp) (n1 : Nat) (G1 : Hp → Prop) (Y1 : Nat → Hp → V → Hp → Prop) (P1 : Nat → Hp → Prop), Walk J1 n1 G1 Y1 → P1 0 H4 → (∀ j H, j ≤ n1 → P1 j H → G1 H) →
      (∀ (j : Nat) (y : V) (H H' : Hp), j < n1 → P1 j H → Y1 j H y H' → te (((((σ.set k1 none).set k none).set k (some x)).set k1 none).set k1 (some y)) H' fun z H7 => ∃ acc, H7 D = some (.lst acc) ∧ acc.length < sizeLine ∧ P1 (j + 1) (upd H7 D (.lst (acc ++ [z])))) →
      (∀ H, P1 n1 H → Pv (i + 1) H) → R J1 H4) → wi1 (((σ.set k1 none).set k none).set k (some x)) H' R)
    (hd : ∀ H, Pv n H → Qd H) :
    ∃ W : Nat → Nat → Hp → Prop, (∃ m, W 0 m (upd H1 D (.lst []))) ∧ ∀ (i m : Nat) (H : Hp), W i m H → (J.stop i H ∧ Qd H) ∨ (J.go i H ∧ ∃ Nx : Hp → Prop, (∀ H', Nx H' → ∃ m', m' < m ∧ W (i + 1) m' H') ∧ ∀ (x : V) (H' : Hp), J.yld i H x H' →
      gName k x (wipe σ [k, k1]) H' fun σ2 H2 => wipe σ2 [k, k1] = wipe σ [k, k1] ∧ tYes σ2 H2 fun b H3 => if b = true then wi1 σ2 H3 fun J1 H4 => ∃ W1 : Nat → Nat → Hp → Prop, (∃ m, W1 0 m H4) ∧ ∀ (j k' : Nat) (H : Hp), W1 j k' H → (J1.stop j H ∧ Nx H) ∨ (J1.go j H ∧ ∃ Nx1 : Hp → Prop, (∀ H', Nx1 H' → ∃ k2, k2 < k' ∧ W1 (j + 1) k2 H') ∧
        ∀ (x : V) (H' : Hp), J1.yld j H x H' → gName k1 x (wipe σ2 [k1]) H' fun σ3 H5 => wipe σ3 [k1] = wipe σ2 [k1] ∧ tYes σ3 H5 fun b H6 => if b = true then te σ3 H6 fun y H7 => ∃ acc, H7 D = some (.lst acc) ∧ acc.length < sizeLine ∧ Nx1 (upd H7 D (.lst (acc ++ [y]))) else Nx1 H6) else Nx H3) := by
  refine ⟨fun i m H => i ≤ n ∧ m = n - i ∧ Pv i H, ⟨n, Nat.zero_le _, rfl, h0⟩, fun i m H hW => ?_⟩
  obtain ⟨hi, rfl, hp⟩ := hW
  rcases Nat.lt_or_ge i n with hlt | hge
  · refine .inr ⟨w.goes i H hlt (hG i H hi hp), fun H' => Pv (i + 1) H', fun H' h => ⟨n - (i + 1), by omega, by omega, rfl, h⟩, fun x H' y => ?_⟩
    have y' := w.yields i H x H' hlt (hG i H hi hp) y
    refine ⟨?_, ?_⟩
    · show ((((σ.set k1 none).set k none).set k (some x)).set k1 none).set k none = (σ.set k1 none).set k none
      rw [List.set_set, List.set_comm _ _ hk, List.set_set, List.set_set]
    show wi1 (((σ.set k1 none).set k none).set k (some x)) H' _
    refine hs i x H H' hlt hp y' _ fun J1 H4 n1 G1 Y1 P1 w1 p0 hG1 st en => ?_
    refine ⟨fun j m H => j ≤ n1 ∧ m = n1 - j ∧ P1 j H, ⟨n1, Nat.zero_le _, rfl, p0⟩, fun j m Hj hW1 => ?_⟩
    obtain ⟨hj, rfl, hp1⟩ := hW1
    rcases Nat.lt_or_ge j n1 with hlt1 | hge1
    · refine .inr ⟨w1.goes j Hj hlt1 (hG1 j Hj hj hp1), fun H' => P1 (j + 1) H', fun H' h => ⟨n1 - (j + 1), by omega, by omega, rfl, h⟩, fun y H'' yy => ?_⟩
      have yy' := w1.yields j Hj y H'' hlt1 (hG1 j Hj hj hp1) yy
      refine ⟨?_, ?_⟩
      · show (((((σ.set k1 none).set k none).set k (some x)).set k1 none).set k1 (some y)).set k1 none = (((σ.set k1 none).set k none).set k (some x)).set k1 none
        rw [List.set_set, List.set_set]
      exact st j y Hj H'' hlt1 hp1 yy'
    · have : j = n1 := Nat.le_antisymm hj hge1
      subst this
      exact .inl ⟨w1.stops Hj (hG1 j Hj hj hp1), en Hj hp1⟩
  · have : i = n := Nat.le_antisymm hi hge
    subst this
    exact .inl ⟨w.stops H (hG i H hi hp), hd H hp⟩
theorem xt_sq {K : PySem.W.Frag} {H : Hp} {S : ASet} {r : Addr} {xs : List V} (h : SqT K H r xs) (n : ∀ a, S a → ∃ ys, H a = some (.lst ys)) : XT K H S r xs := by
  rcases h with h | h
  · refine .inl ⟨fun z => ?_, h⟩
    obtain ⟨ys, e⟩ := n r z
    rcases h with h | ⟨o, h⟩ <;> rw [e] at h <;> cases h
  · exact .inr (.inr h)
/-- a tuple and a new one behind it -/
theorem catA_xt {K : PySem.W.Frag} {H : Hp} {S : ASet} {a b : Addr} {xs ys : List V} {Q : VK} (ha : SqT K H a xs) (hb : XT K H S b ys) (hy : ys ≠ []) (hS : ∀ c, S c → H c ≠ none) (hl : xs.length + ys.length ≤ 100000) (q : ∀ p H', Same H H' → XT K H' S p (xs ++ ys) → Q (.ref p) H') : rCatA K (.ref a) (.ref b) H Q :=
  ⟨a, b, xs, ys, rfl, rfl, ha, hb.sq, Nat.le_trans hl (show 100000 ≤ sizeLine by decide), fun e => q b H (Same.refl _) (by rw [e]; exact hb), fun _ e => absurd e hy, fun _ _ p hp => q p _ (same_new hp) (XT.of upd_same fun z => hS p z hp)⟩
/-! one thing by its place, three by keywords -/
def kw1_3 {α : Type} : List α → List α → List α
  | [a], [b, c, d] => [a, b, c, d]
  | _, _ => []
theorem kw1_3_rel {vs zs : List V} {us ws : List Value} (h : Vals vs us) (k : Vals zs ws) : Vals (kw1_3 vs zs) (kw1_3 us ws) := by
  match h, k with
  | .cons h0 .nil, .cons k0 (.cons k1 (.cons k2 .nil)) => exact .cons h0 (.cons k0 (.cons k1 (.cons k2 .nil)))
  | .nil, _ => exact .nil
  | .cons _ (.cons _ _), _ => exact .nil
  | .cons _ .nil, .nil => exact .nil
  | .cons _ .nil, .cons _ .nil => exact .nil
  | .cons _ .nil, .cons _ (.cons _ .nil) => exact .nil
  | .cons _ .nil, .cons _ (.cons _ (.cons _ (.cons _ _))) => exact .nil
theorem kbinds1_3 {K : PySem.W.Frag} {fd : FuncData} {p0 p1 p2 p3 : Str} (h : ∀ (a b c d : Value) (s : Shared), BindsTo s fd ⟨[a], [(p1, b), (p2, c), (p3, d)]⟩ [(p0, a), (p1, b), (p2, c), (p3, d)]) : KBinds K fd [p0, p1, p2, p3] [p1, p2, p3] kw1_3 kw1_3 := by
  refine ⟨fun s us ws _ hl => ?_, kw1_3_rel⟩
  match us, ws with
  | [a], [b, c, d] => exact h a b c d s
  | [], ws => cases hl
  | _ :: _ :: _, ws => cases hl
  | [_], [] => cases hl
  | [_], [_] => cases hl
  | [_], [_, _] => cases hl
  | [_], _ :: _ :: _ :: _ :: _ => cases hl
/-- a comprehension with one test over the pairs of an enumerated tuple -/
theorem lc_enumF {K : PySem.W.Frag} {a : Addr} {xs : List V} {tt : TT} {te : TE} {σ : L2.St} {H1 : Hp} {D : Addr} {Qd : Hp → Prop} {k k1 : Nat} (hk : k ≠ k1) (c : Nat → Bool) (f : Nat → V) (hD : H1 D = none) (ha : SqT K H1 a xs) (hn : xs.length ≤ 1000000)
    (ht : ∀ i x H, i < xs.length → Same H1 H → xs[i]? = some x → ∀ Q : Bool → Hp → Prop, Q (c i) H → tt ((((σ.set k1 none).set k none).set k (some (.int (i : Nat)))).set k1 (some x)) H Q)
    (hs : ∀ i x H, i < xs.length → c i = true → Same H1 H → xs[i]? = some x → ∀ Q : VK, (∀ H3, Same H H3 → Q (f i) H3) → te ((((σ.set k1 none).set k none).set k (some (.int (i : Nat)))).set k1 (some x)) H Q)
    (hd : ∀ H, Same H1 H → H D = some (.lst (((List.range xs.length).filter c).map f)) → Qd H) :
    ∃ W : Nat → Nat → Hp → Prop, (∃ m, W 0 m (upd H1 D (.lst []))) ∧ ∀ i m H, W i m H →
      ((IteT K a).stop i H ∧ Qd H) ∨ ((IteT K a).go i H ∧ ∃ Nx : Hp → Prop, (∀ H', Nx H' → ∃ m', m' < m ∧ W (i + 1) m' H') ∧ ∀ x H', (IteT K a).yld i H x H' → gTup K 2 (gCons (gName k) (gCons (gName k1) gNil)) x (wipe σ [k, k1]) H' fun σ2 H2 => wipe σ2 [k, k1] = wipe σ [k, k1] ∧ tt σ2 H2 fun b H3 =>
        if b = true then te σ2 H3 fun y H4 => ∃ acc, H4 D = some (.lst acc) ∧ acc.length < sizeLine ∧ Nx (upd H4 D (.lst (acc ++ [y]))) else Nx H3) := by
  refine lc_it (walk_enumT (K := K) (a := a) (xs := xs)) (fun i H => Same H1 H ∧ H D = some (.lst (((List.range i).filter c).map f))) ⟨same_new hD, upd_same⟩ (fun i H _ h => sqT_up ha h.1) (fun i x H H' hi hp y => ?_) fun H h => hd H h.1 h.2
  obtain ⟨sm, e⟩ := hp
  obtain ⟨T, z, rfl, nT, rfl, hz⟩ := y
  have sT := same_new (o := .tup [.int (i : Nat), z]) nT
  refine ⟨T, _, rfl, SqT.of upd_same, rfl, _, _, rfl, _, _, rfl, rfl, ?_, ?_⟩
  · show ((((((σ.set k1 none).set k none).set k (some (.int (i : Nat)))).set k1 (some z)).set k1 none).set k none) = (σ.set k1 none).set k none
    rw [List.set_set, List.set_set, List.set_comm _ _ hk, List.set_set, List.set_set]
  show tt ((((σ.set k1 none).set k none).set k (some (.int (i : Nat)))).set k1 (some z)) _ _
  refine ht i z _ hi (sm.trans sT) hz _ ?_
  by_cases hc : c i = true
  · rw [if_pos hc]
    refine hs i z _ hi hc (sm.trans sT) hz _ fun H3 s3 => ?_
    have e3 := s3 _ _ (sT _ _ e)
    refine ⟨_, e3, ?_, same_mut (sm.trans (sT.trans s3)) hD, ?_⟩
    · rw [List.length_map]
      refine Nat.lt_of_le_of_lt (List.length_filter_le _ _) ?_
      rw [List.length_range]
      exact Nat.lt_of_lt_of_le (Nat.lt_of_lt_of_le hi hn) (by decide)
    · rw [upd_same, List.range_succ, List.filter_append, List.map_append]
      rw [show [i].filter c = [i] by simp only [List.filter, hc]]
      rfl
  · rw [if_neg hc]
    refine ⟨sm.trans sT, ?_⟩
    rw [sT _ _ e, List.range_succ, List.filter_append, List.map_append]
    rw [show [i].filter c = [] by simp only [List.filter, hc]]
    rw [List.map_nil, List.append_nil]
end RK

/-! own __len__, __contains__, __eq__, __iter__ (handing back a tuple's iterator), list(o) -/
namespace DK
open PySem PySem.Spec PyProof.Rows L2

section
variable {X : Cx} {pins : List (Addr × Obj)} {σ : L2.St} {H : Hp} {s : Shared} {CX : CXT} {k : Nat} {f C : Addr} {sp : Sp} {E : XK}

/-- the callee runs below the running body -/
theorem run_sub {A1 : Around} {Q : VK} {us : List Value} {vs : List V} (F : FnR X.prog X.w X.K X.mg X.base CX k f sp) (sb : Sub X k A1) (hx : Passes CX X E) (I : Inv X pins σ H s) (r : Vals vs us) (h : sp vs H Q E) :
    wpAny (model X.prog X.w) A1 (call (.ref f) us) (EP X pins σ Q) X.xe s := by
  have e0 : Env0 X.prog X.w X.K X.mg X.base A1 X.stack s H := by
    have e := I.env0
    exact ⟨by rw [sb.fr]; exact e.frames, e.mod, e.bs, e.bsz, e.funs, e.frf, e.hok, e.bare⟩
  refine wpAny_call (codeAny_mono (F A1 X.stack s H us vs Q E sb.room e0 r h) fun r s' hq => ?_)
  cases r with
  | error e => exact hx pins σ H s e s' I hq
  | ok fl =>
    cases fl with
    | ret u => exact I.after hq
    | next => exact False.elim hq
    | brk => exact False.elim hq
    | cont => exact False.elim hq

/-- the def at f stands in the class at C under this name -/
structure Own (K : PySem.W.Frag) (C : Addr) (name : Str) (f : Addr) : Prop where
  at_ : PySem.W.findIn K (.ref C) name = some (some (.ref f))
  fn : PySem.W.isFn K (.ref f) = true

/-! ### len(o) -/
def rLenO (C : Addr) (sp : Sp) (E : XK) : List V → Hp → VK → Prop := fun xs H Q => ∃ a dx fs, xs = [V.ref a] ∧ H a = some (.ins C dx fs) ∧
  sp [.ref a] H (fun v H' => ∃ n : Int, v = .int n ∧ (0 ≤ n ∧ n < 2 ^ 63) ∧ Q (.int n) H') E
theorem call_lenO_at {A1 : Around} {Q : VK} {a dx : Addr} {fs : List (Str × V)} (c : Own X.K C "__len__" f) (F : FnR X.prog X.w X.K X.mg X.base CX k f sp) (hx : Passes CX X E) (sb : Sub X (k + 1) A1) (I : Inv X pins σ H s) (ha : H a = some (.ins C dx fs))
    (hsp : sp [.ref a] H (fun v H' => ∃ n : Int, v = .int n ∧ (0 ≤ n ∧ n < 2 ^ 63) ∧ Q (.int n) H') E) : wpAny (model X.prog X.w) A1 (call (.builtin "len") [.ref a]) (EP X pins σ Q) X.xe s := by
  obtain ⟨mA, J, _⟩ := ins_get I.hok ha
  obtain ⟨od, J, _⟩ := J.look
  obtain ⟨m, hF⟩ := I.fr
  refine PySem.W.len_K hF I.ok.mod.kin J c.at_ c.fn ?_
  refine wpAny_mono (run_sub (us := [.ref a]) (vs := [V.ref a]) F sb.in1 hx I (.cons rfl .nil) hsp) (fun r s' hq => ?_) fun _ _ z => z
  obtain ⟨v, H', I', rv, n, rfl, hn, q⟩ := hq
  obtain ⟨t, rfl⟩ := rv
  exact ⟨hn, .int n, H', I'.tok _, ⟨_, rfl⟩, q⟩
theorem call_lenO (c : Own X.K C "__len__" f) (F : FnR X.prog X.w X.K X.mg X.base CX k f sp) (hx : Passes CX X E) (hr : Room (k + 1) X.A) : CallR X (.builtin "len") (rLenO C sp E) := by
  intro pins s σ H xs us Q I r h
  obtain ⟨a, dx, fs, rfl, ha, hsp⟩ := h
  obtain ⟨u, rfl, ru⟩ := r.one
  cases ru
  exact call_lenO_at c F hx ⟨hr, rfl⟩ I ha hsp

/-! ### x in o -/
def rInO (neg : Bool) (C : Addr) (sp : Sp) (E : XK) : R2 := fun x y H Q => ∃ a dx fs, y = V.ref a ∧ H a = some (.ins C dx fs) ∧
  sp [.ref a, x] H (fun v H' => ∃ b : Bool, v = .bl b ∧ Q (.bl (b ^^ neg)) H') E
theorem op_inO (c : Own X.K C "__contains__" f) (F : FnR X.prog X.w X.K X.mg X.base CX k f sp) (hx : Passes CX X E) (hr : Room k X.A) : OpR X (compareOp .In) (rInO false C sp E) := by
  intro pins s σ H x y v u Q I rx ry h
  obtain ⟨a, dx, fs, rfl, ha, hsp⟩ := h
  cases ry
  obtain ⟨mA, J, _⟩ := ins_get I.hok ha
  obtain ⟨od, J, _⟩ := J.look
  obtain ⟨m, hF⟩ := I.fr
  refine PySem.W.in_K hF I.ok.mod.kin J c.at_ c.fn ?_
  refine wpAny_mono (run_sub (us := [.ref a, v]) (vs := [V.ref a, x]) F ⟨hr, rfl⟩ hx I (.cons rfl (.cons rx .nil)) hsp) (fun r s' hq => ?_) fun _ _ z => z
  obtain ⟨w', H', I', rv, b, rfl, q⟩ := hq
  cases rv
  refine wpAny_truthy_bool ?_
  exact ⟨.bl b, H', I', rfl, by simpa using q⟩
theorem op_notInO (c : Own X.K C "__contains__" f) (F : FnR X.prog X.w X.K X.mg X.base CX k f sp) (hx : Passes CX X E) (hr : Room k X.A) : OpR X (compareOp .NotIn) (rInO true C sp E) := by
  intro pins s σ H x y v u Q I rx ry h
  obtain ⟨a, dx, fs, rfl, ha, hsp⟩ := h
  cases ry
  obtain ⟨mA, J, _⟩ := ins_get I.hok ha
  obtain ⟨od, J, _⟩ := J.look
  obtain ⟨m, hF⟩ := I.fr
  refine PySem.W.notIn_K hF I.ok.mod.kin J c.at_ c.fn ?_
  refine wpAny_mono (run_sub (us := [.ref a, v]) (vs := [V.ref a, x]) F ⟨hr, rfl⟩ hx I (.cons rfl (.cons rx .nil)) hsp) (fun r s' hq => ?_) fun _ _ z => z
  obtain ⟨w', H', I', rv, b, rfl, q⟩ := hq
  cases rv
  refine wpAny_truthy_bool ?_
  exact ⟨.bl (!b), H', I', rfl, by simpa using q⟩

/-! ### o == p, both of the class at C; the own __eq__ says which -/
def rEqO (C : Addr) (sp : Sp) (E : XK) : R2 := fun x y H Q => ∃ a dx fs b dy gs, x = V.ref a ∧ y = V.ref b ∧ H a = some (.ins C dx fs) ∧ H b = some (.ins C dy gs) ∧
  sp [.ref a, .ref b] H (fun v H' => ∃ k : Bool, v = .bl k ∧ Q (.bl k) H') E
theorem op_eqO (c : Own X.K C "__eq__" f) (F : FnR X.prog X.w X.K X.mg X.base CX k f sp) (hx : Passes CX X E) (hr : Room k X.A) : OpR X (compareOp .Eq) (rEqO C sp E) := by
  intro pins s σ H x y v u Q I rx ry h
  obtain ⟨a, dx, fs, b, dy, gs, rfl, rfl, ha, hb, hsp⟩ := h
  cases rx
  cases ry
  obtain ⟨mA, J, _⟩ := ins_get I.hok ha
  obtain ⟨mB, J', _⟩ := ins_get I.hok hb
  obtain ⟨od, J, _⟩ := J.look
  obtain ⟨od', J', _⟩ := J'.look
  obtain ⟨m, hF⟩ := I.fr
  show wpAny (model X.prog X.w) X.A (richCompare .Eq (.ref a) (.ref b)) (EP X pins σ Q) X.xe s
  refine PySem.W.cmp_K (op := .Eq) (tb := .ref C) hr.units0 hF I.ok.mod.kin J J'.type (by simp [PySem.W.notFirst]) c.at_ c.fn ?_
  refine wpAny_mono (run_sub (us := [.ref a, .ref b]) (vs := [V.ref a, V.ref b]) F ⟨hr, rfl⟩ hx I (.cons rfl (.cons rfl .nil)) hsp) (fun r s' hq => ?_) fun _ _ z => z
  obtain ⟨w', H', I', rv, b', rfl, q⟩ := hq
  cases rv
  exact ⟨.bl b', H', I', rfl, q⟩
end

/-! ### a tuple's iterator as a tracked thing -/
def TiO (t it : Addr) (i : Nat) : HO := .ext fun h => h.IsTupleIter it t i
theorem tiO_ok {P : Program} {w : World} {H : Hp} {h : Heap} {t it : Addr} {i : Nat} (e : h.IsTupleIter it t i) : ObjOk P w H h it (TiO t it i) :=
  ⟨e, (let ⟨o, ho, _⟩ := e; ⟨o, ho⟩), fun h1 h2 q k => q.at k⟩
section
variable {X : Cx} {pins : List (Addr × Obj)} {σ : L2.St} {H : Hp} {s : Shared} {t it : Addr} {i : Nat}
theorem tiO_get (I : Inv X pins σ H s) (e : H it = some (TiO t it i)) : s.heap.IsTupleIter it t i := (I.hok it _ e).1
end
section
variable {prog : Program} {w : World} {A : Around} {E : Value → Shared → Prop} {s : Shared} {t : Addr} {items : Array Value}
theorem call_iter_tup {Q : Value → Shared → Prop} (hl : s.heap.IsTuple t items) (h : Q (.ref s.heap.objs.size) { s with heap := s.heap.push { cls := .type "tuple_iterator", data := .fields #[.ref t, .int 0 0] } }) :
    wpAny (model prog w) A (call (.builtin "iter") [.ref t]) Q E s := by
  refine Calls.call_function_entry (by decide +kernel) (by decide +kernel) PySem.W.kdk_entry_iter (PySem.W.kdk_args_iter _) ?_
  unfold Builtin.«iter»
  refine wpAny_bind (m := someArgs "iter" 1 2 _) (wpAny_of_eq (a := [Value.ref t]) (by first | rfl | kernel_rfl!) ?_)
  show wpAny _ _ (pyIter (.ref t) >>= _) _ _ _
  refine wpAny_bind (wpAny_pyIter_tuple hl ?_)
  exact wpAny_pure ⟨_, rfl, h⟩
end
/-- iter(t), t a tuple: a new iterator, younger than the entry -/
def rIterT (K : PySem.W.Frag) (n : Nat) : List V → Hp → VK → Prop := fun xs H Q => ∃ (t : Addr) (zs : List V), xs = [V.ref t] ∧ SqT K H t zs ∧ ∀ it, H it = none → n ≤ it → Q (.ref it) (upd H it (TiO t it 0))
theorem call_iterT {X : Cx} : CallR X (.builtin "iter") (rIterT X.K X.s_0.heap.objs.size) := by
  intro pins s σ H xs us Q I r h
  obtain ⟨t, zs, rfl, hq, q⟩ := h
  obtain ⟨u, rfl, ru⟩ := r.one
  cases ru
  obtain ⟨its, rv, pl, hz⟩ := I.tuple hq
  refine call_iter_tup (show s.heap.IsTuple t its.toArray from pl) ?_
  exact ⟨.ref s.heap.objs.size, _, I.laid (t' := s.toks) (fun b u e => Heap.get?_push_of_some _ e) (Nat.le_refl _) (tiO_ok ⟨_, Heap.get?_push_size _ rfl, rfl, rfl⟩), rfl, q _ (I.hok.fresh (Nat.le_refl _)) I.sz⟩

/-! ### a def whose promise may speak of the heap's size at its entry -/
def FnS (P : Program) (w : World) (K : PySem.W.Frag) (mg : Str → Option Value) (base : Heap) (CX : CXT) (k : Nat) (f : Addr) (spN : Nat → Sp) : Prop :=
  ∀ (A : Around) (outer : List Env) (s : Shared) (H : Hp) (us : List Value) (vs : List V) (Q : VK) (E : XK), Room k A → Env0 P w K mg base A outer s H → Vals vs us → spN s.heap.objs.size vs H Q E →
    codeAny (model P w) A (.call (.ref f) ⟨us, []⟩) (CR CX outer P w H s Q E) s
theorem fn_ofS {CX : CXT} {P : Program} {w : World} {K : PySem.W.Frag} {mg : Str → Option Value} {base : Heap} {k : Nat} {f : Addr} {name qual : Str} {params : Arguments} {body : List Stmt} {scope : Scope} {dV kV doc pm cdv ct oc : Value} {an od : Option Addr}
    {osl : Array (Option Value)} {N ps : List Str} {spN : Nat → Sp} (lk : K.lookup f = some ⟨oc, od, .func (PySem.W.fnOf name qual params body scope dV kV doc pm an cdv ct), osl⟩) (hcd : PySem.W.codeIn K cdv qual = true) (S : FnScope N ps scope)
    (hbd : Binds K (PySem.W.fnOf name qual params body scope dV kV doc pm an cdv ct) ps [])
    (len : ∀ n vs H Q E, spN n vs H Q E → vs.length = ps.length)
    (hbody : ∀ (A : Around) (outer : List Env) (s : Shared) (H : Hp) (vs : List V) (Q : VK) (E : XK), Room k (A.deeper (envOfC qual scope s.heap.objs.size f cdv)) → spN s.heap.objs.size vs H Q E →
      ∃ t, PSs (cxOf CX P w K mg base N qual scope f cdv A outer s H E) body t ∧ t { nx := fun _ H' => Q .non H', rt := Q } (start N vs) H) :
    FnS P w K mg base CX (k + 1) f spN := by
  intro A outer s H us vs Q E hr e0 r hsp
  have below : ∀ b o, base.get? b = some o → s.heap.get? b = some o := fun b o z => (e0.bs b o z).1
  have KX := e0.mod.kin.keeps below
  have nl := len _ _ _ _ _ hsp
  have cellsOf : ∀ y ∈ ps.zip us, scope.names.lookup y.1 = some .local ∨
      (scope.names.lookup y.1 = some .cell ∧ ((cellsFrom (s.heap.objs.size + 1) scope.names []).lookup y.1).isSome = true) := by
    rintro ⟨n, v⟩ hy
    exact (S.par n (List.of_mem_zip hy).1).imp id fun q => ⟨q, PySem.W.cellsFrom_some _ _ _ (.inl q)⟩
  have hb : BindsTo s (PySem.W.fnOf name qual params body scope dV kV doc pm an cdv ct) ⟨us, []⟩ (ps.zip us) := by
    have z := hbd s us KX (by rw [List.append_nil, ← r.length, nl])
    simpa using z
  refine codeAny_call_function hr.depth (KX _ _ lk) rfl S.co S.gen rfl
    (PySem.W.codeRec_of KX hcd) (hb _ _ _ _ ?_)
  refine wpAny_newFunctionEnv_cells S.kind cellsOf
    fun env he s1 x => ?_
  cases he
  refine ⟨(e0.mod.nolimit.keeps below).keeps x.toInCall.keep, codeAny_func ?_⟩
  obtain ⟨t, ht, hq⟩ := hbody A outer s H vs Q E
    (hr.deeper _) hsp
  have I : Inv (cxOf CX P w K mg base N qual scope f cdv A outer s H E)
      [] (L2.start N vs) H s1 :=
    inv_start S hr.hd e0 nl r x
  refine wpAny_mono (ht.run [] s1 (start N vs) H _ I hq)
    (fun fl s' hs => ?_) fun _ _ z => z
  cases fl with
  | ret u => exact (let ⟨v, σ', H', J, rv, q⟩ := hs; ⟨v, H', J.os, J.bare, J.base, J.hok, rv, q⟩)
  | next => exact (let ⟨σ', H', J, q⟩ := hs; ⟨V.non, H', J.os, J.bare, J.base, J.hok, rfl, q⟩)
  | brk => exact (let ⟨_, _, _, q⟩ := hs; False.elim q)
  | cont => exact (let ⟨_, _, _, q⟩ := hs; False.elim q)
/-- what __iter__ of the class promises: P says which tuple -/
def spIterN (P : Addr → Addr → Hp → Prop) (K : PySem.W.Frag) (n : Nat) : Sp := fun vs H Q _ => ∃ a t, vs = [V.ref a] ∧ P a t H ∧ ∀ it, H it = none → n ≤ it → Q (.ref it) (upd H it (TiO t it 0))
/-- own things that hand back a tuple's iterator -/
structure OwnI (X : Cx) (CX : CXT) (C f : Addr) (k : Nat) (P : Addr → Addr → Hp → Prop) : Prop where
  own : Own X.K C "__iter__" f
  run : FnS X.prog X.w X.K X.mg X.base CX k f (spIterN P X.K)
section
variable {X : Cx} {pins : List (Addr × Obj)} {σ : L2.St} {H : Hp} {s : Shared} {CX : CXT} {k : Nat} {f C : Addr} {E : XK} {P : Addr → Addr → Hp → Prop}
/-- the iterator comes: it is forgotten at once, and may turn -/
theorem iter_own {A1 : Around} {a t dx : Addr} {fs : List (Str × V)} {Q : Value → Shared → Prop} (o : OwnI X CX C f k P) (sb : Sub X k A1) (hx : Passes CX X E) (I : Inv X pins σ H s) (ha : H a = some (.ins C dx fs)) (hP : P a t H)
    (h : ∀ it s', Inv X pins σ H s' → s'.heap.IsTupleIter it t 0 → FpOk X pins H it → Q (.ref it) s') : wpAny (model X.prog X.w) A1 (pyIter (.ref a)) Q X.xe s := by
  obtain ⟨mA, J, _⟩ := ins_get I.hok ha
  obtain ⟨od, J, _⟩ := J.look
  obtain ⟨m, hF⟩ := I.fr
  refine PySem.W.owit_iter hF I.ok.mod.kin J o.own.at_ o.own.fn ?_
  have e0 : Env0 X.prog X.w X.K X.mg X.base A1 X.stack s H := by
    have e := I.env0
    exact ⟨by rw [sb.fr]; exact e.frames, e.mod, e.bs, e.bsz, e.funs, e.frf, e.hok, e.bare⟩
  have r2 : Vals [V.ref a] [Value.ref a] := .cons rfl .nil
  have hsp : spIterN P X.K s.heap.objs.size [V.ref a] H (fun v H' => ∃ it, v = .ref it ∧ H it = none ∧ s.heap.objs.size ≤ it ∧ H' = upd H it (TiO t it 0)) E :=
    ⟨a, t, rfl, hP, fun it n g => ⟨it, rfl, n, g, rfl⟩⟩
  refine wpAny_call (codeAny_mono (o.run A1 X.stack s H [.ref a] [.ref a] _ E sb.room e0 r2 hsp) fun r s' hq => ?_)
  cases r with
  | error e => exact hx pins σ H s e s' I hq
  | ok fl =>
    cases fl with
    | next => exact False.elim hq
    | brk => exact False.elim hq
    | cont => exact False.elim hq
    | ret u =>
      obtain ⟨v, H', I', rv, it, ev, hn, hg, eH⟩ := I.after hq
      subst ev
      cases rv
      rw [eH] at I'
      have st := tiO_get I' upd_same
      have hT : s'.TypeIs (.ref it) "tuple_iterator" := (let ⟨o, ho, hc, _⟩ := st; ⟨o, ho, hc⟩)
      have hd : (upd H it (TiO t it 0)) it = some (.ext fun h => h.IsTupleIter it t 0) := upd_same
      have I2 := ItX.inv_drop I' hd
      have fp := ItX.inv_fp I' hd (Nat.le_trans I.sz hg)
      rw [ItX.dropH_upd hn] at I2 fp
      show wpAny _ _ (specialOf (.ref it) "__next__") _ _ _
      exact wpAny_specialOf hT slot_tupleiter_next.lookup (h it s' I2 st fp)
/-- for x in o; a comprehension over o -/
def iOwnI (K : PySem.W.Frag) (C : Addr) (P : Addr → Addr → Hp → Prop) (te : TE) : TI := fun σ H R => te σ H fun x H1 => ∃ a t dx fs, x = V.ref a ∧ H1 a = some (.ins C dx fs) ∧ P a t H1 ∧ R (Itt K t) H1
theorem pi_ownI {tg e : Expr} {te : TE} (he : PE X e te) (o : OwnI X CX C f k P) (hx : Passes CX X E) (hr : Room k X.A) : PI X tg e (iOwnI X.K C P te) := by
  refine ⟨fun pins s σ H R I h => ?_⟩
  refine thn (he.run pins s σ H _ I h) fun v s1 ⟨x, H1, I1, r1, q1⟩ => ?_
  obtain ⟨a, t, dx, fs, rfl, ha, hP, q⟩ := q1
  cases r1
  refine iter_own (E := E) o ⟨hr, rfl⟩ hx I1 ha hP fun it s' I2 st fp => ?_
  exact ⟨it, [it], _, Itt X.K t, H1, rfl, I2, turn_tuple t it, st, fun b hb => by
    have e : b = it := by simpa using hb
    subst e
    exact fp, q⟩
end

/-! ### list(o) -/
section
variable {X : Cx} {pins : List (Addr × Obj)} {σ : L2.St} {H : Hp} {s : Shared} {CX CXl : CXT} {k kl : Nat} {f g C t it q : Addr} {E El : XK} {P : Addr → Addr → Hp → Prop} {A1 : Around} {xs : List V} {spl : Sp}
theorem tup_loop {Rs : Result → Shared → Prop} (hh : A1.in1.handled = none) (hdone : ∀ s, Inv X pins σ (upd H q (.lst xs)) s → Rs (.ok (.ret .none)) s) (ht : SqT X.K H t xs) (hq : H q = none)
    (hfp : ∀ b, b = it → FpOk X pins (upd H q (.lst [])) b) :
    ∀ (m i : Nat) (s : Shared), m = xs.length - i → i ≤ xs.length → Inv X pins σ (upd H q (.lst (xs.take i))) s → s.heap.IsTupleIter it t i →
      codeAny (model X.prog X.w) A1 (.builtin "list.extend.loop" ⟨[.ref q, .ref it, .none], []⟩) Rs s := by
  have hqt : ∀ {ys : List V}, SqT X.K (upd H q (.lst ys)) t xs := fun {ys} => SqT.ext ht fun a o z => by
    rw [upd_ne (ne_of_none z hq)]
    exact z
  have nq : it ≠ q := fun z => by
    have z2 := (hfp it rfl).1
    rw [z, upd_same] at z2
    cases z2
  have fpn : ∀ ys, FpOk X pins (upd H q (.lst ys)) it := fun ys => by
    obtain ⟨f0, f1⟩ := hfp it rfl
    refine ⟨?_, f1⟩
    rw [upd_ne nq] at f0 ⊢
    exact f0
  intro m
  induction m with
  | zero =>
    intro i s hm hi I st
    have hi' : i = xs.length := by omega
    subst hi'
    refine codeAny_builtin PySem.F.entry_extend_loop ?_
    rw [Around.under_plainId PySem.F.plain_extend_loop _]
    show wpAny _ A1.in1 (pyNext (.ref it) >>= _) _ _ s
    obtain ⟨its, rv, pl, hz⟩ := I.tuple hqt
    obtain ⟨f0, f1, f2, f3, f4, f5⟩ := fpn (xs.take xs.length)
    have hl := rv.length
    refine wpAny_bind (wpAny_pyNext_tuple_end hh st (show s.heap.IsTuple t its.toArray from pl) (by simp; omega) fun h' eb => ?_)
    refine wpAny_pure (hdone _ ?_)
    have I2 : Inv X pins σ _ { s with heap := h' } := I.turned (t' := s.toks) (fun b o hb e => eb b o hb e) f0 f1 f3 f4 f5
    rw [List.take_length] at I2
    exact I2
  | succ m ih =>
    intro i s hm hi I st
    have hlt : i < xs.length := by omega
    refine codeAny_builtin PySem.F.entry_extend_loop ?_
    rw [Around.under_plainId PySem.F.plain_extend_loop _]
    show wpAny _ A1.in1 (pyNext (.ref it) >>= _) _ _ s
    obtain ⟨its, rv, pl, hz⟩ := I.tuple hqt
    obtain ⟨f0, f1, f2, f3, f4, f5⟩ := fpn (xs.take i)
    obtain ⟨u, hu, ru⟩ := rv.get (List.getElem?_eq_getElem hlt)
    refine wpAny_bind (wpAny_pyNext_tuple_item st (show s.heap.IsTuple t its.toArray from pl) (x := u) (by simpa using hu) fun h' st' sb => ?_)
    have I1 : Inv X pins σ (upd H q (.lst (xs.take i))) { s with heap := h' } := I.turned (t' := s.toks) (fun b o hb e => (sb.2 b hb).trans e) f0 f1 f3 f4 f5
    show wpAny _ A1.in1 (updateSeq q (·.push u) >>= _) _ _ _
    obtain ⟨z, its2, k2, r2, hl2, e2⟩ := I1.lstM upd_same
    have hlen : (xs.take i).length < sizeLine := by rw [List.length_take]; omega
    refine wpAny_bind (wpAny_updateSeq e2 rfl (wpAny_pure ⟨plainId_quiet PySem.F.plain_extend_loop _, ?_⟩) (by rw [List.size_toArray]; omega) (by show (its2.toArray.push u).size ≤ sizeLine + 1; rw [Array.size_push, List.size_toArray]; omega))
    have I3 := I1.lset (f := (·.push u)) (its' := its2 ++ [u]) (t' := s.toks) upd_same e2 (by simp) (r2.append (.cons ru .nil)) (by rw [List.length_append, List.length_singleton]; omega)
    rw [upd_upd] at I3
    have et : xs.take i ++ [xs[i]] = xs.take (i + 1) := by rw [List.take_add_one, List.getElem?_eq_getElem hlt]; rfl
    rw [et] at I3
    refine ih (i + 1) _ (by omega) (by omega) I3 ?_
    obtain ⟨o, ho, hc, hd⟩ := st'
    exact ⟨o, (Heap.get?_update_other h' _ (Ne.symm nq)).trans ho, hc, hd⟩
/-- room is made by the own length -/
theorem hint_own {a dx : Addr} {fs : List (Str × V)} {Q : Bool → Shared → Prop} (c : Own X.K C "__len__" g) (F : FnR X.prog X.w X.K X.mg X.base CX0 kl g spl) (sb : Sub X (kl + 1) A1) (I : Inv X pins σ H s) (ha : H a = some (.ins C dx fs))
    {n : Nat} (hn : n ≤ sizeLine) (hsp : spl [.ref a] H (fun v H' => ∃ k : Int, v = .int k ∧ (0 ≤ k ∧ k < 2 ^ 63) ∧ k = n ∧ H' = H) El)
    (h : ∀ b s', Inv X pins σ H s' → Q b s') : wpAny (model X.prog X.w) A1 (Builtin.List.listLengthHint (.ref a)) Q X.xe s := by
  obtain ⟨mA, J, _⟩ := ins_get I.hok ha
  obtain ⟨od, J, _⟩ := J.look
  have hK := I.kIn
  unfold Builtin.List.listLengthHint
  refine wpAny_bind (wpAny_bind (J.type.here ((PySem.W.looks_findIn hK c.at_).here ?_)))
  refine PySem.W.KFB.if_not rfl ?_
  refine PySem.W.KFB.if_so rfl ?_
  refine wpAny_bind (wpAny_rule ?_)
  refine wpAny_bind (wpAny_attempt ?_)
  have J0 : Inv X.nox pins σ H s := I.wish _
  have q := call_lenO_at (X := X.nox) (E := El) (Q := fun v H' => v = .int n ∧ H' = H) (A1 := A1) c F (fun _ _ _ _ _ _ _ z => False.elim z) ⟨sb.room, sb.fr⟩ J0 ha (by simpa using hsp)
  refine wpAny_mono q (fun r s' hq => ?_) fun _ _ z => False.elim z
  obtain ⟨v, H', I', rv, rfl, rfl⟩ := hq
  obtain ⟨t, rfl⟩ := rv
  refine wpAny_bind (wpAny_pure ?_)
  refine PySem.W.KFB.if_not (by unfold Builtin.List.listTooLong; simp; omega) ?_
  exact wpAny_pure (h _ _ I'.unwish)
/-- a list's first filling by such a thing -/
theorem extend_own {Rs : Result → Shared → Prop} {a dx : Addr} {fs : List (Str × V)} (o : OwnI X CX C f k P) (hx : Passes CX X E) (c : Own X.K C "__len__" g) (F : FnR X.prog X.w X.K X.mg X.base CX0 kl g spl)
    (sb : Sub X k A1.in1) (sbl : Sub X (kl + 1) A1.in1) (ht : SqT X.K H t xs) (hq : H q = none) (hqn : X.s_0.heap.objs.size ≤ q) (ha : H a = some (.ins C dx fs)) (hP : P a t (upd H q (.lst [])))
    (hsp : ∀ H, (∃ dx fs, H a = some (.ins C dx fs)) → P a t H → spl [.ref a] H (fun v H' => ∃ k : Int, v = .int k ∧ (0 ≤ k ∧ k < 2 ^ 63) ∧ k = xs.length ∧ H' = H) El)
    (hdone : ∀ s, Inv X pins σ (upd H q (.lst xs)) s → Rs (.ok (.ret .none)) s) (herr : ∀ e s, X.xe e s → Rs (.error e) s) (I : Inv X pins σ (upd H q (.lst [])) s) :
    wpAny (model X.prog X.w) A1.in1 (Builtin.List.listExtendWith (.ref q) (.ref a) .none)
      (fun fin s' => match fin with | .done f => Rs (.ok f) s' | .again c' => c'.quiet = true ∧ codeAny (model X.prog X.w) A1 c' Rs s') (fun e s' => Rs (.error e) s') s := by
  have hne : q ≠ a := fun z => by rw [← z, hq] at ha; cases ha
  have ha2 : upd H q (.lst []) a = some (.ins C dx fs) := by rw [upd_ne (Ne.symm hne)]; exact ha
  obtain ⟨mA, J, _⟩ := ins_get I.hok ha2
  obtain ⟨od, J, _⟩ := J.look
  have htq : SqT X.K (upd H q (.lst [])) t xs := SqT.ext ht fun b u z => by
    rw [upd_ne (ne_of_none z hq)]
    exact z
  obtain ⟨_, _, _, hz⟩ := I.tuple htq
  unfold Builtin.List.listExtendWith
  refine wpAny_bind (J.type.here ?_)
  simp only [show Builtin.List.listSameRef (.ref q) (.ref a) = false by simp [Builtin.List.listSameRef, hne], show (Value.ref C == Value.type "list") = false from rfl, show (Value.ref C == Value.type "tuple") = false from rfl, Bool.or_false, Bool.false_eq_true, if_false]
  refine wpAny_bind (wpAny_mono (iter_own (E := E) (Q := fun v s' => ∃ it, v = .ref it ∧ Inv X pins σ (upd H q (.lst [])) s' ∧ s'.heap.IsTupleIter it t 0 ∧ FpOk X pins (upd H q (.lst [])) it) o sb hx I ha2 hP
    fun it s' I' st fp => ⟨it, rfl, I', st, fp⟩) (fun v s' hv => ?_) herr)
  obtain ⟨it, rfl, I', st, fp⟩ := hv
  have I1 := I'.pinned (fp := [it]) (fun b hb => by
    have e : b = it := by simpa using hb
    subst e
    exact fp) (fun b hb => by
    have e : b = it := by simpa using hb
    subst e
    obtain ⟨oo, ho, hc, hd⟩ := st
    exact ⟨oo, ho, fun v z => by rw [hd] at z; cases z⟩)
  refine wpAny_bind (wpAny_holding (hint_own (Q := fun b s2 => Inv X pins σ (upd H q (.lst [])) s2 ∧ s2.heap.IsTupleIter it t 0) c F sbl I1 ha2 hz (hsp _ ⟨_, _, ha2⟩ hP) fun b s2 I2 => ⟨I2.unpinned, by
    obtain ⟨oo, ho, hc, hd⟩ := st
    exact ⟨oo, (I2.pin (it, oo) (List.mem_append_right _ (List.mem_append_right _ (mem_pinsAt (by simp) ho)))).1, hc, hd⟩⟩) |> fun w => wpAny_mono w (fun b s2 h2 => ?_) herr)
  obtain ⟨I2, st2⟩ := h2
  have loop : ∀ s3, Inv X pins σ (upd H q (.lst [])) s3 → s3.heap.IsTupleIter it t 0 → codeAny (model X.prog X.w) A1 (.builtin "list.extend.loop" ⟨[.ref q, .ref it, .none], []⟩) Rs s3 := fun s3 I3 st3 =>
    tup_loop (q := q) sb.room.hd hdone ht hq (fun b hb => by rw [hb]; exact fp) (xs.length - 0) 0 s3 rfl (Nat.zero_le _) I3 st3
  have nq : it ≠ q := fun z => by
    have z2 := fp.1
    rw [z, upd_same] at z2
    cases z2
  obtain ⟨z, its, k2, r3, hl3, e3⟩ := I2.lstM upd_same
  cases r3
  refine wpAny_ite_split (fun _ => ?_) (fun _ => wpAny_pure ⟨plainId_quiet PySem.F.plain_extend_loop _, loop _ I2 st2⟩)
  refine wpAny_bind (wpAny_rule ?_)
  refine wpAny_bind ?_
  show wpAny _ _ (updateSeq q (·.push .none) >>= fun _ => updateSeq q (·.pop)) _ _ _
  refine wpAny_bind (wpAny_updateSeq e3 rfl ?_)
  have I4 := I2.lset (f := (·.push Value.none)) (its' := [Value.none]) (ys := [.non]) (t' := s2.toks) upd_same e3 (by simp) (.cons rfl .nil) (by rw [List.length_singleton, sizeLine_eq]; decide)
  rw [upd_upd] at I4
  obtain ⟨z4, its4, k4, r4, hl4, e4⟩ := I4.lstM upd_same
  obtain ⟨u4, rfl, ru4⟩ := r4.one
  refine wpAny_updateSeq e4 rfl ?_ (by show 1 ≤ sizeLine; rw [sizeLine_eq]; decide) (by show 0 ≤ sizeLine + 1; exact Nat.zero_le _)
  have I5 := I4.lset (f := (·.pop)) (its := [u4]) (its' := []) (ys := []) (t' := s2.toks) upd_same e4 (by rfl) .nil (Nat.zero_le _)
  rw [upd_upd] at I5
  refine wpAny_pure ⟨plainId_quiet PySem.F.plain_extend_loop _, loop _ I5 ?_⟩
  obtain ⟨oo, ho, hc, hd⟩ := st2
  exact ⟨oo, (Heap.get?_update_other _ _ (Ne.symm nq)).trans ((Heap.get?_update_other _ _ (Ne.symm nq)).trans ho), hc, hd⟩
/-- list(o) -/
def rListO (K : PySem.W.Frag) (C : Addr) (P : Addr → Addr → Hp → Prop) (spl : Sp) (El : XK) : List V → Hp → VK → Prop := fun vs H Q => ∃ a dx fs t xs, vs = [V.ref a] ∧ H a = some (.ins C dx fs) ∧ SqT K H t xs ∧
  (∀ q, H q = none → P a t (upd H q (.lst []))) ∧ (∀ H, (∃ dx fs, H a = some (.ins C dx fs)) → P a t H → spl [.ref a] H (fun v H' => ∃ k : Int, v = .int k ∧ (0 ≤ k ∧ k < 2 ^ 63) ∧ k = xs.length ∧ H' = H) El) ∧
  ∀ q, H q = none → Q (.ref q) (upd H q (.lst xs))
theorem call_listO (o : OwnI X CX C f k P) (hx : Passes CX X E) (c : Own X.K C "__len__" g) (F : FnR X.prog X.w X.K X.mg X.base CX0 kl g spl) (hr : Room (k + 2) X.A) (hrl : Room (kl + 3) X.A) : CallR X (.type "list") (rListO X.K C P spl El) := by
  intro pins s σ H vs us Q I rv h
  obtain ⟨a, dx, fs, t, xs, rfl, ha, ht, hP, hsp, hQ⟩ := h
  obtain ⟨u, rfl, ru⟩ := rv.one
  cases ru
  have sb : Sub X k X.A.in1.in1 := Sub.in1 (Sub.in1 (⟨hr, rfl⟩ : Sub X (k + 2) X.A))
  have sbl : Sub X (kl + 1) X.A.in1.in1 := Sub.in1 (Sub.in1 (⟨hrl, rfl⟩ : Sub X (kl + 3) X.A))
  refine callType_codes (Q₁ := fun obj s₁ => obj = .ref s.heap.objs.size ∧ s₁ = { s with heap := s.heap.push { cls := .type "list", data := .seq #[] } }) PySem.F.called_list (PySem.F.typeCall_list_1 _) PySem.F.entry_list_init
    (code_list_new _ ⟨rfl, rfl⟩) fun obj s₁ h₁ => ?_
  obtain ⟨rfl, rfl⟩ := h₁
  have hS : (s.heap.push { cls := .type "list", data := .seq #[] }).get? s.heap.objs.size = some { cls := .type "list", data := .seq #[] } := Heap.get?_push_size _ rfl
  refine ⟨⟨_, hS, rfl⟩, PySem.F.args_list_init_2 _ _, ?_⟩
  have fr : H s.heap.objs.size = none := I.hok.fresh (Nat.le_refl _)
  have I1 : Inv X pins σ (upd H s.heap.objs.size (.lst [])) { s with heap := s.heap.push { cls := .type "list", data := .seq #[] } } := I.lnew (its := []) (t' := s.toks) .nil (Nat.zero_le _)
  show wpAny _ _ (do let old ← Builtin.List.listItems (.ref s.heap.objs.size); Builtin.List.listUpdate (.ref s.heap.objs.size) (fun _ => #[]); letGo old.toList.reverse; Builtin.List.listExtendWith (.ref s.heap.objs.size) (.ref a) .none) _ _ _
  refine wpAny_bind ?_
  unfold Builtin.List.listItems
  refine wpAny_bind (wpAny_seqItems hS rfl (wpAny_pure ?_))
  show wpAny _ _ (updateSeq s.heap.objs.size (fun _ => #[]) >>= fun _ => letGo (#[] : Array Value).toList.reverse >>= fun _ => Builtin.List.listExtendWith (.ref s.heap.objs.size) (.ref a) .none) _ _ _
  refine wpAny_bind (wpAny_updateSeq hS rfl ?_)
  have I2 := I1.lset (f := fun _ => #[]) (its := []) (its' := []) (ys := []) (t' := s.toks) upd_same hS rfl .nil (Nat.zero_le _)
  rw [upd_upd] at I2
  refine wpAny_bind (wpAny_letGo ?_)
  exact extend_own (A1 := X.A.in1) (El := El) (Rs := wants (fun r s₂ => r = .none ∧ EP X pins σ Q (.ref s.heap.objs.size) s₂) X.xe) o hx c F sb sbl ht fr I.sz ha (hP _ fr) hsp
    (fun s' I' => ⟨rfl, .ref s.heap.objs.size, _, I', rfl, hQ _ fr⟩) (fun e s' he => he) I2
end
end DK

/-! len(set(t)) of a tuple of ints; a new instance within a try -/
namespace DK
open PySem PySem.Spec PyProof.Rows L2 StX

theorem mem_len : ∀ (ks ns : List Int), ks.Nodup → (∀ k, k ∈ ks → k ∈ ns) → ks.length ≤ ns.length
  | [], _, _, _ => Nat.zero_le _
  | k :: ks, ns, hn, h => by
    have h1 : k ∈ ns := h k List.mem_cons_self
    have h2 := mem_len ks (ns.erase k) (List.nodup_cons.mp hn).2 fun j hj => (List.mem_erase_of_ne fun e => (List.nodup_cons.mp hn).1 (by rw [← e]; exact hj)).mpr (h j (List.mem_cons_of_mem _ hj))
    rw [List.length_erase_of_mem h1] at h2
    have : 0 < ns.length := List.length_pos_of_mem h1
    simp only [List.length_cons]
    omega
theorem nodup_len {ks ns : List Int} (hk : ks.Nodup) (h : ∀ k, k ∈ ks ↔ k ∈ ns) : ks.length = ns.length ↔ ns.Nodup := by
  refine ⟨fun e => ?_, fun hn => Nat.le_antisymm (mem_len _ _ hk fun k => (h k).mp) (mem_len _ _ hn fun k => (h k).mpr)⟩
  apply Decidable.byContradiction
  intro hn
  have : ∃ k rest, ns.Perm (k :: k :: rest) := by
    clear h e hk
    induction ns with
    | nil => exact absurd List.nodup_nil hn
    | cons a r ih =>
      by_cases ha : a ∈ r
      · exact ⟨a, r.erase a, (List.perm_cons_erase ha).cons a⟩
      · obtain ⟨k, rest, p⟩ := ih fun z => hn (List.nodup_cons.mpr ⟨ha, z⟩)
        exact ⟨k, a :: rest, (p.cons a).trans ((List.Perm.swap k a (k :: rest)).trans ((List.Perm.swap k a rest).cons k))⟩
  obtain ⟨k, rest, p⟩ := this
  have := mem_len ks (k :: rest) hk fun j hj => by
    have := p.mem_iff.mp ((h j).mp hj)
    simpa using this
  have := p.length_eq
  simp only [List.length_cons] at *
  omega
def tLenSetT (K : PySem.W.Frag) (ta : TE) : TE := fun σ H Q => ta σ H fun x H1 => ∃ (l : Addr) (ns : List Int), x = V.ref l ∧ SqT K H1 l (ns.map V.int) ∧ ns.length ≤ 1000 ∧ ∀ c : Nat, (c = ns.length ↔ ns.Nodup) → Q (.int c) H1
theorem pe_lenSetT {X : Cx} {a : Expr} {ta : TE} {p p2 q pos : Pos} (hc : X.calm = true) (hg : Gl X "len") (hm : X.mg "len" = none) (hg2 : Gl X "set") (hm2 : X.mg "set" = none) (ha : PE X a ta)
    (na : starEach [a] X.env = (false, eval a X.env) :: starEach [] X.env := by rfl) : PE X (.Call (.Name "len" p) [.Call (.Name "set" p2) [a] [] q] [] pos) (tLenSetT X.K ta) := by
  refine ⟨fun pins s σ H Q I h => ?_⟩
  refine Call_ (ld_blt I hg hm PySem.boot_len ?_)
  refine PyProof.Rows.callWith_builtin1 (PyProof.Rows.args_cons ?_ rfl) rfl rfl
  refine Call_ (ld_blt I hg2 hm2 PyProof.Rows.boot_set ?_)
  refine PyProof.Rows.callWith_type1 (PyProof.Rows.args_cons (thn (ha.run pins s σ H _ I h) fun v s1 ⟨x, H1, I1, r1, l, ns, ex, hq, hl, q1⟩ => PyProof.Rows.args_nil ?_) na) na rfl
  subst ex
  cases r1
  obtain ⟨its, rv, pt, hz⟩ := I1.tuple hq
  refine call_set_tupI ns (I1.ok.hd hc) (show s1.heap.IsTuple l its.toArray from pt) (ints_of_vals rv) (by unfold scanBound; omega) fun h' tk c R1 hcn k => ?_
  obtain ⟨o, es, ep, t, ho, hex, hdt, g, nd, hm3, hb, hf, hn, hr, hl2⟩ := R1
  have I2 : Inv X pins σ H1 { s1 with heap := h', toks := tk } := I1.kept k
  refine PyProof.Rows.args_nil ?_
  have hsz : (es.toList.map keyOf).length = es.size := by simp
  have key := nodup_len (ns := ns) nd fun j => (hm3 j).symm.trans (by simp)
  rw [hsz] at key
  have small : es.size ≤ ns.length := by omega
  exact call_len_set ho hex hdt hf (by omega) ⟨.int es.size, H1, I2.tok _, ⟨_, rfl⟩, q1 _ key⟩
/-- C(e, ..) where what is raised is wished for at the maker's slots -/
def tMakeS (C : Addr) (sp : Sp) (E : L2.St → XK) (t : TA) : TE := fun σ H Q => t σ H fun vs H1 => ∀ x dx, H1 x = Option.none → H1 dx = Option.none → dx ≠ x →
  sp (V.ref x :: vs) (upd (upd H1 dx (.own x)) x (.ins C dx [])) (fun v H2 => v = .non ∧ Q (.ref x) H2) (E σ)
section
variable {X : Cx} {CX : CXT} {k : Nat} {f C : Addr} {sp : Sp} {E : L2.St → XK} {x : Str} {e : Expr} {es : List Expr} {t : TA} {p pos : Pos}
theorem pe_makeS (M : Mk X.K C f) (F : FnR X.prog X.w X.K X.mg X.base CX k f sp) (hr : Room (k + 1) X.A) (hg : Gl X x) (hm : X.mg x = some (.ref C)) (hx : ∀ σ, PassesAt CX X σ (E σ)) (ha : PA X (e :: es) t) (hdb : (x == ("__debug__" : Str)) = false := by decide)
    (he : starEach (e :: es) X.env = (false, eval e X.env) :: starEach es X.env := by rfl) (hpl : (backTo pos (starEach es X.env)).any (·.1) = false := by rfl) : PE X (.Call (.Name x p) (e :: es) [] pos) (tMakeS C sp E t) := by
  refine ⟨fun pins s σ H Q I h => ?_⟩
  refine wpAny_Call_Name_kw (ld_glob I hg hm ?_ hdb)
  refine PySem.W.callWith_K (h₀ := X.base) I.ok.mod.kin M.kp (thn (ha.run pos pins s σ H _ I h) fun us s1 ⟨vs, H1, I1, r, h1⟩ => ⟨I1.kIn, ?_⟩) he hpl
  have hq := h1 (s1.heap.objs.size + 1) s1.heap.objs.size (I1.hok.fresh (Nat.le_succ _)) (I1.hok.fresh (Nat.le_refl _)) (Nat.ne_of_lt (Nat.lt_succ_self _))
  have I2 := Inv.made (C := C) I1
  have r2 : Vals (V.ref (s1.heap.objs.size + 1) :: vs) (Value.ref (s1.heap.objs.size + 1) :: us) := .cons rfl r
  refine wpAny_call (make_map (f := f) I1.kIn M.makes M.init (beq_iff_eq.mp M.fn) (codeAny_mono (F _ X.stack _ _ (Value.ref (s1.heap.objs.size + 1) :: us) _ _ (E σ) (hr.make C us []) (I2.env0.make C us []) r2 hq) fun r s' hq' => ?_))
  cases r with
  | error e => exact hx σ pins _ _ e s' I2 hq'
  | ok fl =>
    cases fl with
    | ret u =>
      obtain ⟨v, H', I3, rv, ev, q3⟩ := I2.after hq'
      subst ev
      exact ⟨rv, ⟨V.ref (s1.heap.objs.size + 1), H', I3, rfl, q3⟩⟩
    | next => exact False.elim hq'
    | brk => exact False.elim hq'
    | cont => exact False.elim hq'
end
end DK

namespace R1
open PySem PySem.Spec PyProof.Rows L2 RK
local macro_rules | `(tactic| walk_at "sq") => `(tactic| first
  | exact SqL.of upd_same | exact upd_same | exact SqL.of (by assumption) | exact SqL.of (by rw [upd_ne (by assumption)]; assumption) | assumption)
local macro_rules | `(tactic| walk_at "sd") => `(tactic| first
  | assumption | omega | (refine Or.inl ⟨?_, ?_⟩ <;> omega) | (show _ ∧ _; constructor <;> omega) | (show _ ≠ _; simp; omega) | (exact Or.inl ⟨by decide, by decide⟩) | (exact Or.inr ⟨by decide, by decide⟩) | (show _ < _; decide) | (show _ ≤ _; decide))
local macro_rules | `(tactic| walk_at "at") => `(tactic| first | rfl | (refine atI_intV ?_ ?_ <;> omega) | assumption)
local macro_rules | `(tactic| walk_at "s1") => `(tactic| first
  | refine ⟨_, rfl, ?_⟩ | refine ⟨_, _, rfl, rfl, ?_⟩ | refine ⟨rfl, ?_⟩
  | refine ⟨_, _, _, _, rfl, rfl, by walk_at "sq", by walk_at "at", ?_⟩
  | refine Or.inl ⟨_, rfl, ?_⟩
  | refine ⟨_, _, rfl, Or.inl (by walk_at "sq"), ?_⟩
  | refine And.intro (by walk_at "sd") ?_)
local macro_rules | `(tactic| walk_at "s") => `(tactic| repeat walk_at "s1")

def topS (i : Nat) : Stmt := PySem.Challenge.pw_romwright_k28_lets_and_rings.main.body.getD i (.Pass ⟨0, 0, 0, 0⟩)
abbrev s_ascending : Stmt := topS 3
abbrev N_ascending : List Str := ["rows", "counts", "row", "_"]
theorem sc_ascending : FnScope N_ascending ["rows"] (defScope s_ascending) := ⟨rfl, rfl, rfl, by decide +kernel, rfl, by decide +kernel, by decide +kernel⟩
abbrev s_names_in : Stmt := topS 8
abbrev N_names_in : List Str := ["tree", "names", "part"]
theorem sc_names_in : FnScope N_names_in ["tree"] (defScope s_names_in) := ⟨rfl, rfl, rfl, by decide +kernel, rfl, by decide +kernel, by decide +kernel⟩
abbrev s_within : Stmt := topS 9
abbrev N_within : List Str := ["number"]
theorem sc_within : FnScope N_within ["number"] (defScope s_within) := ⟨rfl, rfl, rfl, by decide +kernel, rfl, by decide +kernel, by decide +kernel⟩
abbrev s_value : Stmt := topS 10
abbrev N_value : List Str := ["tree", "facts", "op", "part", "parts"]
theorem sc_value : FnScope N_value ["tree", "facts"] (defScope s_value) := ⟨rfl, rfl, rfl, by decide +kernel, rfl, by decide +kernel, by decide +kernel⟩
abbrev s_truth : Stmt := topS 11
abbrev N_truth : List Str := ["thing"]
theorem sc_truth : FnScope N_truth ["thing"] (defScope s_truth) := ⟨rfl, rfl, rfl, by decide +kernel, rfl, by decide +kernel, by decide +kernel⟩
abbrev s_result : Stmt := topS 12
abbrev N_result : List Str := ["op", "left", "right"]
theorem sc_result : FnScope N_result ["op", "left", "right"] (defScope s_result) := ⟨rfl, rfl, rfl, by decide +kernel, rfl, by decide +kernel, by decide +kernel⟩
abbrev s_compared : Stmt := topS 13
abbrev N_compared : List Str := ["op", "left", "right"]
theorem sc_compared : FnScope N_compared ["op", "left", "right"] (defScope s_compared) := ⟨rfl, rfl, rfl, by decide +kernel, rfl, by decide +kernel, by decide +kernel⟩
abbrev s_lets_in : Stmt := topS 14
abbrev N_lets_in : List Str := ["tree", "word", "name"]
theorem sc_lets_in : FnScope N_lets_in ["tree"] (defScope s_lets_in) := ⟨rfl, rfl, rfl, by decide +kernel, rfl, by decide +kernel, by decide +kernel⟩
abbrev s_let_values : Stmt := topS 15
abbrev N_let_values : List Str := ["lets", "facts", "fact", "known", "name", "other", "left", "found", "ready"]
theorem sc_let_values : FnScope N_let_values ["lets", "facts"] (defScope s_let_values) := ⟨rfl, rfl, rfl, by decide +kernel, rfl, by decide +kernel, by decide +kernel⟩
abbrev s_least_ring : Stmt := topS 16
abbrev N_least_ring : List Str := ["lets", "name", "other", "after", "best", "ring"]
theorem sc_least_ring : FnScope N_least_ring ["lets"] (defScope s_least_ring) := ⟨rfl, rfl, rfl, by decide +kernel, rfl, by decide +kernel, by decide +kernel⟩
abbrev s_ring_from : Stmt := topS 17
abbrev N_ring_from : List Str := ["start", "after", "paths", "met", "at", "path", "name"]
theorem sc_ring_from : FnScope N_ring_from ["start", "after"] (defScope s_ring_from) := ⟨rfl, rfl, rfl, by decide +kernel, rfl, by decide +kernel, by decide +kernel⟩
abbrev s_law_source : Stmt := topS 19
abbrev N_law_source : List Str := ["_law_script", "_law_cell", "_law_cells", "_law_mixed_here"]
theorem sc_law_source : FnScope N_law_source ["_law_script"] (defScope s_law_source) := ⟨rfl, rfl, rfl, by decide +kernel, rfl, by decide +kernel, by decide +kernel⟩
abbrev s_law_draw : Stmt := topS 20
abbrev N_law_draw : List Str := ["_law_source_here", "_law_below", "_law_cells", "_law_place", "_law_digits", "_law_count", "_law_seed", "_law_number"]
theorem sc_law_draw : FnScope N_law_draw ["_law_source_here", "_law_below"] (defScope s_law_draw) := ⟨rfl, rfl, rfl, by decide +kernel, rfl, by decide +kernel, by decide +kernel⟩
abbrev s_law_names : Stmt := topS 21
abbrev N_law_names : List Str := ["_law_source_here", "_law_count", "_law_letters", "_law_mode", "_law_step", "_law_common", "_law_names_here", "_law_k", "_law_own", "_law_name", "_law_tail"]
theorem sc_law_names : FnScope N_law_names ["_law_source_here", "_law_count"] (defScope s_law_names) := ⟨rfl, rfl, rfl, by decide +kernel, rfl, by decide +kernel, by decide +kernel⟩
abbrev s_law_plain : Stmt := topS 22
abbrev N_law_plain : List Str := ["_law_thing", "_law_one"]
theorem sc_law_plain : FnScope N_law_plain ["_law_thing"] (defScope s_law_plain) := ⟨rfl, rfl, rfl, by decide +kernel, rfl, by decide +kernel, by decide +kernel⟩
abbrev s_law_mixed : Stmt := topS 23
abbrev N_law_mixed : List Str := ["_law_source_here", "_law_row", "_law_left", "_law_mixed_here", "_law_step", "_law_at"]
theorem sc_law_mixed : FnScope N_law_mixed ["_law_source_here", "_law_row"] (defScope s_law_mixed) := ⟨rfl, rfl, rfl, by decide +kernel, rfl, by decide +kernel, by decide +kernel⟩
abbrev s_law_leaf : Stmt := topS 24
abbrev N_law_leaf : List Str := ["_law_source_here", "_law_lets_here", "_law_way"]
theorem sc_law_leaf : FnScope N_law_leaf ["_law_source_here", "_law_lets_here"] (defScope s_law_leaf) := ⟨rfl, rfl, rfl, by decide +kernel, rfl, by decide +kernel, by decide +kernel⟩
abbrev s_law_tree : Stmt := topS 25
abbrev N_law_tree : List Str := ["_law_source_here", "_law_lets_here", "_law_must", "_law_name", "_law_leaves", "_law_tree_here", "_law_leaf_here", "_law_op"]
theorem sc_law_tree : FnScope N_law_tree ["_law_source_here", "_law_lets_here", "_law_must"] (defScope s_law_tree) := ⟨rfl, rfl, rfl, by decide +kernel, rfl, by decide +kernel, by decide +kernel⟩
abbrev s_law_lets : Stmt := topS 26
abbrev N_law_lets : List Str := ["_law_source_here", "_law_names_here", "_law_way", "_law_trees", "_law_k", "_law_must", "_law_ahead", "_law_lets_here", "_law_name"]
theorem sc_law_lets : FnScope N_law_lets ["_law_source_here", "_law_names_here"] (defScope s_law_lets) := ⟨rfl, rfl, rfl, by decide +kernel, rfl, by decide +kernel, by decide +kernel⟩
abbrev s_law_uses : Stmt := topS 27
abbrev N_law_uses : List Str := ["_law_tree_here", "_law_lets_here", "_law_step", "_law_found", "_law_part"]
theorem sc_law_uses : FnScope N_law_uses ["_law_tree_here", "_law_lets_here"] (defScope s_law_uses) := ⟨rfl, rfl, rfl, by decide +kernel, rfl, by decide +kernel, by decide +kernel⟩
abbrev s_law_back : Stmt := topS 28
abbrev N_law_back : List Str := ["_law_uses_here", "_law_first", "_law_table", "_law_step", "_law_later", "_law_name", "_law_other", "_law_way"]
theorem sc_law_back : FnScope N_law_back ["_law_uses_here", "_law_first"] (defScope s_law_back) := ⟨rfl, rfl, rfl, by decide +kernel, rfl, by decide +kernel, by decide +kernel⟩
abbrev s_law_ring : Stmt := topS 29
abbrev N_law_ring : List Str := ["_law_lets_here", "_law_uses_here", "_law_name", "_law_best", "_law_ring_here"]
theorem sc_law_ring : FnScope N_law_ring ["_law_lets_here"] (defScope s_law_ring) := ⟨rfl, rfl, rfl, by decide +kernel, rfl, by decide +kernel, by decide +kernel⟩
abbrev s_law_pair : Stmt := topS 30
abbrev N_law_pair : List Str := ["_law_op", "_law_first", "_law_second"]
theorem sc_law_pair : FnScope N_law_pair ["_law_op", "_law_first", "_law_second"] (defScope s_law_pair) := ⟨rfl, rfl, rfl, by decide +kernel, rfl, by decide +kernel, by decide +kernel⟩
abbrev s_law_value : Stmt := topS 31
abbrev N_law_value : List Str := ["_law_tree_here", "_law_facts", "_law_values_here", "_law_first", "_law_second", "_law_told"]
theorem sc_law_value : FnScope N_law_value ["_law_tree_here", "_law_facts", "_law_values_here"] (defScope s_law_value) := ⟨rfl, rfl, rfl, by decide +kernel, rfl, by decide +kernel, by decide +kernel⟩
abbrev s_law_values : Stmt := topS 32
abbrev N_law_values : List Str := ["_law_lets_here", "_law_facts", "_law_values_here", "_law_step", "_law_name", "_law_other"]
theorem sc_law_values : FnScope N_law_values ["_law_lets_here", "_law_facts"] (defScope s_law_values) := ⟨rfl, rfl, rfl, by decide +kernel, rfl, by decide +kernel, by decide +kernel⟩
abbrev s_law_same : Stmt := topS 33
abbrev N_law_same : List Str := ["_law_told", "_law_due", "_law_name"]
theorem sc_law_same : FnScope N_law_same ["_law_told", "_law_due"] (defScope s_law_same) := ⟨rfl, rfl, rfl, by decide +kernel, rfl, by decide +kernel, by decide +kernel⟩
abbrev s_law_asked : Stmt := topS 34
abbrev N_law_asked : List Str := ["_law_lets_here", "_law_facts", "_law_name", "_law_before", "_law_key", "_law_known", "_law_ring_here", "_law_due", "_law_told"]
theorem sc_law_asked : FnScope N_law_asked ["_law_lets_here", "_law_facts"] (defScope s_law_asked) := ⟨rfl, rfl, rfl, by decide +kernel, rfl, by decide +kernel, by decide +kernel⟩
abbrev s_law : Stmt := topS 35
abbrev N_law : List Str := ["_law_script", "_law_source_here", "_law_count", "_law_name", "_law_names_here", "_law_lets_here", "_law_facts", "_law_turned", "_law_other", "_law_ring_here"]
theorem sc_law : FnScope N_law ["_law_script"] (defScope s_law) := ⟨rfl, rfl, rfl, by decide +kernel, rfl, by decide +kernel, by decide +kernel⟩
/-- where things stand -/
structure Ads where
  a_ascending : Addr
  d_ascending : FuncData
  a_names_in : Addr
  d_names_in : FuncData
  a_within : Addr
  d_within : FuncData
  a_value : Addr
  d_value : FuncData
  a_truth : Addr
  d_truth : FuncData
  a_result : Addr
  d_result : FuncData
  a_compared : Addr
  d_compared : FuncData
  a_lets_in : Addr
  d_lets_in : FuncData
  a_let_values : Addr
  d_let_values : FuncData
  a_least_ring : Addr
  d_least_ring : FuncData
  a_ring_from : Addr
  d_ring_from : FuncData
  a_law_source : Addr
  d_law_source : FuncData
  a_law_draw : Addr
  d_law_draw : FuncData
  a_law_names : Addr
  d_law_names : FuncData
  a_law_plain : Addr
  d_law_plain : FuncData
  a_law_mixed : Addr
  d_law_mixed : FuncData
  a_law_leaf : Addr
  d_law_leaf : FuncData
  a_law_tree : Addr
  d_law_tree : FuncData
  a_law_lets : Addr
  d_law_lets : FuncData
  a_law_uses : Addr
  d_law_uses : FuncData
  a_law_back : Addr
  d_law_back : FuncData
  a_law_ring : Addr
  d_law_ring : FuncData
  a_law_pair : Addr
  d_law_pair : FuncData
  a_law_value : Addr
  d_law_value : FuncData
  a_law_values : Addr
  d_law_values : FuncData
  a_law_same : Addr
  d_law_same : FuncData
  a_law_asked : Addr
  d_law_asked : FuncData
  a_law : Addr
  d_law : FuncData
  c_RomError : Addr
  t_FACTS : Addr
  t_COMPARISONS : Addr
  t_MOST : Tok
structure Txt (K : PySem.W.Frag) (mg : Str → Option Value) (A : Ads) : Prop where
  F_ascending : Fun K "ascending" "ascending" s_ascending A.a_ascending A.d_ascending
  g_ascending : mg "ascending" = some (.ref A.a_ascending)
  b_ascending : Binds K A.d_ascending ["rows"] []
  F_names_in : Fun K "names_in" "names_in" s_names_in A.a_names_in A.d_names_in
  g_names_in : mg "names_in" = some (.ref A.a_names_in)
  b_names_in : Binds K A.d_names_in ["tree"] []
  F_within : Fun K "within" "within" s_within A.a_within A.d_within
  g_within : mg "within" = some (.ref A.a_within)
  b_within : Binds K A.d_within ["number"] []
  F_value : Fun K "value" "value" s_value A.a_value A.d_value
  g_value : mg "value" = some (.ref A.a_value)
  b_value : Binds K A.d_value ["tree", "facts"] []
  F_truth : Fun K "truth" "truth" s_truth A.a_truth A.d_truth
  g_truth : mg "truth" = some (.ref A.a_truth)
  b_truth : Binds K A.d_truth ["thing"] []
  F_result : Fun K "result" "result" s_result A.a_result A.d_result
  g_result : mg "result" = some (.ref A.a_result)
  b_result : Binds K A.d_result ["op", "left", "right"] []
  F_compared : Fun K "compared" "compared" s_compared A.a_compared A.d_compared
  g_compared : mg "compared" = some (.ref A.a_compared)
  b_compared : Binds K A.d_compared ["op", "left", "right"] []
  F_lets_in : Fun K "lets_in" "lets_in" s_lets_in A.a_lets_in A.d_lets_in
  g_lets_in : mg "lets_in" = some (.ref A.a_lets_in)
  b_lets_in : Binds K A.d_lets_in ["tree"] []
  F_let_values : Fun K "let_values" "let_values" s_let_values A.a_let_values A.d_let_values
  g_let_values : mg "let_values" = some (.ref A.a_let_values)
  b_let_values : Binds K A.d_let_values ["lets", "facts"] []
  F_least_ring : Fun K "least_ring" "least_ring" s_least_ring A.a_least_ring A.d_least_ring
  g_least_ring : mg "least_ring" = some (.ref A.a_least_ring)
  b_least_ring : Binds K A.d_least_ring ["lets"] []
  F_ring_from : Fun K "ring_from" "ring_from" s_ring_from A.a_ring_from A.d_ring_from
  g_ring_from : mg "ring_from" = some (.ref A.a_ring_from)
  b_ring_from : Binds K A.d_ring_from ["start", "after"] []
  F_law_source : Fun K "_law_source" "_law_source" s_law_source A.a_law_source A.d_law_source
  g_law_source : mg "_law_source" = some (.ref A.a_law_source)
  b_law_source : Binds K A.d_law_source ["_law_script"] []
  F_law_draw : Fun K "_law_draw" "_law_draw" s_law_draw A.a_law_draw A.d_law_draw
  g_law_draw : mg "_law_draw" = some (.ref A.a_law_draw)
  b_law_draw : Binds K A.d_law_draw ["_law_source_here", "_law_below"] []
  F_law_names : Fun K "_law_names" "_law_names" s_law_names A.a_law_names A.d_law_names
  g_law_names : mg "_law_names" = some (.ref A.a_law_names)
  b_law_names : Binds K A.d_law_names ["_law_source_here", "_law_count"] []
  F_law_plain : Fun K "_law_plain" "_law_plain" s_law_plain A.a_law_plain A.d_law_plain
  g_law_plain : mg "_law_plain" = some (.ref A.a_law_plain)
  b_law_plain : Binds K A.d_law_plain ["_law_thing"] []
  F_law_mixed : Fun K "_law_mixed" "_law_mixed" s_law_mixed A.a_law_mixed A.d_law_mixed
  g_law_mixed : mg "_law_mixed" = some (.ref A.a_law_mixed)
  b_law_mixed : Binds K A.d_law_mixed ["_law_source_here", "_law_row"] []
  F_law_leaf : Fun K "_law_leaf" "_law_leaf" s_law_leaf A.a_law_leaf A.d_law_leaf
  g_law_leaf : mg "_law_leaf" = some (.ref A.a_law_leaf)
  b_law_leaf : Binds K A.d_law_leaf ["_law_source_here", "_law_lets_here"] []
  F_law_tree : Fun K "_law_tree" "_law_tree" s_law_tree A.a_law_tree A.d_law_tree
  g_law_tree : mg "_law_tree" = some (.ref A.a_law_tree)
  b_law_tree : Binds K A.d_law_tree ["_law_source_here", "_law_lets_here", "_law_must"] []
  F_law_lets : Fun K "_law_lets" "_law_lets" s_law_lets A.a_law_lets A.d_law_lets
  g_law_lets : mg "_law_lets" = some (.ref A.a_law_lets)
  b_law_lets : Binds K A.d_law_lets ["_law_source_here", "_law_names_here"] []
  F_law_uses : Fun K "_law_uses" "_law_uses" s_law_uses A.a_law_uses A.d_law_uses
  g_law_uses : mg "_law_uses" = some (.ref A.a_law_uses)
  b_law_uses : Binds K A.d_law_uses ["_law_tree_here", "_law_lets_here"] []
  F_law_back : Fun K "_law_back" "_law_back" s_law_back A.a_law_back A.d_law_back
  g_law_back : mg "_law_back" = some (.ref A.a_law_back)
  b_law_back : Binds K A.d_law_back ["_law_uses_here", "_law_first"] []
  F_law_ring : Fun K "_law_ring" "_law_ring" s_law_ring A.a_law_ring A.d_law_ring
  g_law_ring : mg "_law_ring" = some (.ref A.a_law_ring)
  b_law_ring : Binds K A.d_law_ring ["_law_lets_here"] []
  F_law_pair : Fun K "_law_pair" "_law_pair" s_law_pair A.a_law_pair A.d_law_pair
  g_law_pair : mg "_law_pair" = some (.ref A.a_law_pair)
  b_law_pair : Binds K A.d_law_pair ["_law_op", "_law_first", "_law_second"] []
  F_law_value : Fun K "_law_value" "_law_value" s_law_value A.a_law_value A.d_law_value
  g_law_value : mg "_law_value" = some (.ref A.a_law_value)
  b_law_value : Binds K A.d_law_value ["_law_tree_here", "_law_facts", "_law_values_here"] []
  F_law_values : Fun K "_law_values" "_law_values" s_law_values A.a_law_values A.d_law_values
  g_law_values : mg "_law_values" = some (.ref A.a_law_values)
  b_law_values : Binds K A.d_law_values ["_law_lets_here", "_law_facts"] []
  F_law_same : Fun K "_law_same" "_law_same" s_law_same A.a_law_same A.d_law_same
  g_law_same : mg "_law_same" = some (.ref A.a_law_same)
  b_law_same : Binds K A.d_law_same ["_law_told", "_law_due"] []
  F_law_asked : Fun K "_law_asked" "_law_asked" s_law_asked A.a_law_asked A.d_law_asked
  g_law_asked : mg "_law_asked" = some (.ref A.a_law_asked)
  b_law_asked : Binds K A.d_law_asked ["_law_lets_here", "_law_facts"] []
  F_law : Fun K "law" "law" s_law A.a_law A.d_law
  g_law : mg "law" = some (.ref A.a_law)
  b_law : Binds K A.d_law ["_law_script"] []
  g_RomError : mg "RomError" = some (.ref A.c_RomError)
  g_FACTS : mg "FACTS" = some (.ref A.t_FACTS)
  q_FACTS : SqT K (fun _ => none) A.t_FACTS [.str (Str.ofString "start"), .str (Str.ofString "end"), .str (Str.ofString "size"), .str (Str.ofString "load"), .str (Str.ofString "base"), .str (Str.ofString "len"), .str (Str.ofString "used"), .str (Str.ofString "room"), .str (Str.ofString "at"), .str (Str.ofString "exported"), .str (Str.ofString "takes"), .str (Str.ofString "leaves"), .str (Str.ofString "kept")]
  y_FACTS : ∃ o, K.lookup A.t_FACTS = some o ∧ o.cls = .type "tuple" ∧ o.dict = none
  g_COMPARISONS : mg "COMPARISONS" = some (.ref A.t_COMPARISONS)
  q_COMPARISONS : SqT K (fun _ => none) A.t_COMPARISONS [.str (Str.ofString "<"), .str (Str.ofString "<="), .str (Str.ofString "="), .str (Str.ofString "<>"), .str (Str.ofString ">"), .str (Str.ofString ">=")]
  y_COMPARISONS : ∃ o, K.lookup A.t_COMPARISONS = some o ∧ o.cls = .type "tuple" ∧ o.dict = none
  g_MOST : mg "MOST" = some (.int 1000000000 A.t_MOST)
  n_abs : mg "abs" = none
  n_all : mg "all" = none
  n_any : mg "any" = none
  n_bool : mg "bool" = none
  n_dict : mg "dict" = none
  n_int : mg "int" = none
  n_isinstance : mg "isinstance" = none
  n_len : mg "len" = none
  n_list : mg "list" = none
  n_min : mg "min" = none
  n_range : mg "range" = none
  n_set : mg "set" = none
  n_sorted : mg "sorted" = none
  n_str : mg "str" = none
  n_tuple : mg "tuple" = none

/-! ### the law's source of draws -/
def Src (c : Addr) (H : Hp) (p : Addr) : Prop := ∃ (cs : List Int) (pl dg ct mx : Int), H p = some (.lst [.ref c, .int pl, .int dg, .int ct, .int mx]) ∧ H c = some (.lst (cs.map V.int)) ∧ 0 < cs.length ∧ 0 ≤ pl
theorem src_ne {H : Hp} {c p : Addr} (h : Src c H p) : H p ≠ none := by
  obtain ⟨cs, pl, dg, ct, mx, e, _⟩ := h
  rw [e]
  exact fun z => nomatch z
theorem src_cne {H : Hp} {c p : Addr} (h : Src c H p) : H c ≠ none := by
  obtain ⟨cs, pl, dg, ct, mx, _, e, _⟩ := h
  rw [e]
  exact fun z => nomatch z
theorem src_up {H H' : Hp} {c p : Addr} (h : Src c H p) (e : Same H H') : Src c H' p := by
  obtain ⟨cs, pl, dg, ct, mx, h1, h2, h3⟩ := h
  exact ⟨cs, pl, dg, ct, mx, e _ _ h1, e _ _ h2, h3⟩
/-- what is neither of its two lists may change -/
theorem src_put {H : Hp} {c p D : Addr} {o : HO} (h : Src c H p) (hp : D ≠ p) (hc : D ≠ c) : Src c (upd H D o) p := by
  obtain ⟨cs, pl, dg, ct, mx, h1, h2, h3⟩ := h
  exact ⟨cs, pl, dg, ct, mx, by rw [upd_ne (Ne.symm hp)]; exact h1, by rw [upd_ne (Ne.symm hc)]; exact h2, h3⟩
/-- a list of numbers is not the source -/
theorem src_ints {H : Hp} {c p D : Addr} {l : List Nat} (h : Src c H p) (e : H D = some (.lst (intV l))) : D ≠ p := fun z => by
  obtain ⟨cs, pl, dg, ct, mx, h1, _⟩ := h
  subst z
  rw [e] at h1
  have := HO.lst.inj (Option.some.inj h1)
  cases l with
  | nil => cases this
  | cons a r =>
    have := (List.cons.inj this).1
    cases this
def spDraw : Sp := fun vs H Q _ => ∃ (c p : Addr) (b : Int), vs = [.ref p, .int b] ∧ Src c H p ∧ 0 < b ∧ b < 1000000 ∧ ∀ H' (r : Nat), (r : Int) < b → Src c H' p → But p H H' → Q (.int (r : Int)) H'
def spSource (K : PySem.W.Frag) : Sp := fun vs H Q _ => ∃ (a : Addr) (ns : List Int), vs = [.ref a] ∧ SqL K H a (ns.map V.int) ∧ ns.length ≤ 63 ∧ ∀ H' c p, Same H H' → H c = none → H p = none → Src c H' p → Q (.ref p) H'
theorem get_int {cs : List Int} {i : Int} (h0 : 0 ≤ i) (h1 : i < cs.length) : ∃ z, atI (cs.map V.int) i = some (.int z) := by
  obtain ⟨j, rfl⟩ : ∃ j : Nat, i = (j : Int) := ⟨i.toNat, by omega⟩
  have hj : j < cs.length := by omega
  exact ⟨cs[j], atI_nat (by rw [List.getElem?_map, List.getElem?_eq_getElem hj]; rfl)⟩
/-! plain: a value with what tells its kind -/
mutual
def plD : PyData → PyData
  | .list xs => .tuple [.bool true, .list (plA xs)]
  | .tuple xs => .tuple [.bool false, .list (plA xs)]
  | .bool b => .tuple [.bool true, .bool b]
  | .none => .tuple [.bool false, .none]
  | .int i => .tuple [.bool false, .int i]
  | .str x => .tuple [.bool false, .str x]
  | .dict kvs => .tuple [.bool false, .dict kvs]
def plA : List PyData → List PyData
  | [] => []
  | x :: r => plD x :: plA r
end
theorem plA_map : ∀ xs : List PyData, plA xs = xs.map plD
  | [] => rfl
  | x :: r => by
    show plD x :: plA r = plD x :: r.map plD
    rw [plA_map r]
mutual
theorem plD_depth : ∀ d : PyData, (plD d).depth ≤ 2 * d.depth + 1
  | .list xs => by
    have h := plA_depth xs
    show max 0 (max (PyData.depthAll (plA xs) + 1) 0) + 1 ≤ 2 * (PyData.depthAll xs + 1) + 1
    omega
  | .tuple xs => by
    have h := plA_depth xs
    show max 0 (max (PyData.depthAll (plA xs) + 1) 0) + 1 ≤ 2 * (PyData.depthAll xs + 1) + 1
    omega
  | .bool b => by show 1 ≤ 1; omega
  | .none => by show 1 ≤ 1; omega
  | .int i => by show 1 ≤ 1; omega
  | .str x => by show 1 ≤ 1; omega
  | .dict kvs => by
    show max 0 (max (PyData.depthKv kvs + 1) 0) + 1 ≤ 2 * (PyData.depthKv kvs + 1) + 1
    omega
theorem plA_depth : ∀ ds : List PyData, (PyData.depthAll (plA ds)) ≤ 2 * (PyData.depthAll ds) + 1
  | [] => Nat.zero_le _
  | x :: r => by
    have h1 := plD_depth x
    have h2 := plA_depth r
    show max (plD x).depth (PyData.depthAll (plA r)) ≤ 2 * (max x.depth (PyData.depthAll r)) + 1
    omega
end
mutual
theorem plD_lay : ∀ d : PyData, d.canLay0 = true → (plD d).canLay0 = true
  | .list xs, h => by
    show (true && (PyData.canLayAll0 (plA xs) && true)) = true
    rw [plA_lay xs h]
    rfl
  | .tuple xs, h => by
    show (true && (PyData.canLayAll0 (plA xs) && true)) = true
    rw [plA_lay xs h]
    rfl
  | .bool b, h => rfl
  | .none, h => rfl
  | .int i, h => rfl
  | .str x, h => by
    show (true && ((PyData.str x).canLay0 && true)) = true
    rw [h]
    rfl
  | .dict kvs, h => by cases h
theorem plA_lay : ∀ ds : List PyData, PyData.canLayAll0 ds = true → PyData.canLayAll0 (plA ds) = true
  | [], _ => rfl
  | x :: r, h => by
    have h' := Bool.and_eq_true_iff.mp h
    show ((plD x).canLay0 && PyData.canLayAll0 (plA r)) = true
    rw [plD_lay x h'.1, plA_lay r h'.2]
    rfl
end
theorem plD_shaped {d : PyData} (h : d.canLay0 = true) (hd : d.depth ≤ 20) : SeqAt.shaped (plD d) = true := by
  have h2 := plD_depth d
  unfold SeqAt.shaped
  rw [plD_lay d h, Bool.true_and]
  exact decide_eq_true (by omega)
def spPlain (K : PySem.W.Frag) : Nat → Sp
  | 0 => fun _ _ _ _ => False
  | n + 1 => fun vs H Q _ => ∃ (v : V) (d : PyData) (S : ASet), vs = [v] ∧ (∀ a, S a → H a ≠ none) ∧ Dx K H S v d ∧ d.depth ≤ n ∧ wdB d = true ∧ ∀ H' v', Same H H' → Dx K H' S v' (plD d) → Q v' H'

section
variable {P : Program} {w : World} {K : PySem.W.Frag} {mg : Str → Option Value} {base : Heap} {A : Ads}
theorem ok_law_draw (T : Txt K mg A) : FnOk P w K mg base CX0 1 A.a_law_draw A.d_law_draw ["_law_source_here", "_law_below"] spDraw := by
  refine T.F_law_draw.ok sc_law_draw (fun vs H Q E h => ?_) (fun cdv B outer s H vs Q E hr h => ?_)
  · obtain ⟨c, p, b, rfl, _⟩ := h
    rfl
  · obtain ⟨c, p, b, rfl, ⟨cs, pl, dg, ct, mx, hp, hc, hn, hpl⟩, hb, hb2, q⟩ := h
    refine ⟨_, (pss_cons (ps_set (i := 2) sc_law_draw.nd rfl (.inl rfl) (pe_ix ix_list (pv 0) pe_int (fun _ _ => rfl)))
    (pss_cons (ps_set (i := 3) sc_law_draw.nd rfl (.inl rfl) (pe_ix ix_list (pv 0) pe_int (fun _ _ => rfl)))
    (pss_cons (ps_set (i := 4) sc_law_draw.nd rfl (.inl rfl) (pe_ix ix_list (pv 0) pe_int (fun _ _ => rfl)))
    (pss_cons (ps_set (i := 5) sc_law_draw.nd rfl (.inl rfl) (pe_ix ix_list (pv 0) pe_int (fun _ _ => rfl)))
    (pss_cons (ps_asg (pe_op op_add (pv 5) pe_int) (pg_sub (pv 0) pe_int set_list))
    (pss_cons (ps_if (PW.pt (pw_and (pt_cmpR op_eq (pe_ix ix_list (pv 0) pe_int (fun _ _ => rfl)) pe_int (nomark _)) (pw_and1 (pt_cmpR op_lt (pv 3) (pe_callB len_seq (by rfl) T.n_len (by decide +kernel) (pa_cons (pv 2) pa_nil)) (nomark _))))) (pss_cons (ps_asg (pe_op op_fdivN (pv 4) (pv 1)) (pg_sub (pv 0) pe_int set_list))
    (pss_cons (ps_if (pt_cmpR op_eq (pe_ix ix_list (pv 0) pe_int (fun _ _ => rfl)) pe_int (nomark _)) (pss_cons (ps_asg (pe_op op_add (pv 3) pe_int) (pg_sub (pv 0) pe_int set_list))
    (pss_one (ps_if (pt_cmpR op_lt (pe_op op_add (pv 3) pe_int) (pe_callB len_seq (by rfl) T.n_len (by decide +kernel) (pa_cons (pv 2) pa_nil)) (nomark _)) (pss_one (ps_asg (pe_ix ix_list (pv 2) (pe_op op_add (pv 3) pe_int) (fun _ _ => rfl)) (pg_sub (pv 0) pe_int set_list))) pss_nil))) pss_nil)
    (pss_one (ps_ret (pe_op op_modN (pe_callTy call_int1 (by rfl) T.n_int (by decide +kernel) (pa_cons (pv 4) pa_nil)) (pv 1)))))) pss_nil)
    (pss_cons (ps_set (i := 6) sc_law_draw.nd rfl (.inl rfl) (pe_op op_add (pe_op op_add (pe_ix ix_list (pv 2) (pe_op op_modN (pe_callTy call_int1 (by rfl) T.n_int (by decide +kernel) (pa_cons (pv 5) pa_nil)) (pe_callB len_seq (by rfl) T.n_len (by decide +kernel) (pa_cons (pv 2) pa_nil))) (fun _ _ => rfl)) (pe_op op_mul pe_int (pv 5))) pe_int))
    (pss_cons (ps_set (i := 7) sc_law_draw.nd rfl (.inl rfl) (pe_op op_mod (pe_callTy call_int1 (by rfl) T.n_int (by decide +kernel) (pa_cons (pe_op op_add (pe_op op_mul (pv 6) pe_int) (pe_op op_mul (pe_op op_add (pv 5) pe_int) pe_int)) pa_nil)) pe_int))
    (pss_cons (ps_set (i := 7) sc_law_draw.nd rfl (.inl rfl) (pe_op op_mod (pe_callTy call_int1 (by rfl) T.n_int (by decide +kernel) (pa_cons (pe_op op_add (pe_op op_mul (pv 7) (pe_op op_add (pe_op op_add (pe_op op_mod (pe_callTy call_int1 (by rfl) T.n_int (by decide +kernel) (pa_cons (pv 7) pa_nil)) pe_int) (pv 5)) pe_int)) (pv 6)) pa_nil)) pe_int))
    (pss_one (ps_ret (pe_op op_modN (pe_callTy call_int1 (by rfl) T.n_int (by decide +kernel) (pa_cons (pe_op op_fdiv (pv 7) pe_int) pa_nil)) (pv 1))))))))))))), ?_⟩
    have nc : c ≠ p := ne_of hc hp (by intro z; have := HO.lst.inj z; cases cs with | nil => cases hn | cons a r => cases this)
    have hmod : ∀ i : Int, 0 ≤ i.fmod b ∧ i.fmod b < b := fun i => ⟨Int.fmod_nonneg_of_pos _ hb, Int.fmod_lt_of_pos _ hb⟩
    have cat : ∀ {H1}, But p H H1 → H1 c = some (.lst (cs.map V.int)) := fun h => h c _ nc hc
    have fin : ∀ {H1} {x1 x2 x3 x4 : Int} (i : Int), But p H H1 → 0 ≤ x1 → H1 p = some (.lst [.ref c, .int x1, .int x2, .int x3, .int x4]) → Q (.int (i.fmod b)) H1 := fun i bt h e => by
      have := q _ (i.fmod b).toNat (by have := hmod i; omega) ⟨cs, _, _, _, _, e, cat bt, hn, h⟩ bt
      rw [Int.toNat_of_nonneg (hmod i).1] at this
      exact this
    have hb3 : b ≠ 0 ∧ b.natAbs < 1073741824 := ⟨by omega, by omega⟩
    have hl : 0 < (cs.map V.int).length := by rw [List.length_map]; exact hn
    have tail : ∀ i : Int, 0 ≤ i.fmod ((cs.map V.int).length : Int) ∧ i.fmod ((cs.map V.int).length : Int) < cs.length := fun i => by
      rw [List.length_map]
      exact ⟨Int.fmod_nonneg_of_pos _ (by omega), Int.fmod_lt_of_pos _ (by omega)⟩
    obtain ⟨z, hz⟩ := get_int (cs := cs) (tail ct).1 (tail ct).2
    walk_at "s"
    have b1 : ∀ o, But p H (upd H p o) := fun o => (But.refl p H).upd
    have c1 : ∀ o, SqL K (upd H p o) c (cs.map V.int) := fun o => SqL.of (cat (b1 o))
    refine ite2 (fun e => ?_) (fun e => ?_)
    · refine ⟨_, rfl, .ref c, rfl, c, _, rfl, .inl (c1 _), ?_⟩
      walk_at "s"
      refine ite2 (fun e => ?_) (fun e => ?_)
      · walk_at "s"
        refine ite2 (fun e => ?_) (fun e => ?_)
        · walk_at "s"
          refine ⟨c, _, rfl, .inl (SqL.of (cat (b1 _).upd.upd)), ?_⟩
          walk_at "s"
          refine ite2 (fun e3 => ?_) (fun e3 => ?_)
          · have e4 : pl + 1 < ((cs.map V.int).length : Int) := of_decide_eq_true e3
            obtain ⟨z2, hz2⟩ := get_int (cs := cs) (i := pl + 1) (by omega) (by rw [List.length_map] at e4; exact e4)
            walk_at "s"
            refine ⟨_, _, _, _, rfl, rfl, SqL.of (cat (b1 _).upd.upd), hz2, ?_⟩
            walk_at "s"
            exact fin _ (b1 _).upd.upd.upd (by omega) upd_same
          · walk_at "s"
            exact fin _ (b1 _).upd.upd (by omega) upd_same
        · walk_at "s"
          exact fin _ (b1 _).upd hpl upd_same
      · walk_at "s"
        try (refine ⟨_, _, _, _, rfl, rfl, c1 _, hz, ?_⟩)
        walk_at "s"
        exact fin _ (b1 _) hpl upd_same
    · walk_at "s"
      try (refine ⟨_, _, _, _, rfl, rfl, c1 _, hz, ?_⟩)
      walk_at "s"
      exact fin _ (b1 _) hpl upd_same

theorem ok_law_source (T : Txt K mg A) : FnOk P w K mg base CX0 1 A.a_law_source A.d_law_source ["_law_script"] (spSource K) := by
  refine T.F_law_source.ok sc_law_source (fun vs H Q E h => ?_) (fun cdv A outer s H vs Q E hr h => ?_)
  · obtain ⟨a, ns, rfl, _⟩ := h
    rfl
  · obtain ⟨a, ns, rfl, hS, hl, q⟩ := h
    refine ⟨_, (pss_cons (ps_setLc (i := 2) (own := [("_law_cell", 1)]) rfl sc_law_source.nd rfl rfl (sw_true rfl rfl rfl (by decide +kernel)) (pi_list (pv 0)) (blkOk_by (own := [("_law_cell", 1)]) (N := N_law_source) (sc := defScope s_law_source) (by decide +kernel)) (fun _ _ _ _ _ => pg_name (i := 1) sc_law_source.nd rfl (Or.inl rfl)) (fun _ _ _ _ _ => pts_nil) (fun _ _ _ _ _ => by exact (pe_callB call_abs (by rfl) T.n_abs (by decide +kernel) (pa_cons (pe_callTy call_int1 (by rfl) T.n_int (by decide +kernel) (pa_cons (pv 1) pa_nil)) pa_nil))))
    (pss_cons (ps_if (pt_cmpR op_eq (pe_callB len_seq (by rfl) T.n_len (by decide +kernel) (pa_cons (pv 2) pa_nil)) pe_int (nomark _)) (pss_one (ps_set (i := 2) sc_law_source.nd rfl (.inl rfl) (pe_lst (pa_cons pe_int pa_nil)))) pss_nil)
    (pss_cons (ps_set (i := 3) sc_law_source.nd rfl (.inl rfl) pe_int)
    (pss_cons (ps_if (pt_cmpR op_lt (pe_ix ix_list (pv 2) pe_int (fun _ _ => rfl)) (pe_op op_pow pe_int pe_int) (nomark _)) (pss_one (ps_set (i := 3) sc_law_source.nd rfl (.inl rfl) (pe_op op_mod (pe_callTy call_int1 (by rfl) T.n_int (by decide +kernel) (pa_cons (pe_ix ix_list (pv 2) pe_int (fun _ _ => rfl)) pa_nil)) pe_int))) pss_nil)
    (pss_one (ps_ret (pe_lst (pa_cons (pv 2) (pa_cons pe_int (pa_cons (pe_ix ix_list (pv 2) pe_int (fun _ _ => rfl)) (pa_cons pe_int (pa_cons (pv 3) pa_nil)))))))))))), ?_⟩
    have w := walk_list (K := K) (a := a) (xs := ns.map V.int)
    refine ⟨_, rfl, a, rfl, ⟨_, hS⟩, fun D hD => ?_⟩
    have hx : ∀ {i : Nat} {x : V}, (ns.map V.int)[i]? = some x → x = .int (ns.getD i 0) := fun {i x} e => by
      rw [List.getElem?_map] at e
      cases h : ns[i]? with
      | none => rw [h] at e; cases e
      | some z =>
        rw [h] at e
        rw [List.getD_eq_getElem?_getD, h]
        exact (Option.some.inj e).symm
    refine lc_vals w (fun i x => (ns.map V.int)[i]? = some x) (fun i => .int (if ns.getD i 0 < 0 then -ns.getD i 0 else ns.getD i 0)) hD (fun H' e => e.seq hS) (by rw [List.length_map]; omega) (fun i H x H' _ y => y) (fun i x H' hi sm e Q q => ?_) (fun H1 s1 e1 => ?_)
    · rw [hx e]
      exact ⟨_, rfl, .inl ⟨_, rfl, _, rfl, q _ (Same.refl _)⟩⟩
    have e2 : H1 D = some (.lst (((List.range ns.length).map fun i => if ns.getD i 0 < 0 then -ns.getD i 0 else ns.getD i 0).map V.int)) := by
      rw [e1, List.map_map, List.length_map]
      rfl
    generalize hcs : ((List.range ns.length).map fun i => if ns.getD i 0 < 0 then -ns.getD i 0 else ns.getD i 0) = cs at e2
    clear hcs e1
    refine ⟨_, rfl, D, _, rfl, .inl (SqL.of e2), rfl, _, rfl, ite2 (fun e => ?_) (fun e => ?_)⟩
    · refine ⟨by decide, fun c hc => ?_⟩
      generalize hH : upd H1 c (.lst [V.int 5]) = H2
      have fc : H c = none := s1.free hc
      have ec : H2 c = some (.lst (([5] : List Int).map V.int)) := by rw [← hH]; exact upd_same
      have s2 : Same H1 H2 := by rw [← hH]; exact same_new hc
      have sm : Same H H2 := s1.trans s2
      have hl : 0 < ([5] : List Int).length := by decide
      generalize ([5] : List Int) = cs at ec hl
      clear hH hc
      obtain ⟨z, h0⟩ := get_int (cs := cs) (i := 0) (Int.le_refl 0) (by omega)
      have fin : ∀ (x1 x2 x3 x4 : Int) {H3 : Hp}, 0 ≤ x1 → Same H1 H3 → H3 = H2 → ∀ p, H3 p = none → Q (.ref p) (upd H3 p (.lst [.ref c, .int x1, .int x2, .int x3, .int x4])) := fun x1 x2 x3 x4 H3 h1 s3 e3 p hp => by
        subst e3
        exact q _ c _ (sm.trans (same_new hp)) fc (sm.free hp) ⟨cs, x1, x2, x3, x4, upd_same, by rw [upd_ne (ne_of_none ec hp)]; exact ec, hl, h1⟩
      refine ⟨.ref c, rfl, c, _, _, _, rfl, rfl, SqL.of ec, h0, _, _, rfl, rfl, ⟨by decide, by decide, by decide⟩, _, _, rfl, rfl, _, rfl, ite2 (fun e => ?_) (fun e => ?_)⟩
      · refine ⟨.ref c, rfl, c, _, _, _, rfl, rfl, SqL.of ec, h0, .inl ⟨_, rfl, _, _, rfl, rfl, (by show (0 : Int) < 2; decide), ?_⟩⟩
        refine ⟨.ref c, rfl, .ref c, rfl, c, _, _, _, rfl, rfl, SqL.of ec, h0, _, rfl, lenOk (n := 5) rfl (by decide), fun p hp => ?_⟩
        exact fin _ _ _ _ (Int.le_refl 0) s2 rfl p hp
      · refine ⟨.ref c, rfl, .ref c, rfl, c, _, _, _, rfl, rfl, SqL.of ec, h0, _, rfl, lenOk (n := 5) rfl (by decide), fun p hp => ?_⟩
        exact fin _ _ _ _ (Int.le_refl 0) s2 rfl p hp
    · have hl : 0 < cs.length := by
        cases cs with
        | nil => exact absurd (decide_eq_true rfl) e
        | cons => exact Nat.succ_pos _
      have ec := e2
      have fc : H D = none := hD
      generalize D = c at ec fc
      generalize hH : H1 = H2 at ec
      have s2 : Same H1 H2 := by rw [← hH]; exact Same.refl _
      have sm : Same H H2 := s1.trans s2
      obtain ⟨z, h0⟩ := get_int (cs := cs) (i := 0) (Int.le_refl 0) (by omega)
      have fin : ∀ (x1 x2 x3 x4 : Int) {H3 : Hp}, 0 ≤ x1 → Same H1 H3 → H3 = H2 → ∀ p, H3 p = none → Q (.ref p) (upd H3 p (.lst [.ref c, .int x1, .int x2, .int x3, .int x4])) := fun x1 x2 x3 x4 H3 h1 s3 e3 p hp => by
        subst e3
        exact q _ c _ (sm.trans (same_new hp)) fc (sm.free hp) ⟨cs, x1, x2, x3, x4, upd_same, by rw [upd_ne (ne_of_none ec hp)]; exact ec, hl, h1⟩
      refine ⟨.ref c, rfl, c, _, _, _, rfl, rfl, SqL.of ec, h0, _, _, rfl, rfl, ⟨by decide, by decide, by decide⟩, _, _, rfl, rfl, _, rfl, ite2 (fun e => ?_) (fun e => ?_)⟩
      · refine ⟨.ref c, rfl, c, _, _, _, rfl, rfl, SqL.of ec, h0, .inl ⟨_, rfl, _, _, rfl, rfl, (by show (0 : Int) < 2; decide), ?_⟩⟩
        refine ⟨.ref c, rfl, .ref c, rfl, c, _, _, _, rfl, rfl, SqL.of ec, h0, _, rfl, lenOk (n := 5) rfl (by decide), fun p hp => ?_⟩
        exact fin _ _ _ _ (Int.le_refl 0) s2 rfl p hp
      · refine ⟨.ref c, rfl, .ref c, rfl, c, _, _, _, rfl, rfl, SqL.of ec, h0, _, rfl, lenOk (n := 5) rfl (by decide), fun p hp => ?_⟩
        exact fin _ _ _ _ (Int.le_refl 0) s2 rfl p hp
def spNone : Sp := fun _ _ _ _ => False
theorem ok_plain (T : Txt K mg A) : ∀ n : Nat, FnOk P w K mg base CX0 n A.a_law_plain A.d_law_plain ["_law_thing"] (spPlain K n)
  | 0 => ⟨fun _ _ _ _ h => h.elim, fun _ _ _ _ _ _ _ _ _ _ _ _ _ h => h.elim⟩
  | n + 1 => by
    have G0 : FnOk P w K mg base CX0 n A.a_law_plain A.d_law_plain ["_law_thing"] (spPlain K n) := ok_plain T n
    refine T.F_law_plain.ok sc_law_plain (fun vs H Q E h => ?_) (fun cdv A outer s H vs Q E hr h => ?_)
    · obtain ⟨v, d, S, rfl, _⟩ := h
      rfl
    · obtain ⟨v, d, S, rfl, hS, hd, hn, hw, q⟩ := h
      refine ⟨_, (pss_cons (ps_if (pt_val (pe_callB call_isiT (by rfl) T.n_isinstance (by decide +kernel) (pa_cons (pv 0) (pa_cons (pe_tup (pa_cons (pe_bltn (v := .ty "list") (u := .type "list") (by rfl) T.n_list (by decide +kernel) rfl) (pa_cons (pe_bltn (v := .ty "tuple") (u := .type "tuple") (by rfl) T.n_tuple (by decide +kernel) rfl) pa_nil))) pa_nil)))) (pss_one (ps_ret (pe_tup (pa_cons (pe_callB call_isi (by rfl) T.n_isinstance (by decide +kernel) (pa_cons (pv 0) (pa_cons (pe_bltn (v := .ty "list") (u := .type "list") (by rfl) T.n_list (by decide +kernel) rfl) pa_nil))) (pa_cons (pe_lc (own := [("_law_one", 1)]) rfl sc_law_plain.nd (PI_or (pi_list (pv 0)) (pi_tup (pv 0))) (blkOk_by (own := [("_law_one", 1)]) (N := N_law_plain) (sc := defScope s_law_plain) (by decide +kernel)) (fun _ _ _ _ _ => pg_name (i := 1) sc_law_plain.nd rfl (Or.inl rfl)) (fun _ _ _ _ _ => pts_nil) (fun _ _ _ _ _ => by exact (pe_call G0 (hr.mono (by omega)) rfl T.g_law_plain T.F_law_plain.kp T.b_law_plain .nil pass0 (pa_cons (pv 1) pa_nil)))) pa_nil))))) pss_nil)
    (pss_one (ps_ret (pe_tup (pa_cons (pe_callB call_isi (by rfl) T.n_isinstance (by decide +kernel) (pa_cons (pv 0) (pa_cons (pe_bltn (v := .ty "bool") (u := .type "bool") (by rfl) T.n_bool (by decide +kernel) rfl) pa_nil))) (pa_cons (pv 0) pa_nil)))))), ?_⟩
      have out : ∀ (b : Bool), tn d ≠ "list" → tn d ≠ "tuple" → b = isB (tn d) "bool" → plD d = .tuple [.bool b, d] := fun b h1 h2 h3 => by
        subst h3
        cases hd with
        | non => rfl
        | bl => rfl
        | int => rfl
        | str => rfl
        | lst _ _ => exact absurd rfl h1
        | tup _ _ => exact absurd rfl h2
      refine ⟨_, rfl, lenOk rfl (by decide), fun tp htp => ?_⟩
      have hd1 : Dx K _ S v d := Dx.up (Out.of (same_new (o := .tup (["list", "tuple"].map V.ty)) htp)) hd
      refine ⟨v, tp, _, _, _, _, rfl, upd_same, paired_ty ["list", "tuple"], dp_ty hd1.dp, kit_any (dp_tn hd1.dp) ["list", "tuple"] (by decide), ?_⟩
      have sm0 : Same H (upd H tp (.tup [V.ty "list", V.ty "tuple"])) := same_new htp
      refine ⟨_, rfl, ite2 (fun e => ?_) (fun e => ?_)⟩
      · refine ⟨_, rfl, v, .ty "list", _, _, _, rfl, .ty "list", dp_ty hd1.dp, kit_ty (kitT _ (dp_tn hd1.dp) "list" (by decide)), ?_⟩
        have htt : tn d = "list" ∨ tn d = "tuple" := by
          have hb := dp_tn hd.dp
          rcases List.mem_cons.mp hb with h | hb
          · rw [h] at e; exact absurd e (by decide)
          rcases List.mem_cons.mp hb with h | hb
          · rw [h] at e; exact absurd e (by decide)
          rcases List.mem_cons.mp hb with h | hb
          · rw [h] at e; exact absurd e (by decide)
          rcases List.mem_cons.mp hb with h | hb
          · rw [h] at e; exact absurd e (by decide)
          rcases List.mem_cons.mp hb with h | hb
          · exact .inl h
          · exact .inr (List.mem_singleton.mp hb)
        generalize hH1 : upd H tp (.tup (["list", "tuple"].map V.ty)) = H1 at hd1
        have hH2 : upd H tp (.tup [V.ty "list", V.ty "tuple"]) = H1 := hH1
        rw [hH2] at sm0 ⊢
        have hS1 : ∀ a, S a → H1 a ≠ none := fun a z y => hS a z (sm0.free y)
        cases n with
        | zero =>
          cases hd with
          | lst h t => exact absurd hn (Nat.not_succ_le_zero _)
          | tup h t => exact absurd hn (Nat.not_succ_le_zero _)
          | non => rcases htt with z | z <;> exact absurd z (by show ¬ "NoneType" = _; decide)
          | bl => rcases htt with z | z <;> exact absurd z (by show ¬ "bool" = _; decide)
          | int => rcases htt with z | z <;> exact absurd z (by show ¬ "int" = _; decide)
          | str => rcases htt with z | z <;> exact absurd z (by show ¬ "str" = _; decide)
        | succ n =>
          cases hd1 with
          | non => rcases htt with z | z <;> exact absurd z (by show ¬ "NoneType" = _; decide)
          | bl => rcases htt with z | z <;> exact absurd z (by show ¬ "bool" = _; decide)
          | int => rcases htt with z | z <;> exact absurd z (by show ¬ "int" = _; decide)
          | str => rcases htt with z | z <;> exact absurd z (by show ¬ "str" = _; decide)
          | @lst a xs ds h t =>
            have hw' : wdA ds = true := (Bool.and_eq_true_iff.mp hw).2
            have hl : xs.length ≤ 1000000 := by
              have := of_decide_eq_true (Bool.and_eq_true_iff.mp hw).1
              rw [dxAll_len t]
              omega
            refine .inl ⟨_, rfl, a, rfl, ⟨_, h.sq⟩, fun D hD => ?_⟩
            refine lc_data (S := S) (K := K) (walk_list (K := K) (a := a) (xs := xs)) (fun i x => xs[i]? = some x) (fun i => plD (ds.getD i .none)) hS1 hD (fun H' e => (h.up (Out.of e)).sq) hl (fun i H x H' _ y => y) (fun i x H' hi sm hDn e Q q => ?_) (fun H2 s2 d2 => ?_)
            · obtain ⟨di, h1, h2⟩ := dxAll_get (DxAll.up (Out.of sm) t) e
              have h3 : di.depth ≤ n := by
                have := depth_get h1
                have hn' : PyData.depthAll ds + 1 ≤ n + 1 := hn
                omega
              refine ⟨_, rfl, x, di, inS S D, rfl, fun a z => ?_, ?_, h3, wdA_get hw' h1, fun H' v' s3 d3 => ?_⟩
              · rcases z with z | z
                · exact fun y => hS1 a z (sm.free y)
                · rw [z]; exact hDn
              · exact Dx.up (Out.of sm) (Dx.add hD (Dx.of_get t e h1))
              · refine q _ _ s3 ?_
                rw [List.getD_eq_getElem?_getD, h1]
                exact d3
            refine ⟨lenOk (n := 2) rfl (by decide), fun l hl2 => ?_⟩
            have hSl : ¬ S l := fun z => hS l z (((sm0.trans s2)).free hl2)
            refine q _ _ ((sm0.trans s2).trans (same_new hl2)) ?_
            have e3 : (List.range xs.length).map (fun i => plD (ds.getD i .none)) = plA ds := by
              rw [dxAll_len t, range_getD plD .none ds, plA_map]
            rw [e3] at d2
            exact .tup (XT.of upd_same hSl) (.cons (.bl _) (.cons (Dx.up (Out.of (same_new hl2)) d2) .nil))
          | @tup a xs ds h t =>
            have hw' : wdA ds = true := (Bool.and_eq_true_iff.mp hw).2
            have hl : xs.length ≤ 1000000 := by
              have := of_decide_eq_true (Bool.and_eq_true_iff.mp hw).1
              rw [dxAll_len t]
              omega
            refine .inr ⟨_, rfl, a, rfl, ⟨_, h.sq⟩, fun D hD => ?_⟩
            refine lc_data (S := S) (K := K) (walk_tup (K := K) (a := a) (xs := xs)) (fun i x => xs[i]? = some x) (fun i => plD (ds.getD i .none)) hS1 hD (fun H' e => (h.up (Out.of e)).sq) hl (fun i H x H' _ y => y) (fun i x H' hi sm hDn e Q q => ?_) (fun H2 s2 d2 => ?_)
            · obtain ⟨di, h1, h2⟩ := dxAll_get (DxAll.up (Out.of sm) t) e
              have h3 : di.depth ≤ n := by
                have := depth_get h1
                have hn' : PyData.depthAll ds + 1 ≤ n + 1 := hn
                omega
              refine ⟨_, rfl, x, di, inS S D, rfl, fun a z => ?_, ?_, h3, wdA_get hw' h1, fun H' v' s3 d3 => ?_⟩
              · rcases z with z | z
                · exact fun y => hS1 a z (sm.free y)
                · rw [z]; exact hDn
              · exact Dx.up (Out.of sm) (Dx.add hD (Dx.of_get t e h1))
              · refine q _ _ s3 ?_
                rw [List.getD_eq_getElem?_getD, h1]
                exact d3
            refine ⟨lenOk (n := 2) rfl (by decide), fun l hl2 => ?_⟩
            have hSl : ¬ S l := fun z => hS l z (((sm0.trans s2)).free hl2)
            refine q _ _ ((sm0.trans s2).trans (same_new hl2)) ?_
            have e3 : (List.range xs.length).map (fun i => plD (ds.getD i .none)) = plA ds := by
              rw [dxAll_len t, range_getD plD .none ds, plA_map]
            rw [e3] at d2
            exact .tup (XT.of upd_same hSl) (.cons (.bl _) (.cons (Dx.up (Out.of (same_new hl2)) d2) .nil))
      · refine ⟨_, rfl, v, .ty "bool", _, _, _, rfl, .ty "bool", dp_ty hd1.dp, kit_ty (kitT _ (dp_tn hd1.dp) "bool" (by decide)), _, rfl, lenOk (n := 2) rfl (by decide), fun l hl => ?_⟩
        have n1 : tn d ≠ "list" := fun z => e (by rw [z]; decide)
        have n2 : tn d ≠ "tuple" := fun z => e (by rw [z]; decide)
        have hS2 : ¬ S l := fun z => hS l z (sm0.free hl)
        refine q _ _ (sm0.trans (same_new hl)) ?_
        rw [out _ n1 n2 rfl]
        exact .tup (XT.of upd_same hS2) (.cons (.bl _) (.cons (Dx.up (Out.of (same_new hl)) hd1) .nil))
theorem okH_plain (T : Txt K mg A) : ∀ n : Nat, L2H.FnH P w K mg base CX0 n A.a_law_plain A.d_law_plain ["_law_thing"] (spPlain K n)
  | 0 => ⟨fun _ _ _ _ h => h.elim, fun _ _ _ _ _ _ _ _ _ _ _ _ _ _ _ _ h => h.elim⟩
  | n + 1 => by
    have G0 : L2H.FnH P w K mg base CX0 n A.a_law_plain A.d_law_plain ["_law_thing"] (spPlain K n) := okH_plain T n
    refine Fun.okH T.F_law_plain sc_law_plain (fun vs H Q E h => ?_) (fun cdv A outer s H vs Q E p hot hr h => ?_)
    · obtain ⟨v, d, S, rfl, _⟩ := h
      rfl
    · obtain ⟨v, d, S, rfl, hS, hd, hn, hw, q⟩ := h
      refine ⟨_, (pss_cons (ps_if (pt_val (pe_callB (r := rIsiT K) call_isiT (by rfl) T.n_isinstance (by decide +kernel) (pa_cons (pv 0) (pa_cons (pe_tup (pa_cons (pe_bltn (v := .ty "list") (u := .type "list") (by rfl) T.n_list (by decide +kernel) rfl) (pa_cons (pe_bltn (v := .ty "tuple") (u := .type "tuple") (by rfl) T.n_tuple (by decide +kernel) rfl) pa_nil))) pa_nil)))) (pss_one (ps_ret (pe_tup (pa_cons (pe_callB (r := rIsi K) call_isi (by rfl) T.n_isinstance (by decide +kernel) (pa_cons (pv 0) (pa_cons (pe_bltn (v := .ty "list") (u := .type "list") (by rfl) T.n_list (by decide +kernel) rfl) pa_nil))) (pa_cons (pe_lcH (own := [("_law_one", 1)]) rfl hot List.mem_cons_self sc_law_plain.nd (PIH_or (pi_listH (pv 0)) (pi_tupH (pv 0))) (blkOk_by (own := [("_law_one", 1)]) (N := N_law_plain) (sc := defScope s_law_plain) (by decide +kernel)) (fun _ _ _ _ _ => pg_name (i := 1) sc_law_plain.nd rfl (Or.inl rfl)) (fun _ _ _ _ _ => pts_nil) (fun _ _ _ _ _ => by exact (L2H.pe_callH G0 (hr.mono (by omega)) ⟨p, hot, List.mem_cons_self⟩ rfl T.g_law_plain T.F_law_plain.kp T.b_law_plain (fun _ => pass_at0) (pa_cons (pv 1) pa_nil)))) pa_nil))))) pss_nil)
    (pss_one (ps_ret (pe_tup (pa_cons (pe_callB (r := rIsi K) call_isi (by rfl) T.n_isinstance (by decide +kernel) (pa_cons (pv 0) (pa_cons (pe_bltn (v := .ty "bool") (u := .type "bool") (by rfl) T.n_bool (by decide +kernel) rfl) pa_nil))) (pa_cons (pv 0) pa_nil)))))), ?_⟩
      have out : ∀ (b : Bool), tn d ≠ "list" → tn d ≠ "tuple" → b = isB (tn d) "bool" → plD d = .tuple [.bool b, d] := fun b h1 h2 h3 => by
        subst h3
        cases hd with
        | non => rfl
        | bl => rfl
        | int => rfl
        | str => rfl
        | lst _ _ => exact absurd rfl h1
        | tup _ _ => exact absurd rfl h2
      refine ⟨_, rfl, lenOk rfl (by decide), fun tp htp => ?_⟩
      have hd1 : Dx K _ S v d := Dx.up (Out.of (same_new (o := .tup (["list", "tuple"].map V.ty)) htp)) hd
      refine ⟨v, tp, _, _, _, _, rfl, upd_same, paired_ty ["list", "tuple"], dp_ty hd1.dp, kit_any (dp_tn hd1.dp) ["list", "tuple"] (by decide), ?_⟩
      have sm0 : Same H (upd H tp (.tup [V.ty "list", V.ty "tuple"])) := same_new htp
      refine ⟨_, rfl, ite2 (fun e => ?_) (fun e => ?_)⟩
      · refine ⟨_, rfl, v, .ty "list", _, _, _, rfl, .ty "list", dp_ty hd1.dp, kit_ty (kitT _ (dp_tn hd1.dp) "list" (by decide)), ?_⟩
        have htt : tn d = "list" ∨ tn d = "tuple" := by
          have hb := dp_tn hd.dp
          rcases List.mem_cons.mp hb with h | hb
          · rw [h] at e; exact absurd e (by decide)
          rcases List.mem_cons.mp hb with h | hb
          · rw [h] at e; exact absurd e (by decide)
          rcases List.mem_cons.mp hb with h | hb
          · rw [h] at e; exact absurd e (by decide)
          rcases List.mem_cons.mp hb with h | hb
          · rw [h] at e; exact absurd e (by decide)
          rcases List.mem_cons.mp hb with h | hb
          · exact .inl h
          · exact .inr (List.mem_singleton.mp hb)
        generalize hH1 : upd H tp (.tup (["list", "tuple"].map V.ty)) = H1 at hd1
        have hH2 : upd H tp (.tup [V.ty "list", V.ty "tuple"]) = H1 := hH1
        rw [hH2] at sm0 ⊢
        have hS1 : ∀ a, S a → H1 a ≠ none := fun a z y => hS a z (sm0.free y)
        cases n with
        | zero =>
          cases hd with
          | lst h t => exact absurd hn (Nat.not_succ_le_zero _)
          | tup h t => exact absurd hn (Nat.not_succ_le_zero _)
          | non => rcases htt with z | z <;> exact absurd z (by show ¬ "NoneType" = _; decide)
          | bl => rcases htt with z | z <;> exact absurd z (by show ¬ "bool" = _; decide)
          | int => rcases htt with z | z <;> exact absurd z (by show ¬ "int" = _; decide)
          | str => rcases htt with z | z <;> exact absurd z (by show ¬ "str" = _; decide)
        | succ n =>
          cases hd1 with
          | non => rcases htt with z | z <;> exact absurd z (by show ¬ "NoneType" = _; decide)
          | bl => rcases htt with z | z <;> exact absurd z (by show ¬ "bool" = _; decide)
          | int => rcases htt with z | z <;> exact absurd z (by show ¬ "int" = _; decide)
          | str => rcases htt with z | z <;> exact absurd z (by show ¬ "str" = _; decide)
          | @lst a xs ds h t =>
            have hw' : wdA ds = true := (Bool.and_eq_true_iff.mp hw).2
            have hl : xs.length ≤ 1000000 := by
              have := of_decide_eq_true (Bool.and_eq_true_iff.mp hw).1
              rw [dxAll_len t]
              omega
            refine .inl ⟨_, rfl, a, rfl, ⟨_, h.sq⟩, fun D hD => ?_⟩
            refine lc_data (S := S) (K := K) (walk_list (K := K) (a := a) (xs := xs)) (fun i x => xs[i]? = some x) (fun i => plD (ds.getD i .none)) hS1 hD (fun H' e => (h.up (Out.of e)).sq) hl (fun i H x H' _ y => y) (fun i x H' hi sm hDn e Q q => ?_) (fun H2 s2 d2 => ?_)
            · obtain ⟨di, h1, h2⟩ := dxAll_get (DxAll.up (Out.of sm) t) e
              have h3 : di.depth ≤ n := by
                have := depth_get h1
                have hn' : PyData.depthAll ds + 1 ≤ n + 1 := hn
                omega
              refine ⟨_, rfl, x, di, inS S D, rfl, fun a z => ?_, ?_, h3, wdA_get hw' h1, fun H' v' s3 d3 => ?_⟩
              · rcases z with z | z
                · exact fun y => hS1 a z (sm.free y)
                · rw [z]; exact hDn
              · exact Dx.up (Out.of sm) (Dx.add hD (Dx.of_get t e h1))
              · refine q _ _ s3 ?_
                rw [List.getD_eq_getElem?_getD, h1]
                exact d3
            refine ⟨lenOk (n := 2) rfl (by decide), fun l hl2 => ?_⟩
            have hSl : ¬ S l := fun z => hS l z (((sm0.trans s2)).free hl2)
            refine q _ _ ((sm0.trans s2).trans (same_new hl2)) ?_
            have e3 : (List.range xs.length).map (fun i => plD (ds.getD i .none)) = plA ds := by
              rw [dxAll_len t, range_getD plD .none ds, plA_map]
            rw [e3] at d2
            exact .tup (XT.of upd_same hSl) (.cons (.bl _) (.cons (Dx.up (Out.of (same_new hl2)) d2) .nil))
          | @tup a xs ds h t =>
            have hw' : wdA ds = true := (Bool.and_eq_true_iff.mp hw).2
            have hl : xs.length ≤ 1000000 := by
              have := of_decide_eq_true (Bool.and_eq_true_iff.mp hw).1
              rw [dxAll_len t]
              omega
            refine .inr ⟨_, rfl, a, rfl, ⟨_, h.sq⟩, fun D hD => ?_⟩
            refine lc_data (S := S) (K := K) (walk_tup (K := K) (a := a) (xs := xs)) (fun i x => xs[i]? = some x) (fun i => plD (ds.getD i .none)) hS1 hD (fun H' e => (h.up (Out.of e)).sq) hl (fun i H x H' _ y => y) (fun i x H' hi sm hDn e Q q => ?_) (fun H2 s2 d2 => ?_)
            · obtain ⟨di, h1, h2⟩ := dxAll_get (DxAll.up (Out.of sm) t) e
              have h3 : di.depth ≤ n := by
                have := depth_get h1
                have hn' : PyData.depthAll ds + 1 ≤ n + 1 := hn
                omega
              refine ⟨_, rfl, x, di, inS S D, rfl, fun a z => ?_, ?_, h3, wdA_get hw' h1, fun H' v' s3 d3 => ?_⟩
              · rcases z with z | z
                · exact fun y => hS1 a z (sm.free y)
                · rw [z]; exact hDn
              · exact Dx.up (Out.of sm) (Dx.add hD (Dx.of_get t e h1))
              · refine q _ _ s3 ?_
                rw [List.getD_eq_getElem?_getD, h1]
                exact d3
            refine ⟨lenOk (n := 2) rfl (by decide), fun l hl2 => ?_⟩
            have hSl : ¬ S l := fun z => hS l z (((sm0.trans s2)).free hl2)
            refine q _ _ ((sm0.trans s2).trans (same_new hl2)) ?_
            have e3 : (List.range xs.length).map (fun i => plD (ds.getD i .none)) = plA ds := by
              rw [dxAll_len t, range_getD plD .none ds, plA_map]
            rw [e3] at d2
            exact .tup (XT.of upd_same hSl) (.cons (.bl _) (.cons (Dx.up (Out.of (same_new hl2)) d2) .nil))
      · refine ⟨_, rfl, v, .ty "bool", _, _, _, rfl, .ty "bool", dp_ty hd1.dp, kit_ty (kitT _ (dp_tn hd1.dp) "bool" (by decide)), _, rfl, lenOk (n := 2) rfl (by decide), fun l hl => ?_⟩
        have n1 : tn d ≠ "list" := fun z => e (by rw [z]; decide)
        have n2 : tn d ≠ "tuple" := fun z => e (by rw [z]; decide)
        have hS2 : ¬ S l := fun z => hS l z (sm0.free hl)
        refine q _ _ (sm0.trans (same_new hl)) ?_
        rw [out _ n1 n2 rfl]
        exact .tup (XT.of upd_same hS2) (.cons (.bl _) (.cons (Dx.up (Out.of (same_new hl)) hd1) .nil))
end
end R1

namespace R1
open PySem PySem.Spec PyProof.Rows L2 RK
local macro_rules | `(tactic| walk_at "sq") => `(tactic| first
  | exact SqL.of upd_same | exact upd_same | exact SqL.of (by assumption) | exact SqL.of (by rw [upd_ne (by assumption)]; assumption) | assumption)
local macro_rules | `(tactic| walk_at "sd") => `(tactic| first
  | assumption | omega | (refine Or.inl ⟨?_, ?_⟩ <;> omega) | (show _ ∧ _; constructor <;> omega) | (show _ ≠ _; simp; omega) | (exact Or.inl ⟨by decide, by decide⟩) | (exact Or.inr ⟨by decide, by decide⟩) | (show _ < _; decide) | (show _ ≤ _; decide))
local macro_rules | `(tactic| walk_at "at") => `(tactic| first | rfl | (refine atI_intV ?_ ?_ <;> omega) | assumption)
local macro_rules | `(tactic| walk_at "s1") => `(tactic| first
  | refine ⟨_, rfl, ?_⟩ | refine ⟨_, _, rfl, rfl, ?_⟩ | refine ⟨rfl, ?_⟩
  | refine ⟨_, _, _, _, rfl, rfl, by walk_at "sq", by walk_at "at", ?_⟩
  | refine Or.inl ⟨_, rfl, ?_⟩
  | refine ⟨_, _, rfl, Or.inl (by walk_at "sq"), ?_⟩
  | refine And.intro (by walk_at "sd") ?_)
local macro_rules | `(tactic| walk_at "s") => `(tactic| repeat walk_at "s1")

def st (s : String) : Str := Str.ofString s
def optI : Option Int → V
  | none => .non
  | some i => .int i
def bnd : Option Int → Option Int
  | none => none
  | some n => if -1000000000 ≤ n ∧ n ≤ 1000000000 then some n else none
def CMP : List V := [.str (Str.ofString "<"), .str (Str.ofString "<="), .str (Str.ofString "="), .str (Str.ofString "<>"), .str (Str.ofString ">"), .str (Str.ofString ">=")]
def FCT : List V := [.str (Str.ofString "start"), .str (Str.ofString "end"), .str (Str.ofString "size"), .str (Str.ofString "load"), .str (Str.ofString "base"), .str (Str.ofString "len"), .str (Str.ofString "used"), .str (Str.ofString "room"), .str (Str.ofString "at"), .str (Str.ofString "exported"), .str (Str.ofString "takes"), .str (Str.ofString "leaves"), .str (Str.ofString "kept")]
def isS (op : Str) (s : String) : Bool := decide (V.str op = V.str (Str.ofString s))
def b2i (b : Bool) : Int := if b then 1 else 0
def eqI (x y : Int) : Bool := decide (V.int x = V.int y)
theorem eqI_iff {x y : Int} : eqI x y = decide (x = y) := by
  unfold eqI
  rw [decide_eq_decide]
  exact ⟨V.int.inj, fun z => by rw [z]⟩
def cmpO (op : Str) (x y : Int) : Bool :=
  if isS op "=" then eqI x y else if isS op "<>" then !eqI x y
  else if inV (.str op) [.str (Str.ofString "<"), .str (Str.ofString ">=")] then decide (V.bl (decide (x < y)) = V.bl (isS op "<")) else decide (V.bl (decide (y < x)) = V.bl (isS op ">"))
def resO (op : Str) (x y : Int) : Option Int :=
  if isS op "or" then some (b2i (!eqI x 0 || !eqI y 0)) else if isS op "and" then some (b2i (!eqI x 0 && !eqI y 0))
  else if inV (.str op) CMP then some (b2i (cmpO op x y)) else if isS op "+" then some (x + y) else if isS op "-" then some (x - y) else if isS op "*" then some (x * y)
  else if eqI y 0 then none else if isS op "/" then some (x.fdiv y) else some (x.fmod y)
def spWithin : Sp := fun vs H Q _ => ∃ o : Option Int, vs = [optI o] ∧ Q (optI (bnd o)) H
def spTruth : Sp := fun vs H Q _ => ∃ b : Bool, vs = [.bl b] ∧ Q (.int (b2i b)) H
def spCompared : Sp := fun vs H Q _ => ∃ (op : Str) (x y : Int), vs = [.str op, .int x, .int y] ∧ ∀ H', Same H H' → Q (.bl (cmpO op x y)) H'
def Sm (x : Int) : Prop := -1000000000 ≤ x ∧ x ≤ 1000000000
def spResult : Sp := fun vs H Q _ => ∃ (op : Str) (x y : Int), vs = [.str op, .int x, .int y] ∧ Sm x ∧ Sm y ∧ ∀ H', Same H H' → Q (optI (resO op x y)) H'
section
variable {P : Program} {w : World} {K : PySem.W.Frag} {mg : Str → Option Value} {base : Heap} {A : Ads}
theorem ok_within (T : Txt K mg A) : FnOk P w K mg base CX0 1 A.a_within A.d_within ["number"] spWithin := by
  refine T.F_within.ok sc_within (fun vs H Q E h => ?_) (fun cdv B outer s H vs Q E hr h => ?_)
  · obtain ⟨o, rfl, _⟩ := h
    rfl
  · obtain ⟨o, rfl, q⟩ := h
    refine ⟨_, (pss_one (ps_ret (pe_ifExp (PW.pt (pw_and (pt_cmpR op_notN (pv 0) pe_non (nomark _)) (pw_and1 (pt_chain op_le op_le (pe_un un_neg (pe_glob (v := .int 1000000000) rfl T.g_MOST ⟨_, rfl⟩)) (pv 0) (pe_glob (v := .int 1000000000) rfl T.g_MOST ⟨_, rfl⟩))))) (pv 0) pe_non))), ?_⟩
    cases o with
    | none => exact ⟨_, rfl, rfl, _, rfl, ifF rfl (ifF rfl q)⟩
    | some n =>
      refine ⟨_, rfl, rfl, _, rfl, ifT rfl ?_⟩
      have hb : bnd (some n) = if -1000000000 ≤ n ∧ n ≤ 1000000000 then some n else none := rfl
      rw [hb] at q
      refine ⟨_, rfl, _, rfl, _, _, rfl, rfl, _, rfl, ite2 (fun c => ?_) (fun c => ?_)⟩
      · have c1 : -1000000000 ≤ n := of_decide_eq_true c
        refine ⟨_, _, rfl, rfl, _, rfl, ite2 (fun c2 => ?_) (fun c2 => ?_)⟩
        · have c3 : n ≤ 1000000000 := of_decide_eq_true c2
          rw [if_pos ⟨c1, c3⟩] at q
          exact ⟨_, rfl, q⟩
        · have c3 : ¬ n ≤ 1000000000 := fun z => c2 (decide_eq_true z)
          rw [if_neg fun z => c3 z.2] at q
          exact q
      · have c1 : ¬ -1000000000 ≤ n := fun z => c (decide_eq_true z)
        rw [if_neg fun z => c1 z.1] at q
        exact ⟨_, rfl, ifF rfl q⟩
theorem ok_truth (T : Txt K mg A) : FnOk P w K mg base CX0 1 A.a_truth A.d_truth ["thing"] spTruth := by
  refine T.F_truth.ok sc_truth (fun vs H Q E h => ?_) (fun cdv B outer s H vs Q E hr h => ?_)
  · obtain ⟨o, rfl, _⟩ := h
    rfl
  · obtain ⟨b, rfl, q⟩ := h
    refine ⟨_, (pss_one (ps_ret (pe_ifExp (pt_val (pv 0)) pe_int pe_int))), ?_⟩
    exact ⟨_, rfl, _, rfl, by cases b <;> exact q⟩
theorem ok_compared (T : Txt K mg A) : FnOk P w K mg base CX0 1 A.a_compared A.d_compared ["op", "left", "right"] spCompared := by
  refine T.F_compared.ok sc_compared (fun vs H Q E h => ?_) (fun cdv B outer s H vs Q E hr h => ?_)
  · obtain ⟨op, x, y, rfl, _⟩ := h
    rfl
  · obtain ⟨op, x, y, rfl, q⟩ := h
    refine ⟨_, (pss_cons (ps_if (pt_cmpR op_eq (pv 0) pe_str (nomark _)) (pss_one (ps_ret (pe_cmpR op_eq (pv 1) (pv 2) (nomark _)))) pss_nil)
    (pss_cons (ps_if (pt_cmpR op_eq (pv 0) pe_str (nomark _)) (pss_one (ps_ret (pe_cmpR op_ne (pv 1) (pv 2) (nomark _)))) pss_nil)
    (pss_cons (ps_if (pt_cmpR op_in_seq (pv 0) (pe_tup (pa_cons pe_str (pa_cons pe_str pa_nil))) (by rfl)) (pss_one (ps_ret (pe_cmpR op_eq (pe_cmpR op_lt (pv 1) (pv 2) (nomark _)) (pe_cmpR op_eq (pv 0) pe_str (nomark _)) (nomark _)))) pss_nil)
    (pss_one (ps_ret (pe_cmpR op_eq (pe_cmpR op_gt (pv 1) (pv 2) (nomark _)) (pe_cmpR op_eq (pv 0) pe_str (nomark _)) (nomark _))))))), ?_⟩
    unfold cmpO at q
    refine ⟨_, rfl, rfl, _, rfl, ?_⟩
    show if isS op "=" = true then _ else _
    refine ite2 (fun c => ?_) (fun c => ?_)
    · rw [if_pos c] at q
      exact ⟨_, rfl, _, rfl, rfl, q _ (Same.refl _)⟩
    rw [if_neg c] at q
    refine ⟨_, rfl, rfl, _, rfl, ?_⟩
    show if isS op "<>" = true then _ else _
    refine ite2 (fun c => ?_) (fun c => ?_)
    · rw [if_pos c] at q
      exact ⟨_, rfl, _, rfl, rfl, q _ (Same.refl _)⟩
    rw [if_neg c] at q
    refine ⟨_, rfl, lenOk (n := 2) rfl (by decide), fun p hp => ?_⟩
    refine ⟨p, _, rfl, .inr (SqT.of upd_same), rfl, rfl, _, rfl, ?_⟩
    rw [if_neg Bool.false_ne_true]
    refine ite2 (fun c => ?_) (fun c => ?_)
    · rw [if_pos c] at q
      exact ⟨_, rfl, _, rfl, _, _, rfl, rfl, _, rfl, rfl, rfl, q _ (same_new hp)⟩
    · rw [if_neg c] at q
      exact ⟨_, rfl, _, rfl, _, _, rfl, rfl, _, rfl, rfl, rfl, q _ (same_new hp)⟩
theorem ok_result (T : Txt K mg A) : FnOk P w K mg base CX0 2 A.a_result A.d_result ["op", "left", "right"] spResult := by
  refine T.F_result.ok sc_result (fun vs H Q E h => ?_) (fun cdv B outer s H vs Q E hr h => ?_)
  · obtain ⟨op, x, y, rfl, _⟩ := h
    rfl
  · obtain ⟨op, x, y, rfl, hx, hy, q⟩ := h
    refine ⟨_, (pss_cons (ps_if (pt_cmpR op_eq (pv 0) pe_str (nomark _)) (pss_one (ps_ret (pe_call (ok_truth T) (hr.mono (by omega)) rfl T.g_truth T.F_truth.kp T.b_truth .nil pass0 (pa_cons (pe_or (pe_cmpR op_ne (pv 1) pe_int (nomark _)) (pe_one (pe_cmpR op_ne (pv 2) pe_int (nomark _)))) pa_nil)))) pss_nil)
    (pss_cons (ps_if (pt_cmpR op_eq (pv 0) pe_str (nomark _)) (pss_one (ps_ret (pe_call (ok_truth T) (hr.mono (by omega)) rfl T.g_truth T.F_truth.kp T.b_truth .nil pass0 (pa_cons (pe_and (pe_cmpR op_ne (pv 1) pe_int (nomark _)) (pe_one (pe_cmpR op_ne (pv 2) pe_int (nomark _)))) pa_nil)))) pss_nil)
    (pss_cons (ps_if (pt_cmpR op_in_seq (pv 0) (pe_glob (v := .ref A.t_COMPARISONS) rfl T.g_COMPARISONS rfl) (by rfl)) (pss_one (ps_ret (pe_call (ok_truth T) (hr.mono (by omega)) rfl T.g_truth T.F_truth.kp T.b_truth .nil pass0 (pa_cons (pe_call (ok_compared T) (hr.mono (by omega)) rfl T.g_compared T.F_compared.kp T.b_compared .nil pass0 (pa_cons (pv 0) (pa_cons (pv 1) (pa_cons (pv 2) pa_nil)))) pa_nil)))) pss_nil)
    (pss_cons (ps_if (pt_cmpR op_eq (pv 0) pe_str (nomark _)) (pss_one (ps_ret (pe_op op_add (pv 1) (pv 2)))) pss_nil)
    (pss_cons (ps_if (pt_cmpR op_eq (pv 0) pe_str (nomark _)) (pss_one (ps_ret (pe_op op_sub (pv 1) (pv 2)))) pss_nil)
    (pss_cons (ps_if (pt_cmpR op_eq (pv 0) pe_str (nomark _)) (pss_one (ps_ret (pe_op op_mul (pv 1) (pv 2)))) pss_nil)
    (pss_cons (ps_if (pt_cmpR op_eq (pv 2) pe_int (nomark _)) (pss_one (ps_ret pe_non)) pss_nil)
    (pss_one (ps_ret (pe_ifExp (pt_cmpR op_eq (pv 0) pe_str (nomark _)) (pe_op op_fdivN (pv 1) (pv 2)) (pe_op op_modN (pv 1) (pv 2)))))))))))), ?_⟩
    unfold resO at q
    refine ⟨_, rfl, rfl, _, rfl, ?_⟩
    show if isS op "or" = true then _ else _
    refine ite2 (fun c => ?_) (fun c => ?_)
    · rw [if_pos c] at q
      refine ⟨_, rfl, rfl, _, rfl, ?_⟩
      show if (!eqI x 0) = true then _ else _
      cases hx0 : eqI x 0 with
      | false =>
        rw [hx0] at q
        exact ifT rfl ⟨true, rfl, q _ (Same.refl _)⟩
      | true =>
        rw [hx0] at q
        exact ifF rfl ⟨_, rfl, rfl, _, rfl, q _ (Same.refl _)⟩
    rw [if_neg c] at q
    refine ⟨_, rfl, rfl, _, rfl, ?_⟩
    show if isS op "and" = true then _ else _
    refine ite2 (fun c => ?_) (fun c => ?_)
    · rw [if_pos c] at q
      refine ⟨_, rfl, rfl, _, rfl, ?_⟩
      show if (!eqI x 0) = true then _ else _
      cases hx0 : eqI x 0 with
      | true =>
        rw [hx0] at q
        exact ifF rfl ⟨false, rfl, q _ (Same.refl _)⟩
      | false =>
        rw [hx0] at q
        exact ifT rfl ⟨_, rfl, rfl, _, rfl, q _ (Same.refl _)⟩
    rw [if_neg c] at q
    refine ⟨_, rfl, A.t_COMPARISONS, CMP, rfl, .inr (sqT_up T.q_COMPARISONS fun _ _ h => nomatch h), rfl, rfl, _, rfl, ?_⟩
    rw [if_neg Bool.false_ne_true]
    refine ite2 (fun c => ?_) (fun c => ?_)
    · rw [if_pos c] at q
      exact ⟨_, rfl, _, rfl, _, rfl, op, x, y, rfl, fun H' s' => ⟨_, rfl, q _ s'⟩⟩
    rw [if_neg c] at q
    refine ⟨_, rfl, rfl, _, rfl, ?_⟩
    show if isS op "+" = true then _ else _
    refine ite2 (fun c => ?_) (fun c => ?_)
    · rw [if_pos c] at q
      exact ⟨_, rfl, _, rfl, _, _, rfl, rfl, q _ (Same.refl _)⟩
    rw [if_neg c] at q
    refine ⟨_, rfl, rfl, _, rfl, ?_⟩
    show if isS op "-" = true then _ else _
    refine ite2 (fun c => ?_) (fun c => ?_)
    · rw [if_pos c] at q
      exact ⟨_, rfl, _, rfl, _, _, rfl, rfl, q _ (Same.refl _)⟩
    rw [if_neg c] at q
    refine ⟨_, rfl, rfl, _, rfl, ?_⟩
    show if isS op "*" = true then _ else _
    refine ite2 (fun c => ?_) (fun c => ?_)
    · rw [if_pos c] at q
      exact ⟨_, rfl, _, rfl, _, _, rfl, rfl, .inl ⟨by have := hx.1; omega, by have := hx.2; omega⟩, q _ (Same.refl _)⟩
    rw [if_neg c] at q
    refine ⟨_, rfl, rfl, _, rfl, ?_⟩
    show if eqI y 0 = true then _ else _
    refine ite2 (fun c => ?_) (fun c => ?_)
    · rw [if_pos c] at q
      exact q _ (Same.refl _)
    rw [if_neg c] at q
    have hy0 : y ≠ 0 := fun z => c (by rw [z]; exact decide_eq_true rfl)
    refine ⟨_, rfl, rfl, _, rfl, ?_⟩
    show if isS op "/" = true then _ else _
    refine ite2 (fun c => ?_) (fun c => ?_)
    · rw [if_pos c] at q
      exact ⟨_, rfl, _, rfl, _, _, rfl, rfl, ⟨hy0, by have := hy.1; have := hy.2; omega⟩, q _ (Same.refl _)⟩
    · rw [if_neg c] at q
      exact ⟨_, rfl, _, rfl, _, _, rfl, rfl, hy0, q _ (Same.refl _)⟩
end
end R1

namespace R1
open PySem PySem.Spec PyProof.Rows L2 RK
local macro_rules | `(tactic| walk_at "sq") => `(tactic| first
  | exact SqL.of upd_same | exact upd_same | exact SqL.of (by assumption) | exact SqL.of (by rw [upd_ne (by assumption)]; assumption) | assumption)
local macro_rules | `(tactic| walk_at "sd") => `(tactic| first
  | assumption | omega | (refine Or.inl ⟨?_, ?_⟩ <;> omega) | (show _ ∧ _; constructor <;> omega) | (show _ ≠ _; simp; omega) | (exact Or.inl ⟨by decide, by decide⟩) | (exact Or.inr ⟨by decide, by decide⟩) | (show _ < _; decide) | (show _ ≤ _; decide))
local macro_rules | `(tactic| walk_at "at") => `(tactic| first | rfl | (refine atI_intV ?_ ?_ <;> omega) | assumption)
local macro_rules | `(tactic| walk_at "s1") => `(tactic| first
  | refine ⟨_, rfl, ?_⟩ | refine ⟨_, _, rfl, rfl, ?_⟩ | refine ⟨rfl, ?_⟩
  | refine ⟨_, _, _, _, rfl, rfl, by walk_at "sq", by walk_at "at", ?_⟩
  | refine Or.inl ⟨_, rfl, ?_⟩
  | refine ⟨_, _, rfl, Or.inl (by walk_at "sq"), ?_⟩
  | refine And.intro (by walk_at "sd") ?_)
local macro_rules | `(tactic| walk_at "s") => `(tactic| repeat walk_at "s1")

def SO (s : Str) : Prop := ∀ c ∈ s.cps.toList, c < 0x110000
theorem so_lay {s : Str} (h : SO s) : (PyData.str s).canLay0 = true := by
  show (s.cps.all fun c => decide (c < 0x110000)) = true
  rw [← Array.all_toList, List.all_eq_true]
  exact fun c hc => decide_eq_true (h c hc)
theorem so_dec {s : Str} (h : (s.cps.toList.all fun c => decide (c < 0x110000)) = true) : SO s := fun c hc => of_decide_eq_true (List.all_eq_true.mp h c hc)
theorem so_app {a b : Str} (ha : SO a) (hb : SO b) : SO (a ++ b) := fun c hc => by
  have e : (a ++ b).cps.toList = a.cps.toList ++ b.cps.toList := Array.toList_append
  rw [e] at hc
  rcases List.mem_append.mp hc with z | z
  · exact ha c z
  · exact hb c z
theorem so_cut {a : Str} (h : SO a) (lo hi : Option Int) : SO (cutS a lo hi) := fun c hc => h c (List.mem_of_mem_drop (List.mem_of_mem_take hc))
theorem so_inV {w : Str} {xs : List V} (h : inV (.str w) xs = true) (k : ∀ x ∈ xs, match x with | .str z => SO z | _ => False) : SO w := by
  obtain ⟨y, hy, e⟩ := List.any_eq_true.mp h
  have := k y hy
  cases y with
  | str z =>
    have e2 : (z == w) = true := e
    rw [← eq_of_beq e2]
    exact this
  | _ => exact this.elim
theorem so_isS {w : Str} {s : String} (h : isS w s = true) (k : SO (Str.ofString s)) : SO w := by
  have e2 : V.str w = V.str (Str.ofString s) := of_decide_eq_true h
  cases e2
  exact k
inductive Tr
  | num (n : Int)
  | one (w : Str)
  | two (w x : Str)
  | un (op : Str) (t : Tr)
  | bin (op : Str) (a b : Tr)
def TrK (H : Hp) : V → Tr → Prop
  | v, .num n => ∃ p, v = .ref p ∧ H p = some (.tup [.str (Str.ofString "number"), .int n])
  | v, .one w => ∃ p, v = .ref p ∧ H p = some (.tup [.str w])
  | v, .two w x => ∃ p, v = .ref p ∧ H p = some (.tup [.str w, .str x])
  | v, .un op t => ∃ p u, v = .ref p ∧ H p = some (.tup [.str op, u]) ∧ TrK H u t
  | v, .bin op a b => ∃ p u1 u2, v = .ref p ∧ H p = some (.tup [.str op, u1, u2]) ∧ TrK H u1 a ∧ TrK H u2 b
theorem TrK.up {H H' : Hp} (e : ∀ p xs, H p = some (.tup xs) → H' p = some (.tup xs)) : ∀ {t : Tr} {v : V}, TrK H v t → TrK H' v t
  | .num _, _, ⟨p, a, b⟩ => ⟨p, a, e _ _ b⟩
  | .one _, _, ⟨p, a, b⟩ => ⟨p, a, e _ _ b⟩
  | .two _ _, _, ⟨p, a, b⟩ => ⟨p, a, e _ _ b⟩
  | .un _ _, _, ⟨p, u, a, b, c⟩ => ⟨p, u, a, e _ _ b, TrK.up e c⟩
  | .bin _ _ _, _, ⟨p, u1, u2, a, b, c, d⟩ => ⟨p, u1, u2, a, e _ _ b, TrK.up e c, TrK.up e d⟩
theorem TrK.ups {H H' : Hp} {t : Tr} {v : V} (h : TrK H v t) (e : Same H H') : TrK H' v t := h.up fun _ _ => e _ _
def OneW (w : Str) : Prop := isS w "home" = true ∨ isS w "confirms" = true
def TwoW (w : Str) : Prop := isS w "let" = true ∨ inV (.str w) FCT = true
def UnO (w : Str) : Prop := isS w "not" = true ∨ isS w "minus" = true
def BOPS : List V := [.str (Str.ofString "or"), .str (Str.ofString "and"), .str (Str.ofString "<"), .str (Str.ofString "<="), .str (Str.ofString "="), .str (Str.ofString "<>"), .str (Str.ofString ">"), .str (Str.ofString ">="), .str (Str.ofString "+"), .str (Str.ofString "-"), .str (Str.ofString "*"), .str (Str.ofString "/"), .str (Str.ofString "mod")]
def BinO (w : Str) : Prop := inV (.str w) BOPS = true
def Wf : Tr → Prop
  | .num _ => True
  | .one w => OneW w
  | .two w x => TwoW w ∧ SO x
  | .un op t => UnO op ∧ Wf t
  | .bin op a b => BinO op ∧ Wf a ∧ Wf b
def dep : Tr → Nat
  | .num _ => 0
  | .one _ => 0
  | .two _ _ => 0
  | .un _ t => dep t + 1
  | .bin _ a b => max (dep a) (dep b) + 1
def lk (kvs : List (List Key × V)) (k : List Key) : Option Int := match valV kvs k with
  | some (.int i) => some i
  | _ => none
def FOk (kvs : List (List Key × V)) : Prop := ∀ k v, valV kvs k = some v → v = .non ∨ ∃ i, v = .int i
theorem lk_get {kvs : List (List Key × V)} (h : FOk kvs) (k : List Key) : (valV kvs k).getD .non = optI (lk kvs k) := by
  unfold lk
  cases hv : valV kvs k with
  | none => rfl
  | some v =>
    rcases h k v hv with e | ⟨i, e⟩
    · rw [e]; rfl
    · rw [e]; rfl
def unO (op : Str) (v : Int) : Int := if isS op "minus" then -v else b2i (eqI v 0)
def val (kvs : List (List Key × V)) : Tr → Option Int
  | .num n => bnd (some n)
  | .one w => bnd (lk kvs [.inr w])
  | .two w x => bnd (lk kvs [.inr w, .inr x])
  | .un op t => match val kvs t with
    | none => none
    | some v => some (unO op v)
  | .bin op a b => match val kvs a, val kvs b with
    | some x, some y => bnd (resO op x y)
    | _, _ => none
theorem bnd_sm {o : Option Int} {v : Int} (h : bnd o = some v) : Sm v := by
  cases o with
  | none => cases h
  | some n =>
    have hb : bnd (some n) = if -1000000000 ≤ n ∧ n ≤ 1000000000 then some n else none := rfl
    rw [hb] at h
    split at h
    · rename_i g
      cases h
      exact g
    · cases h
theorem val_sm {kvs : List (List Key × V)} : ∀ {t : Tr} {v : Int}, val kvs t = some v → Sm v
  | .num _, _, h => bnd_sm h
  | .one _, _, h => bnd_sm h
  | .two _ _, _, h => bnd_sm h
  | .un op t, v, h => by
    have h2 : (match val kvs t with | none => none | some v => some (unO op v)) = some v := h
    cases ht : val kvs t with
    | none => rw [ht] at h2; cases h2
    | some x =>
      rw [ht] at h2
      cases h2
      have := val_sm ht
      unfold unO b2i Sm at *
      split
      · omega
      · split <;> decide
  | .bin op a b, v, h => by
    have h2 : (match val kvs a, val kvs b with | some x, some y => bnd (resO op x y) | _, _ => none) = some v := h
    cases ha : val kvs a with
    | none => rw [ha] at h2; cases h2
    | some x =>
      cases hb : val kvs b with
      | none => rw [ha, hb] at h2; cases h2
      | some y =>
        rw [ha, hb] at h2
        exact bnd_sm h2
def spValue (K : PySem.W.Frag) (n : Nat) : Sp := fun vs H Q _ => ∃ (v : V) (f : Addr) (t : Tr) (kvs : List (List Key × V)), vs = [v, .ref f] ∧ TrK H v t ∧ Wf t ∧ dep t < n ∧ H f = some (.dT kvs) ∧ FOk kvs ∧ ∀ H', Same H H' → Q (optI (val kvs t)) H'
theorem two_not : ∀ w, TwoW w → isS w "number" = false := fun w h => by
  rcases h with h | h
  · have : w = Str.ofString "let" := V.str.inj (of_decide_eq_true h)
    rw [this]
    decide +kernel
  · obtain ⟨x, hx, e⟩ := List.any_eq_true.mp h
    have hx2 : x = .str w := by
      have hs : ∀ y ∈ FCT, ∃ z, y = .str z := fun y hy => by
        unfold FCT at hy
        simp only [List.mem_cons, List.not_mem_nil, or_false] at hy
        rcases hy with z | z | z | z | z | z | z | z | z | z | z | z | z <;> exact ⟨_, z⟩
      obtain ⟨z, rfl⟩ := hs x hx
      have : (z == w) = true := e
      rw [eq_of_beq this]
    rw [hx2] at hx
    have : ∀ y ∈ FCT, decide (y = .str (Str.ofString "number")) = false := by decide +kernel
    exact this _ hx
theorem str_eq {w : Str} {s : String} (h : isS w s = true) : w = Str.ofString s := V.str.inj (of_decide_eq_true h)
theorem so_w1 {w : Str} (h : OneW w) : SO w := by
  rcases h with h | h
  · exact so_isS h (so_dec (by decide +kernel))
  · exact so_isS h (so_dec (by decide +kernel))
theorem so_fct : ∀ x ∈ FCT, match x with | .str z => SO z | _ => False := fun x hx => by
  unfold FCT at hx
  simp only [List.mem_cons, List.not_mem_nil, or_false] at hx
  rcases hx with z | z | z | z | z | z | z | z | z | z | z | z | z <;> (rw [z]; exact so_dec (by decide +kernel))
theorem so_bops : ∀ x ∈ BOPS, match x with | .str z => SO z | _ => False := fun x hx => by
  unfold BOPS at hx
  simp only [List.mem_cons, List.not_mem_nil, or_false] at hx
  rcases hx with z | z | z | z | z | z | z | z | z | z | z | z | z <;> (rw [z]; exact so_dec (by decide +kernel))
theorem so_w2 {w : Str} (h : TwoW w) : SO w := by
  rcases h with h | h
  · exact so_isS h (so_dec (by decide +kernel))
  · exact so_inV h so_fct
theorem so_un {w : Str} (h : UnO w) : SO w := by
  rcases h with h | h
  · exact so_isS h (so_dec (by decide +kernel))
  · exact so_isS h (so_dec (by decide +kernel))
theorem so_bin {w : Str} (h : BinO w) : SO w := so_inV h so_bops
def LayK : Key → Prop
  | .inl _ => True
  | .inr s => SO s
theorem one_not : ∀ w, OneW w → isS w "number" = false := fun w h => by
  rcases h with h | h <;> (rw [str_eq h]; decide +kernel)
theorem one_in : ∀ w, OneW w → inV (.str w) [.str (Str.ofString "home"), .str (Str.ofString "confirms"), .str (Str.ofString "let")] = true := fun w h => by
  rcases h with h | h <;> (rw [str_eq h]; decide +kernel)
theorem let_in : ∀ w, isS w "let" = true → inV (.str w) [.str (Str.ofString "home"), .str (Str.ofString "confirms"), .str (Str.ofString "let")] = true := fun w h => by
  rw [str_eq h]; decide +kernel
theorem op_not (op : Str) (h : UnO op ∨ BinO op) : isS op "number" = false ∧ inV (.str op) [.str (Str.ofString "home"), .str (Str.ofString "confirms"), .str (Str.ofString "let")] = false ∧ inV (.str op) FCT = false := by
  rcases h with (h | h) | h
  · rw [str_eq h]; decide +kernel
  · rw [str_eq h]; decide +kernel
  · have hm : V.str op ∈ BOPS := by
      obtain ⟨x, hx, e⟩ := List.any_eq_true.mp h
      have hs : ∀ y ∈ BOPS, ∃ z, y = .str z := fun y hy => by
        unfold BOPS at hy
        simp only [List.mem_cons, List.not_mem_nil, or_false] at hy
        rcases hy with z | z | z | z | z | z | z | z | z | z | z | z | z <;> exact ⟨_, z⟩
      obtain ⟨z, rfl⟩ := hs x hx
      have : (z == op) = true := e
      rw [eq_of_beq this] at hx
      exact hx
    have all : ∀ y ∈ BOPS, (decide (y = .str (Str.ofString "number")) = false ∧ inV y [.str (Str.ofString "home"), .str (Str.ofString "confirms"), .str (Str.ofString "let")] = false ∧ inV y FCT = false) := by decide +kernel
    exact all _ hm
theorem getD_at {α : Type} {l : List α} {i : Nat} {z : α} (h : i < l.length) : l.getD i z = l[i] := by
  rw [List.getD_eq_getElem?_getD, List.getElem?_eq_getElem h]
  rfl
section
variable {P : Program} {w : World} {K : PySem.W.Frag} {mg : Str → Option Value} {base : Heap} {A : Ads}
theorem ok_value (T : Txt K mg A) : ∀ n : Nat, FnOk P w K mg base CX0 (n + 2) A.a_value A.d_value ["tree", "facts"] (spValue K n)
  | 0 => ⟨fun vs H Q E h => by
      obtain ⟨v, f, t, kvs, rfl, _⟩ := h
      rfl, fun _ _ _ _ _ _ _ _ _ _ _ _ _ h => by
      obtain ⟨v, f, t, kvs, _, _, _, hd, _⟩ := h
      exact absurd hd (Nat.not_lt_zero _)⟩
  | n + 1 => by
    have G0 : FnOk P w K mg base CX0 (n + 2) A.a_value A.d_value ["tree", "facts"] (spValue K n) := ok_value T n
    refine T.F_value.ok sc_value (fun vs H Q E h => ?_) (fun cdv B outer s H vs Q E hr h => ?_)
    · obtain ⟨v, f, t, kvs, rfl, _⟩ := h
      rfl
    · obtain ⟨v, f, t, kvs, rfl, ht, hwf, hd, hf, hfo, q⟩ := h
      refine ⟨_, (pss_cons (ps_set (i := 2) sc_value.nd rfl (.inl rfl) (pe_ix ix_tup (pv 0) pe_int (fun _ _ => rfl)))
    (pss_cons (ps_if (pt_cmpR op_eq (pv 2) pe_str (nomark _)) (pss_one (ps_ret (pe_call (ok_within T) (hr.mono (by omega)) rfl T.g_within T.F_within.kp T.b_within .nil pass0 (pa_cons (pe_ix ix_tup (pv 0) pe_int (fun _ _ => rfl)) pa_nil)))) pss_nil)
    (pss_cons (ps_if (PW.pt (pw_or (pt_cmpR op_in_seq (pv 2) (pe_tup (pa_cons pe_str (pa_cons pe_str (pa_cons pe_str pa_nil)))) (by rfl)) (pw_or1 (pt_cmpR op_in_seq (pv 2) (pe_glob (v := .ref A.t_FACTS) rfl T.g_FACTS rfl) (by rfl))))) (pss_one (ps_ret (pe_call (ok_within T) (hr.mono (by omega)) rfl T.g_within T.F_within.kp T.b_within .nil pass0 (pa_cons (pe_dget1 (hu_of hr) (pv 1) (pv 0) ⟨rfl, rfl, rfl, rfl⟩) pa_nil)))) pss_nil)
    (pss_cons (ps_setLc (i := 4) (own := [("part", 3)]) rfl sc_value.nd rfl rfl (sw_true rfl rfl rfl (by decide +kernel)) (pi_tup (pe_slice sl_tupA (pv 0) (po_some pe_int) po_none)) (blkOk_by (own := [("part", 3)]) (N := N_value) (sc := defScope s_value) (by decide +kernel)) (fun _ _ _ _ _ => pg_name (i := 3) sc_value.nd rfl (Or.inl rfl)) (fun _ _ _ _ _ => pts_nil) (fun _ _ _ _ _ => by exact (pe_call G0 (hr.mono (by omega)) rfl T.g_value T.F_value.kp T.b_value .nil pass0 (pa_cons (pv 3) (pa_cons (pv 1) pa_nil)))))
    (pss_cons (ps_if (pt_val (pe_callB (cr_any rfl) (by rfl) T.n_any (by decide +kernel) (pa_cons (pe_lc (own := [("part", 3)]) rfl sc_value.nd (pi_list (pv 4)) (blkOk_by (own := [("part", 3)]) (N := N_value) (sc := defScope s_value) (by decide +kernel)) (fun _ _ _ _ _ => pg_name (i := 3) sc_value.nd rfl (Or.inl rfl)) (fun _ _ _ _ _ => pts_nil) (fun _ _ _ _ _ => by exact (pe_cmpR op_isN (pv 3) pe_non (nomark _)))) pa_nil))) (pss_one (ps_ret pe_non)) pss_nil)
    (pss_cons (ps_if (pt_cmpR op_eq (pe_callB len_seq (by rfl) T.n_len (by decide +kernel) (pa_cons (pv 4) pa_nil)) pe_int (nomark _)) (pss_one (ps_ret (pe_ifExp (pt_cmpR op_eq (pv 2) pe_str (nomark _)) (pe_un un_neg (pe_ix ix_list (pv 4) pe_int (fun _ _ => rfl))) (pe_call (ok_truth T) (hr.mono (by omega)) rfl T.g_truth T.F_truth.kp T.b_truth .nil pass0 (pa_cons (pe_cmpR op_eq (pe_ix ix_list (pv 4) pe_int (fun _ _ => rfl)) pe_int (nomark _)) pa_nil))))) pss_nil)
    (pss_one (ps_ret (pe_call (ok_within T) (hr.mono (by omega)) rfl T.g_within T.F_within.kp T.b_within .nil pass0 (pa_cons (pe_call (ok_result T) (hr.mono (by omega)) rfl T.g_result T.F_result.kp T.b_result .nil pass0 (pa_cons (pv 2) (pa_cons (pe_ix ix_list (pv 4) pe_int (fun _ _ => rfl)) (pa_cons (pe_ix ix_list (pv 4) pe_int (fun _ _ => rfl)) pa_nil)))) pa_nil)))))))))), ?_⟩
      cases t with
      | num m =>
        obtain ⟨p, rfl, hp⟩ := ht
        refine ⟨_, rfl, p, _, 0, _, rfl, rfl, SqT.of hp, atI_nat (j := 0) rfl, ?_⟩
        refine ⟨_, rfl, rfl, _, rfl, ifT (decide_eq_true rfl) ?_⟩
        exact ⟨_, rfl, p, _, 1, _, rfl, rfl, SqT.of hp, atI_nat (j := 1) rfl, some m, rfl, q _ (Same.refl _)⟩
      | one x =>
        obtain ⟨p, rfl, hp⟩ := ht
        refine ⟨_, rfl, p, _, 0, _, rfl, rfl, SqT.of hp, atI_nat (j := 0) rfl, ?_⟩
        refine ⟨_, rfl, rfl, _, rfl, ifF (one_not x hwf) ?_⟩
        refine ⟨_, rfl, lenOk (n := 3) rfl (by decide), fun tp ntp => ?_⟩
        have s1 := same_new (o := .tup [V.str (Str.ofString "home"), V.str (Str.ofString "confirms"), V.str (Str.ofString "let")]) ntp
        refine ⟨tp, _, rfl, .inr (SqT.of upd_same), rfl, rfl, _, rfl, ?_⟩
        rw [if_neg Bool.false_ne_true, one_in x hwf]
        refine ifT rfl (ifT rfl ?_)
        refine ⟨_, rfl, f, rfl, .inr ⟨kvs, .inl (s1 _ _ hf)⟩, _, rfl, _, DGet.t (k := [.inr x]) (s1 _ _ hf) (s1 _ _ hp), ?_⟩
        rw [lk_get hfo]
        exact ⟨_, rfl, q _ s1⟩
      | two x y =>
        obtain ⟨p, rfl, hp⟩ := ht
        refine ⟨_, rfl, p, _, 0, _, rfl, rfl, SqT.of hp, atI_nat (j := 0) rfl, ?_⟩
        refine ⟨_, rfl, rfl, _, rfl, ifF (two_not x hwf.1) ?_⟩
        refine ⟨_, rfl, lenOk (n := 3) rfl (by decide), fun tp ntp => ?_⟩
        have s1 := same_new (o := .tup [V.str (Str.ofString "home"), V.str (Str.ofString "confirms"), V.str (Str.ofString "let")]) ntp
        refine ⟨tp, _, rfl, .inr (SqT.of upd_same), rfl, rfl, _, rfl, ?_⟩
        rw [if_neg Bool.false_ne_true]
        generalize upd H tp (.tup [V.str (Str.ofString "home"), V.str (Str.ofString "confirms"), V.str (Str.ofString "let")]) = H1 at s1 ⊢
        have fin : tRet (tCall spWithin [] E0 (tCons (tDGet1 (tVar 1) (tVar 0)) tNil)) { nx := fun x H' => Q V.non H', rt := Q } (List.set (L2.start N_value [V.ref p, V.ref f]) 2 (some (V.str x))) H1 := by
          refine ⟨_, rfl, f, rfl, .inr ⟨kvs, .inl (s1 _ _ hf)⟩, _, rfl, _, DGet.t (k := [.inr x, .inr y]) (s1 _ _ hf) (s1 _ _ hp), ?_⟩
          rw [lk_get hfo]
          exact ⟨_, rfl, q _ s1⟩
        refine ite2 (fun c => ifT rfl fin) (fun c => ?_)
        refine ⟨_, rfl, A.t_FACTS, FCT, rfl, .inr (sqT_up T.q_FACTS fun _ _ h => nomatch h), rfl, rfl, _, rfl, ?_⟩
        rw [if_neg Bool.false_ne_true]
        refine ite2 (fun _ => fin) (fun c2 => ?_)
        rcases hwf with z | z
        · exact absurd (let_in x z) c
        · exact absurd z c2
      | un op t =>
        obtain ⟨p, u, rfl, hp, hu⟩ := ht
        obtain ⟨on1, on2, on3⟩ := op_not op (.inl hwf.1)
        refine ⟨_, rfl, p, _, 0, _, rfl, rfl, SqT.of hp, atI_nat (j := 0) rfl, ?_⟩
        refine ⟨_, rfl, rfl, _, rfl, ifF on1 ?_⟩
        refine ⟨_, rfl, lenOk (n := 3) rfl (by decide), fun tp ntp => ?_⟩
        have s1 := same_new (o := .tup [V.str (Str.ofString "home"), V.str (Str.ofString "confirms"), V.str (Str.ofString "let")]) ntp
        refine ⟨tp, _, rfl, .inr (SqT.of upd_same), rfl, rfl, _, rfl, ?_⟩
        rw [if_neg Bool.false_ne_true]
        generalize upd H tp (.tup [V.str (Str.ofString "home"), V.str (Str.ofString "confirms"), V.str (Str.ofString "let")]) = H1 at s1 ⊢
        refine ifF on2 ?_
        refine ⟨_, rfl, A.t_FACTS, FCT, rfl, .inr (sqT_up T.q_FACTS fun _ _ h => nomatch h), rfl, rfl, _, rfl, ?_⟩
        rw [if_neg Bool.false_ne_true]
        refine ifF on3 ?_
        unfold tNoPart
        refine ⟨_, rfl, _, rfl, slA_of (SqT.of (s1 _ _ hp)) fun p2 H2 s2 e2 => ?_⟩
        have e2' : SqT K H2 p2 [u] := by
          have := cutV_lo (xs := V.str op :: [u]) 1
          rw [show cutV (V.str op :: [u]) (some 1) none = [u] from this] at e2
          exact e2
        have s02 := s1.trans s2
        refine ⟨p2, rfl, ⟨_, e2'⟩, fun D nD => ?_⟩
        have hps : ∀ i (h : i < [t].length), ∃ v, [u][i]? = some v ∧ TrK H2 v (([t] : List Tr)[i]) ∧ Wf (([t] : List Tr)[i]) ∧ dep (([t] : List Tr)[i]) < n := fun i h => by
          have : i = 0 := by have : i < 1 := h; omega
          subst this
          exact ⟨u, rfl, hu.ups s02, hwf.2, by have : dep t + 1 < n + 1 := hd; show dep t < n; omega⟩
        refine lc_vals (walk_tup (K := K) (a := p2) (xs := [u])) (fun i v => [u][i]? = some v) (fun i => optI (val kvs ([t].getD i (.num 0)))) nD (fun H4 s4 => sqT_up e2' s4) (by simp only [List.length_cons, List.length_nil, List.length_map]; omega) (fun i H1 v H2 hi y => y) (fun i v H4 hi sm hv Q q => ?_) (fun H4 s4 e4 => ?_)
        · obtain ⟨v', h1, h2, h3, h4⟩ := hps i hi
          rw [hv] at h1
          cases h1
          have hgd : [t].getD i (.num 0) = ([t] : List Tr)[i] := getD_at (l := [t]) hi
          rw [hgd] at q
          exact ⟨_, rfl, _, rfl, v, f, ([t] : List Tr)[i], kvs, rfl, h2.ups sm, h3, h4, sm _ _ (s02 _ _ hf), hfo, q⟩
        have e5 : H4 D = some (.lst ([t].map fun t => optI (val kvs t))) := by
          rw [e4]
          exact congrArg (fun x => some (HO.lst x)) (range_getD (fun t => optI (val kvs t)) (.num 0) [t])
        have s04 := s02.trans s4
        refine ⟨_, rfl, D, rfl, ⟨_, SqL.of e5⟩, fun D2 nD2 => ?_⟩
        refine lc_vals (walk_list (K := K) (a := D) (xs := [t].map fun t => optI (val kvs t))) (fun i v => ([t].map fun t => optI (val kvs t))[i]? = some v) (fun i => .bl ((val kvs ([t].getD i (.num 0))).isNone)) nD2 (fun H6 s6 => SqL.of (s6 _ _ e5)) (by simp only [List.length_cons, List.length_nil, List.length_map]; omega) (fun i H1 v H2 hi y => y) (fun i v H6 hi sm hv Q q => ?_) (fun H6 s6 e6 => ?_)
        · have hi2 : i < [t].length := by rwa [List.length_map] at hi
          have hgd : [t].getD i (.num 0) = ([t] : List Tr)[i] := getD_at (l := [t]) hi2
          rw [List.getElem?_map, List.getElem?_eq_getElem hi2] at hv
          cases hv
          rw [hgd] at q
          have hn : decide (optI (val kvs ([t] : List Tr)[i]) = V.non) = (val kvs ([t] : List Tr)[i]).isNone := by
            cases val kvs ([t] : List Tr)[i] <;> rfl
          refine ⟨_, rfl, rfl, ?_⟩
          rw [hn]
          exact q _ (Same.refl _)
        have e7 : H6 D2 = some (.lst (([t].map fun t => (val kvs t).isNone).map V.bl)) := by
          rw [e6, List.length_map, List.map_map]
          exact congrArg (fun x => some (HO.lst x)) (range_getD (fun t => V.bl (val kvs t).isNone) (.num 0) [t])
        have s06 := s04.trans s6
        have e56 := s6 _ _ e5
        refine ⟨D2, [t].map fun t => (val kvs t).isNone, rfl, SqL.of e7, _, rfl, ?_⟩
        have hvu : val kvs (.un op t) = (match val kvs t with | none => none | some v => some (unO op v)) := rfl
        rw [hvu] at q
        show if ((val kvs t).isNone || false) = true then _ else _
        cases hv : val kvs t with
        | none =>
          rw [hv] at q
          exact ifT rfl (q _ s06)
        | some v =>
          rw [hv] at q
          refine ifF rfl ?_
          have e8 : H6 D = some (.lst [.int v]) := by
            rw [e56]
            show some (HO.lst [optI (val kvs t)]) = _
            rw [hv]
            rfl
          refine ⟨_, rfl, D, _, rfl, .inl (SqL.of e8), rfl, _, rfl, ifT rfl ?_⟩
          refine ⟨_, rfl, rfl, _, rfl, ?_⟩
          show if isS op "minus" = true then _ else _
          have q : Q (optI (some (unO op v))) H6 := q H6 s06
          unfold unO at q
          refine ite2 (fun c => ?_) (fun c => ?_)
          · rw [if_pos c] at q
            exact ⟨_, rfl, D, _, 0, _, rfl, rfl, SqL.of e8, atI_nat (j := 0) rfl, v, rfl, q⟩
          · rw [if_neg c] at q
            exact ⟨_, rfl, D, _, 0, _, rfl, rfl, SqL.of e8, atI_nat (j := 0) rfl, rfl, _, rfl, q⟩
      | bin op a b =>
        obtain ⟨p, u1, u2, rfl, hp, hu1, hu2⟩ := ht
        obtain ⟨on1, on2, on3⟩ := op_not op (.inr hwf.1)
        refine ⟨_, rfl, p, _, 0, _, rfl, rfl, SqT.of hp, atI_nat (j := 0) rfl, ?_⟩
        refine ⟨_, rfl, rfl, _, rfl, ifF on1 ?_⟩
        refine ⟨_, rfl, lenOk (n := 3) rfl (by decide), fun tp ntp => ?_⟩
        have s1 := same_new (o := .tup [V.str (Str.ofString "home"), V.str (Str.ofString "confirms"), V.str (Str.ofString "let")]) ntp
        refine ⟨tp, _, rfl, .inr (SqT.of upd_same), rfl, rfl, _, rfl, ?_⟩
        rw [if_neg Bool.false_ne_true]
        generalize upd H tp (.tup [V.str (Str.ofString "home"), V.str (Str.ofString "confirms"), V.str (Str.ofString "let")]) = H1 at s1 ⊢
        refine ifF on2 ?_
        refine ⟨_, rfl, A.t_FACTS, FCT, rfl, .inr (sqT_up T.q_FACTS fun _ _ h => nomatch h), rfl, rfl, _, rfl, ?_⟩
        rw [if_neg Bool.false_ne_true]
        refine ifF on3 ?_
        unfold tNoPart
        refine ⟨_, rfl, _, rfl, slA_of (SqT.of (s1 _ _ hp)) fun p2 H2 s2 e2 => ?_⟩
        have e2' : SqT K H2 p2 [u1, u2] := by
          have := cutV_lo (xs := V.str op :: [u1, u2]) 1
          rw [show cutV (V.str op :: [u1, u2]) (some 1) none = [u1, u2] from this] at e2
          exact e2
        have s02 := s1.trans s2
        refine ⟨p2, rfl, ⟨_, e2'⟩, fun D nD => ?_⟩
        have hps : ∀ i (h : i < [a, b].length), ∃ v, [u1, u2][i]? = some v ∧ TrK H2 v (([a, b] : List Tr)[i]) ∧ Wf (([a, b] : List Tr)[i]) ∧ dep (([a, b] : List Tr)[i]) < n := fun i h => by
          have hdd : max (dep a) (dep b) + 1 < n + 1 := hd
          have : i = 0 ∨ i = 1 := by have : i < 2 := h; omega
          rcases this with z | z
          · subst z
            exact ⟨u1, rfl, hu1.ups s02, hwf.2.1, by show dep a < n; omega⟩
          · subst z
            exact ⟨u2, rfl, hu2.ups s02, hwf.2.2, by show dep b < n; omega⟩
        refine lc_vals (walk_tup (K := K) (a := p2) (xs := [u1, u2])) (fun i v => [u1, u2][i]? = some v) (fun i => optI (val kvs ([a, b].getD i (.num 0)))) nD (fun H4 s4 => sqT_up e2' s4) (by simp only [List.length_cons, List.length_nil, List.length_map]; omega) (fun i H1 v H2 hi y => y) (fun i v H4 hi sm hv Q q => ?_) (fun H4 s4 e4 => ?_)
        · obtain ⟨v', h1, h2, h3, h4⟩ := hps i hi
          rw [hv] at h1
          cases h1
          have hgd : [a, b].getD i (.num 0) = ([a, b] : List Tr)[i] := getD_at (l := [a, b]) hi
          rw [hgd] at q
          exact ⟨_, rfl, _, rfl, v, f, ([a, b] : List Tr)[i], kvs, rfl, h2.ups sm, h3, h4, sm _ _ (s02 _ _ hf), hfo, q⟩
        have e5 : H4 D = some (.lst ([a, b].map fun t => optI (val kvs t))) := by
          rw [e4]
          exact congrArg (fun x => some (HO.lst x)) (range_getD (fun t => optI (val kvs t)) (.num 0) [a, b])
        have s04 := s02.trans s4
        refine ⟨_, rfl, D, rfl, ⟨_, SqL.of e5⟩, fun D2 nD2 => ?_⟩
        refine lc_vals (walk_list (K := K) (a := D) (xs := [a, b].map fun t => optI (val kvs t))) (fun i v => ([a, b].map fun t => optI (val kvs t))[i]? = some v) (fun i => .bl ((val kvs ([a, b].getD i (.num 0))).isNone)) nD2 (fun H6 s6 => SqL.of (s6 _ _ e5)) (by simp only [List.length_cons, List.length_nil, List.length_map]; omega) (fun i H1 v H2 hi y => y) (fun i v H6 hi sm hv Q q => ?_) (fun H6 s6 e6 => ?_)
        · have hi2 : i < [a, b].length := by rwa [List.length_map] at hi
          have hgd : [a, b].getD i (.num 0) = ([a, b] : List Tr)[i] := getD_at (l := [a, b]) hi2
          rw [List.getElem?_map, List.getElem?_eq_getElem hi2] at hv
          cases hv
          rw [hgd] at q
          have hn : decide (optI (val kvs ([a, b] : List Tr)[i]) = V.non) = (val kvs ([a, b] : List Tr)[i]).isNone := by
            cases val kvs ([a, b] : List Tr)[i] <;> rfl
          refine ⟨_, rfl, rfl, ?_⟩
          rw [hn]
          exact q _ (Same.refl _)
        have e7 : H6 D2 = some (.lst (([a, b].map fun t => (val kvs t).isNone).map V.bl)) := by
          rw [e6, List.length_map, List.map_map]
          exact congrArg (fun x => some (HO.lst x)) (range_getD (fun t => V.bl (val kvs t).isNone) (.num 0) [a, b])
        have s06 := s04.trans s6
        have e56 := s6 _ _ e5
        refine ⟨D2, [a, b].map fun t => (val kvs t).isNone, rfl, SqL.of e7, _, rfl, ?_⟩
        have hvb : val kvs (.bin op a b) = (match val kvs a, val kvs b with | some x, some y => bnd (resO op x y) | _, _ => none) := rfl
        rw [hvb] at q
        show if ((val kvs a).isNone || ((val kvs b).isNone || false)) = true then _ else _
        cases hva : val kvs a with
        | none =>
          rw [hva] at q
          exact ifT rfl (q _ s06)
        | some x =>
          cases hvb2 : val kvs b with
          | none =>
            rw [hva, hvb2] at q
            exact ifT rfl (q _ s06)
          | some y =>
            rw [hva, hvb2] at q
            refine ifF rfl ?_
            have e8 : H6 D = some (.lst [.int x, .int y]) := by
              rw [e56]
              show some (HO.lst [optI (val kvs a), optI (val kvs b)]) = _
              rw [hva, hvb2]
              rfl
            refine ⟨_, rfl, D, _, rfl, .inl (SqL.of e8), rfl, _, rfl, ifF rfl ?_⟩
            exact ⟨_, rfl, _, rfl, D, _, 0, _, rfl, rfl, SqL.of e8, atI_nat (j := 0) rfl, _, rfl, D, _, 1, _, rfl, rfl, SqL.of e8, atI_nat (j := 1) rfl, op, x, y, rfl, val_sm hva, val_sm hvb2, fun H7 s7 => ⟨_, rfl, q _ (s06.trans s7)⟩⟩
end
end R1

/-! what stands as a tuple goes on standing so: data without lists apart from changing lists, dicts, objects -/
namespace RK
open PySem PySem.Spec PyProof.Rows L2
def Tm (H H' : Hp) : Prop := ∀ b xs, Rd H b (.tup xs) → Rd H' b (.tup xs)
/-- no tuple stands at p -/
def NoT (H : Hp) (p : Addr) : Prop := ∀ xs, ¬ Rd H p (.tup xs)
theorem NoT.none {H : Hp} {p : Addr} (h : H p = none) : NoT H p := fun xs z => by
  rcases z with z | ⟨_, z⟩ <;> (rw [h] at z; cases z)
theorem NoT.lst {H : Hp} {p : Addr} {ys : List V} (h : H p = some (.lst ys)) : NoT H p := fun xs z => by
  rcases z with z | ⟨_, z⟩ <;> (rw [h] at z; cases z)
theorem NoT.dK {H : Hp} {p : Addr} {ys} (h : H p = some (.dK ys)) : NoT H p := fun xs z => by
  rcases z with z | ⟨_, z⟩ <;> (rw [h] at z; cases z)
theorem NoT.ins {H : Hp} {p : Addr} {a b c} (h : H p = some (.ins a b c)) : NoT H p := fun xs z => by
  rcases z with z | ⟨_, z⟩ <;> (rw [h] at z; cases z)
theorem NoT.ext {H : Hp} {p : Addr} {f} (h : H p = some (.ext f)) : NoT H p := fun xs z => by
  rcases z with z | ⟨_, z⟩ <;> (rw [h] at z; cases z)
theorem Tm.refl (H : Hp) : Tm H H := fun _ _ h => h
theorem Tm.trans {H H1 H2 : Hp} (a : Tm H H1) (b : Tm H1 H2) : Tm H H2 := fun c xs h => b c xs (a c xs h)
theorem Tm.of {H H' : Hp} (h : Same H H') : Tm H H' := fun b xs e => by
  rcases e with e | ⟨o, e⟩
  · exact .inl (h _ _ e)
  · exact .inr ⟨o, h _ _ e⟩
theorem Tm.but {p : Addr} {H H' : Hp} (h : But p H H') (n : NoT H p) : Tm H H' := fun b xs e => by
  have nb : b ≠ p := fun z => n xs (z ▸ e)
  rcases e with e | ⟨o, e⟩
  · exact .inl (h _ _ nb e)
  · exact .inr ⟨o, h _ _ nb e⟩
theorem Tm.upd {p : Addr} {H H' : Hp} {o : HO} (h : Tm H H') (n : NoT H' p) : Tm H (upd H' p o) := h.trans (Tm.but (p := p) ((But.refl p H').upd) n)
theorem sqT_tm {K : PySem.W.Frag} {H H' : Hp} {a : Addr} {xs : List V} (h : SqT K H a xs) (e : Tm H H') : SqT K H' a xs := by
  rcases h with h | h
  · exact .inl (e _ _ h)
  · exact .inr h
mutual
def tupD : PyData → Bool
  | .list _ => false
  | .dict _ => false
  | .tuple xs => tupA xs
  | _ => true
def tupA : List PyData → Bool
  | [] => true
  | x :: xs => tupD x && tupA xs
end
theorem tupA_iff : ∀ {ds : List PyData}, tupA ds = true ↔ ∀ d ∈ ds, tupD d = true
  | [] => by simp [tupA]
  | d :: r => by
    rw [tupA, Bool.and_eq_true, tupA_iff]
    simp
mutual
theorem dp_tm {K : PySem.W.Frag} {H H' : Hp} (e : Tm H H') : ∀ {v : V} {d : PyData}, Dp K H v d → tupD d = true → Dp K H' v d
  | _, _, .non, _ => .non
  | _, _, .bl b, _ => .bl b
  | _, _, .int i, _ => .int i
  | _, _, .str x, _ => .str x
  | _, _, .lst h t, z => nomatch z
  | _, _, .tup h t, z => .tup (sqT_tm h e) (dpAll_tm e t z)
theorem dpAll_tm {K : PySem.W.Frag} {H H' : Hp} (e : Tm H H') : ∀ {vs : List V} {ds : List PyData}, DpAll K H vs ds → tupA ds = true → DpAll K H' vs ds
  | _, _, .nil, _ => .nil
  | _, _, .cons h t, z => .cons (dp_tm e h (Bool.and_eq_true_iff.mp z).1) (dpAll_tm e t (Bool.and_eq_true_iff.mp z).2)
end
theorem lay_all : ∀ {xs : List PyData}, (∀ x ∈ xs, x.canLay0 = true) → PyData.canLayAll0 xs = true
  | [], _ => by simp [PyData.canLayAll0]
  | x :: xs, h => by
    simp only [PyData.canLayAll0, h x List.mem_cons_self, lay_all fun y hy => h y (List.mem_cons_of_mem _ hy), Bool.and_self]
theorem lay_tup {xs : List PyData} (h : ∀ x ∈ xs, x.canLay0 = true) : (PyData.tuple xs).canLay0 = true := by
  have := lay_all h
  simpa [PyData.canLay0] using this
theorem depthA_le {n : Nat} : ∀ {xs : List PyData}, (∀ x ∈ xs, x.depth ≤ n) → PyData.depthAll xs ≤ n
  | [], _ => Nat.zero_le _
  | x :: xs, h => Nat.max_le.mpr ⟨h x List.mem_cons_self, depthA_le fun y hy => h y (List.mem_cons_of_mem _ hy)⟩
theorem shaped_tup {n : Nat} {xs : List PyData} (h : ∀ x ∈ xs, x.canLay0 = true) (hd : ∀ x ∈ xs, x.depth ≤ n) (hn : n ≤ 63) : SeqAt.shaped (.tuple xs) = true := by
  have h1 : (PyData.tuple xs).canLay0 = true := lay_tup h
  have h2 : (PyData.tuple xs).depth ≤ 64 := by
    have := depthA_le hd
    show PyData.depthAll xs + 1 ≤ 64
    omega
  show (_ && decide _) = true
  rw [h1, decide_eq_true h2]
  rfl
section
variable {K : PySem.W.Frag} {H : Hp}
theorem dp_tupI {v : V} {ds : List PyData} (h : Dp K H v (.tuple ds)) : ∃ a xs, v = .ref a ∧ SqT K H a xs ∧ DpAll K H xs ds := by
  cases h with
  | tup h t => exact ⟨_, _, rfl, h, t⟩
theorem dpA_len : ∀ {ds : List PyData} {xs : List V}, DpAll K H xs ds → xs.length = ds.length
  | _, _, .nil => rfl
  | _, _, .cons _ t => by rw [List.length_cons, List.length_cons, dpA_len t]
theorem dpA_at : ∀ {ds : List PyData} {xs : List V} {i : Nat} {d : PyData}, DpAll K H xs ds → ds[i]? = some d → ∃ v, xs[i]? = some v ∧ Dp K H v d
  | _, _, _, _, .nil, e => by simp at e
  | _, _, 0, d, .cons h _, e => by
    simp at e
    subst e
    exact ⟨_, rfl, h⟩
  | _, _, i + 1, d, .cons _ t, e => by
    obtain ⟨v, h1, h2⟩ := dpA_at (i := i) (d := d) t (by simpa using e)
    exact ⟨v, by simpa using h1, h2⟩
theorem dpA_get : ∀ {ds : List PyData} {xs : List V} {i : Nat} {v : V}, DpAll K H xs ds → xs[i]? = some v → ∃ d, ds[i]? = some d ∧ Dp K H v d
  | _, _, _, _, .nil, e => by simp at e
  | _, _, 0, v, .cons h _, e => by
    simp at e
    subst e
    exact ⟨_, rfl, h⟩
  | _, _, i + 1, v, .cons _ t, e => by
    obtain ⟨d, h1, h2⟩ := dpA_get (i := i) (v := v) t (by simpa using e)
    exact ⟨d, by simpa using h1, h2⟩
theorem dpA_app : ∀ {ds es : List PyData} {xs ys : List V}, DpAll K H xs ds → DpAll K H ys es → DpAll K H (xs ++ ys) (ds ++ es)
  | _, _, _, _, .nil, h => h
  | _, _, _, _, .cons a t, h => .cons a (dpA_app t h)
theorem dpA_drop : ∀ {ds : List PyData} {xs : List V} (k : Nat), DpAll K H xs ds → DpAll K H (xs.drop k) (ds.drop k)
  | _, _, 0, h => h
  | _, _, _ + 1, .nil => .nil
  | _, _, k + 1, .cons _ t => dpA_drop k t
theorem dpA_take : ∀ {ds : List PyData} {xs : List V} (k : Nat), DpAll K H xs ds → DpAll K H (xs.take k) (ds.take k)
  | _, _, 0, h => .nil
  | _, _, _ + 1, .nil => .nil
  | _, _, k + 1, .cons a t => .cons a (dpA_take k t)
theorem dpA_ints : ∀ ns : List Int, DpAll K H (ns.map V.int) (ns.map PyData.int)
  | [] => .nil
  | n :: r => .cons (.int n) (dpA_ints r)
theorem dpA_strs : ∀ ns : List Str, DpAll K H (ns.map V.str) (ns.map PyData.str)
  | [] => .nil
  | n :: r => .cons (.str n) (dpA_strs r)
theorem dpA_ints_inv : ∀ {ns : List Int} {xs : List V}, DpAll K H xs (ns.map PyData.int) → xs = ns.map V.int
  | [], _, .nil => rfl
  | n :: r, _, .cons h t => by
    cases h
    rw [dpA_ints_inv t]
    rfl
theorem dpA_strs_inv : ∀ {ns : List Str} {xs : List V}, DpAll K H xs (ns.map PyData.str) → xs = ns.map V.str
  | [], _, .nil => rfl
  | n :: r, _, .cons h t => by
    cases h
    rw [dpA_strs_inv t]
    rfl
theorem tupA_ints (ns : List Int) : tupA (ns.map PyData.int) = true := tupA_iff.mpr fun d h => by
  obtain ⟨n, _, rfl⟩ := List.mem_map.mp h
  rfl
theorem tupA_strs (ns : List Str) : tupA (ns.map PyData.str) = true := tupA_iff.mpr fun d h => by
  obtain ⟨n, _, rfl⟩ := List.mem_map.mp h
  rfl
theorem dp_new {H : Hp} {p : Addr} {xs : List V} {ds : List PyData} (e : H p = some (.tup xs)) (h : DpAll K H xs ds) : Dp K H (.ref p) (.tuple ds) := .tup (SqT.of e) h
end
end RK

/-! comprehensions with an invariant: two names, tests -/
namespace RK
open PySem PySem.Spec PyProof.Rows L2
section
variable {K : PySem.W.Frag} {J : It} {n : Nat} {G : Hp → Prop} {Y : Nat → Hp → V → Hp → Prop}
/-- over pairs, an element each turn -/
theorem lc_inv2 (w : Walk J n G Y) {te : TE} {σ : L2.St} {H1 : Hp} {D : Addr} {Qd : Hp → Prop} {k k1 : Nat} (hk : k ≠ k1) (I : Nat → V → V → Prop) (Pv : Nat → List V → Hp → Prop) (hn : n ≤ 1000000) (h0 : Pv 0 [] (upd H1 D (.lst [])))
    (hG : ∀ i acc H, Pv i acc H → G H) (hY : ∀ (i : Nat) (acc : List V) (H : Hp) (x : V) (H' : Hp), i < n → Pv i acc H → Y i H x H' → H' = H ∧ ∃ (T : Addr) (a b : V), x = V.ref T ∧ SqT K H T [a, b] ∧ I i a b)
    (hs : ∀ (i : Nat) (a b : V) (acc : List V) (H : Hp), i < n → acc.length = i → Pv i acc H → H D = some (.lst acc) → I i a b → ∀ Q : VK, (∀ v H3, H3 D = some (.lst acc) → Pv (i + 1) (acc ++ [v]) (upd H3 D (.lst (acc ++ [v]))) → Q v H3) → te ((((σ.set k1 none).set k none).set k (some a)).set k1 (some b)) H Q)
    (hd : ∀ acc H, acc.length = n → Pv n acc H → H D = some (.lst acc) → Qd H) :
    ∃ W : Nat → Nat → Hp → Prop, (∃ m, W 0 m (upd H1 D (.lst []))) ∧ ∀ i m H, W i m H →
      (J.stop i H ∧ Qd H) ∨ (J.go i H ∧ ∃ Nx : Hp → Prop, (∀ H', Nx H' → ∃ m', m' < m ∧ W (i + 1) m' H') ∧ ∀ x H', J.yld i H x H' → gTup K 2 (gCons (gName k) (gCons (gName k1) gNil)) x (wipe σ [k, k1]) H' fun σ2 H2 => wipe σ2 [k, k1] = wipe σ [k, k1] ∧ tYes σ2 H2 fun b H3 =>
        if b = true then te σ2 H3 fun y H4 => ∃ acc, H4 D = some (.lst acc) ∧ acc.length < sizeLine ∧ Nx (upd H4 D (.lst (acc ++ [y]))) else Nx H3) := by
  refine lc_it w (fun i H => ∃ acc, acc.length = i ∧ H D = some (.lst acc) ∧ Pv i acc H) ⟨[], rfl, upd_same, h0⟩ (fun i H _ h => ?_) (fun i x H H' hi hp y => ?_) fun H h => ?_
  · obtain ⟨acc, _, _, p⟩ := h
    exact hG i acc H p
  · obtain ⟨acc, hl, e, p⟩ := hp
    obtain ⟨rfl, T, a, b, rfl, sq, hI⟩ := hY i acc H x H' hi p y
    refine ⟨T, _, rfl, sq, rfl, _, _, rfl, _, _, rfl, rfl, ?_, ?_⟩
    · show ((((((σ.set k1 none).set k none).set k (some a)).set k1 (some b)).set k1 none).set k none) = (σ.set k1 none).set k none
      rw [List.set_set, List.set_set, List.set_comm _ _ hk, List.set_set, List.set_set]
    show te ((((σ.set k1 none).set k none).set k (some a)).set k1 (some b)) _ _
    refine hs i a b acc _ hi hl p e hI _ fun v H3 e3 p3 => ⟨acc, e3, ?_, acc ++ [v], ?_, upd_same, p3⟩
    · rw [hl]
      exact Nat.lt_of_lt_of_le (Nat.lt_of_lt_of_le hi hn) (by decide)
    · rw [List.length_append, hl]
      rfl
  · obtain ⟨acc, hl, e, p⟩ := h
    exact hd acc H hl p e
/-- one name and a test, both of which may make new objects -/
theorem lc_ask (w : Walk J n G Y) {tt : TT} {te : TE} {σ : L2.St} {H1 : Hp} {D : Addr} {Qd : Hp → Prop} {k : Nat} (Pv : Nat → List V → Hp → Prop) (hn : n ≤ 1000000) (h0 : Pv 0 [] (upd H1 D (.lst [])))
    (hG : ∀ i acc H, Pv i acc H → G H) (hY : ∀ (i : Nat) (H : Hp) (x : V) (H' : Hp), i < n → Y i H x H' → H' = H)
    (hs : ∀ (i : Nat) (x : V) (acc : List V) (H : Hp), i < n → acc.length ≤ i → Pv i acc H → H D = some (.lst acc) → Y i H x H →
      ∀ R : Bool → Hp → Prop, (∀ H3, H3 D = some (.lst acc) → Pv (i + 1) acc H3 → R false H3) → (∀ H3, H3 D = some (.lst acc) → (∀ Q : VK, (∀ v H4, H4 D = some (.lst acc) → Pv (i + 1) (acc ++ [v]) (upd H4 D (.lst (acc ++ [v]))) → Q v H4) → te ((σ.set k none).set k (some x)) H3 Q) → R true H3) → tt ((σ.set k none).set k (some x)) H R)
    (hd : ∀ acc H, acc.length ≤ n → Pv n acc H → H D = some (.lst acc) → Qd H) :
    ∃ W : Nat → Nat → Hp → Prop, (∃ m, W 0 m (upd H1 D (.lst []))) ∧ ∀ i m H, W i m H →
      (J.stop i H ∧ Qd H) ∨ (J.go i H ∧ ∃ Nx : Hp → Prop, (∀ H', Nx H' → ∃ m', m' < m ∧ W (i + 1) m' H') ∧ ∀ x H', J.yld i H x H' → gName k x (wipe σ [k]) H' fun σ2 H2 => wipe σ2 [k] = wipe σ [k] ∧ tt σ2 H2 fun b H3 =>
        if b = true then te σ2 H3 fun y H4 => ∃ acc, H4 D = some (.lst acc) ∧ acc.length < sizeLine ∧ Nx (upd H4 D (.lst (acc ++ [y]))) else Nx H3) := by
  refine lc_it w (fun i H => ∃ acc, acc.length ≤ i ∧ H D = some (.lst acc) ∧ Pv i acc H) ⟨[], Nat.le_refl _, upd_same, h0⟩ (fun i H _ h => ?_) (fun i x H H' hi hp y => ?_) fun H h => ?_
  · obtain ⟨acc, _, _, p⟩ := h
    exact hG i acc H p
  · obtain ⟨acc, hl, e, p⟩ := hp
    obtain rfl := hY i H x H' hi y
    refine ⟨?_, ?_⟩
    · show ((σ.set k none).set k (some x)).set k none = σ.set k none
      rw [List.set_set, List.set_set]
    show tt ((σ.set k none).set k (some x)) H' _
    refine hs i x acc H' hi hl p e y _ (fun H3 e3 p3 => ?_) (fun H3 e3 f => ?_)
    · rw [if_neg (by decide)]
      exact ⟨acc, Nat.le_succ_of_le hl, e3, p3⟩
    · rw [if_pos rfl]
      refine f _ fun v H4 e4 p4 => ⟨acc, e4, ?_, acc ++ [v], ?_, upd_same, p4⟩
      · exact Nat.lt_of_le_of_lt hl (Nat.lt_of_lt_of_le (Nat.lt_of_lt_of_le hi hn) (by decide))
      · rw [List.length_append]
        exact Nat.succ_le_succ hl
  · obtain ⟨acc, hl, e, p⟩ := h
    exact hd acc H hl p e
/-- over pairs that are made anew or stand, with a test -/
theorem lc_ask2 (w : Walk J n G Y) {tt : TT} {te : TE} {σ : L2.St} {H1 : Hp} {D : Addr} {Qd : Hp → Prop} {k k1 : Nat} (hk : k ≠ k1) (I : Nat → V → V → Prop) (Pv : Nat → List V → Hp → Prop) (hn : n ≤ 1000000) (h0 : Pv 0 [] (upd H1 D (.lst [])))
    (hG : ∀ i acc H, Pv i acc H → G H) (hY : ∀ (i : Nat) (acc : List V) (H : Hp) (x : V) (H' : Hp), i < n → Pv i acc H → H D = some (.lst acc) → Y i H x H' → Pv i acc H' ∧ H' D = some (.lst acc) ∧ ∃ (T : Addr) (a b : V), x = V.ref T ∧ SqT K H' T [a, b] ∧ I i a b)
    (hs : ∀ (i : Nat) (a b : V) (acc : List V) (H : Hp), i < n → acc.length ≤ i → Pv i acc H → H D = some (.lst acc) → I i a b →
      ∀ R : Bool → Hp → Prop, (∀ H3, H3 D = some (.lst acc) → Pv (i + 1) acc H3 → R false H3) → (∀ H3, H3 D = some (.lst acc) → (∀ Q : VK, (∀ v H4, H4 D = some (.lst acc) → Pv (i + 1) (acc ++ [v]) (upd H4 D (.lst (acc ++ [v]))) → Q v H4) → te ((((σ.set k1 none).set k none).set k (some a)).set k1 (some b)) H3 Q) → R true H3) → tt ((((σ.set k1 none).set k none).set k (some a)).set k1 (some b)) H R)
    (hd : ∀ acc H, acc.length ≤ n → Pv n acc H → H D = some (.lst acc) → Qd H) :
    ∃ W : Nat → Nat → Hp → Prop, (∃ m, W 0 m (upd H1 D (.lst []))) ∧ ∀ i m H, W i m H →
      (J.stop i H ∧ Qd H) ∨ (J.go i H ∧ ∃ Nx : Hp → Prop, (∀ H', Nx H' → ∃ m', m' < m ∧ W (i + 1) m' H') ∧ ∀ x H', J.yld i H x H' → gTup K 2 (gCons (gName k) (gCons (gName k1) gNil)) x (wipe σ [k, k1]) H' fun σ2 H2 => wipe σ2 [k, k1] = wipe σ [k, k1] ∧ tt σ2 H2 fun b H3 =>
        if b = true then te σ2 H3 fun y H4 => ∃ acc, H4 D = some (.lst acc) ∧ acc.length < sizeLine ∧ Nx (upd H4 D (.lst (acc ++ [y]))) else Nx H3) := by
  refine lc_it w (fun i H => ∃ acc, acc.length ≤ i ∧ H D = some (.lst acc) ∧ Pv i acc H) ⟨[], Nat.le_refl _, upd_same, h0⟩ (fun i H _ h => ?_) (fun i x H H' hi hp y => ?_) fun H h => ?_
  · obtain ⟨acc, _, _, p⟩ := h
    exact hG i acc H p
  · obtain ⟨acc, hl, e, p⟩ := hp
    obtain ⟨p, e, T, a, b, rfl, sq, hI⟩ := hY i acc H x H' hi p e y
    refine ⟨T, _, rfl, sq, rfl, _, _, rfl, _, _, rfl, rfl, ?_, ?_⟩
    · show ((((((σ.set k1 none).set k none).set k (some a)).set k1 (some b)).set k1 none).set k none) = (σ.set k1 none).set k none
      rw [List.set_set, List.set_set, List.set_comm _ _ hk, List.set_set, List.set_set]
    show tt ((((σ.set k1 none).set k none).set k (some a)).set k1 (some b)) _ _
    refine hs i a b acc H' hi hl p e hI _ (fun H3 e3 p3 => ?_) (fun H3 e3 f => ?_)
    · rw [if_neg (by decide)]
      exact ⟨acc, Nat.le_succ_of_le hl, e3, p3⟩
    · rw [if_pos rfl]
      refine f _ fun v H4 e4 p4 => ⟨acc, e4, ?_, acc ++ [v], ?_, upd_same, p4⟩
      · exact Nat.lt_of_le_of_lt hl (Nat.lt_of_lt_of_le (Nat.lt_of_lt_of_le hi hn) (by decide))
      · rw [List.length_append]
        exact Nat.succ_le_succ hl
  · obtain ⟨acc, hl, e, p⟩ := h
    exact hd acc H hl p e
end
end RK

namespace R1
open PySem PySem.Spec PyProof.Rows L2 RK
local macro_rules | `(tactic| walk_at "sq") => `(tactic| first
  | exact SqL.of upd_same | exact upd_same | exact SqL.of (by assumption) | exact SqL.of (by rw [upd_ne (by assumption)]; assumption) | assumption)
local macro_rules | `(tactic| walk_at "sd") => `(tactic| first
  | assumption | omega | (refine Or.inl ⟨?_, ?_⟩ <;> omega) | (show _ ∧ _; constructor <;> omega) | (show _ ≠ _; simp; omega) | (exact Or.inl ⟨by decide, by decide⟩) | (exact Or.inr ⟨by decide, by decide⟩) | (show _ < _; decide) | (show _ ≤ _; decide))
local macro_rules | `(tactic| walk_at "at") => `(tactic| first | rfl | (refine atI_intV ?_ ?_ <;> omega) | assumption)
local macro_rules | `(tactic| walk_at "s1") => `(tactic| first
  | refine ⟨_, rfl, ?_⟩ | refine ⟨_, _, rfl, rfl, ?_⟩ | refine ⟨rfl, ?_⟩
  | refine ⟨_, _, _, _, rfl, rfl, by walk_at "sq", by walk_at "at", ?_⟩
  | refine Or.inl ⟨_, rfl, ?_⟩
  | refine ⟨_, _, rfl, Or.inl (by walk_at "sq"), ?_⟩
  | refine And.intro (by walk_at "sd") ?_)
local macro_rules | `(tactic| walk_at "s") => `(tactic| repeat walk_at "s1")

/-! trees whose leaves are numbers, home and lets -/
def OPS5 : List V := [.str (Str.ofString "+"), .str (Str.ofString "-"), .str (Str.ofString "*"), .str (Str.ofString "/"), .str (Str.ofString "<")]
def LT : Tr → Prop
  | .num _ => True
  | .one w => w = Str.ofString "home"
  | .two w x => w = Str.ofString "let" ∧ SO x
  | .un op t => op = Str.ofString "minus" ∧ LT t
  | .bin op a b => V.str op ∈ OPS5 ∧ LT a ∧ LT b
theorem op5 {op : Str} (h : V.str op ∈ OPS5) : BinO op ∧ isS op "let" = false ∧ inV (.str op) FCT = false ∧ isS op "number" = false ∧ isS op "home" = false ∧ isS op "minus" = false := by
  have all : ∀ y ∈ OPS5, (inV y BOPS = true ∧ decide (y = .str (Str.ofString "let")) = false ∧ inV y FCT = false ∧ decide (y = .str (Str.ofString "number")) = false ∧ decide (y = .str (Str.ofString "home")) = false ∧ decide (y = .str (Str.ofString "minus")) = false) := by decide +kernel
  exact all _ h
theorem LT.wf : ∀ {t : Tr}, LT t → Wf t
  | .num _, _ => True.intro
  | .one w, h => by
    have h : w = _ := h
    rw [h]
    exact .inl (by decide +kernel)
  | .two w x, h => ⟨.inl (by rw [h.1]; decide +kernel), h.2⟩
  | .un op t, h => ⟨.inr (by rw [h.1]; decide +kernel), h.2.wf⟩
  | .bin op a b, h => ⟨(op5 h.1).1, h.2.1.wf, h.2.2.wf⟩
/-- the lets that a tree names, in order -/
def namT : Tr → List Str
  | .num _ => []
  | .one _ => []
  | .two _ x => [x]
  | .un _ t => namT t
  | .bin _ a b => namT a ++ namT b
/-- pairs ("let", name) -/
inductive PrA (H : Hp) : List V → List Str → Prop
  | nil : PrA H [] []
  | cons {q : Addr} {x : Str} {us : List V} {l : List Str} : H q = some (.tup [.str (Str.ofString "let"), .str x]) → PrA H us l → PrA H (.ref q :: us) (x :: l)
theorem PrA.up {H H' : Hp} (s : Same H H') : ∀ {us : List V} {l : List Str}, PrA H us l → PrA H' us l
  | _, _, .nil => .nil
  | _, _, .cons e r => .cons (s _ _ e) (r.up s)
theorem PrA.len {H : Hp} : ∀ {us : List V} {l : List Str}, PrA H us l → us.length = l.length
  | _, _, .nil => rfl
  | _, _, .cons _ r => congrArg (· + 1) r.len
theorem PrA.app {H : Hp} : ∀ {us vs : List V} {l m : List Str}, PrA H us l → PrA H vs m → PrA H (us ++ vs) (l ++ m)
  | _, _, _, _, .nil, h => h
  | _, _, _, _, .cons e r, h => .cons e (r.app h)
theorem PrA.get {H : Hp} : ∀ {us : List V} {l : List Str} {i : Nat} {v : V}, PrA H us l → us[i]? = some v → ∃ q x, v = .ref q ∧ l[i]? = some x ∧ H q = some (.tup [.str (Str.ofString "let"), .str x])
  | _, _, 0, _, .cons e _, h => by cases h; exact ⟨_, _, rfl, rfl, e⟩
  | _, _, i + 1, _, .cons _ r, h => r.get (i := i) h
/-- the parts of a node, as its tuple's tail -/
def kidT : Tr → List Tr
  | .un _ t => [t]
  | .bin _ a b => [a, b]
  | _ => []
def TrAll (H : Hp) (vs : List V) (ts : List Tr) : Prop := vs.length = ts.length ∧ ∀ (i : Nat) (v : V) (t : Tr), vs[i]? = some v → ts[i]? = some t → TrK H v t
def spNames (K : PySem.W.Frag) : Nat → Sp
  | 0 => fun _ _ _ _ => False
  | n + 1 => fun vs H Q _ => ∃ (v : V) (t : Tr), vs = [v] ∧ TrK H v t ∧ LT t ∧ dep t ≤ n ∧ (namT t).length ≤ 1000 ∧ ∀ H' p us, Same H H' → SqT K H' p us → PrA H' us (namT t) → Q (.ref p) H'
theorem spNames_of {K : PySem.W.Frag} {n : Nat} {v : V} {t : Tr} {H : Hp} {Q : VK} {E : XK} (h : TrK H v t) (hn : dep t + 1 ≤ n) (hw : LT t) (hl : (namT t).length ≤ 1000) (q : ∀ H' p us, Same H H' → SqT K H' p us → PrA H' us (namT t) → Q (.ref p) H') : spNames K n [v] H Q E := by
  cases n with
  | zero => omega
  | succ m => exact ⟨v, t, rfl, h, hw, by omega, hl, q⟩
def spLetsIn (K : PySem.W.Frag) : Sp := fun vs H Q _ => ∃ (v : V) (t : Tr), vs = [v] ∧ TrK H v t ∧ LT t ∧ dep t ≤ 12 ∧ (namT t).length ≤ 1000 ∧ ∀ H' p, Same H H' → H p = none → H' p = some (.lst ((namT t).map V.str)) → Q (.ref p) H'
section
variable {P : Program} {w : World} {K : PySem.W.Frag} {mg : Str → Option Value} {base : Heap} {A : Ads}
theorem ok_names_in (T : Txt K mg A) : ∀ n : Nat, FnOk P w K mg base CX0 n A.a_names_in A.d_names_in ["tree"] (spNames K n)
  | 0 => ⟨fun _ _ _ _ h => h.elim, fun _ _ _ _ _ _ _ _ _ _ _ _ _ h => h.elim⟩
  | n + 1 => by
    have G0 : FnOk P w K mg base CX0 n A.a_names_in A.d_names_in ["tree"] (spNames K n) := ok_names_in T n
    refine T.F_names_in.ok sc_names_in (fun vs H Q E h => ?_) (fun cdv B outer s H vs Q E hr h => ?_)
    · obtain ⟨v, t, rfl, _⟩ := h
      rfl
    · obtain ⟨v, t, rfl, ht, hw, hn, hl, q⟩ := h
      refine ⟨_, (pss_cons (ps_if (PW.pt (pw_or (pt_cmpR op_eq (pe_ix ix_tup (pv 0) pe_int (fun _ _ => rfl)) pe_str (nomark _)) (pw_or1 (pt_cmpR op_in_seq (pe_ix ix_tup (pv 0) pe_int (fun _ _ => rfl)) (pe_glob (v := .ref A.t_FACTS) rfl T.g_FACTS rfl) (by rfl))))) (pss_one (ps_ret (pe_tup (pa_cons (pe_tup (pa_cons (pe_ix ix_tup (pv 0) pe_int (fun _ _ => rfl)) (pa_cons (pe_ix ix_tup (pv 0) pe_int (fun _ _ => rfl)) pa_nil))) pa_nil)))) pss_nil)
    (pss_cons (ps_if (pt_cmpR op_eq (pe_ix ix_tup (pv 0) pe_int (fun _ _ => rfl)) pe_str (nomark _)) (pss_one (ps_ret (pe_tup pa_nil))) pss_nil)
    (pss_cons (ps_set (i := 1) sc_names_in.nd rfl (.inl rfl) (pe_tup pa_nil))
    (pss_cons (ps_for PassesOwn.never rfl (pi_tup (pe_slice sl_tupA (pv 0) (po_some pe_int) po_none)) (pg_name (i := 2) sc_names_in.nd rfl (.inl rfl))
      (pss_one (ps_set (i := 1) sc_names_in.nd rfl (.inl rfl) (pe_op op_catA (pv 1) (pe_call G0 (hr.mono (by omega)) rfl T.g_names_in T.F_names_in.kp T.b_names_in .nil pass0 (pa_cons (pv 2) pa_nil))))))
    (pss_one (ps_ret (pv 1))))))), ?_⟩
      have loop : ∀ (a : Addr) (op : Str) (r1 : List V) (ps : List Tr), H a = some (.tup (.str op :: r1)) → r1.length = ps.length → (∀ (i : Nat) (v : V) (u : Tr), r1[i]? = some v → ps[i]? = some u → TrK H v u ∧ LT u ∧ dep u + 1 ≤ n) → (ps.flatMap namT).length ≤ 1000 → namT t = ps.flatMap namT → v = .ref a → isS op "let" = false → inV (.str op) FCT = false → isS op "number" = false →
          tSeq (tIfS (tOr (tTest (tOp rEq (tOp (rIxT K) (tVar 0) (tC (V.int 0))) (tC (V.str (Str.ofString "let"))))) (tTest (tOp (rIn K false) (tOp (rIxT K) (tVar 0) (tC (V.int 0))) (tC (V.ref A.t_FACTS))))) (tRet (tTup (tCons (tTup (tCons (tOp (rIxT K) (tVar 0) (tC (V.int 0))) (tCons (tOp (rIxT K) (tVar 0) (tC (V.int 1))) tNil))) tNil))) tNext)
            (tSeq (tIfS (tTest (tOp rEq (tOp (rIxT K) (tVar 0) (tC (V.int 0))) (tC (V.str (Str.ofString "number"))))) (tRet (tTup tNil)) tNext)
              (tSeq (tAsg (tTup tNil) (gName 1)) (tSeq (tFor (iTup K (tSl (rSlA K) (tVar 0) (tPart (tC (V.int 1))) tNoPart)) (gName 2) (tAsg (tOp (rCatA K) (tVar 1) (tCall (spNames K n) [] E0 (tCons (tVar 2) tNil))) (gName 1))) (tRet (tVar 1))))) { nx := fun x H' => Q V.non H', rt := Q } (L2.start N_names_in [v]) H := by
        intro a op r1 ps ha hlen hk hl2 hnam hv hlet hfct hnum
        subst hv
        refine ⟨_, rfl, a, _, 0, _, rfl, rfl, SqT.of ha, atI_nat (j := 0) rfl, rfl, _, rfl, ?_⟩
        refine ifF hlet ?_
        refine ⟨_, rfl, a, _, 0, _, rfl, rfl, SqT.of ha, atI_nat (j := 0) rfl, A.t_FACTS, _, rfl, .inr (sqT_up T.q_FACTS fun _ _ h => nomatch h), rfl, rfl, _, rfl, ?_⟩
        refine ifF hfct ?_
        refine ⟨_, rfl, a, _, 0, _, rfl, rfl, SqT.of ha, atI_nat (j := 0) rfl, rfl, _, rfl, ?_⟩
        refine ifF hnum ?_
        refine ⟨lenOk (n := 0) rfl (by decide), fun p hp => ?_⟩
        have s1 := same_new (o := .tup []) hp
        have e1 : upd H p (.tup []) p = some (.tup []) := upd_same
        generalize upd H p (.tup []) = H1 at s1 e1 ⊢
        refine ⟨_, rfl, 1, rfl, ?_⟩
        unfold tNoPart
        refine slA_of (SqT.of (s1 _ _ ha)) fun a2 H2 s2 e2 => ?_
        rw [show cutV (V.str op :: r1) (some 1) none = r1 from cutV_lo (xs := V.str op :: r1) 1] at e2
        have s12 := s1.trans s2
        refine ⟨a2, rfl, ⟨_, e2⟩, ?_⟩
        refine for_it (walk_tup (K := K) (a := a2) (xs := r1)) (fun i σ Hx => ∃ p us o2, σ = [some (.ref a), some (.ref p), o2] ∧ Same H2 Hx ∧ SqT K Hx p us ∧ PrA Hx us ((ps.take i).flatMap namT)) ⟨p, [], _, rfl, Same.refl _, SqT.of (s2 _ _ e1), .nil⟩ (fun i σ Hx _ y => ?_) (fun i x σ Hx Hd hi y e => ?_) (fun σ Hx y => ?_)
        · obtain ⟨_, _, _, _, sm, _⟩ := y
          exact sqT_up e2 sm
        · obtain ⟨p, us, o2, rfl, sm, hp, hus⟩ := y
          obtain ⟨rfl, ex⟩ := e
          have hi' : i < ps.length := by omega
          obtain ⟨hx, w1, w2⟩ := hk i x ps[i] ex (List.getElem?_eq_getElem hi')
          have htk : (ps.take (i + 1)).flatMap namT = (ps.take i).flatMap namT ++ namT ps[i] := by
            rw [List.take_succ_eq_append_getElem hi', List.flatMap_append]
            congr 1
            exact List.append_nil _
          have hle : ((ps.take (i + 1)).flatMap namT).length ≤ 1000 := by
            refine Nat.le_trans ?_ hl2
            conv => rhs; rw [← List.take_append_drop (i + 1) ps, List.flatMap_append, List.length_append]
            omega
          rw [htk, List.length_append] at hle
          refine ⟨_, rfl, _, rfl, spNames_of (hx.ups (s12.trans sm)) w2 w1 (by omega) fun H3 p3 us3 s3 hp3 hus3 => ?_⟩
          have k1 := hus.len
          have k2 := hus3.len
          refine catA_of (sqT_up hp s3) hp3 (by omega) fun p4 H4 s4 e4 => ?_
          refine ⟨p4, _, _, rfl, sm.trans (s3.trans s4), e4, ?_⟩
          rw [htk]
          exact (hus.up (s3.trans s4)).app (hus3.up s4)
        · obtain ⟨p, us, o2, rfl, sm, hp, hus⟩ := y
          rw [hlen, List.take_length, ← hnam] at hus
          exact ⟨_, rfl, q Hx p us (s12.trans sm) hp hus⟩
      cases t with
      | two f x =>
        obtain ⟨a, rfl, ha⟩ := ht
        have hf : f = Str.ofString "let" := hw.1
        subst hf
        refine ⟨_, rfl, a, _, 0, _, rfl, rfl, SqT.of ha, atI_nat (j := 0) rfl, rfl, _, rfl, ?_⟩
        refine ifT (by decide +kernel) (ifT rfl ?_)
        refine ⟨_, rfl, a, _, 0, _, rfl, rfl, SqT.of ha, atI_nat (j := 0) rfl, _, rfl, a, _, 1, _, rfl, rfl, SqT.of ha, atI_nat (j := 1) rfl, lenOk (n := 2) rfl (by decide), fun p hp => ?_⟩
        have s1 := same_new (o := .tup [V.str (Str.ofString "let"), V.str x]) hp
        have e1 : upd H p (.tup [V.str (Str.ofString "let"), V.str x]) p = some (.tup [V.str (Str.ofString "let"), V.str x]) := upd_same
        generalize upd H p (.tup [V.str (Str.ofString "let"), V.str x]) = H1 at s1 e1 ⊢
        refine ⟨lenOk (n := 1) rfl (by decide), fun p2 hp2 => ?_⟩
        have s2 := same_new (o := .tup [V.ref p]) hp2
        exact q _ p2 _ (s1.trans s2) (SqT.of upd_same) (.cons (s2 _ _ e1) .nil)
      | num m =>
        obtain ⟨a, rfl, ha⟩ := ht
        have hlet : isS (Str.ofString "number") "let" = false := by decide +kernel
        have hfct : inV (.str (Str.ofString "number")) FCT = false := by decide +kernel
        refine ⟨_, rfl, a, _, 0, _, rfl, rfl, SqT.of ha, atI_nat (j := 0) rfl, rfl, _, rfl, ?_⟩
        refine ifF hlet ?_
        refine ⟨_, rfl, a, _, 0, _, rfl, rfl, SqT.of ha, atI_nat (j := 0) rfl, A.t_FACTS, _, rfl, .inr (sqT_up T.q_FACTS fun _ _ h => nomatch h), rfl, rfl, _, rfl, ?_⟩
        refine ifF hfct ?_
        refine ⟨_, rfl, a, _, 0, _, rfl, rfl, SqT.of ha, atI_nat (j := 0) rfl, rfl, _, rfl, ?_⟩
        refine ifT (by decide +kernel) ?_
        exact ⟨lenOk (n := 0) rfl (by decide), fun p hp => q _ p [] (same_new hp) (SqT.of upd_same) .nil⟩
      | one f =>
        obtain ⟨a, rfl, ha⟩ := ht
        have hf : f = Str.ofString "home" := hw
        subst hf
        exact loop a _ [] [] ha rfl (fun i v u h => nomatch h) (Nat.zero_le _) rfl rfl (by decide +kernel) (by decide +kernel) (by decide +kernel)
      | un op t =>
        obtain ⟨a, u, rfl, ha, hu⟩ := ht
        have hop : op = Str.ofString "minus" := hw.1
        subst hop
        refine loop a _ [u] [t] ha rfl (fun i v w h1 h2 => ?_) (by simpa [namT] using hl) (by simp [namT]) rfl (by decide +kernel) (by decide +kernel) (by decide +kernel)
        cases i with
        | succ i => cases h1
        | zero =>
          cases h1
          cases h2
          exact ⟨hu, hw.2, by have : dep t + 1 ≤ n := hn; exact this⟩
      | bin op x y =>
        obtain ⟨a, u1, u2, rfl, ha, hu1, hu2⟩ := ht
        obtain ⟨o1, o2, o3, o4, o5⟩ := op5 hw.1
        have hdd : max (dep x) (dep y) + 1 ≤ n := hn
        refine loop a _ [u1, u2] [x, y] ha rfl (fun i v w h1 h2 => ?_) (by simpa [namT] using hl) (by simp [namT]) rfl o2 o3 o4
        cases i with
        | zero =>
          cases h1
          cases h2
          exact ⟨hu1, hw.2.1, by omega⟩
        | succ i =>
          cases i with
          | succ i => cases h1
          | zero =>
            cases h1
            cases h2
            exact ⟨hu2, hw.2.2, by omega⟩
theorem ok_lets_in (T : Txt K mg A) : FnOk P w K mg base CX0 17 A.a_lets_in A.d_lets_in ["tree"] (spLetsIn K) := by
  refine T.F_lets_in.ok sc_lets_in (fun vs H Q E h => ?_) (fun cdv B outer s H vs Q E hr h => ?_)
  · obtain ⟨v, t, rfl, _⟩ := h
    rfl
  · obtain ⟨v, t, rfl, ht, hw, hd, hl, q⟩ := h
    refine ⟨_, (pss_one (ps_ret (pe_lc (own := [("word", 1), ("name", 2)]) rfl sc_lets_in.nd (pi_tup (pe_call (ok_names_in T 16) (hr.mono (by omega)) rfl T.g_names_in T.F_names_in.kp T.b_names_in .nil pass0 (pa_cons (pv 0) pa_nil))) (blkOk_by (own := [("word", 1), ("name", 2)]) (N := N_lets_in) (sc := defScope s_lets_in) (by decide +kernel)) (fun _ _ _ _ _ => (show PG _ _ (gTup K 2 (gCons (gName 1) (gCons (gName 2) gNil))) from pg_tup (by rfl) (pgs_cons (pg_name (i := 1) sc_lets_in.nd rfl (Or.inl rfl)) (pgs_cons (pg_name (i := 2) sc_lets_in.nd rfl (Or.inl rfl)) pgs_nil)))) (fun _ _ _ _ _ => pts_one (by exact (pt_cmpR op_eq (pv 1) pe_str (nomark _)))) (fun _ _ _ _ _ => by exact (pv 2))))), ?_⟩
    refine ⟨_, rfl, ?_⟩
    dsimp (config := { proj := false }) only [tNil, List.append_nil]
    refine spNames_of (n := 16) ht (by omega) hw hl fun H1 p us s1 hp hus => ?_
    have hul := hus.len
    refine ⟨p, rfl, ⟨_, hp⟩, fun D hD => ?_⟩
    refine lc_ask2 (K := K) (walk_tup (K := K) (a := p) (xs := us)) (k := 1) (k1 := 2) (by decide) (fun j x y => x = .str (Str.ofString "let") ∧ ∃ z, (namT t)[j]? = some z ∧ y = .str z) (fun j acc Hz => Same H1 Hz ∧ acc = ((namT t).take j).map V.str) (by omega) ⟨same_new hD, rfl⟩ (fun j acc Hz h => sqT_up hp h.1) (fun j acc Hz x Hz' hj hpz eDz y => ?_) (fun j x y acc Hz hj hal hpz eDz hI Rr fls tru => ?_) (fun acc Hz hal hpz eDz => ?_)
    · obtain ⟨rfl, ex⟩ := y
      obtain ⟨q1, z, rfl, hz, hq1⟩ := (hus.up hpz.1).get ex
      exact ⟨hpz, eDz, q1, _, _, rfl, SqT.of hq1, rfl, z, hz, rfl⟩
    · obtain ⟨rfl, z, hz, rfl⟩ := hI
      obtain ⟨sz, rfl⟩ := hpz
      refine ⟨_, rfl, rfl, _, rfl, ?_⟩
      rw [decide_eq_true rfl]
      refine tru Hz eDz fun Q2 q2 => ⟨_, rfl, q2 _ Hz eDz ⟨same_mut sz hD, ?_⟩⟩
      rw [List.take_add_one, hz, List.map_append]
      rfl
    · obtain ⟨sz, rfl⟩ := hpz
      rw [hul, List.take_length] at eDz
      exact q Hz D (s1.trans sz) (s1.free hD) eDz
end
end R1

/-! rows told again from their different ones and their counts -/
namespace AT
variable {κ : Type} [DecidableEq κ]
theorem count_rep (c : κ → Nat) (a : κ) : ∀ ds : List κ, ds.Nodup → (ds.flatMap fun k => List.replicate (c k) k).count a = if a ∈ ds then c a else 0
  | [], _ => by simp
  | d :: ds, hn => by
    obtain ⟨h1, h2⟩ := List.nodup_cons.mp hn
    rw [List.flatMap_cons, List.count_append, count_rep c a ds h2, List.count_replicate]
    by_cases e : d = a
    · subst e
      rw [if_neg h1]
      simp
    · have e' : ¬ (a = d) := fun z => e z.symm
      simp [e, e']
theorem asc_perm (rows ds : List κ) (hd : ds.Nodup) (hm : ∀ x, x ∈ ds ↔ x ∈ rows) : (ds.flatMap fun k => List.replicate (rows.count k) k).Perm rows := by
  refine List.perm_iff_count.mpr fun a => ?_
  rw [count_rep _ _ _ hd]
  by_cases m : a ∈ ds
  · rw [if_pos m]
  · rw [if_neg m]
    exact (List.count_eq_zero.mpr fun z => m ((hm a).mpr z)).symm
theorem asc_sorted {le : κ → κ → Prop} (hr : ∀ a, le a a) (c : κ → Nat) : ∀ ds : List κ, ds.Pairwise le → (ds.flatMap fun k => List.replicate (c k) k).Pairwise le
  | [], _ => .nil
  | d :: ds, h => by
    obtain ⟨h1, h2⟩ := List.pairwise_cons.mp h
    rw [List.flatMap_cons]
    refine List.pairwise_append.mpr ⟨List.pairwise_replicate.mpr (.inr (hr d)), asc_sorted hr c ds h2, fun x hx y hy => ?_⟩
    rw [List.eq_of_mem_replicate hx]
    obtain ⟨k, hk, hy⟩ := List.mem_flatMap.mp hy
    rw [List.eq_of_mem_replicate hy]
    exact h1 k hk
theorem sorted_one {le : κ → κ → Prop} (anti : ∀ a b, le a b → le b a → a = b) : ∀ l m : List κ, l.Perm m → l.Pairwise le → m.Pairwise le → l = m
  | [], m, p, _, _ => p.nil_eq
  | a :: l, [], p, _, _ => absurd p.length_eq (by simp)
  | a :: l, b :: m, p, h1, h2 => by
    obtain ⟨a1, a2⟩ := List.pairwise_cons.mp h1
    obtain ⟨b1, b2⟩ := List.pairwise_cons.mp h2
    have e : a = b := by
      have ma : a ∈ b :: m := p.mem_iff.mp List.mem_cons_self
      have mb : b ∈ a :: l := p.mem_iff.mpr List.mem_cons_self
      rcases List.mem_cons.mp ma with z | z
      · exact z
      · rcases List.mem_cons.mp mb with y | y
        · exact y.symm
        · exact anti a b (a1 b y) (b1 a z)
    subst e
    rw [sorted_one anti l m p.cons_inv a2 b2]
/-- what ascending tells is the one sorted list of these rows -/
theorem asc_one {le : κ → κ → Prop} (hr : ∀ a, le a a) (anti : ∀ a b, le a b → le b a → a = b) {rows ds out : List κ} (hd : ds.Nodup) (hm : ∀ x, x ∈ ds ↔ x ∈ rows) (hs : ds.Pairwise le) (ho : out.Perm rows) (hp : out.Pairwise le) : (ds.flatMap fun k => List.replicate (rows.count k) k) = out :=
  sorted_one anti _ _ ((asc_perm rows ds hd hm).trans ho.symm) (asc_sorted hr _ ds hs) hp
end AT

namespace R1
open PySem PySem.Spec PyProof.Rows L2 RK
local macro_rules | `(tactic| walk_at "sq") => `(tactic| first
  | exact SqL.of upd_same | exact upd_same | exact SqL.of (by assumption) | exact SqL.of (by rw [upd_ne (by assumption)]; assumption) | assumption)
local macro_rules | `(tactic| walk_at "sd") => `(tactic| first
  | assumption | omega | (refine Or.inl ⟨?_, ?_⟩ <;> omega) | (show _ ∧ _; constructor <;> omega) | (show _ ≠ _; simp; omega) | (exact Or.inl ⟨by decide, by decide⟩) | (exact Or.inr ⟨by decide, by decide⟩) | (show _ < _; decide) | (show _ ≤ _; decide))
local macro_rules | `(tactic| walk_at "at") => `(tactic| first | rfl | (refine atI_intV ?_ ?_ <;> omega) | assumption)
local macro_rules | `(tactic| walk_at "s1") => `(tactic| first
  | refine ⟨_, rfl, ?_⟩ | refine ⟨_, _, rfl, rfl, ?_⟩ | refine ⟨rfl, ?_⟩
  | refine ⟨_, _, _, _, rfl, rfl, by walk_at "sq", by walk_at "at", ?_⟩
  | refine Or.inl ⟨_, rfl, ?_⟩
  | refine ⟨_, _, rfl, Or.inl (by walk_at "sq"), ?_⟩
  | refine And.intro (by walk_at "sd") ?_)
local macro_rules | `(tactic| walk_at "s") => `(tactic| repeat walk_at "s1")

/-! texts in their order -/
def ltS (a b : Str) : Prop := ltCps a.cps.toList b.cps.toList = true
instance (a b : Str) : Decidable (ltS a b) := inferInstanceAs (Decidable (_ = true))
theorem ltS_iff {a b : Str} : ltS a b ↔ a.cps.toList < b.cps.toList := by
  unfold ltS
  rw [ltCps_eq, decide_eq_true_eq]
theorem str_ext {a b : Str} (h : a.cps.toList = b.cps.toList) : a = b := Str.ext' (Array.toList_inj.mp h)
theorem ltS_irr (a : Str) : ¬ ltS a a := fun h => List.lt_irrefl _ (ltS_iff.mp h)
theorem ltS_trans {a b c : Str} (h : ltS a b) (g : ltS b c) : ltS a c := ltS_iff.mpr (List.lt_trans (ltS_iff.mp h) (ltS_iff.mp g))
theorem ltS_tri (a b : Str) : ltS a b ∨ a = b ∨ ltS b a := by
  by_cases h : ltS a b
  · exact .inl h
  · by_cases g : ltS b a
    · exact .inr (.inr g)
    · refine .inr (.inl (str_ext ?_))
      exact List.le_antisymm (fun z => g (ltS_iff.mpr z)) (fun z => h (ltS_iff.mpr z))
theorem ltS_asym {a b : Str} (h : ltS a b) : ¬ ltS b a := fun g => ltS_irr a (ltS_trans h g)
theorem risingS_pw : ∀ (l : List Str) (p : Str), risingS p l = true → (p :: l).Pairwise fun a b => ¬ ltS b a
  | [], p, _ => List.pairwise_singleton _ _
  | x :: r, p, h => by
    unfold risingS at h
    rw [Bool.and_eq_true, Bool.not_eq_true'] at h
    have ih := risingS_pw r x h.2
    have hx : ¬ ltS x p := fun z => by unfold ltS at z; rw [h.1] at z; cases z
    refine List.pairwise_cons.mpr ⟨fun y hy => ?_, ih⟩
    rcases List.mem_cons.mp hy with rfl | hy
    · exact hx
    · intro z
      have h2 := (List.pairwise_cons.mp ih).1 y hy
      rcases ltS_tri p x with e | e | e
      · exact h2 (ltS_trans z e)
      · exact h2 (e ▸ z)
      · exact hx e
theorem sortedS_pw : ∀ l : List Str, sortedS l = true → l.Pairwise fun a b => ¬ ltS b a
  | [], _ => .nil
  | x :: r, h => risingS_pw r x h
/-- rows counted, in the order of their first ones -/
def cS (rs ds : List Str) : List (Key × V) := ds.map fun x => (Sum.inr x, V.int (rs.count x : Nat))
theorem cS_val (rs : List Str) (k : Str) : ∀ ds : List Str, valV (cS rs ds) (.inr k) = if k ∈ ds then some (.int (rs.count k : Nat)) else none
  | [] => rfl
  | d :: ds => by
    show valV ((Sum.inr d, V.int (rs.count d : Nat)) :: cS rs ds) (.inr k) = _
    by_cases e : d = k
    · subst e
      rw [valV_pos (by rfl), if_pos List.mem_cons_self]
    · rw [valV_neg (fun z => e (Sum.inr.inj z)), cS_val rs k ds]
      by_cases m : k ∈ ds
      · rw [if_pos m, if_pos (List.mem_cons_of_mem _ m)]
      · rw [if_neg m, if_neg fun z => (List.mem_cons.mp z).elim (fun y => e y.symm) m]
theorem cS_any (rs ds : List Str) (k : Str) : ((cS rs ds).any fun kv => decide (kv.1 = Sum.inr k)) = decide (k ∈ ds) := by
  rw [Bool.eq_iff_iff, List.any_eq_true, decide_eq_true_eq]
  constructor
  · rintro ⟨kv, hkv, e⟩
    obtain ⟨x, hx, rfl⟩ := List.mem_map.mp hkv
    exact Sum.inr.inj (of_decide_eq_true e) ▸ hx
  · exact fun h => ⟨_, List.mem_map.mpr ⟨k, h, rfl⟩, decide_eq_true rfl⟩
theorem count_snoc (rs : List Str) (k x : Str) : (rs ++ [k]).count x = rs.count x + if k = x then 1 else 0 := by
  rw [List.count_append, List.count_singleton]
  by_cases e : k = x
  · simp [e]
  · simp [e]
/-- the dict of counts behind one more row -/
def dsN (ds : List Str) (k : Str) : List Str := if k ∈ ds then ds else ds ++ [k]
theorem cS_put {rs ds : List Str} {k : Str} (hm : ∀ x, x ∈ ds ↔ x ∈ rs) : putK (cS rs ds) (.inr k) (.int ((rs.count k : Nat) + 1 : Int)) = cS (rs ++ [k]) (dsN ds k) := by
  unfold putK dsN
  rw [cS_any]
  by_cases e : k ∈ ds
  · rw [if_pos (decide_eq_true e), if_pos e]
    unfold cS
    rw [List.map_map]
    refine List.map_congr_left fun x hx => ?_
    show (if (Sum.inr x : Key) = Sum.inr k then ((Sum.inr x : Key), V.int ((rs.count k : Nat) + 1 : Int)) else (Sum.inr x, V.int (rs.count x : Nat))) = _
    rw [count_snoc]
    by_cases z : k = x
    · subst z
      rw [if_pos rfl, if_pos rfl]
      rfl
    · rw [if_neg (fun y => z (Sum.inr.inj y).symm), if_neg z]
      rfl
  · rw [if_neg (by rw [decide_eq_false e]; decide), if_neg e]
    unfold cS
    rw [List.map_append]
    have hc : rs.count k = 0 := List.count_eq_zero.mpr fun z => e ((hm k).mpr z)
    congr 1
    · refine List.map_congr_left fun x hx => ?_
      rw [count_snoc, if_neg (fun z : k = x => e (z ▸ hx))]
      rfl
    · show _ = [(Sum.inr k, V.int ((rs ++ [k]).count k : Nat))]
      rw [count_snoc, if_pos rfl, hc]
      rfl
theorem dsN_mem {rs ds : List Str} {k : Str} (hm : ∀ x, x ∈ ds ↔ x ∈ rs) : ∀ x, x ∈ dsN ds k ↔ x ∈ rs ++ [k] := fun x => by
  unfold dsN
  rw [List.mem_append, List.mem_singleton]
  by_cases e : k ∈ ds
  · rw [if_pos e, hm x]
    exact ⟨.inl, fun h => h.elim id fun z => z ▸ (hm k).mp e⟩
  · rw [if_neg e, List.mem_append, List.mem_singleton, hm x]
theorem dsN_nd {ds : List Str} {k : Str} (hn : ds.Nodup) : (dsN ds k).Nodup := by
  unfold dsN
  by_cases e : k ∈ ds
  · rw [if_pos e]
    exact hn
  · rw [if_neg e]
    exact List.nodup_append.mpr ⟨hn, List.pairwise_singleton _ _, fun a ha b hb z => e (by rw [List.mem_singleton] at hb; rw [← hb, ← z]; exact ha)⟩
theorem asc_texts {rows ds ys : List Str} (hd : ds.Nodup) (hm : ∀ x, x ∈ ds ↔ x ∈ rows) (p : ys.Perm ds) (hs : sortedS ys = true) :
    (ys.flatMap fun k => List.replicate (rows.count k) k).Perm rows ∧ (ys.flatMap fun k => List.replicate (rows.count k) k).Pairwise fun a b => ¬ ltS b a :=
  have hy : ys.Nodup := p.nodup_iff.mpr hd
  ⟨AT.asc_perm rows ys hy fun x => by rw [p.mem_iff, hm], AT.asc_sorted ltS_irr _ ys (sortedS_pw ys hs)⟩
/-- ascending of texts -/
def spAscS (K : PySem.W.Frag) : Sp := fun vs H Q _ => ∃ (d : Addr) (rs : List Str), vs = [.ref d] ∧ SqL K H d (rs.map V.str) ∧ rs.length ≤ 1000 ∧
  ∀ H' r (ms : List Str), Same H H' → H r = none → H' r = some (.lst (ms.map V.str)) → ms.Perm rs → (ms.Pairwise fun a b => ¬ ltS b a) → Q (.ref r) H'
section
variable {P : Program} {w : World} {K : PySem.W.Frag} {mg : Str → Option Value} {base : Heap} {A : Ads}
theorem ok_ascending (T : Txt K mg A) : FnOk P w K mg base CX0 4 A.a_ascending A.d_ascending ["rows"] (spAscS K) := by
  refine T.F_ascending.ok sc_ascending (fun vs H Q E h => ?_) (fun cdv B outer s H vs Q E hr h => ?_)
  · obtain ⟨d, rs, rfl, _⟩ := h
    rfl
  · obtain ⟨d, rs, rfl, hd, hl, q⟩ := h
    refine ⟨_, (pss_cons (ps_set (i := 1) sc_ascending.nd rfl (.inr rfl) pe_dnewK)
    (pss_cons (ps_for PassesOwn.never rfl (pi_list (pv 0)) (pg_name (i := 2) sc_ascending.nd rfl (.inl rfl))
      (pss_one (ps_dput (hu_of hr) (pv 1) (pv 2) (pe_op op_add (pe_dget2 (hu_of hr) (pv 1) (pv 2) pe_int ⟨rfl, rfl, rfl, rfl⟩) pe_int) rfl)))
    (pss_one (ps_ret (pe_lc2 (own := [("row", 2), ("_", 3)]) (vs1 := [3]) rfl sc_ascending.nd (pi_list (pe_callB (show CallR _ (.builtin "sorted") (UX.rSortTx P w) from UX.cr_sortTx rfl) (by rfl) T.n_sorted (by decide +kernel) (pa_cons (pe_callTy (show CallR _ (.type "set") (UX.rSetLS P w K) from UX.cr_setLS rfl) (by rfl) T.n_set (by decide +kernel) (pa_cons (pe_callTy (show CallR _ (.type "list") rListD from call_list_dK rfl) (by rfl) T.n_list (by decide +kernel) (pa_cons (pv 1) pa_nil)) pa_nil)) pa_nil))) (blkOk_by (own := [("row", 2), ("_", 3)]) (N := N_ascending) (sc := defScope s_ascending) (by decide +kernel)) (by decide) (fun _ _ _ _ _ => pg_name (i := 2) sc_ascending.nd rfl (Or.inl rfl)) (fun _ _ _ _ _ => pts_nil) (fun _ _ _ _ _ => by exact (pi_range1 (by rfl) T.n_range (pa_cons (pe_dget (hu_of hr) (pv 1) (pv 2) (fun _ _ => rfl)) pa_nil))) (fun _ _ _ _ _ => pg_name (i := 3) sc_ascending.nd rfl (Or.inl rfl)) (fun _ _ _ _ _ => pts_nil) (fun _ _ _ _ _ => by exact (pv 2))))))), ?_⟩
    intro c hc
    have sc := same_new (o := .dK []) hc
    have ec : upd H c (.dK []) c = some (.dK (cS [] [])) := upd_same
    generalize upd H c (.dK []) = H1 at sc ec ⊢
    have hll : (rs.map V.str).length = rs.length := List.length_map _
    refine ⟨_, rfl, d, rfl, ⟨_, sqL_up hd sc⟩, for_it (walk_list (K := K) (a := d) (xs := rs.map V.str)) (fun i σ Hc => ∃ o2 ds, σ = [some (.ref d), some (.ref c), o2, none] ∧ Same H Hc ∧ Hc c = some (.dK (cS (rs.take i) ds)) ∧ ds.Nodup ∧ ds.length ≤ i ∧ ∀ x, x ∈ ds ↔ x ∈ rs.take i) ⟨_, [], rfl, sc, ec, List.nodup_nil, Nat.le_refl _, fun x => by simp⟩ (fun i σ Hc _ y => ?_) (fun i x σ Hc He hi y e => ?_) (fun σ Hc y => ?_)⟩
    · obtain ⟨_, _, _, s1, _⟩ := y
      exact sqL_up hd s1
    · obtain ⟨rfl, ex⟩ := e
      obtain ⟨o2, ds, rfl, s1, ecc, nd, dl, hm⟩ := y
      rw [hll] at hi
      rw [List.getElem?_map, List.getElem?_eq_getElem hi] at ex
      cases ex
      have htk : rs.take (i + 1) = rs.take i ++ [rs[i]] := by rw [List.take_add_one, List.getElem?_eq_getElem hi]; rfl
      rw [htk]
      generalize rs[i] = k at *
      have hv := cS_val (rs.take i) k ds
      have hp := cS_put (k := k) hm
      have dl2 : (dsN ds k).length ≤ i + 1 := by
        unfold dsN
        split
        · omega
        · rw [List.length_append]
          show _ + 1 ≤ _
          omega
      have hput : ∀ (H' : Hp), H' = upd He c (.dK (putK (cS (rs.take i) ds) (.inr k) (.int ((rs.take i).count k + 1 : Int)))) → Same H H' ∧ H' c = some (.dK (cS (rs.take i ++ [k]) (dsN ds k))) := fun H' e => by
        rw [e]
        exact ⟨same_mut s1 hc, by rw [upd_same, hp]⟩
      refine ⟨_, rfl, c, rfl, .inl ⟨_, .inl ecc⟩, _, rfl, _, .inl ⟨_, .inr k, .inl ecc, rfl, hv.symm⟩, ?_⟩
      by_cases e : k ∈ ds
      · rw [if_pos e]
        walk_at "s"
        refine ⟨c, _, rfl, DPut.k (k := .inr k) ecc (by unfold cS; rw [List.length_map]; exact Nat.lt_of_le_of_lt (show _ ≤ 1000 by omega) (by decide)), _, _, rfl, (hput _ rfl).1, (hput _ rfl).2, dsN_nd nd, dl2, dsN_mem hm⟩
      · rw [if_neg e]
        have hc0 : (rs.take i).count k = 0 := List.count_eq_zero.mpr fun z => e ((hm k).mpr z)
        rw [hc0] at hput
        walk_at "s"
        refine ⟨c, _, rfl, DPut.k (k := .inr k) ecc (by unfold cS; rw [List.length_map]; exact Nat.lt_of_le_of_lt (show _ ≤ 1000 by omega) (by decide)), _, _, rfl, (hput _ rfl).1, (hput _ rfl).2, dsN_nd nd, dl2, dsN_mem hm⟩
    obtain ⟨o2, ds, rfl, s1, ecc, nd, dl, hm⟩ := y
    rw [hll] at dl
    rw [hll, List.take_length] at ecc hm
    refine ⟨_, rfl, c, _, rfl, ecc, fun l0 hl0 => ?_⟩
    have hks : ((cS rs ds).map fun kv => kV kv.1) = ds.map V.str := by
      unfold cS
      rw [List.map_map]
      rfl
    rw [hks]
    have sA := same_new (o := .lst (ds.map V.str)) hl0
    have eA : upd Hc l0 (.lst (ds.map V.str)) l0 = some (.lst (ds.map V.str)) := upd_same
    generalize upd Hc l0 (.lst (ds.map V.str)) = HA at sA eA ⊢
    refine ⟨l0, ds, rfl, SqL.of eA, nd, by omega, fun sp hsp => ?_⟩
    have sB := sA.trans (same_new (o := UX.TxO P w sp ds) hsp)
    have eB : upd HA sp (UX.TxO P w sp ds) sp = some (UX.TxO P w sp ds) := upd_same
    generalize upd HA sp (UX.TxO P w sp ds) = HB at sB eB ⊢
    refine ⟨sp, ds, rfl, eB, by omega, fun ys op pm hsr hop => ?_⟩
    have sC := sB.trans (same_new (o := .lst (ys.map V.str)) hop)
    have eC : upd HB op (.lst (ys.map V.str)) op = some (.lst (ys.map V.str)) := upd_same
    generalize upd HB op (.lst (ys.map V.str)) = HC at sC eC ⊢
    have ecC := sC _ _ ecc
    obtain ⟨told, tpw⟩ := asc_texts nd hm pm hsr
    have hml : (ys.map V.str).length = ys.length := List.length_map _
    have tot : ∀ b, ((ys.take b).flatMap fun x => List.replicate (rs.count x) x).length ≤ rs.length := fun b => by
      have e1 := told.length_eq
      have e2 : ys.flatMap (fun x => List.replicate (rs.count x) x) = (ys.take b).flatMap (fun x => List.replicate (rs.count x) x) ++ (ys.drop b).flatMap (fun x => List.replicate (rs.count x) x) := by
        rw [← List.flatMap_append, List.take_append_drop]
      rw [e2, List.length_append] at e1
      omega
    refine ⟨op, rfl, ⟨_, SqL.of eC⟩, fun D hD => ?_⟩
    refine lc2_it (walk_list (K := K) (a := op) (xs := ys.map V.str)) (k := 2) (k1 := 3) (by decide) (fun b Hx => Same HC Hx ∧ Hx D = some (.lst (((ys.take b).flatMap fun x => List.replicate (rs.count x) x).map V.str))) ⟨same_new hD, upd_same⟩ (fun b Hx _ h => SqL.of (h.1 _ _ eC)) (fun b x Hx Hy hb hp y R hR => ?_) (fun Hx h => ?_)
    · obtain ⟨rfl, ex⟩ := y
      obtain ⟨sx, eD⟩ := hp
      rw [hml] at hb
      rw [List.getElem?_map, List.getElem?_eq_getElem hb] at ex
      cases ex
      have htk : (((ys.take (b + 1)).flatMap fun x => List.replicate (rs.count x) x)) = ((ys.take b).flatMap fun x => List.replicate (rs.count x) x) ++ List.replicate (rs.count ys[b]) ys[b] := by
        rw [List.take_add_one, List.getElem?_eq_getElem hb, List.flatMap_append]
        show _ ++ (_ ++ []) = _
        rw [List.append_nil]
      have tb := tot (b + 1)
      rw [htk, List.length_append, List.length_replicate] at tb
      have hin : ys[b] ∈ ds := pm.mem_iff.mp (List.getElem_mem hb)
      have hval := cS_val rs ys[b] ds
      rw [if_pos hin] at hval
      rw [htk] at hR
      generalize ys[b] = k at *
      have hN : rs.count k ≤ 1000 := Nat.le_trans List.count_le_length hl
      generalize rs.count k = N at *
      generalize ((ys.take b).flatMap fun x => List.replicate (rs.count x) x) = M0 at *
      refine ⟨_, rfl, _, rfl, c, _, rfl, .inl ⟨_, .inr k, .inl (sx _ _ ecC), rfl, hval.symm⟩, _, rfl, by omega, by omega, ?_⟩
      rw [Int.toNat_natCast]
      refine hR _ _ _ _ _ (fun j Hz => Same HC Hz ∧ Hz D = some (.lst ((M0 ++ List.replicate j k).map V.str))) (walk_range (lo := 0) (n := N)) ⟨sx, by rw [List.replicate_zero, List.append_nil]; exact eD⟩ (fun _ _ _ _ => trivial) (fun j y Hz Hw hj hp1 yy => ?_) (fun Hz hp1 => hp1)
      obtain ⟨rfl, _⟩ := yy
      obtain ⟨sz, ezD⟩ := hp1
      refine ⟨_, rfl, _, ezD, Nat.lt_of_le_of_lt (show _ ≤ 2000 by rw [List.length_map, List.length_append, List.length_replicate]; omega) (by decide), same_mut sz hD, ?_⟩
      rw [upd_same, List.replicate_succ', ← List.append_assoc, List.map_append (l₂ := [k])]
      rfl
    · obtain ⟨sx, eD⟩ := h
      rw [hml, List.take_length] at eD
      exact q _ D _ (s1.trans (sC.trans sx)) (s1.free (sC.free hD)) eD told tpw
end
end R1

namespace R1
open PySem PySem.Spec PyProof.Rows L2 RK
local macro_rules | `(tactic| walk_at "sq") => `(tactic| first
  | exact SqL.of upd_same | exact upd_same | exact SqL.of (by assumption) | exact SqL.of (by rw [upd_ne (by assumption)]; assumption) | assumption)
local macro_rules | `(tactic| walk_at "sd") => `(tactic| first
  | assumption | omega | (refine Or.inl ⟨?_, ?_⟩ <;> omega) | (show _ ∧ _; constructor <;> omega) | (show _ ≠ _; simp; omega) | (exact Or.inl ⟨by decide, by decide⟩) | (exact Or.inr ⟨by decide, by decide⟩) | (show _ < _; decide) | (show _ ≤ _; decide))
local macro_rules | `(tactic| walk_at "at") => `(tactic| first | rfl | (refine atI_intV ?_ ?_ <;> omega) | assumption)
local macro_rules | `(tactic| walk_at "s1") => `(tactic| first
  | refine ⟨_, rfl, ?_⟩ | refine ⟨_, _, rfl, rfl, ?_⟩ | refine ⟨rfl, ?_⟩
  | refine ⟨_, _, _, _, rfl, rfl, by walk_at "sq", by walk_at "at", ?_⟩
  | refine Or.inl ⟨_, rfl, ?_⟩
  | refine ⟨_, _, rfl, Or.inl (by walk_at "sq"), ?_⟩
  | refine And.intro (by walk_at "sd") ?_)
local macro_rules | `(tactic| walk_at "s") => `(tactic| repeat walk_at "s1")

theorem same_frz_new {H : Hp} {c d : Addr} {o F : HO} (h : H c = none) : Same (upd H d F) (upd (upd H c o) d F) := fun b x e => by
  by_cases z : b = d
  · subst z
    rw [upd_same] at e ⊢
    exact e
  · rw [upd_ne z] at e ⊢
    rw [upd_ne (fun y : b = c => by rw [y, h] at e; cases e)]
    exact e
theorem same_lock {H H' : Hp} {f : Addr} {od : Obj} {u : HO} (hf : H f = some u) (s : Same (upd H f (.frz od u)) H') : Same H (upd H' f u) := fun b o e => by
  by_cases z : b = f
  · subst z
    rw [hf] at e
    cases e
    exact upd_same
  · rw [upd_ne z]
    refine s b o ?_
    rw [upd_ne z]
    exact e
/-- a dict whose keys are texts -/
abbrev SV := List (Str × V)
def kvS (l : SV) : List (Key × V) := l.map fun p => (Sum.inr p.1, p.2)
theorem kvS_len (l : SV) : (kvS l).length = l.length := List.length_map _
/-- ascending, over a dict whose keys are texts -/
def spAscD (K : PySem.W.Frag) : Sp := fun vs H Q _ => ∃ (d : Addr) (l : SV), vs = [.ref d] ∧ H d = some (.dK (kvS l)) ∧ l.length ≤ 1000 ∧
  ∀ H' r (ms : List Str), Same H H' → H r = none → H' r = some (.lst (ms.map V.str)) → ms.Perm (l.map (·.1)) → (ms.Pairwise fun a b => ¬ ltS b a) → Q (.ref r) H'
section
variable {P : Program} {w : World} {K : PySem.W.Frag} {mg : Str → Option Value} {base : Heap} {A : Ads}
theorem ok_ascendingD (T : Txt K mg A) : FnOk P w K mg base CX0 4 A.a_ascending A.d_ascending ["rows"] (spAscD K) := by
  refine T.F_ascending.ok sc_ascending (fun vs H Q E h => ?_) (fun cdv B outer s H vs Q E hr h => ?_)
  · obtain ⟨d, l, rfl, _⟩ := h
    rfl
  · obtain ⟨d, l, rfl, hd, hl, q⟩ := h
    refine ⟨_, (pss_cons (ps_set (i := 1) sc_ascending.nd rfl (.inr rfl) pe_dnewK)
    (pss_cons (ps_lock (ps_for PassesOwn.never rfl (pi_keys (pv 0)) (pg_name (i := 2) sc_ascending.nd rfl (.inl rfl))
      (pss_one (ps_dput (hu_of hr) (pv 1) (pv 2) (pe_op op_add (pe_dget2 (hu_of hr) (pv 1) (pv 2) pe_int ⟨rfl, rfl, rfl, rfl⟩) pe_int) rfl))))
    (pss_one (ps_ret (pe_lc2 (own := [("row", 2), ("_", 3)]) (vs1 := [3]) rfl sc_ascending.nd (pi_list (pe_callB (show CallR _ (.builtin "sorted") (UX.rSortTx P w) from UX.cr_sortTx rfl) (by rfl) T.n_sorted (by decide +kernel) (pa_cons (pe_callTy (show CallR _ (.type "set") (UX.rSetLS P w K) from UX.cr_setLS rfl) (by rfl) T.n_set (by decide +kernel) (pa_cons (pe_callTy (show CallR _ (.type "list") rListD from call_list_dK rfl) (by rfl) T.n_list (by decide +kernel) (pa_cons (pv 1) pa_nil)) pa_nil)) pa_nil))) (blkOk_by (own := [("row", 2), ("_", 3)]) (N := N_ascending) (sc := defScope s_ascending) (by decide +kernel)) (by decide) (fun _ _ _ _ _ => pg_name (i := 2) sc_ascending.nd rfl (Or.inl rfl)) (fun _ _ _ _ _ => pts_nil) (fun _ _ _ _ _ => by exact (pi_range1 (by rfl) T.n_range (pa_cons (pe_dget (hu_of hr) (pv 1) (pv 2) (fun _ _ => rfl)) pa_nil))) (fun _ _ _ _ _ => pg_name (i := 3) sc_ascending.nd rfl (Or.inl rfl)) (fun _ _ _ _ _ => pts_nil) (fun _ _ _ _ _ => by exact (pv 2))))))), ?_⟩
    intro c hc
    have ed1 : upd H c (.dK []) d = some (.dK (kvS l)) := same_new hc _ _ hd
    have hcd : c ≠ d := fun z => by rw [z, hd] at hc; cases hc
    have ec : upd H c (.dK []) c = some (.dK (cS [] [])) := upd_same
    have sfr : ∀ od, Same (upd H d (.frz od (.dK (kvS l)))) (upd (upd H c (.dK [])) d (.frz od (.dK (kvS l)))) := fun od => same_frz_new hc
    generalize upd H c (.dK []) = H1 at ed1 ec sfr ⊢
    refine ⟨d, _, ed1, trivial, fun od => ?_⟩
    have hcf : upd H d (.frz od (.dK (kvS l))) c = none := by rw [upd_ne hcd]; exact hc
    have ecf : upd H1 d (.frz od (.dK (kvS l))) c = some (.dK (cS [] [])) := by rw [upd_ne hcd]; exact ec
    have edf : upd H1 d (.frz od (.dK (kvS l))) d = some (.frz od (.dK (kvS l))) := upd_same
    have edF : upd H d (.frz od (.dK (kvS l))) d = some (.frz od (.dK (kvS l))) := upd_same
    have sF := sfr od
    have back : ∀ {H' : Hp}, Same (upd H d (.frz od (.dK (kvS l)))) H' → Same H (upd H' d (.dK (kvS l))) := fun s => same_lock hd s
    generalize upd H1 d (.frz od (.dK (kvS l))) = Hf at sF edf ecf ⊢
    generalize upd H d (.frz od (.dK (kvS l))) = HF at hcf edF back sF
    obtain ⟨rs, hrs⟩ : ∃ rs : List Str, rs = l.map (·.1) := ⟨_, rfl⟩
    have hll : rs.length = l.length := by rw [hrs, List.length_map]
    rw [← hrs] at q
    refine ⟨_, rfl, d, od, rfl, .inl ⟨_, edf, ?_⟩⟩
    refine for_it (walk_keys (d := d) (o := od) (kvs := kvS l)) (fun i σ Hc => ∃ o2 ds, σ = [some (.ref d), some (.ref c), o2, none] ∧ Same HF Hc ∧ Hc c = some (.dK (cS (rs.take i) ds)) ∧ ds.Nodup ∧ ds.length ≤ i ∧ ∀ x, x ∈ ds ↔ x ∈ rs.take i) ⟨_, [], rfl, sF, ecf, List.nodup_nil, Nat.le_refl _, fun x => by simp⟩ (fun i σ Hc _ y => ?_) (fun i x σ Hc He hi y e => ?_) (fun σ Hc y => ?_)
    · obtain ⟨_, _, _, s1, _⟩ := y
      exact s1 _ _ edF
    · obtain ⟨rfl, k0, v0, ek, rfl⟩ := e
      obtain ⟨o2, ds, rfl, s1, ecc, nd, dl, hm⟩ := y
      rw [kvS_len] at hi
      unfold kvS at ek
      rw [List.getElem?_map, List.getElem?_eq_getElem hi] at ek
      cases ek
      have htk : rs.take (i + 1) = rs.take i ++ [l[i].1] := by
        rw [hrs, List.take_add_one, List.getElem?_map, List.getElem?_eq_getElem hi]
        rfl
      rw [htk]
      generalize l[i] = pr at *
      obtain ⟨k, kv⟩ := pr
      have hv := cS_val (rs.take i) k ds
      have hp := cS_put (k := k) hm
      have dl2 : (dsN ds k).length ≤ i + 1 := by
        unfold dsN
        split
        · omega
        · rw [List.length_append]
          show _ + 1 ≤ _
          omega
      have hput : ∀ (H' : Hp), H' = upd He c (.dK (putK (cS (rs.take i) ds) (.inr k) (.int ((rs.take i).count k + 1 : Int)))) → Same HF H' ∧ H' c = some (.dK (cS (rs.take i ++ [k]) (dsN ds k))) := fun H' e => by
        rw [e]
        exact ⟨same_mut s1 hcf, by rw [upd_same, hp]⟩
      refine ⟨_, rfl, c, rfl, .inl ⟨_, .inl ecc⟩, _, rfl, _, .inl ⟨_, .inr k, .inl ecc, rfl, hv.symm⟩, ?_⟩
      by_cases e : k ∈ ds
      · rw [if_pos e]
        walk_at "s"
        refine ⟨c, _, rfl, DPut.k (k := .inr k) ecc (by unfold cS; rw [List.length_map]; exact Nat.lt_of_le_of_lt (show _ ≤ 1000 by omega) (by decide)), _, _, rfl, (hput _ rfl).1, (hput _ rfl).2, dsN_nd nd, dl2, dsN_mem hm⟩
      · rw [if_neg e]
        have hc0 : (rs.take i).count k = 0 := List.count_eq_zero.mpr fun z => e ((hm k).mpr z)
        rw [hc0] at hput
        walk_at "s"
        refine ⟨c, _, rfl, DPut.k (k := .inr k) ecc (by unfold cS; rw [List.length_map]; exact Nat.lt_of_le_of_lt (show _ ≤ 1000 by omega) (by decide)), _, _, rfl, (hput _ rfl).1, (hput _ rfl).2, dsN_nd nd, dl2, dsN_mem hm⟩
    obtain ⟨o2, ds, rfl, s1, ecc, nd, dl, hm⟩ := y
    rw [kvS_len, ← hll] at dl
    rw [kvS_len, ← hll, List.take_length] at ecc hm
    refine ⟨s1 _ _ edF, ?_⟩
    have s1 := back s1
    have ecc : upd Hc d (.dK (kvS l)) c = some (.dK (cS rs ds)) := by rw [upd_ne hcd]; exact ecc
    generalize upd Hc d (.dK (kvS l)) = Hc at s1 ecc ⊢
    have hl : rs.length ≤ 1000 := by omega
    refine ⟨_, rfl, c, _, rfl, ecc, fun l0 hl0 => ?_⟩
    have hks : ((cS rs ds).map fun kv => kV kv.1) = ds.map V.str := by
      unfold cS
      rw [List.map_map]
      rfl
    rw [hks]
    have sA := same_new (o := .lst (ds.map V.str)) hl0
    have eA : upd Hc l0 (.lst (ds.map V.str)) l0 = some (.lst (ds.map V.str)) := upd_same
    generalize upd Hc l0 (.lst (ds.map V.str)) = HA at sA eA ⊢
    refine ⟨l0, ds, rfl, SqL.of eA, nd, by omega, fun sp hsp => ?_⟩
    have sB := sA.trans (same_new (o := UX.TxO P w sp ds) hsp)
    have eB : upd HA sp (UX.TxO P w sp ds) sp = some (UX.TxO P w sp ds) := upd_same
    generalize upd HA sp (UX.TxO P w sp ds) = HB at sB eB ⊢
    refine ⟨sp, ds, rfl, eB, by omega, fun ys op pm hsr hop => ?_⟩
    have sC := sB.trans (same_new (o := .lst (ys.map V.str)) hop)
    have eC : upd HB op (.lst (ys.map V.str)) op = some (.lst (ys.map V.str)) := upd_same
    generalize upd HB op (.lst (ys.map V.str)) = HC at sC eC ⊢
    have ecC := sC _ _ ecc
    obtain ⟨told, tpw⟩ := asc_texts nd hm pm hsr
    have hml : (ys.map V.str).length = ys.length := List.length_map _
    have tot : ∀ b, ((ys.take b).flatMap fun x => List.replicate (rs.count x) x).length ≤ rs.length := fun b => by
      have e1 := told.length_eq
      have e2 : ys.flatMap (fun x => List.replicate (rs.count x) x) = (ys.take b).flatMap (fun x => List.replicate (rs.count x) x) ++ (ys.drop b).flatMap (fun x => List.replicate (rs.count x) x) := by
        rw [← List.flatMap_append, List.take_append_drop]
      rw [e2, List.length_append] at e1
      omega
    refine ⟨op, rfl, ⟨_, SqL.of eC⟩, fun D hD => ?_⟩
    refine lc2_it (walk_list (K := K) (a := op) (xs := ys.map V.str)) (k := 2) (k1 := 3) (by decide) (fun b Hx => Same HC Hx ∧ Hx D = some (.lst (((ys.take b).flatMap fun x => List.replicate (rs.count x) x).map V.str))) ⟨same_new hD, upd_same⟩ (fun b Hx _ h => SqL.of (h.1 _ _ eC)) (fun b x Hx Hy hb hp y R hR => ?_) (fun Hx h => ?_)
    · obtain ⟨rfl, ex⟩ := y
      obtain ⟨sx, eD⟩ := hp
      rw [hml] at hb
      rw [List.getElem?_map, List.getElem?_eq_getElem hb] at ex
      cases ex
      have htk : (((ys.take (b + 1)).flatMap fun x => List.replicate (rs.count x) x)) = ((ys.take b).flatMap fun x => List.replicate (rs.count x) x) ++ List.replicate (rs.count ys[b]) ys[b] := by
        rw [List.take_add_one, List.getElem?_eq_getElem hb, List.flatMap_append]
        show _ ++ (_ ++ []) = _
        rw [List.append_nil]
      have tb := tot (b + 1)
      rw [htk, List.length_append, List.length_replicate] at tb
      have hin : ys[b] ∈ ds := pm.mem_iff.mp (List.getElem_mem hb)
      have hval := cS_val rs ys[b] ds
      rw [if_pos hin] at hval
      rw [htk] at hR
      generalize ys[b] = k at *
      have hN : rs.count k ≤ 1000 := Nat.le_trans List.count_le_length hl
      generalize rs.count k = N at *
      generalize ((ys.take b).flatMap fun x => List.replicate (rs.count x) x) = M0 at *
      refine ⟨_, rfl, _, rfl, c, _, rfl, .inl ⟨_, .inr k, .inl (sx _ _ ecC), rfl, hval.symm⟩, _, rfl, by omega, by omega, ?_⟩
      rw [Int.toNat_natCast]
      refine hR _ _ _ _ _ (fun j Hz => Same HC Hz ∧ Hz D = some (.lst ((M0 ++ List.replicate j k).map V.str))) (walk_range (lo := 0) (n := N)) ⟨sx, by rw [List.replicate_zero, List.append_nil]; exact eD⟩ (fun _ _ _ _ => trivial) (fun j y Hz Hw hj hp1 yy => ?_) (fun Hz hp1 => hp1)
      obtain ⟨rfl, _⟩ := yy
      obtain ⟨sz, ezD⟩ := hp1
      refine ⟨_, rfl, _, ezD, Nat.lt_of_le_of_lt (show _ ≤ 2000 by rw [List.length_map, List.length_append, List.length_replicate]; omega) (by decide), same_mut sz hD, ?_⟩
      rw [upd_same, List.replicate_succ', ← List.append_assoc, List.map_append (l₂ := [k])]
      rfl
    · obtain ⟨sx, eD⟩ := h
      rw [hml, List.take_length] at eD
      exact q _ D _ (s1.trans (sC.trans sx)) (s1.free (sC.free hD)) eD told tpw
end
end R1

namespace R1
open PySem PySem.Spec PyProof.Rows L2 RK
/-! rows of texts: by length, then by their texts -/
def lxS : List Str → List Str → Prop
  | [], [] => False
  | [], _ :: _ => True
  | _ :: _, [] => False
  | a :: as, b :: bs => ltS a b ∨ (a = b ∧ lxS as bs)
theorem lx_irr : ∀ a : List Str, ¬ lxS a a
  | [] => fun h => h
  | a :: as => fun h => h.elim (ltS_irr a) fun h => lx_irr as h.2
theorem lx_trans : ∀ {a b c : List Str}, lxS a b → lxS b c → lxS a c
  | [], [], _, h, _ => h.elim
  | [], _ :: _, [], _, h => h.elim
  | [], _ :: _, _ :: _, _, _ => True.intro
  | _ :: _, [], _, h, _ => h.elim
  | _ :: _, _ :: _, [], _, h => h.elim
  | a :: as, b :: bs, c :: cs, h, g => by
    rcases h with h | ⟨rfl, h⟩
    · rcases g with g | ⟨rfl, g⟩
      · exact .inl (ltS_trans h g)
      · exact .inl h
    · rcases g with g | ⟨rfl, g⟩
      · exact .inl g
      · exact .inr ⟨rfl, lx_trans h g⟩
theorem lx_tri : ∀ a b : List Str, lxS a b ∨ a = b ∨ lxS b a
  | [], [] => .inr (.inl rfl)
  | [], _ :: _ => .inl True.intro
  | _ :: _, [] => .inr (.inr True.intro)
  | a :: as, b :: bs => by
    rcases ltS_tri a b with h | rfl | h
    · exact .inl (.inl h)
    · rcases lx_tri as bs with h | rfl | h
      · exact .inl (.inr ⟨rfl, h⟩)
      · exact .inr (.inl rfl)
      · exact .inr (.inr (.inr ⟨rfl, h⟩))
    · exact .inr (.inr (.inl h))
theorem lx_app : ∀ {a b : List Str} (c d : List Str), a.length = b.length → lxS a b → lxS (a ++ c) (b ++ d)
  | [], [], _, _, _, h => h.elim
  | [], _ :: _, _, _, l, _ => by cases l
  | _ :: _, [], _, _, _, h => h.elim
  | a :: as, b :: bs, c, d, l, h => by
    rcases h with h | ⟨rfl, h⟩
    · exact .inl h
    · exact .inr ⟨rfl, lx_app c d (Nat.succ.inj l) h⟩
theorem lx_pre : ∀ (a : List Str) {c d : List Str}, lxS c d → lxS (a ++ c) (a ++ d)
  | [], _, _, h => h
  | a :: as, _, _, h => .inr ⟨rfl, lx_pre as h⟩
def ltW (p q : List Str) : Prop := p.length < q.length ∨ (p.length = q.length ∧ lxS p q)
def leW (p q : List Str) : Prop := p = q ∨ ltW p q
theorem ltW_trans {a b c : List Str} (h : ltW a b) (g : ltW b c) : ltW a c := by
  rcases h with h | ⟨e, h⟩
  · rcases g with g | ⟨e, g⟩
    · exact .inl (by omega)
    · exact .inl (by omega)
  · rcases g with g | ⟨e2, g⟩
    · exact .inl (by omega)
    · exact .inr ⟨by omega, lx_trans h g⟩
theorem ltW_irr (a : List Str) : ¬ ltW a a := fun h => h.elim (Nat.lt_irrefl _) fun h => lx_irr a h.2
theorem ltW_tri (a b : List Str) : ltW a b ∨ a = b ∨ ltW b a := by
  rcases Nat.lt_trichotomy a.length b.length with h | h | h
  · exact .inl (.inl h)
  · rcases lx_tri a b with g | g | g
    · exact .inl (.inr ⟨h, g⟩)
    · exact .inr (.inl g)
    · exact .inr (.inr (.inr ⟨h.symm, g⟩))
  · exact .inr (.inr (.inl h))
theorem leW_refl (a : List Str) : leW a a := .inl rfl
theorem leW_trans {a b c : List Str} (h : leW a b) (g : leW b c) : leW a c := by
  rcases h with rfl | h
  · exact g
  · rcases g with rfl | g
    · exact .inr h
    · exact .inr (ltW_trans h g)
theorem leW_anti {a b : List Str} (h : leW a b) (g : leW b a) : a = b := by
  rcases h with h | h
  · exact h
  · rcases g with g | g
    · exact g.symm
    · exact (ltW_irr a (ltW_trans h g)).elim
theorem ltW_snoc {p q : List Str} (x y : Str) (h : ltW p q) : ltW (p ++ [x]) (q ++ [y]) := by
  rcases h with h | ⟨e, h⟩
  · exact .inl (by rw [List.length_append, List.length_append]; exact Nat.add_lt_add_right h 1)
  · exact .inr ⟨by rw [List.length_append, List.length_append, e]; rfl, lx_app _ _ e h⟩
theorem leW_snoc {p q : List Str} (x : Str) (h : leW p q) : leW (p ++ [x]) (q ++ [x]) := h.elim (fun e => .inl (by rw [e])) fun h => .inr (ltW_snoc x x h)
theorem leW_take (w : List Str) (i : Nat) : leW (w.take i) w := by
  by_cases h : i < w.length
  · exact .inr (.inl (by rw [List.length_take]; omega))
  · exact .inl (List.take_of_length_le (by omega))
/-! ways and rings -/
section
variable (g : Str → List Str)
def Ch (l : List Str) : Prop := ∀ (i : Nat) (a b : Str), l[i]? = some a → l[i + 1]? = some b → b ∈ g a
def Ring (f : Str) (w : List Str) : Prop := ∃ r, w = f :: r ∧ Ch g (w ++ [f]) ∧ ∀ x ∈ r, ltS f x
/-- the least ring of those that begin with f; none where none does -/
def Least (f : Str) : Option (List Str) → Prop
  | none => ∀ w, ¬ Ring g f w
  | some p => Ring g f p ∧ ∀ w, Ring g f w → leW p w
end
section
variable {g : Str → List Str} {f : Str}
theorem Ch.cons {x y : Str} {r : List Str} (h : y ∈ g x) (c : Ch g (y :: r)) : Ch g (x :: y :: r) := fun i a b ha hb => by
  cases i with
  | zero => cases ha; cases hb; exact h
  | succ i => exact c i a b ha hb
theorem Ch.one (x : Str) : Ch g [x] := fun i a b _ hb => by cases hb
theorem Ch.pre {a b : List Str} (c : Ch g (a ++ b)) : Ch g a := fun i x y hx hy => by
  have h1 : i + 1 < a.length := (List.getElem?_eq_some_iff.mp hy).1
  refine c i x y ?_ ?_
  · rw [List.getElem?_append_left (by omega)]; exact hx
  · rw [List.getElem?_append_left h1]; exact hy
theorem Ch.suf {a b : List Str} (c : Ch g (a ++ b)) : Ch g b := fun i x y hx hy => by
  refine c (a.length + i) x y ?_ ?_
  · rw [List.getElem?_append_right (by omega), Nat.add_sub_cancel_left]; exact hx
  · rw [List.getElem?_append_right (by omega), show a.length + i + 1 - a.length = i + 1 by omega]; exact hy
theorem Ch.join : ∀ {a : List Str} {x : Str} {c : List Str}, Ch g (a ++ [x]) → Ch g (x :: c) → Ch g (a ++ x :: c)
  | [], _, _, _, h => h
  | [z], x, c, h, k => Ch.cons (h 0 z x rfl rfl) k
  | z :: y :: a, x, c, h, k => by
    have h' : Ch g (z :: y :: (a ++ [x])) := h
    exact Ch.cons (h' 0 z y rfl rfl) (Ch.join (a := y :: a) (fun i p q hp hq => h' (i + 1) p q hp hq) k)
theorem Ch.snoc {p : List Str} {x n : Str} (c : Ch g (p ++ [x])) (h : n ∈ g x) : Ch g (p ++ [x] ++ [n]) := by
  rw [List.append_assoc]
  exact Ch.join c (Ch.cons h (Ch.one n))
def lst (p : List Str) : Str := p.getLastD Str.empty
theorem lst_snoc (p : List Str) (n : Str) : lst (p ++ [n]) = n := List.getLastD_concat
/-- a way from f through greater names -/
def Wy (g : Str → List Str) (f : Str) (p : List Str) : Prop := ∃ r, p = f :: r ∧ Ch g p ∧ ∀ x ∈ r, ltS f x
theorem Wy.ne {p : List Str} (h : Wy g f p) : p ≠ [] := by
  obtain ⟨r, rfl, _⟩ := h
  exact List.cons_ne_nil _ _
theorem Wy.last {p : List Str} (h : Wy g f p) : ∃ q, p = q ++ [lst p] := by
  have := List.dropLast_concat_getLast h.ne
  refine ⟨p.dropLast, ?_⟩
  have e : lst p = p.getLast h.ne := by
    unfold lst
    rw [List.getLastD_eq_getLast?, List.getLast?_eq_some_getLast h.ne]
    rfl
  rw [e, this]
theorem Wy.snoc {p : List Str} {n : Str} (h : Wy g f p) (hn : n ∈ g (lst p)) (hf : ltS f n) : Wy g f (p ++ [n]) := by
  obtain ⟨q, e⟩ := h.last
  obtain ⟨r, e2, c, hr⟩ := h
  refine ⟨r ++ [n], by rw [e2]; rfl, ?_, fun x hx => (List.mem_append.mp hx).elim (hr x) fun z => by rw [List.mem_singleton.mp z]; exact hf⟩
  have c : Ch g (q ++ [lst p]) := by rw [← e]; exact c
  have := Ch.snoc c hn
  rw [← e] at this
  exact this
theorem Wy.ring {p : List Str} (h : Wy g f p) (hn : f ∈ g (lst p)) : Ring g f p := by
  obtain ⟨q, e⟩ := h.last
  obtain ⟨r, e2, c, hr⟩ := h
  refine ⟨r, e2, ?_, hr⟩
  have c : Ch g (q ++ [lst p]) := by rw [← e]; exact c
  have := Ch.snoc c hn
  rw [← e] at this
  exact this
/-! the search -/
/-- what has been looked at: all of the ways before the a-th, and the first k names behind that one -/
def Seen (g : Str → List Str) (paths : List (List Str)) (a k : Nat) (p : List Str) (n : Str) : Prop := ∃ i, paths[i]? = some p ∧ ((i < a ∧ n ∈ g (lst p)) ∨ (i = a ∧ n ∈ (g (lst p)).take k))
structure Bf (g : Str → List Str) (f : Str) (paths : List (List Str)) (a k : Nat) : Prop where
  zero : paths[0]? = some [f]
  way : ∀ p ∈ paths, Wy g f p
  asc : paths.Pairwise ltW
  nd : (paths.map lst).Nodup
  cl : ∀ p n, Seen g paths a k p n → ltS f n → ∃ q ∈ paths, lst q = n ∧ leW q (p ++ [n])
  no : ∀ p n, Seen g paths a k p n → n ≠ f
  par : ∀ q ∈ paths, q = [f] ∨ ∃ p n, Seen g paths a k p n ∧ q = p ++ [n]
theorem Bf.start (f : Str) : Bf g f [[f]] 0 0 := by
  have no : ∀ p n, ¬ Seen g [[f]] 0 0 p n := fun p n h => by
    obtain ⟨i, _, h | h⟩ := h
    · exact absurd h.1 (Nat.not_lt_zero _)
    · exact absurd h.2 (by rw [List.take_zero]; exact List.not_mem_nil)
  exact ⟨rfl, fun p hp => by rw [List.mem_singleton.mp hp]; exact ⟨[], rfl, Ch.one f, fun x hx => nomatch hx⟩, List.pairwise_singleton _ _, List.pairwise_singleton _ _, fun p n h => (no p n h).elim, fun p n h => (no p n h).elim, fun q hq => .inl (List.mem_singleton.mp hq)⟩
theorem seen_le {paths : List (List Str)} {a k : Nat} {p P : List Str} {n : Str} (hp : paths.Pairwise ltW) (h : Seen g paths a k p n) (hP : paths[a]? = some P) : leW p P ∧ n ∈ g (lst p) := by
  obtain ⟨i, e, h | ⟨rfl, h⟩⟩ := h
  · obtain ⟨h1, e1⟩ := List.getElem?_eq_some_iff.mp e
    obtain ⟨h2, e2⟩ := List.getElem?_eq_some_iff.mp hP
    exact ⟨.inr (by rw [← e1, ← e2]; exact List.pairwise_iff_getElem.mp hp i a h1 h2 h.1), h.2⟩
  · rw [hP] at e
    cases e
    exact ⟨.inl rfl, List.mem_of_mem_take h⟩
theorem seen_succ {paths : List (List Str)} {a k : Nat} {p P : List Str} {m n : Str} (hP : paths[a]? = some P) (hm : (g (lst P))[k]? = some m) (h : Seen g paths a (k + 1) p n) : Seen g paths a k p n ∨ (p = P ∧ n = m) := by
  obtain ⟨i, e, h | ⟨rfl, h⟩⟩ := h
  · exact .inl ⟨i, e, .inl h⟩
  · rw [hP] at e
    cases e
    rw [List.take_add_one, hm, List.mem_append] at h
    rcases h with h | h
    · exact .inl ⟨i, hP, .inr ⟨rfl, h⟩⟩
    · exact .inr ⟨rfl, List.mem_singleton.mp h⟩
theorem seen_mono {paths ex : List (List Str)} {a k : Nat} {p : List Str} {n : Str} (h : Seen g paths a k p n) : Seen g (paths ++ ex) a (k + 1) p n := by
  obtain ⟨i, e, h⟩ := h
  refine ⟨i, by rw [List.getElem?_append_left (List.getElem?_eq_some_iff.mp e).1]; exact e, h.imp id fun h => ⟨h.1, ?_⟩⟩
  rw [List.take_add_one]
  exact List.mem_append_left _ h.2
theorem Bf.pass {paths : List (List Str)} {a k : Nat} {P : List Str} {m : Str} (b : Bf g f paths a k) (hP : paths[a]? = some P) (hm : (g (lst P))[k]? = some m) (hmf : m ≠ f) (hq : ltS f m → m ∈ paths.map lst) : Bf g f paths a (k + 1) := by
  have par : ∀ q ∈ paths, q = [f] ∨ ∃ p n, Seen g paths a k p n ∧ q = p ++ [n] := b.par
  refine ⟨b.zero, b.way, b.asc, b.nd, fun p n h hf => ?_, fun p n h => ?_, fun q hq => (b.par q hq).imp id fun ⟨p, n, h, e⟩ => ⟨p, n, by have := seen_mono (ex := []) h; rwa [List.append_nil] at this, e⟩⟩
  · rcases seen_succ hP hm h with h | ⟨rfl, rfl⟩
    · exact b.cl p n h hf
    · obtain ⟨q, hq, e⟩ := List.mem_map.mp (hq hf)
      refine ⟨q, hq, e, ?_⟩
      rcases b.par q hq with rfl | ⟨p', n', h', rfl⟩
      · refine .inr (.inl ?_)
        have := (b.way p (List.mem_of_getElem? hP)).ne
        have := List.length_pos_iff.mpr this
        rw [List.length_append]
        show 1 < _ + 1
        omega
      · rw [lst_snoc] at e
        subst e
        exact leW_snoc _ (seen_le b.asc h' hP).1
  · rcases seen_succ hP hm h with h | ⟨rfl, rfl⟩
    · exact b.no p n h
    · exact hmf
theorem Bf.add {paths : List (List Str)} {a k : Nat} {P : List Str} {m : Str} (b : Bf g f paths a k) (hP : paths[a]? = some P) (hm : (g (lst P))[k]? = some m) (hf : ltS f m) (hq : m ∉ paths.map lst) (hs : (g (lst P)).Pairwise fun a b => ¬ ltS b a) : Bf g f (paths ++ [P ++ [m]]) a (k + 1) := by
  have hP2 : (paths ++ [P ++ [m]])[a]? = some P := by rw [List.getElem?_append_left (List.getElem?_eq_some_iff.mp hP).1]; exact hP
  have back : ∀ p n, Seen g (paths ++ [P ++ [m]]) a (k + 1) p n → Seen g paths a k p n ∨ (p = P ∧ n = m) := fun p n h => by
    rcases seen_succ hP2 hm h with h | h
    · refine .inl ?_
      obtain ⟨i, e, h⟩ := h
      have ha := (List.getElem?_eq_some_iff.mp hP).1
      have hi : i ≤ a := h.elim (fun z => by omega) fun z => by omega
      rw [List.getElem?_append_left (by omega)] at e
      exact ⟨i, e, h⟩
    · exact .inr h
  have wP := b.way P (List.mem_of_getElem? hP)
  have now : Seen g (paths ++ [P ++ [m]]) a (k + 1) P m := ⟨a, hP2, .inr ⟨rfl, by rw [List.take_add_one, hm]; exact List.mem_append_right _ (List.mem_singleton.mpr rfl)⟩⟩
  have z0 := List.getElem?_eq_some_iff.mp b.zero
  refine ⟨by rw [List.getElem?_append_left z0.1]; exact b.zero, fun p hp => ?_, ?_, ?_, fun p n h hfn => ?_, fun p n h => ?_, fun q hq => ?_⟩
  · rcases List.mem_append.mp hp with hp | hp
    · exact b.way p hp
    · rw [List.mem_singleton.mp hp]
      exact wP.snoc (List.mem_of_getElem? hm) hf
  · refine List.pairwise_append.mpr ⟨b.asc, List.pairwise_singleton _ _, fun q hqm y hy => ?_⟩
    rw [List.mem_singleton.mp hy]
    rcases b.par q hqm with rfl | ⟨p', n', h', rfl⟩
    · refine .inl ?_
      have := List.length_pos_iff.mpr wP.ne
      rw [List.length_append]
      show 1 < _ + 1
      omega
    · obtain ⟨i, e, h | ⟨rfl, h⟩⟩ := h'
      · obtain ⟨h1, e1⟩ := List.getElem?_eq_some_iff.mp e
        obtain ⟨h2, e2⟩ := List.getElem?_eq_some_iff.mp hP
        exact ltW_snoc _ _ (by rw [← e1, ← e2]; exact List.pairwise_iff_getElem.mp b.asc i a h1 h2 h.1)
      · rw [hP] at e
        cases e
        refine .inr ⟨by rw [List.length_append, List.length_append]; rfl, lx_pre P (.inl ?_)⟩
        obtain ⟨j, hj, ej⟩ := List.mem_iff_getElem.mp h
        rw [List.length_take] at hj
        rw [List.getElem_take] at ej
        obtain ⟨h2, e2⟩ := List.getElem?_eq_some_iff.mp hm
        have := List.pairwise_iff_getElem.mp hs j k (by omega) h2 (by omega)
        rw [ej, e2] at this
        rcases ltS_tri n' m with z | z | z
        · exact z
        · exact (hq (List.mem_map.mpr ⟨_, hqm, by rw [lst_snoc, z]⟩)).elim
        · exact (this z).elim
  · rw [List.map_append]
    refine List.nodup_append.mpr ⟨b.nd, List.pairwise_singleton _ _, fun x hx y hy e => hq ?_⟩
    rw [List.map_singleton, lst_snoc, List.mem_singleton] at hy
    rw [← hy, ← e]
    exact hx
  · rcases back p n h with h | ⟨rfl, rfl⟩
    · obtain ⟨q, h1, h2⟩ := b.cl p n h hfn
      exact ⟨q, List.mem_append_left _ h1, h2⟩
    · exact ⟨_, List.mem_append_right _ (List.mem_singleton.mpr rfl), lst_snoc _ _, .inl rfl⟩
  · rcases back p n h with h | ⟨rfl, rfl⟩
    · exact b.no p n h
    · exact fun z => ltS_irr f (by rw [z] at hf; exact hf)
  · rcases List.mem_append.mp hq with hq | hq
    · exact (b.par q hq).imp id fun ⟨p, n, h, e⟩ => ⟨p, n, seen_mono h, e⟩
    · exact .inr ⟨P, m, now, List.mem_singleton.mp hq⟩
theorem Bf.next {paths : List (List Str)} {a k : Nat} {P : List Str} (b : Bf g f paths a k) (hP : paths[a]? = some P) (hk : (g (lst P)).length = k) : Bf g f paths (a + 1) 0 := by
  have back : ∀ p n, Seen g paths (a + 1) 0 p n ↔ Seen g paths a k p n := fun p n => by
    constructor
    · rintro ⟨i, e, h | h⟩
      · by_cases z : i = a
        · subst z
          rw [hP] at e
          cases e
          exact ⟨i, hP, .inr ⟨rfl, by rw [List.take_of_length_le (by omega)]; exact h.2⟩⟩
        · exact ⟨i, e, .inl ⟨by omega, h.2⟩⟩
      · exact absurd h.2 (by rw [List.take_zero]; exact List.not_mem_nil)
    · rintro ⟨i, e, h | ⟨rfl, h⟩⟩
      · exact ⟨i, e, .inl ⟨by omega, h.2⟩⟩
      · exact ⟨i, e, .inl ⟨by omega, List.mem_of_mem_take h⟩⟩
  exact ⟨b.zero, b.way, b.asc, b.nd, fun p n h => b.cl p n ((back p n).mp h), fun p n h => b.no p n ((back p n).mp h), fun q hq => (b.par q hq).imp id fun ⟨p, n, h, e⟩ => ⟨p, n, (back p n).mpr h, e⟩⟩
/-- a ring's beginnings are reached at their place, or the a-th way is as small as the ring -/
theorem Bf.reach {paths : List (List Str)} {a k : Nat} (b : Bf g f paths a k) {w : List Str} (hw : Ring g f w) : ∀ j, (h : j < w.length) → (∃ P, paths[a]? = some P ∧ leW P w) ∨ ∃ i q, i < a ∧ paths[i]? = some q ∧ lst q = w[j] ∧ leW q (w.take (j + 1))
  | 0, h => by
    obtain ⟨r, rfl, _, _⟩ := hw
    by_cases z : 0 < a
    · exact .inr ⟨0, [f], z, b.zero, rfl, .inl rfl⟩
    · obtain rfl : a = 0 := by omega
      exact .inl ⟨[f], b.zero, leW_take (f :: r) 1⟩
  | j + 1, h => by
    rcases Bf.reach b hw j (by omega) with d | ⟨i, q, hi, hq, e, l⟩
    · exact .inl d
    · have hn : w[j + 1] ∈ g (lst q) := by
        obtain ⟨r, e2, c, _⟩ := hw
        rw [e]
        refine c j _ _ ?_ ?_
        · rw [List.getElem?_append_left (by omega), List.getElem?_eq_getElem (by omega)]
        · rw [List.getElem?_append_left h, List.getElem?_eq_getElem h]
      have hf : ltS f w[j + 1] := by
        obtain ⟨r, rfl, _, hr⟩ := hw
        exact hr _ (List.getElem_mem _)
      obtain ⟨q', hq', e', l'⟩ := b.cl q w[j + 1] ⟨i, hq, .inl ⟨hi, hn⟩⟩ hf
      have l2 : leW q' (w.take (j + 2)) := by
        rw [List.take_add_one, List.getElem?_eq_getElem h]
        exact leW_trans l' (leW_snoc _ l)
      obtain ⟨i', h', e2⟩ := List.mem_iff_getElem.mp hq'
      by_cases z : i' < a
      · exact .inr ⟨i', q', z, by rw [List.getElem?_eq_getElem h', e2], e', l2⟩
      · refine .inl ⟨paths[a], List.getElem?_eq_getElem (by omega), leW_trans ?_ (leW_trans l2 (leW_take _ _))⟩
        by_cases y : i' = a
        · subst y
          rw [e2]
          exact leW_refl _
        · rw [← e2]
          exact .inr (List.pairwise_iff_getElem.mp b.asc a i' (by omega) h' (by omega))
theorem Bf.done {paths : List (List Str)} {a k : Nat} (b : Bf g f paths a k) {w : List Str} (hw : Ring g f w) : ∃ P, paths[a]? = some P ∧ leW P w := by
  have hl : 0 < w.length := by
    obtain ⟨r, rfl, _⟩ := hw
    exact Nat.succ_pos _
  rcases b.reach hw (w.length - 1) (by omega) with d | ⟨i, q, hi, hq, e, l⟩
  · exact d
  · have hn : f ∈ g (lst q) := by
      obtain ⟨r, e2, c, _⟩ := hw
      rw [e]
      refine c (w.length - 1) _ _ ?_ ?_
      · rw [List.getElem?_append_left (by omega), List.getElem?_eq_getElem (by omega)]
      · rw [List.getElem?_append_right (by omega), show w.length - 1 + 1 - w.length = 0 by omega]
        rfl
    exact (b.no q f ⟨i, hq, .inl ⟨hi, hn⟩⟩ rfl).elim
theorem Bf.found {paths : List (List Str)} {a k : Nat} {P : List Str} (b : Bf g f paths a k) (hP : paths[a]? = some P) (hf : f ∈ g (lst P)) : Least g f (some P) :=
  ⟨(b.way P (List.mem_of_getElem? hP)).ring hf, fun w hw => by
    obtain ⟨P', e, l⟩ := b.done hw
    rw [hP] at e
    cases e
    exact l⟩
theorem Bf.none {paths : List (List Str)} (b : Bf g f paths paths.length 0) : Least g f none := fun w hw => by
  obtain ⟨P, e, _⟩ := b.done hw
  rw [List.getElem?_eq_none (Nat.le_refl _)] at e
  cases e
theorem least_uniq {f : Str} : ∀ {a b : Option (List Str)}, Least g f a → Least g f b → a = b
  | .none, .none, _, _ => rfl
  | .none, .some p, h, k => (h p k.1).elim
  | .some p, .none, h, k => (k p h.1).elim
  | .some p, .some q, h, k => congrArg some (leW_anti (h.2 q k.1) (k.2 p h.1))
end
end R1

/-! yield under `if` and `for` -/
namespace PySem
open Sem (wp)
section
variable {M : Model} {A : Around} {R : GenEnd} {Y : Protocol} {n : Nat} {s₀ : Shared} {c : Code} {fs : List Frame} {s : Shared} {env : Env}
  {K : Flow → Sem Fin} {H : Value → Sem Fin} {gd : Bool → Bool} {lv : List Value → List Value}
theorem seg_If {test : Expr} {body orelse : List Stmt} {pos : Pos}
    (h : wpAny M (A.over c fs) (isTrue test env (eval test env)) (fun b s' => if b = true then Seg M A R Y n s₀ c ((execs body env).wrap K H gd lv) fs s' else Seg M A R Y n s₀ c ((execs orelse env).wrap K H gd lv) fs s') (fun x s' => Seg M A R Y n s₀ c (H x) fs s') s) :
    Seg M A R Y n s₀ c ((exec (.If test body orelse pos) env).wrap K H gd lv) fs s := by
  show Seg M A R Y n s₀ c (.at pos fun _ => ((isTrue test env (eval test env)) >>= fun b => if b = true then execs body env else execs orelse env).wrap K H gd lv) fs s
  refine seg_at ?_
  rw [Sem.bind_eq_wrap', Sem.wrap_wrap]
  refine seg_wrap (wpAny_mono h (fun b s' hb => ?_) fun _ _ x => x)
  cases b with
  | true =>
    rw [if_pos rfl] at hb
    exact hb
  | false =>
    rw [if_neg Bool.false_ne_true] at hb
    exact hb
theorem seg_For {target iter : Expr} {body orelse : List Stmt} {pos : Pos}
    (h : wpAny M (A.over c fs) (eval iter env) (fun x s1 => wpAny M (A.over c fs) (pyIter x) (fun it s2 => ∀ p, Seg M A R Y n s₀ (.forLoop target it body orelse env) (M.den (.forLoop target it body orelse env))
      (.ret (fun r => ((match r with | .ok f => (.pure f : Sem Flow) | .error e => .raise e).onRaise fun (x : Value) => do
        if (← field x 1) == Value.none then unsupported "frame.own-activation:exception-without-traceback"
        setFlight x env.frame).wrap K H gd lv) none (gd false) (lv []) c p [] :: fs) s2) (fun e s' => Seg M A R Y n s₀ c (H e) fs s') s1) (fun e s' => Seg M A R Y n s₀ c (H e) fs s') s)
    (hs : ∀ x, foldedSetIterable iter env x = pure x := by intro _; rfl) :
    Seg M A R Y n s₀ c ((exec (.For target iter body orelse pos) env).wrap K H gd lv) fs s := by
  rw [exec_For]
  show Seg M A R Y n s₀ c (.at pos fun _ => (eval iter env >>= fun v => foldedSetIterable iter env v >>= fun x => (standAt iter.pos >>= fun _ => holding [x] (pyIter x) >>= fun it => runOwn (.forLoop target it body orelse env) env)).wrap K H gd lv) fs s
  refine seg_at ?_
  rw [Sem.bind_eq_wrap', Sem.wrap_wrap]
  refine seg_wrap (wpAny_mono h (fun x s1 h1 => ?_) fun _ _ x => x)
  rw [hs]
  show Seg M A R Y n s₀ c (.at iter.pos fun _ => (holding [x] (pyIter x) >>= fun it => runOwn (.forLoop target it body orelse env) env).wrap K H gd lv) fs s1
  refine seg_at ?_
  rw [Sem.bind_eq_wrap', Sem.wrap_wrap]
  refine seg_wrap (wpAny_holding (wpAny_mono h1 (fun it s2 h2 => ?_) fun _ _ x => x))
  exact seg_call h2
end
section
variable {prog : Program} {w : World} {A : Around} {R : GenEnd} {Y : Protocol} {n : Nat} {s₀ : Shared} {fs : List Frame} {s : Shared} {env : Env}
theorem seg_forLoop {target : Expr} {it : Value} {body orelse : List Stmt}
    (h : wpAny (model prog w) (A.over (.forLoop target it body orelse env) fs) (pyNext it) (fun r s1 => match r with
        | none => Seg (model prog w) A R Y n s₀ (.forLoop target it body orelse env) (.pure (.again (.block orelse env))) fs s1
        | some v => wpAny (model prog w) (A.over (.forLoop target it body orelse env) fs) (letOwnedTupleGo target it v) (fun _ s1' => wpAny (model prog w) (A.over (.forLoop target it body orelse env) fs) (assign target env v) (fun _ s2 =>
          Seg (model prog w) A R Y n s₀ (.forLoop target it body orelse env) ((execs body env).wrap (fun f => match f with
            | .next | .cont => .pure (.again (.forLoop target it body orelse env))
            | .brk => .pure (.done .next)
            | .ret v => .pure (.done (.ret v))) (fun e => (do noteFrame e env; theTreesLotGoes e : Sem Unit).wrap (fun _ => .raise e) .raise id id) id id) fs s2)
          (fun x s' => Seg (model prog w) A R Y n s₀ (.forLoop target it body orelse env) ((do noteFrame x env; theTreesLotGoes x : Sem Unit).wrap (fun _ => .raise x) .raise id id) fs s') s1')
          (fun x s' => Seg (model prog w) A R Y n s₀ (.forLoop target it body orelse env) ((do noteFrame x env; theTreesLotGoes x : Sem Unit).wrap (fun _ => .raise x) .raise id id) fs s') s1)
      (fun x s' => Seg (model prog w) A R Y n s₀ (.forLoop target it body orelse env) ((do noteFrame x env; theTreesLotGoes x : Sem Unit).wrap (fun _ => .raise x) .raise id id) fs s') s) :
    Seg (model prog w) A R Y n s₀ (.forLoop target it body orelse env) ((model prog w).den (.forLoop target it body orelse env)) fs s := by
  have eh : ∀ {x : Value} {s' : Shared}, Seg (model prog w) A R Y n s₀ (.forLoop target it body orelse env) ((do noteFrame x env; theTreesLotGoes x : Sem Unit).wrap (fun _ => .raise x) .raise id id) fs s' →
      Seg (model prog w) A R Y n s₀ (.forLoop target it body orelse env) ((do noteFrame x env; theTreesLotGoes x : Sem Unit).bind fun _ => (.raise x : Sem Fin)) fs s' := fun {x s'} hx => by
    rw [Sem.bind_eq_wrap]
    exact hx
  show Seg _ A R Y n s₀ _ ((forTurn target it body orelse env).onRaise (fun x => do noteFrame x env; theTreesLotGoes x)) fs s
  rw [Sem.onRaise_eq_wrap]
  show Seg _ A R Y n s₀ _ (.at target.pos fun _ => (((pyNext it).onRaise (fun _ => standAt { target.pos with line := 0 })) >>= fun r => (match r with
    | none => again (.block orelse env)
    | some v => letOwnedTupleGo target it v >>= fun _ => assign target env v >>= fun _ => execs body env >>= fun f => (match f with
      | .next | .cont => again (.forLoop target it body orelse env)
      | .brk => pure (.done .next)
      | .ret v => pure (.done (.ret v)) : Sem Fin) : Sem Fin)).wrap .pure (fun e => (do noteFrame e env; theTreesLotGoes e : Sem Unit).bind fun _ => .raise e) id id) fs s
  refine seg_at ?_
  rw [Sem.bind_eq_wrap', Sem.wrap_wrap, Sem.onRaise_eq_wrap, Sem.wrap_wrap]
  refine seg_wrap (wpAny_mono h (fun r s1 h1 => ?_) fun x s1 hx => ?_)
  · cases r with
    | none => exact h1
    | some v =>
      show Seg _ A R Y n s₀ _ ((letOwnedTupleGo target it v >>= fun _ => assign target env v >>= fun _ => execs body env >>= fun f => (match f with
        | .next | .cont => again (.forLoop target it body orelse env)
        | .brk => pure (.done .next)
        | .ret v => pure (.done (.ret v)) : Sem Fin)).wrap .pure (fun e => (do noteFrame e env; theTreesLotGoes e : Sem Unit).bind fun _ => .raise e) id id) fs s1
      rw [Sem.bind_eq_wrap', Sem.wrap_wrap]
      refine seg_wrap (wpAny_mono h1 (fun _ s1' h1' => ?_) fun x s2 hx => eh hx)
      show Seg _ A R Y n s₀ _ ((assign target env v >>= fun _ => execs body env >>= fun f => (match f with
        | .next | .cont => again (.forLoop target it body orelse env)
        | .brk => pure (.done .next)
        | .ret v => pure (.done (.ret v)) : Sem Fin)).wrap .pure (fun e => (do noteFrame e env; theTreesLotGoes e : Sem Unit).bind fun _ => .raise e) id id) fs s1'
      rw [Sem.bind_eq_wrap', Sem.wrap_wrap]
      refine seg_wrap (wpAny_mono h1' (fun _ s2 h2 => ?_) fun x s2 hx => eh hx)
      rw [Sem.bind_eq_wrap', Sem.wrap_wrap]
      rw [Sem.wrap_congr (execs body env) _ _ (K' := fun f => match f with
            | .next | .cont => .pure (.again (.forLoop target it body orelse env))
            | .brk => .pure (.done .next)
            | .ret v => .pure (.done (.ret v))) (H' := (fun e => (do noteFrame e env; theTreesLotGoes e : Sem Unit).wrap (fun _ => .raise e) .raise id id))
        (fun f => by cases f <;> rfl)
        (fun e => by first | exact Sem.bind_eq_wrap _ _ | (show (do noteFrame e env; theTreesLotGoes e : Sem Unit).bind (fun _ => .raise e) = _; rw [Sem.bind_eq_wrap]))]
      exact h2
  · show Seg _ A R Y n s₀ _ (.at { target.pos with line := 0 } fun _ => (do noteFrame x env; theTreesLotGoes x : Sem Unit).bind fun _ => (.raise x : Sem Fin)) fs s1
    exact seg_at (eh hx)
end
end PySem

namespace L2
open PySem PySem.Spec PyProof.Rows
section
variable {X : Cx}
/-- if with yields in it -/
def tGIf (c : TT) (t u : TGn) : TGn := fun D ys σ H => c σ H fun b H1 => if b = true then t D ys σ H1 else u D ys σ H1
theorem gs_if {test : Expr} {body orelse : List Stmt} {pos : Pos} {tc : TT} {tb to : TGn} (hc : PT X test tc) (hb : GSs X body tb) (ho : GSs X orelse to) : GS X (.If test body orelse pos) (tGIf tc tb to) := by
  refine ⟨fun A S ip R n ys s₀ c fs K J gd lv s σ H D g hn k hI ht => ?_⟩
  obtain ⟨acc, cc, r, I⟩ := hI
  refine seg_If ?_
  rw [g.over]
  refine wpAny_mono (hc.run _ s σ H _ I ht) (fun b s' hb' => ?_) fun x s' hx => k.exc n s₀ x s' hx
  obtain ⟨H2, I2, q2⟩ := hb'
  cases b with
  | true =>
    rw [if_pos rfl] at q2 ⊢
    exact hb.run A S ip R n ys s₀ c fs K J gd lv s' σ H2 D g hn k ⟨acc, cc, r, I2⟩ q2
  | false =>
    rw [if_neg Bool.false_ne_true] at q2 ⊢
    exact ho.run A S ip R n ys s₀ c fs K J gd lv s' σ H2 D g hn k ⟨acc, cc, r, I2⟩ q2
/-- for with yields in it -/
def tGFor (wi : TI) (g : TG) (tb : TGn) : TGn := fun D ys σ H => wi σ H fun J H2 => ∃ W : Nat → Nat → List V → St → Hp → Prop, (∃ m, W 0 m ys σ H2) ∧ ∀ i m ys σ H, W i m ys σ H →
  (J.stop i H ∧ D.nx ys σ H) ∨ (J.go i H ∧ ∃ N : List V → St → Hp → Prop, (∀ ys' σ' H', N ys' σ' H' → ∃ m', m' < m ∧ W (i + 1) m' ys' σ' H') ∧ ∀ x H', J.yld i H x H' → g x σ H' fun σ2 H2 => tb { D with nx := N, ct := N, bk := D.nx } ys σ2 H2)
theorem gs_for {tg iter : Expr} {body : List Stmt} {wi : TI} {g : TG} {tb : TGn} {pos : Pos} (hp : PassesOwn (model X.prog X.w) X.A X.env X.xe) (hc : X.calm = true) (hi : PI X tg iter wi) (hg : PG X tg g) (hb : GSs X body tb)
    (hs : ∀ x, foldedSetIterable iter X.env x = pure x := by intro _; rfl) : GS X (.For tg iter body [] pos) (tGFor wi g tb) := by
  refine ⟨fun A S ip R n ys s₀ c fs K J gd lv s σ H D g0 hn k hI ht => ?_⟩
  obtain ⟨acc0, cc0, r0', I⟩ := hI
  refine seg_For ?_ hs
  rw [g0.over]
  refine wpAny_mono (hi.run _ s σ H _ I ht) (fun v s1 h1 => wpAny_mono h1 (fun itv s2 h2 => ?_) fun x s' hx => k.exc n s₀ x s' hx) fun x s' hx => k.exc n s₀ x s' hx
  intro p
  obtain ⟨it, fp, tn, Jt, H2, e, I2, T, st2, f2, W, ⟨m0, w0⟩, turn⟩ := h2
  subst e
  have gl := fun (kk : Result → Sem PySem.Fin) => gc_loop (k := kk) (c' := .forLoop tg (.ref it) body [] X.env) (l := lv []) (kp := []) (p := p) g0 rfl rfl
  have loop : ∀ (m n : Nat) (ys : List V) (s₀ s : Shared) (σ : St) (H : Hp) (i : Nat), n + ys.length = sizeLine → W i m ys σ H → GI X S ip ys σ H s → tn i s.heap → (∀ b ∈ fp, H b = none) →
      Seg (model X.prog X.w) A R (GY X S) n s₀ (.forLoop tg (.ref it) body [] X.env) ((model X.prog X.w).den (.forLoop tg (.ref it) body [] X.env))
        (.ret (fun r => ((match r with | .ok f => (.pure f : Sem Flow) | .error e => .raise e).onRaise (cameBack X.env)).wrap K J gd lv) none (gd false) (lv []) c p [] :: fs) s := by
    intro m
    induction m using Nat.strongRecOn with
    | ind m ih =>
      intro n ys s₀ s3 σ3 H3 i hn w3 hI st3 fr3
      have ee : ∀ (n : Nat) (s₀ : Shared) (x : Value) (s' : Shared), X.xe x s' → Seg (model X.prog X.w) A R (GY X S) n s₀ (.forLoop tg (.ref it) body [] X.env)
          ((do noteFrame x X.env; theTreesLotGoes x : Sem Unit).wrap (fun _ => .raise x) .raise id id)
          (.ret (fun r => ((match r with | .ok f => (.pure f : Sem Flow) | .error e => .raise e).onRaise (cameBack X.env)).wrap K J gd lv) none (gd false) (lv []) c p [] :: fs) s' := fun n s₀ x s' hx => by
        refine seg_wrap ?_
        rw [(gl _).over]
        refine wpAny_bind (wpAny_mono (hp x s' hx) (fun _ s'' hcb => wpAny_theTreesLotGoes ?_) fun y s'' hcb => ?_)
        · exact seg_leaf (.error x) (seg_cameBack g0 k hcb)
        · exact seg_leaf (.error y) (seg_cameBack g0 k hcb)
      obtain ⟨acc, cc, r, I3⟩ := hI
      have stat : ∀ {H' : Hp}, (∀ b ∈ fp, H' b = none) → ∀ b ∈ fp, FpOk X ((S, lstObj acc cc) :: ip) H' b := fun hn b hb => by
        obtain ⟨_, q1, q2, q3, q4, q5⟩ := f2 b hb
        refine ⟨hn b hb, q1, q2, q3, q4, fun pp hpp => ?_⟩
        rcases List.mem_append.mp hpp with z | z
        · exact q5 pp (List.mem_append_left _ z)
        · rcases List.mem_cons.mp z with z | z
          · rw [z]
            exact (q5 (S, lstObj acc0 cc0) (List.mem_append_right _ List.mem_cons_self) : S ≠ b)
          · exact q5 pp (List.mem_append_right _ (List.mem_cons_of_mem _ z))
      refine seg_forLoop ?_
      rw [(gl _).over]
      rcases turn i m ys σ3 H3 w3 with ⟨stop, qn⟩ | ⟨go, N, hN, step⟩
      · refine wpAny_mono (T.done X rfl rfl rfl hc i _ s3 σ3 H3 X.xe I3 (stat fr3) st3 stop) (fun r0 s4 h4 => ?_) fun x s' hx => ee n s₀ x s' hx
        obtain ⟨hr, I4⟩ := h4
        subst hr
        refine seg_again rfl ?_
        exact seg_leaf (.ok .next) (k.ok n ys s₀ s4 .next hn ⟨σ3, H3, ⟨acc, cc, r, I4⟩, qn⟩)
      · refine wpAny_mono (T.item X rfl rfl rfl hc i _ s3 σ3 H3 X.xe I3 (stat fr3) st3 go) (fun r0 s4 h4 => ?_) fun x s' hx => ee n s₀ x s' hx
        obtain ⟨u, hr, h4⟩ := h4
        subst hr
        refine wpAny_mono h4 (fun _ s5 h5 => ?_) fun x s' hx => ee n s₀ x s' hx
        obtain ⟨x, H5, I5, r5, y5, st5, fr5⟩ := h5
        have I5' := I5.pinned (stat fr5) (T.obj _ _ st5)
        refine wpAny_mono (hg.run _ s5 σ3 H5 x u _ I5' r5 (step x H5 y5)) (fun _ s6 h6 => ?_) fun x s' hx => ee n s₀ x s' hx
        obtain ⟨σ6, H6, I6, q6⟩ := h6
        have gb : ∀ kk : Result → Sem PySem.Fin, GC X S (ip ++ pinsAt fp s5.heap) A (.forLoop tg (.ref it) body [] X.env) (.ret kk none (gd false) (lv []) c p [] :: fs) id := fun kk =>
          { gl kk with
            ip := fun pp hpp => by
              rcases List.mem_append.mp hpp with z | z
              · exact g0.ip pp z
              · obtain ⟨hb, _⟩ := of_pinsAt z
                exact fun z2 => (stat fr5 pp.1 hb).2.2.2.2.2 (S, lstObj acc cc) (List.mem_append_right _ List.mem_cons_self) z2.symm }
        have again : ∀ {n' : Nat} {ys' : List V} {s₀' s7 : Shared} {σ7 : St} {H7 : Hp}, n' + ys'.length = sizeLine → GI X S (ip ++ pinsAt fp s5.heap) ys' σ7 H7 s7 → N ys' σ7 H7 →
            Seg (model X.prog X.w) A R (GY X S) n' s₀' (.forLoop tg (.ref it) body [] X.env) (.pure (.again (.forLoop tg (.ref it) body [] X.env)))
              (.ret (fun r => ((match r with | .ok f => (.pure f : Sem Flow) | .error e => .raise e).onRaise (cameBack X.env)).wrap K J gd lv) none (gd false) (lv []) c p [] :: fs) s7 := fun {n' ys' s₀' s7 σ7 H7} hn' hI7 n7 => by
          obtain ⟨acc7, c7, r7, I7⟩ := hI7
          have I7 : Inv X (((S, lstObj acc7 c7) :: ip) ++ pinsAt fp s5.heap) σ7 H7 s7 := I7
          obtain ⟨m', hm, w7⟩ := hN ys' σ7 H7 n7
          refine seg_again rfl (ih m' hm n' ys' s₀' s7 σ7 H7 (i + 1) hn' w7 ⟨acc7, c7, r7, I7.unpinned⟩ (T.keep _ _ _ st5 fun b hb o e => (I7.pin (b, o) (List.mem_append_right _ (List.mem_append_right _ (mem_pinsAt hb e)))).1) fun b hb => ?_)
          obtain ⟨o, e, d⟩ := T.obj _ _ st5 b hb
          exact (I7.pin (b, o) (List.mem_append_right _ (List.mem_append_right _ (mem_pinsAt hb e)))).2.1
        refine hb.run A S (ip ++ pinsAt fp s5.heap) R n ys s₀ _ _ _ _ id id s6 σ6 H6 { D with nx := N, ct := N, bk := D.nx } (gb _) hn ⟨fun n' ys' s₀' s7 f hn' hs' => ?_, fun n' s₀' x s7 hx => ee n' s₀' x s7 hx⟩ ⟨acc, cc, r, I6⟩ q6
        cases f with
        | next =>
          obtain ⟨σ7, H7, I7, n7⟩ := hs'
          exact again hn' I7 n7
        | cont =>
          obtain ⟨σ7, H7, I7, n7⟩ := hs'
          exact again hn' I7 n7
        | brk =>
          obtain ⟨σ7, H7, ⟨acc7, c7, r7, I7⟩, q7⟩ := hs'
          have I7 : Inv X (((S, lstObj acc7 c7) :: ip) ++ pinsAt fp s5.heap) σ7 H7 s7 := I7
          exact seg_leaf (.ok .next) (k.ok n' ys' s₀' s7 .next hn' ⟨σ7, H7, ⟨acc7, c7, r7, I7.unpinned⟩, q7⟩)
        | ret v =>
          obtain ⟨x7, σ7, H7, ⟨acc7, c7, r7, I7⟩, rv, q7⟩ := hs'
          have I7 : Inv X (((S, lstObj acc7 c7) :: ip) ++ pinsAt fp s5.heap) σ7 H7 s7 := I7
          exact seg_leaf (.ok (.ret v)) (k.ok n' ys' s₀' s7 (.ret v) hn' ⟨x7, σ7, H7, ⟨acc7, c7, r7, I7.unpinned⟩, rv, q7⟩)
  exact loop m0 n ys s₀ s2 σ H2 0 hn w0 ⟨acc0, cc0, r0', I2⟩ st2 fun b hb => (f2 b hb).1
end
end L2

namespace RK
open PySem PySem.Spec PyProof.Rows L2
/-- a comprehension with two for, both targets names (at k and k1), a test behind the second -/
theorem lc2T_it {J : It} {n : Nat} {G : Hp → Prop} {Y : Nat → Hp → V → Hp → Prop} (w : Walk J n G Y) {wi1 : TI} {tt1 : TT} {te : TE} {σ : L2.St} {H1 : Hp} {D : Addr} {Qd : Hp → Prop} {k k1 : Nat} (hk : k ≠ k1) (Pv : Nat → Hp → Prop) (h0 : Pv 0 (upd H1 D (.lst []))) (hG : ∀ i H, i ≤ n → Pv i H → G H)
    (hs : ∀ (i : Nat) (x : V) (H H' : Hp), i < n → Pv i H → Y i H x H' → ∀ R : It → Hp → Prop, (∀ (J1 : It) (H4 : Hp) (n1 : Nat) (G1 : Hp → Prop) (Y1 : Nat → Hp → V → Hp → Prop) (P1 : Nat → Hp → Prop), Walk J1 n1 G1 Y1 → P1 0 H4 → (∀ j H, j ≤ n1 → P1 j H → G1 H) →
      (∀ (j : Nat) (y : V) (H H' : Hp), j < n1 → P1 j H → Y1 j H y H' → tt1 (((((σ.set k1 none).set k none).set k (some x)).set k1 none).set k1 (some y)) H' fun b H6 => if b = true then te (((((σ.set k1 none).set k none).set k (some x)).set k1 none).set k1 (some y)) H6 (fun z H7 => ∃ acc, H7 D = some (.lst acc) ∧ acc.length < sizeLine ∧ P1 (j + 1) (upd H7 D (.lst (acc ++ [z])))) else P1 (j + 1) H6) →
      (∀ H, P1 n1 H → Pv (i + 1) H) → R J1 H4) → wi1 (((σ.set k1 none).set k none).set k (some x)) H' R)
    (hd : ∀ H, Pv n H → Qd H) :
    ∃ W : Nat → Nat → Hp → Prop, (∃ m, W 0 m (upd H1 D (.lst []))) ∧ ∀ (i m : Nat) (H : Hp), W i m H → (J.stop i H ∧ Qd H) ∨ (J.go i H ∧ ∃ Nx : Hp → Prop, (∀ H', Nx H' → ∃ m', m' < m ∧ W (i + 1) m' H') ∧ ∀ (x : V) (H' : Hp), J.yld i H x H' →
      gName k x (wipe σ [k, k1]) H' fun σ2 H2 => wipe σ2 [k, k1] = wipe σ [k, k1] ∧ tYes σ2 H2 fun b H3 => if b = true then wi1 σ2 H3 fun J1 H4 => ∃ W1 : Nat → Nat → Hp → Prop, (∃ m, W1 0 m H4) ∧ ∀ (j k' : Nat) (H : Hp), W1 j k' H → (J1.stop j H ∧ Nx H) ∨ (J1.go j H ∧ ∃ Nx1 : Hp → Prop, (∀ H', Nx1 H' → ∃ k2, k2 < k' ∧ W1 (j + 1) k2 H') ∧
        ∀ (x : V) (H' : Hp), J1.yld j H x H' → gName k1 x (wipe σ2 [k1]) H' fun σ3 H5 => wipe σ3 [k1] = wipe σ2 [k1] ∧ tt1 σ3 H5 fun b H6 => if b = true then te σ3 H6 fun y H7 => ∃ acc, H7 D = some (.lst acc) ∧ acc.length < sizeLine ∧ Nx1 (upd H7 D (.lst (acc ++ [y]))) else Nx1 H6) else Nx H3) := by
  refine ⟨fun i m H => i ≤ n ∧ m = n - i ∧ Pv i H, ⟨n, Nat.zero_le _, rfl, h0⟩, fun i m H hW => ?_⟩
  obtain ⟨hi, rfl, hp⟩ := hW
  rcases Nat.lt_or_ge i n with hlt | hge
  · refine .inr ⟨w.goes i H hlt (hG i H hi hp), fun H' => Pv (i + 1) H', fun H' h => ⟨n - (i + 1), by omega, by omega, rfl, h⟩, fun x H' y => ?_⟩
    have y' := w.yields i H x H' hlt (hG i H hi hp) y
    refine ⟨?_, ?_⟩
    · show ((((σ.set k1 none).set k none).set k (some x)).set k1 none).set k none = (σ.set k1 none).set k none
      rw [List.set_set, List.set_comm _ _ hk, List.set_set, List.set_set]
    show wi1 (((σ.set k1 none).set k none).set k (some x)) H' _
    refine hs i x H H' hlt hp y' _ fun J1 H4 n1 G1 Y1 P1 w1 p0 hG1 st en => ?_
    refine ⟨fun j m H => j ≤ n1 ∧ m = n1 - j ∧ P1 j H, ⟨n1, Nat.zero_le _, rfl, p0⟩, fun j m Hj hW1 => ?_⟩
    obtain ⟨hj, rfl, hp1⟩ := hW1
    rcases Nat.lt_or_ge j n1 with hlt1 | hge1
    · refine .inr ⟨w1.goes j Hj hlt1 (hG1 j Hj hj hp1), fun H' => P1 (j + 1) H', fun H' h => ⟨n1 - (j + 1), by omega, by omega, rfl, h⟩, fun y H'' yy => ?_⟩
      have yy' := w1.yields j Hj y H'' hlt1 (hG1 j Hj hj hp1) yy
      refine ⟨?_, ?_⟩
      · show (((((σ.set k1 none).set k none).set k (some x)).set k1 none).set k1 (some y)).set k1 none = (((σ.set k1 none).set k none).set k (some x)).set k1 none
        rw [List.set_set, List.set_set]
      exact st j y Hj H'' hlt1 hp1 yy'
    · have : j = n1 := Nat.le_antisymm hj hge1
      subst this
      exact .inl ⟨w1.stops Hj (hG1 j Hj hj hp1), en Hj hp1⟩
  · have : i = n := Nat.le_antisymm hi hge
    subst this
    exact .inl ⟨w.stops H (hG i H hi hp), hd H hp⟩
end RK

/-! dict comprehensions whose keys are flat tuples: one `for`, or two, each with tests -/
namespace TD
open PySem PySem.Spec PyProof.Rows L2
abbrev F0 : Value → Shared → Prop := fun _ _ => False
/-- the tests of a clause, as the model runs them -/
abbrev asks (cs : List Expr) (env : Env) : Sem Bool := forIn cs true fun c r => if r = true then do let ok ← isTrue c env (eval c env); pure (ForInStep.yield ok) else pure (ForInStep.yield r)
/-- one turn of a clause's loop: what stands behind its tests is B -/
def OneTurn (M : Model) (A : Around) (tg : Expr) (ifs : List Expr) (it : Value) (env : Env) (Stop Again : Shared → Prop) (B : (Shared → Prop) → Shared → Prop) : Shared → Prop :=
  wpAny M A (pyNext it) (fun got s1 => match got with
    | none => Stop s1
    | some v => wpAny M A (letOwnedTupleGo tg it v) (fun _ s2 => wpAny M A (assign tg env v) (fun _ s3 => wpAny M A (asks ifs env) (fun ok s4 => if ok = true then B Again s4 else Again s4) F0 s3) F0 s2) F0 s1) F0
/-- the loop of clause c of e stands, where each turn does -/
def Loops (M : Model) (A : Around) (e : Expr) (c : Nat) (tg : Expr) (ifs : List Expr) (B : Env → Addr → (Shared → Prop) → Shared → Prop) : Prop :=
  ∀ (R : Result → Shared → Prop) (it : Value) (D : Addr) (env : Env) (I : Nat → Shared → Prop), (∀ n s, I n s → OneTurn M A tg ifs it env (R (.ok .next)) (fun s' => ∃ m, m < n ∧ I m s') (B env D) s) → ∀ n s, I n s → codeAny M A (.compLoop e c it (.ref D) env) R s
theorem wF {α : Type} {M : Model} {A : Around} {t : Sem α} {Q Q' : α → Shared → Prop} {E : Value → Shared → Prop} {s : Shared} (h : wpAny M A t Q F0 s) (k : ∀ a s', Q a s' → Q' a s') : wpAny M A t Q' E s := wpAny_mono h k fun _ _ z => z.elim
section
variable {prog : Program} {w : World} {A : Around}
/-- key, value, and the entry -/
def Entry (prog : Program) (w : World) (A : Around) (kx vx : Expr) : Env → Addr → (Shared → Prop) → Shared → Prop := fun env D P => wpAny (model prog w) A (eval kx env) (fun k s1 => wpAny (model prog w) A (eval vx env) (fun v s2 => wpAny (model prog w) A (dictSet D k v) (fun _ s3 => P s3) F0 s2) F0 s1) F0
/-- the second source, and its loop -/
def Inner (prog : Program) (w : World) (A : Around) (e i1 : Expr) : Env → Addr → (Shared → Prop) → Shared → Prop := fun env D P => wpAny (model prog w) A (eval i1 env) (fun x s1 => wpAny (model prog w) A (pyIter x) (fun it s2 => codeAny (model prog w) A (.compStart e 1 it (.ref D) env) (fun r s3 => match r with
  | .ok _ => P s3
  | .error _ => False) s2) F0 s1) F0
theorem loops1 {kx vx tg i0 : Expr} {ifs : List Expr} {scope : Scope} {pos : Pos} : Loops (model prog w) A (.DictComp kx vx [⟨tg, i0, ifs, 0⟩] scope pos) 0 tg ifs (Entry prog w A kx vx) := by
  intro R it D env I turn n s hI
  refine compLoop_anyD I (fun m t hm => wF (turn m t hm) fun got s1 h1 => ?_) n hI
  cases got with
  | none => exact h1
  | some v =>
    refine wF h1 fun _ s2 h2 => wF h2 fun _ s3 h3 => wF h3 fun ok s4 h4 => ?_
    cases ok with
    | false => exact h4
    | true => exact wF h4 fun k s5 h5 => wF h5 fun v s6 h6 => wF h6 fun _ _ z => z
theorem turnsO {kx vx t0 i0 t1 i1 : Expr} {a0 a1 : List Expr} {scope : Scope} {pos : Pos} {it acc : Value} {env : Env} :
    compTurn (.DictComp kx vx [⟨t0, i0, a0, 0⟩, ⟨t1, i1, a1, 0⟩] scope pos) 0 it acc env = (standAt i0.pos >>= fun _ => pyNext it >>= fun got => match got with
      | none => pure (.done .next)
      | some v => letOwnedTupleGo t0 it v >>= fun _ => assign t0 env v >>= fun _ => asks a0 env >>= fun ok => (if ok = true then (eval i1 env >>= fun x => standAt i1.pos >>= fun _ => foldedSetIterable i1 env x >>= fun x => holding [x] (pyIter x) >>= fun it1 => runOwn (.compStart (.DictComp kx vx [⟨t0, i0, a0, 0⟩, ⟨t1, i1, a1, 0⟩] scope pos) 1 it1 acc env) env >>= fun _ =>
          again (.compLoop (.DictComp kx vx [⟨t0, i0, a0, 0⟩, ⟨t1, i1, a1, 0⟩] scope pos) 0 it acc env))
          else again (.compLoop (.DictComp kx vx [⟨t0, i0, a0, 0⟩, ⟨t1, i1, a1, 0⟩] scope pos) 0 it acc env))) := by rfl
theorem turnsI {kx vx t0 i0 t1 i1 : Expr} {a0 a1 : List Expr} {scope : Scope} {pos : Pos} {it : Value} {D : Addr} {env : Env} :
    compTurn (.DictComp kx vx [⟨t0, i0, a0, 0⟩, ⟨t1, i1, a1, 0⟩] scope pos) 1 it (.ref D) env = (standAt i1.pos >>= fun _ => pyNext it >>= fun got => match got with
      | none => pure (.done .next)
      | some v => letOwnedTupleGo t1 it v >>= fun _ => assign t1 env v >>= fun _ => asks a1 env >>= fun ok => (if ok = true then ((eval kx env >>= fun k => holding [k] (eval vx env) >>= fun x => standAt { kx.pos with endLine := vx.pos.endLine, endCol := vx.pos.endCol } >>= fun _ => holding [k, x] (dictSet D k x)) >>= fun _ =>
          again (.compLoop (.DictComp kx vx [⟨t0, i0, a0, 0⟩, ⟨t1, i1, a1, 0⟩] scope pos) 1 it (.ref D) env))
          else again (.compLoop (.DictComp kx vx [⟨t0, i0, a0, 0⟩, ⟨t1, i1, a1, 0⟩] scope pos) 1 it (.ref D) env))) := by rfl
theorem loopsO {kx vx t0 i0 t1 i1 : Expr} {a0 a1 : List Expr} {scope : Scope} {pos : Pos} (hs : ∀ env x, foldedSetIterable i1 env x = pure x) :
    Loops (model prog w) A (.DictComp kx vx [⟨t0, i0, a0, 0⟩, ⟨t1, i1, a1, 0⟩] scope pos) 0 t0 a0 (Inner prog w A (.DictComp kx vx [⟨t0, i0, a0, 0⟩, ⟨t1, i1, a1, 0⟩] scope pos) i1) := by
  intro R it D env I turn n s hI
  refine codeAny_loop rfl I (fun m t hm => ?_) n hI
  refine (wpAny_noted ?_ : wpAny _ _ (Sem.onRaise (compTurn (.DictComp kx vx [⟨t0, i0, a0, 0⟩, ⟨t1, i1, a1, 0⟩] scope pos) 0 it (.ref D) env) _) _ _ t)
  rw [turnsO]
  refine wpAny_bind (wpAny_standAt (wpAny_bind (wF (turn m t hm) fun got s1 h1 => ?_)))
  cases got with
  | none => exact wpAny_pure h1
  | some v =>
    refine wpAny_bind (wF h1 fun _ s2 h2 => wpAny_bind (wF h2 fun _ s3 h3 => wpAny_bind (wF h3 fun ok s4 h4 => ?_)))
    cases ok with
    | false => exact wpAny_pure ⟨rfl, h4⟩
    | true =>
      refine wpAny_bind (wF h4 fun x s5 h5 => wpAny_bind (wpAny_standAt (wpAny_bind (wpAny_of_eq (hs env x) (wpAny_bind (wpAny_holding (wF h5 fun it1 s6 h6 => wpAny_bind (wpAny_runOwn ?_))))))))
      rw [Around.mark_none]
      refine codeAny_mono h6 fun r s7 h7 => ?_
      cases r with
      | error e => exact h7.elim
      | ok f =>
        first
          | exact wpAny_pure ⟨rfl, h7⟩
          | exact wpAny_bind (wpAny_pure (wpAny_pure ⟨rfl, h7⟩))
theorem loopsI {kx vx t0 i0 t1 i1 : Expr} {a0 a1 : List Expr} {scope : Scope} {pos : Pos} : Loops (model prog w) A (.DictComp kx vx [⟨t0, i0, a0, 0⟩, ⟨t1, i1, a1, 0⟩] scope pos) 1 t1 a1 (Entry prog w A kx vx) := by
  intro R it D env I turn n s hI
  refine codeAny_loop rfl I (fun m t hm => ?_) n hI
  refine (wpAny_noted ?_ : wpAny _ _ (Sem.onRaise (compTurn (.DictComp kx vx [⟨t0, i0, a0, 0⟩, ⟨t1, i1, a1, 0⟩] scope pos) 1 it (.ref D) env) _) _ _ t)
  rw [turnsI]
  refine wpAny_bind (wpAny_standAt (wpAny_bind (wF (turn m t hm) fun got s1 h1 => ?_)))
  cases got with
  | none => exact wpAny_pure h1
  | some v =>
    refine wpAny_bind (wF h1 fun _ s2 h2 => wpAny_bind (wF h2 fun _ s3 h3 => wpAny_bind (wF h3 fun ok s4 h4 => ?_)))
    cases ok with
    | false => exact wpAny_pure ⟨rfl, h4⟩
    | true => exact wpAny_bind (wpAny_bind (wF h4 fun k s5 h5 => wpAny_bind (wpAny_holding (wF h5 fun x s6 h6 => wpAny_bind (wpAny_standAt (wpAny_holding (wF h6 fun _ s7 h7 => wpAny_pure ⟨rfl, h7⟩)))))))
theorem startsI {kx vx t0 i0 t1 i1 : Expr} {a0 a1 : List Expr} {scope : Scope} {pos : Pos} {it acc : Value} {env : Env} {R : Result → Shared → Prop} {s : Shared} (h0 : codeAny (model prog w) A (.compLoop (.DictComp kx vx [⟨t0, i0, a0, 0⟩, ⟨t1, i1, a1, 0⟩] scope pos) 1 it acc env) R s)
    (h : wpAny (model prog w) A (pyIter it) (fun it' s' => codeAny (model prog w) A (.compLoop (.DictComp kx vx [⟨t0, i0, a0, 0⟩, ⟨t1, i1, a1, 0⟩] scope pos) 1 it' acc env) R s') (notedBy (model prog w) A env fun x s' => R (.error x) s') s) :
    codeAny (model prog w) A (.compStart (.DictComp kx vx [⟨t0, i0, a0, 0⟩, ⟨t1, i1, a1, 0⟩] scope pos) 1 it acc env) R s := by
  refine codeAny_of_tree (wpAny_notedAt ?_ : wpAny _ _ (Sem.onRaise (compStart (.DictComp kx vx [⟨t0, i0, a0, 0⟩, ⟨t1, i1, a1, 0⟩] scope pos) 1 it acc env) _) _ _ s)
  unfold compStart
  show wpAny _ _ (ask >>= _) _ _ s
  refine wpAny_bind (wpAny_askSetting (wpAny_ite ?_))
  split
  · first
      | exact wpAny_pure ⟨rfl, h0⟩
      | exact wpAny_bind (wpAny_pure (wpAny_pure ⟨rfl, h0⟩))
  · first
      | exact wpAny_bind (wpAny_rule (wpAny_bind (wpAny_standAt (wpAny_bind (wpAny_mono h (fun it' s' h' => wpAny_pure ⟨rfl, h'⟩) fun _ _ z => z)))))
      | exact wpAny_bind (wpAny_rule (show wpAny _ _ (standAt i1.pos >>= _) _ _ s from wpAny_bind (wpAny_standAt (wpAny_bind (wpAny_mono h (fun it' s' h' => wpAny_pure ⟨rfl, h'⟩) fun _ _ z => z)))))
end
/-- an entry put by a comprehension -/
theorem sets {X : Cx} {pins : List (Addr × Obj)} {σ : L2.St} {H H' : Hp} {s : Shared} {D : Addr} {y v : V} {u r : Value} {Q : Unit → Shared → Prop} {E : Value → Shared → Prop} (hu : X.A.units + 1 < cLine) (I : Inv X pins σ H s) (p : DPut H D y v H') (ry : RelV y u) (rv : RelV v r) (fin : ∀ s', Inv X pins σ H' s' → Q () s') :
    wpAny (model X.prog X.w) X.A (dictSet D u r) Q E s := by
  rcases p with ⟨kvs, k, e, rfl, lt, rfl⟩ | ⟨kvs, k, b, e, rfl, eb, lt, rfl⟩
  · exact d_dictSet I e lt ry rv fin
  · cases (show u = Value.ref b from ry)
    obtain ⟨few, notMods, rows, alike, isDict⟩ := dt_of I.hok e
    have room : rows.length ≤ sizeLine := Paired.length alike ▸ few
    refine wpAny_dictSet_heap (show X.A.units < cLine from Nat.lt_of_succ_lt hu) (key_of I.hok eb) isDict (fun hp isNow same => fin _ ?_) (hsz := room)
    obtain ⟨ob, es, ep, at1, at2, at3, at4, -, at5⟩ := isNow
    have few' : (putK kvs k v).length ≤ sizeLine := Nat.le_trans (length_putK kvs k v) lt
    refine d_write I (by rw [e]; exact True.intro) same ⟨ob, at1⟩ ⟨few', notMods, _, (alike.put k eb rv).keeps fun c ys ec => ?_, ob, es, ep, at1, at2, at3, at4, at5⟩
    have ne : c ≠ D := fun z => by rw [z, e] at ec; cases ec
    rw [upd_ne ne]
    exact ec
/-- what the slots at the start of a turn knew, those of the block's own names left out, stands behind it -/
def Keep (vs : List Nat) (σ τ : L2.St) : Prop := σ.length = τ.length ∧ ∀ (j : Nat) (v : V), (wipe σ vs)[j]? = some (some v) → τ[j]? = some (some v)
theorem Keep.self (vs : List Nat) (σ : L2.St) : Keep vs σ σ := ⟨rfl, fun _ _ e => (wipe_some e).1⟩
theorem Keep.part {vs ws : List Nat} (σ : L2.St) (sub : ∀ i ∈ ws, i ∈ vs) : Keep vs σ (wipe σ ws) := ⟨(wipe_length σ ws).symm, fun j v e => by
  obtain ⟨at', out⟩ := wipe_some e
  rw [wipe_out fun z => out (sub j z)]
  exact at'⟩
/-- what a clause's loop is to reach: W by the turn and a measure -/
def Way (J : It) (g : TG) (tt : TT) (tb : L2.St → Hp → (Hp → Prop) → Prop) (vs : List Nat) (σ : L2.St) (Qd : Hp → Prop) (W : Nat → Nat → Hp → Prop) : Prop := ∀ i m H, W i m H →
  (J.stop i H ∧ Qd H) ∨ (J.go i H ∧ ∃ Nx : Hp → Prop, (∀ H', Nx H' → ∃ m', m' < m ∧ W (i + 1) m' H') ∧ ∀ x H', J.yld i H x H' → g x (wipe σ vs) H' fun σ2 H2 => wipe σ2 vs = wipe σ vs ∧ tt σ2 H2 fun b H3 => if b = true then tb σ2 H3 Nx else Nx H3)
/-- the body of a clause -/
def Does (X : Cx) (D : Addr) (vs : List Nat) (tb : L2.St → Hp → (Hp → Prop) → Prop) (B : Env → Addr → (Shared → Prop) → Shared → Prop) : Prop := ∀ (pins : List (Addr × Obj)) (σ : L2.St) (H : Hp) (s : Shared) (P : Shared → Prop) (Nx : Hp → Prop), Inv X pins σ H s → tb σ H Nx → (∀ τ H' s', Inv X pins τ H' s' → Keep vs σ τ → Nx H' → P s') → B X.env D P s
/-- one clause's loop, in the block's context -/
theorem clause {X : Cx} (quiet : ∀ v s, X.xe v s → False) (hc : X.calm = true) {e : Expr} {c : Nat} {tg : Expr} {ifs : List Expr} {B : Env → Addr → (Shared → Prop) → Shared → Prop} (L : Loops (model X.prog X.w) X.A e c tg ifs B) {it D : Addr} {J : It} {fp : List Addr} {tn : Nat → Heap → Prop} (T : Turn X.prog X.w X.K tg J fp it tn)
    {pins : List (Addr × Obj)} {σ : L2.St} {vs : List Nat} {g : TG} {tt : TT} {tb : L2.St → Hp → (Hp → Prop) → Prop} (pg : PG X tg g) (pt : PTs X ifs tt) {R : Result → Shared → Prop} {Qd : Hp → Prop} (body : Does X D vs tb B) {W : Nat → Nat → Hp → Prop} (way : Way J g tt tb vs σ Qd W)
    (mine : ∀ τ H s, Inv X pins τ H s → (∀ b ∈ fp, H b = none) → ∀ b ∈ fp, FpOk X pins H b) (fin : ∀ H s, Inv X pins (wipe σ vs) H s → Qd H → R (.ok .next) s)
    {H0 : Hp} {s0 : Shared} {m0 : Nat} (I0 : Inv X pins (wipe σ vs) H0 s0) (st0 : tn 0 s0.heap) (free0 : ∀ b ∈ fp, H0 b = none) (w0 : W 0 m0 H0) : codeAny (model X.prog X.w) X.A (.compLoop e c (.ref it) (.ref D) X.env) R s0 := by
  have still : ∀ {α : Type} {t : Sem α} {Q : α → Shared → Prop} {s : Shared}, wpAny (model X.prog X.w) X.A t Q X.xe s → wpAny (model X.prog X.w) X.A t Q F0 s := fun h => wpAny_mono h (fun _ _ q => q) fun v s z => (quiet v s z).elim
  refine L R (.ref it) D X.env (fun n s => ∃ i H, Inv X pins (wipe σ vs) H s ∧ tn i s.heap ∧ (∀ b ∈ fp, H b = none) ∧ W i n H) ?_ m0 s0 ⟨0, H0, I0, st0, free0, w0⟩
  rintro n s ⟨i, H, I, st, free, at'⟩
  rcases way i n H at' with ⟨stop, q⟩ | ⟨go, Nx, less, step⟩
  · refine wF (T.done X rfl rfl rfl hc i pins s (wipe σ vs) H F0 I (mine _ _ _ I free) st stop) fun r s1 ⟨none', I1⟩ => ?_
    subst none'
    exact fin H s1 I1 q
  refine wF (T.item X rfl rfl rfl hc i pins s (wipe σ vs) H F0 I (mine _ _ _ I free) st go) fun r s1 ⟨u, some', more⟩ => ?_
  subst some'
  refine wF more fun _ s2 ⟨x, H2, I2, rx, yl, st2, free2⟩ => ?_
  have J2 := I2.pinned (mine _ _ _ I2 free2) (T.obj _ _ st2)
  refine wF (still (pg.run _ s2 _ H2 x u _ J2 rx (step x H2 yl))) fun _ s3 ⟨σ3, H3, I3, alike, q3⟩ => wF (still (pt.run _ s3 σ3 H3 _ I3 q3)) fun b s4 ⟨H4, I4, q4⟩ => ?_
  have over : ∀ τ H' s', Inv X (pins ++ pinsAt fp s2.heap) τ H' s' → Keep vs σ3 τ → Nx H' → ∃ m, m < n ∧ ∃ i H, Inv X pins (wipe σ vs) H s' ∧ tn i s'.heap ∧ (∀ b ∈ fp, H b = none) ∧ W i m H := fun τ H' s' I' kp nx => by
    obtain ⟨m, lt, there⟩ := less H' nx
    have same : ∀ b ∈ fp, ∀ o, s2.heap.get? b = some o → s'.heap.get? b = some o ∧ H' b = none := fun b hb o e =>
      have z := I'.pin (b, o) (List.mem_append_right _ (List.mem_append_right _ (mem_pinsAt hb e)))
      ⟨z.1, z.2.1⟩
    refine ⟨m, lt, i + 1, H', I'.unpinned.weak ?_ (fun j v e => ?_), T.keep _ _ _ st2 fun b hb o e => (same b hb o e).1, fun b hb => ?_, there⟩
    · rw [← alike, wipe_length]
      exact kp.1
    · rw [← alike] at e
      exact kp.2 j v e
    · obtain ⟨o, e, -⟩ := T.obj _ _ st2 b hb
      exact (same b hb o e).2
  cases b with
  | false => exact over σ3 H4 s4 I4 (.self vs σ3) q4
  | true => exact body _ σ3 H4 s4 _ Nx I4 q4 over
/-- key, value, entry: the body of the last clause -/
def tEnt (D : Addr) (tk tv : TE) : L2.St → Hp → (Hp → Prop) → Prop := fun σ H Nx => tk σ H fun y H1 => tv σ H1 fun z H2 => ∃ H3, DPut H2 D y z H3 ∧ Nx H3
theorem does1 {X : Cx} (quiet : ∀ v s, X.xe v s → False) (hu : X.A.units + 1 < cLine) {kx vx : Expr} {tk tv : TE} {D : Addr} {vs : List Nat} (hk : PE X kx tk) (hv : PE X vx tv) : Does X D vs (tEnt D tk tv) (Entry X.prog X.w X.A kx vx) := by
  intro pins σ H s P Nx I h fin
  have still : ∀ {α : Type} {t : Sem α} {Q : α → Shared → Prop} {s : Shared}, wpAny (model X.prog X.w) X.A t Q X.xe s → wpAny (model X.prog X.w) X.A t Q F0 s := fun h => wpAny_mono h (fun _ _ q => q) fun v s z => (quiet v s z).elim
  refine wF (still (hk.run pins s σ H _ I h)) fun k s1 ⟨y, H1, I1, ry, h1⟩ => wF (still (hv.run pins s1 σ H1 _ I1 h1)) fun x s2 ⟨z, H2, I2, rz, H3, put, nx⟩ => ?_
  exact sets hu I2 put ry rz fun s3 I3 => fin σ H3 s3 I3 (.self vs σ) nx
/-- the second source and its loop: the body of the first clause -/
def tInn (wi : TI) (g : TG) (tt : TT) (tb : L2.St → Hp → (Hp → Prop) → Prop) (vs : List Nat) : L2.St → Hp → (Hp → Prop) → Prop := fun σ H Nx => wi σ H fun J H1 => ∃ W : Nat → Nat → Hp → Prop, (∃ m, W 0 m H1) ∧ Way J g tt tb vs σ Nx W
theorem does2 {X : Cx} (quiet : ∀ v s, X.xe v s → False) (hc : X.calm = true) {kx vx t0 i0 t1 i1 : Expr} {a0 a1 : List Expr} {scope : Scope} {pos : Pos} {wi : TI} {g : TG} {tt : TT} {tb : L2.St → Hp → (Hp → Prop) → Prop} {D : Addr} {vs ws : List Nat} (sub : ∀ i ∈ ws, i ∈ vs) (hi : PI X t1 i1 wi) (pg : PG X t1 g) (pt : PTs X a1 tt)
    (body : Does X D ws tb (Entry X.prog X.w X.A kx vx)) : Does X D vs (tInn wi g tt tb ws) (Inner X.prog X.w X.A (.DictComp kx vx [⟨t0, i0, a0, 0⟩, ⟨t1, i1, a1, 0⟩] scope pos) i1) := by
  intro pins σ H s P Nx I h fin
  have still : ∀ {α : Type} {t : Sem α} {Q : α → Shared → Prop} {s : Shared}, wpAny (model X.prog X.w) X.A t Q X.xe s → wpAny (model X.prog X.w) X.A t Q F0 s := fun h => wpAny_mono h (fun _ _ q => q) fun v s z => (quiet v s z).elim
  refine wF (still (hi.run pins s σ H _ I h)) fun x s1 h1 => wF (still h1) fun itv s2 h2 => ?_
  obtain ⟨it, fp, tn, J, H2, rfl, I2, T, st, mine, W, ⟨m0, w0⟩, way⟩ := h2
  have loop := clause quiet hc (loopsI (t0 := t0) (i0 := i0) (i1 := i1) (a0 := a0) (scope := scope) (pos := pos)) T (pins := pins) pg pt body way (R := fun r s' => match r with
    | .ok _ => P s'
    | .error _ => False) (fun _ H' _ _ none' b hb => ⟨none' b hb, (mine b hb).2⟩) (fun H' s' I' nx => fin _ H' s' I' (.part σ sub) nx) (I2.weak (wipe_length _ _) fun j v e => (wipe_some e).1) st (fun b hb => (mine b hb).1) w0
  exact startsI loop (T.self X.A 0 _ _ _ st loop)
section
variable {X : Cx}
/-- {..} in a def: D the new dict -/
def tDcO (o0 : HO) (wi : TI) (g : TG) (tt : TT) (tb : Addr → L2.St → Hp → (Hp → Prop) → Prop) (vs : List Nat) : TE := fun σ H Q => wi σ H fun J H1 => ∀ D, H1 D = none → ∃ W : Nat → Nat → Hp → Prop, (∃ m, W 0 m (upd H1 D o0)) ∧ Way J g tt (tb D) vs σ (fun H' => Q (.ref D) H') W
abbrev tDc := tDcO (.dT [])
/-- an empty dict, of the kind that is wanted -/
def Emp (o0 : HO) : Prop := ∀ {P : Program} {w : World} {H : Hp} (h : Heap), sysModules < h.objs.size → ObjOk P w H (h.push { cls := .type "dict", data := .dict #[] }) h.objs.size o0
theorem empT : Emp (.dT []) := fun h hb => dt_empty h hb
theorem empK : Emp (.dK []) := fun h hb => dk_empty h hb
/-- what is asked of the block -/
structure Blk (X : Cx) (kx vx tg iter : Expr) (ifs : List Expr) (gs : List Comprehension) (scope : Scope) (pos : Pos) (own : List (Str × Nat)) (wi : TI) (g : TG) (tt : TT) (tb : Addr → L2.St → Hp → (Hp → Prop) → Prop) (B : Env → Addr → (Shared → Prop) → Shared → Prop) : Prop where
  calm : X.calm = true
  nd : X.N.Nodup
  src : PI X tg iter wi
  names : BlkOk X.N X.env.scope scope own
  loops : Loops (model X.prog X.w) X.A (.DictComp kx vx (⟨tg, iter, ifs, 0⟩ :: gs) scope pos) 0 tg ifs B
  tgt : ∀ (s : Shared) (H : Hp) (C : Addr) (cl : List (Str × Addr)) (fp : List Addr), PG (X.blk s H scope (compEnvC scope cl C X.env) fp) tg g
  tests : ∀ (s : Shared) (H : Hp) (C : Addr) (cl : List (Str × Addr)) (fp : List Addr), PTs (X.blk s H scope (compEnvC scope cl C X.env) fp) ifs tt
  body : ∀ (s : Shared) (H : Hp) (C : Addr) (cl : List (Str × Addr)) (fp : List Addr) (D : Addr), Does (X.blk s H scope (compEnvC scope cl C X.env) fp) D (own.map (·.2)) (tb D) B
  plain : ∀ x, foldedSetIterable iter X.env x = pure x
theorem core {o0 : HO} (emp : Emp o0) {kx vx tg iter : Expr} {ifs : List Expr} {gs : List Comprehension} {scope : Scope} {pos pos' : Pos} {own : List (Str × Nat)} {wi : TI} {g : TG} {tt : TT} {tb : Addr → L2.St → Hp → (Hp → Prop) → Prop} {B : Env → Addr → (Shared → Prop) → Shared → Prop} (b : Blk X kx vx tg iter ifs gs scope pos own wi g tt tb B)
    {pins : List (Addr × Obj)} {s : Shared} {σ : L2.St} {H : Hp} {Q : VK} {use : Option (Value → Sem Unit)} {Qf : Value → Shared → Prop} (I : Inv X pins σ H s) (h : tDcO o0 wi g tt tb (own.map (·.2)) σ H Q)
    (out : ∀ D C s' m H', Inv X pins σ H' s' → Q (.ref D) H' → s'.heap.Ns C m → FpOk X pins H' C → compPost (model X.prog X.w) X.A X.xe use Qf (.ref D) C (.ok .next) s') :
    wpAny (model X.prog X.w) X.A (comprehension (.DictComp kx vx (⟨tg, iter, ifs, 0⟩ :: gs) scope pos) scope X.env pos' newDict false (eval iter X.env) use) Qf X.xe s := by
  have captured : ∀ y ∈ scope.names, y.2 = .free → ∃ c, X.env.cells.lookup y.1 = some c := fun y hy e => I.ok.has _ ((b.names.free y hy e).elim .inl .inr)
  refine wpAny_comprehension_free (use := use) rfl b.plain (closure_ok captured) b.names.kind (fun y hy e => e ▸ b.names.uniq y hy) (thn (b.src.run pins s σ H _ I h) fun xv s1 hx => thn hx fun itv s2 got => ?_)
  obtain ⟨it, fp, tn, J, H2, rfl, I2, T, st2, mine2, q⟩ := got
  refine wpAny_newObj_type (newEnv_comp ?_)
  obtain ⟨D, hD⟩ : ∃ D, s2.heap.objs.size = D := ⟨_, rfl⟩
  obtain ⟨W, ⟨m0, w0⟩, way⟩ := q D (I2.hok.fresh (Nat.le_of_eq hD))
  rw [hD]
  obtain ⟨s3, hs3⟩ : ∃ s3 : Shared, ({ s2 with heap := s2.heap.push { cls := .type "dict", data := .dict #[] } } : Shared) = s3 := ⟨_, rfl⟩
  have grown : s3.heap = s2.heap.push { cls := .type "dict", data := .dict #[] } := hs3 ▸ rfl
  have I3 : Inv X pins σ (upd H2 D o0) s3 := hs3 ▸ I2.laid (t' := s2.toks) (fun _ _ e => Heap.get?_push_of_some _ e) (Nat.le_of_eq hD) (hD ▸ emp s2.heap I2.big)
  have low : ∀ c ∈ fp, c < s2.heap.objs.size := fun c hc => let ⟨_, e, _⟩ := T.obj _ _ st2 c hc; Heap.lt_size e
  have mine3 : ∀ c ∈ fp, FpOk X pins (upd H2 D o0) c ∧ c < s3.heap.objs.size := fun c hc => by
    have lt := low c hc
    have ne : c ≠ D := fun z => absurd lt (by rw [z, hD]; exact Nat.lt_irrefl _)
    exact ⟨⟨(upd_ne ne).trans (mine2 c hc).1, (mine2 c hc).2⟩, by rw [grown, Heap.size_push]; exact Nat.lt_succ_of_lt lt⟩
  have I4 := block_start I3 b.names b.nd mine3
  obtain ⟨cl, hcl⟩ : ∃ cl, cellsFrom (s3.heap.objs.size + 1) scope.names (cloFrom X.env.cells scope.names []) = cl := ⟨_, rfl⟩
  rw [hcl] at I4
  have sz3 : (s2.heap.push { cls := .type "dict", data := .dict #[] }).objs.size = s3.heap.objs.size := grown ▸ rfl
  have target := b.tgt s3 (upd H2 D o0) s3.heap.objs.size cl fp
  have asked := b.tests s3 (upd H2 D o0) s3.heap.objs.size cl fp
  have body := b.body s3 (upd H2 D o0) s3.heap.objs.size cl fp D
  obtain ⟨C, hC⟩ : ∃ C, s3.heap.objs.size = C := ⟨_, rfl⟩
  have st4 : tn 0 (pushCells (s3.heap.push { cls := .type "dict", data := .dict #[] }) scope.names) := T.keep _ _ _ st2 fun c _ o e => pushCells_keeps _ _ _ _ (Heap.get?_push_of_some _ (by rw [grown]; exact Heap.get?_push_of_some _ e))
  have loop := clause (X := X.blk s3 (upd H2 D o0) scope (compEnvC scope cl s3.heap.objs.size X.env) fp) (fun _ _ z => z) b.calm b.loops T (pins := []) target asked (R := compPost (model X.prog X.w) X.A X.xe use Qf (.ref D) s3.heap.objs.size) body way
    (fun τ H' s' I' none' c hc => ⟨none' c hc, (I'.ok.exf c hc).1, I'.ok.exfs c hc, .inl hc, fun x d e => (I'.ok.exf c hc).2 x d e, fun p hp => nomatch (show p ∈ ([] : List (Addr × Obj)) from hp)⟩)
    (fun H' s' I' q' => by
      have back : Inv X pins σ H' s' := I3.call' (ch := fp) I'.os I'.base I'.hok I'.bare fun c hc => ⟨(mine3 c hc).1.2.2.2.1, (mine3 c hc).1.2.1, (mine3 c hc).1.2.2.2.2.1, (mine3 c hc).1.2.2.2.2.2⟩
      obtain ⟨m, ns, -⟩ := I'.loc
      exact out D s3.heap.objs.size s' m H' back q' ns (I3.fpOk (Nat.le_refl _) I'.free))
    I4 st4 (fun c hc => (mine3 c hc).1.1) w0
  subst hcl
  subst hs3
  exact codeAny_compStart_dict loop (T.self X.A 0 _ _ _ st4 loop)
theorem pe_coreO {o0 : HO} (emp : Emp o0) {kx vx tg iter : Expr} {ifs : List Expr} {gs : List Comprehension} {scope : Scope} {pos : Pos} {own : List (Str × Nat)} {wi : TI} {g : TG} {tt : TT} {tb : Addr → L2.St → Hp → (Hp → Prop) → Prop} {B : Env → Addr → (Shared → Prop) → Shared → Prop} (b : Blk X kx vx tg iter ifs gs scope pos own wi g tt tb B) :
    PE X (.DictComp kx vx (⟨tg, iter, ifs, 0⟩ :: gs) scope pos) (tDcO o0 wi g tt tb (own.map (·.2))) := by
  refine ⟨fun pins s σ H Q I h => ?_⟩
  rw [arm_eval_DictComp]
  refine core emp b I h fun D C s' m H' back q ns fp => ⟨m, ns, fun h'' but => ?_⟩
  exact ⟨.ref D, H', back.turned (t' := s'.toks) (fun c o hc e => (but.2 c hc).trans e) fp.1 fp.2.1 fp.2.2.2.1 fp.2.2.2.2.1 fp.2.2.2.2.2, rfl, q⟩
theorem ps_coreO {o0 : HO} (emp : Emp o0) {i : Nat} {y : Str} {py spos : Pos} {kx vx tg iter : Expr} {ifs : List Expr} {gs : List Comprehension} {scope : Scope} {pos : Pos} {own : List (Str × Nat)} {wi : TI} {g : TG} {tt : TT} {tb : Addr → L2.St → Hp → (Hp → Prop) → Prop} {B : Env → Addr → (Shared → Prop) → Shared → Prop} (b : Blk X kx vx tg iter ifs gs scope pos own wi g tt tb B)
    (at' : X.N[i]? = some y) (loc : X.env.scope.names.lookup y = some .local) (sw : swapsWith (.DictComp kx vx (⟨tg, iter, ifs, 0⟩ :: gs) scope pos) (some (.Name y py)) spos.line X.env = pure true) :
    PS X (.Assign [.Name y py] (.DictComp kx vx (⟨tg, iter, ifs, 0⟩ :: gs) scope pos) spos) (tAsg (tDcO o0 wi g tt tb (own.map (·.2))) (gName i)) := by
  refine ⟨fun pins s σ H E I h => ?_⟩
  rw [exec_Assign_Name_used _ _ _ _ sw]
  have h' : tDcO o0 wi g tt tb (own.map (·.2)) σ H (fun x H1 => gName i x σ H1 E.nx) := h
  refine wpAny_bind (wpAny_standAt (wpAny_bind ?_))
  show wpAny _ X.A ((comprehension (.DictComp kx vx (⟨tg, iter, ifs, 0⟩ :: gs) scope pos) scope X.env (firstIterPos (⟨tg, iter, ifs, 0⟩ :: gs) pos) newDict false (eval iter X.env) (some (assign (.Name y py) X.env))) >>= _) _ _ s
  refine wpAny_bind (thn (core (Qf := fun _ s' => SP X pins E .next s') emp b I h' fun D C s' m H' back q ns fp => ?_) fun _ s' hq => wpAny_pure (wpAny_pure hq))
  refine (wpAny_assign_Name (store_ok2 (v := V.ref D) back b.nd at' (.inl loc) rfl (fun s2 I2 ⟨a, but, ha⟩ => ?_) (.inr loc)) : wpAny _ _ (assign (.Name y py) X.env (.ref D)) _ _ _)
  have ne : C ≠ a := ha.elim (fun z => z ▸ fp.2.1) fun z e => fp.2.2.2.2.1 y a z e.symm
  refine ⟨m, ns.sameBut but ne, fun h3 but3 => ⟨_, H', I2.turned (t' := s2.toks) (fun c o hc e => (but3.2 c hc).trans e) fp.1 fp.2.1 fp.2.2.2.1 fp.2.2.2.2.1 fp.2.2.2.2.2, q⟩⟩
theorem swD {kx vx : Expr} {gs : List Comprehension} {scope : Scope} {pos py : Pos} {y : Str} {l : Nat} {env : Env} (fn : env.scope.kind = .function) (loc : env.scope.names.lookup y = some .local) (line : (py.line == pos.line) = true) (no : (scope.names.any fun (n, k) => n == y && (k == .local || k == .cell)) = false) :
    swapsWith (.DictComp kx vx gs scope pos) (some (.Name y py)) l env = pure true := by
  have kd : env.kindOf y = some .local := loc
  have bk : env.blockKind = .function := by
    unfold Env.blockKind
    rw [fn]
    rfl
  unfold swapsWith
  simp only [bk, kd, no, Expr.pos, line]
  rfl
/-- one `for`, one or no test -/
theorem blk1 {kx vx tg iter : Expr} {ifs : List Expr} {scope : Scope} {own : List (Str × Nat)} {pos : Pos} {wi : TI} {g : TG} {tt : TT} {tk tv : TE} (hc : X.calm = true) (hu : X.A.units + 1 < cLine) (hN : X.N.Nodup) (hi : PI X tg iter wi) (ok : BlkOk X.N X.env.scope scope own)
    (hg : ∀ (s : Shared) (H : Hp) (C : Addr) (cl : List (Str × Addr)) (fp : List Addr), PG (X.blk s H scope (compEnvC scope cl C X.env) fp) tg g) (ht : ∀ (s : Shared) (H : Hp) (C : Addr) (cl : List (Str × Addr)) (fp : List Addr), PTs (X.blk s H scope (compEnvC scope cl C X.env) fp) ifs tt)
    (hk : ∀ (s : Shared) (H : Hp) (C : Addr) (cl : List (Str × Addr)) (fp : List Addr), PE (X.blk s H scope (compEnvC scope cl C X.env) fp) kx tk) (hv : ∀ (s : Shared) (H : Hp) (C : Addr) (cl : List (Str × Addr)) (fp : List Addr), PE (X.blk s H scope (compEnvC scope cl C X.env) fp) vx tv)
    (hs : ∀ x, foldedSetIterable iter X.env x = pure x := by intro _; rfl) : Blk X kx vx tg iter ifs [] scope pos own wi g tt (fun D => tEnt D tk tv) (Entry X.prog X.w X.A kx vx) :=
  ⟨hc, hN, hi, ok, loops1, hg, ht, fun s H C cl fp D => does1 (X := X.blk s H scope (compEnvC scope cl C X.env) fp) (fun _ _ z => z) hu (hk s H C cl fp) (hv s H C cl fp), hs⟩
/-- two -/
theorem blk2 {kx vx tg iter tg1 iter1 : Expr} {ifs ifs1 : List Expr} {scope : Scope} {own : List (Str × Nat)} {vs1 : List Nat} {pos : Pos} {wi wi1 : TI} {g g1 : TG} {tt tt1 : TT} {tk tv : TE} (hc : X.calm = true) (hu : X.A.units + 1 < cLine) (hN : X.N.Nodup) (hi : PI X tg iter wi) (ok : BlkOk X.N X.env.scope scope own) (sub : ∀ i ∈ vs1, i ∈ own.map (·.2))
    (hg : ∀ (s : Shared) (H : Hp) (C : Addr) (cl : List (Str × Addr)) (fp : List Addr), PG (X.blk s H scope (compEnvC scope cl C X.env) fp) tg g) (ht : ∀ (s : Shared) (H : Hp) (C : Addr) (cl : List (Str × Addr)) (fp : List Addr), PTs (X.blk s H scope (compEnvC scope cl C X.env) fp) ifs tt)
    (hi1 : ∀ (s : Shared) (H : Hp) (C : Addr) (cl : List (Str × Addr)) (fp : List Addr), PI (X.blk s H scope (compEnvC scope cl C X.env) fp) tg1 iter1 wi1) (hg1 : ∀ (s : Shared) (H : Hp) (C : Addr) (cl : List (Str × Addr)) (fp : List Addr), PG (X.blk s H scope (compEnvC scope cl C X.env) fp) tg1 g1)
    (ht1 : ∀ (s : Shared) (H : Hp) (C : Addr) (cl : List (Str × Addr)) (fp : List Addr), PTs (X.blk s H scope (compEnvC scope cl C X.env) fp) ifs1 tt1)
    (hk : ∀ (s : Shared) (H : Hp) (C : Addr) (cl : List (Str × Addr)) (fp : List Addr), PE (X.blk s H scope (compEnvC scope cl C X.env) fp) kx tk) (hv : ∀ (s : Shared) (H : Hp) (C : Addr) (cl : List (Str × Addr)) (fp : List Addr), PE (X.blk s H scope (compEnvC scope cl C X.env) fp) vx tv)
    (hs : ∀ x, foldedSetIterable iter X.env x = pure x := by intro _; rfl) (hs1 : ∀ env x, foldedSetIterable iter1 env x = pure x := by intro _ _; rfl) :
    Blk X kx vx tg iter ifs [⟨tg1, iter1, ifs1, 0⟩] scope pos own wi g tt (fun D => tInn wi1 g1 tt1 (tEnt D tk tv) vs1) (Inner X.prog X.w X.A (.DictComp kx vx [⟨tg, iter, ifs, 0⟩, ⟨tg1, iter1, ifs1, 0⟩] scope pos) iter1) :=
  ⟨hc, hN, hi, ok, loopsO hs1, hg, ht, fun s H C cl fp D => does2 (X := X.blk s H scope (compEnvC scope cl C X.env) fp) (fun _ _ z => z) hc sub (hi1 s H C cl fp) (hg1 s H C cl fp) (ht1 s H C cl fp) (does1 (X := X.blk s H scope (compEnvC scope cl C X.env) fp) (fun _ _ z => z) hu (hk s H C cl fp) (hv s H C cl fp)), hs⟩
end
end TD

/-! dicts with flat tuples as keys: a key that is any tuple; readings of the comprehensions; tuples that stand as such -/
namespace TD
open PySem PySem.Spec PyProof.Rows L2 RK
/-- y in d, y any tuple that can be read -/
def rInS (K : PySem.W.Frag) (neg : Bool) : R2 := fun x y H Q => ∃ (b a : Addr) (k : List L2.Key) (kvs : List (List L2.Key × V)), x = .ref b ∧ y = .ref a ∧ SqT K H b (k.map kV) ∧ Rd H a (.dT kvs) ∧ Q (.bl (if neg then !(valV kvs k).isSome else (valV kvs k).isSome)) H
section
variable {X : Cx}
theorem keyS {pins : List (Addr × Obj)} {σ : L2.St} {H : Hp} {s : Shared} {b : Addr} {k : List L2.Key} (I : L2.Inv X pins σ H s) (h : SqT X.K H b (k.map kV)) : (tupleKind (mixKind X.prog X.w)).is s.heap k b := by
  obtain ⟨its, o, n, r, h1, h2, h3⟩ := sqT_at I.hok I.kIn h
  exact ⟨o, its.toArray, n, h1, h2, h3, by simpa using items_are r⟩
theorem op_inS (hu : X.A.units + 1 < cLine) : OpR X (compareOp .In) (rInS X.K false) := by
  intro pins s σ H x y v u Q I rx ry h
  obtain ⟨b, a, k, kvs, rfl, rfl, hb, ha, q⟩ := h
  cases (show v = Value.ref b from rx)
  cases (show u = Value.ref a from ry)
  obtain ⟨few, notMods, rows, alike, isDict⟩ := dt_rd I.hok ha
  refine wpAny_in_heap (tupleKind_room_in1 hu) (keyS I hb) notMods isDict ⟨.bl _, H, I.tok _, ?_, q⟩
  have e := (alike.val k).isSome_eq
  rw [Option.isSome_map] at e
  rw [← e]
  rfl
theorem op_notInS (hu : X.A.units + 1 < cLine) : OpR X (compareOp .NotIn) (rInS X.K true) := by
  intro pins s σ H x y v u Q I rx ry h
  obtain ⟨b, a, k, kvs, rfl, rfl, hb, ha, q⟩ := h
  cases (show v = Value.ref b from rx)
  cases (show u = Value.ref a from ry)
  obtain ⟨few, notMods, rows, alike, isDict⟩ := dt_rd I.hok ha
  refine wpAny_notIn_heap (tupleKind_room_in1 hu) (keyS I hb) notMods isDict ⟨.bl _, H, I.tok _, ?_, q⟩
  have e := (alike.val k).isSome_eq
  rw [Option.isSome_map] at e
  rw [← e]
  rfl
end
/-- a + b, the right one a tuple that stands, not () -/
theorem catR {K : PySem.W.Frag} {H : Hp} {a b : Addr} {xs ys : List V} {Q : VK} (ha : SqT K H a xs) (hb : H b = some (.tup ys)) (hy : ys ≠ []) (hl : xs.length + ys.length ≤ 100000) (q : ∀ p H', Same H H' → H' p = some (.tup (xs ++ ys)) → Q (.ref p) H') : rCatA K (.ref a) (.ref b) H Q := by
  refine ⟨a, b, xs, ys, rfl, rfl, ha, SqT.of hb, Nat.le_trans hl (lenOk (xs := List.replicate 100000 ()) (n := 100000) (List.length_replicate ..) (Nat.le_refl _) |> fun h => by rw [List.length_replicate] at h; exact h), fun e => q b H (Same.refl _) (by rw [e]; exact hb), fun _ e => absurd e hy, fun _ _ p hp => q p _ (same_new hp) upd_same⟩
/-- a + b, the left one a tuple that stands, not () -/
theorem catL {K : PySem.W.Frag} {H : Hp} {a b : Addr} {xs ys : List V} {Q : VK} (ha : H a = some (.tup xs)) (hx : xs ≠ []) (hb : SqT K H b ys) (hl : xs.length + ys.length ≤ 100000) (q : ∀ p H', Same H H' → H' p = some (.tup (xs ++ ys)) → Q (.ref p) H') : rCatA K (.ref a) (.ref b) H Q := by
  refine ⟨a, b, xs, ys, rfl, rfl, SqT.of ha, hb, Nat.le_trans hl (lenOk (xs := List.replicate 100000 ()) (n := 100000) (List.length_replicate ..) (Nat.le_refl _) |> fun h => by rw [List.length_replicate] at h; exact h), fun e => absurd e hx, fun _ e => q a H (Same.refl _) (by rw [e, List.append_nil]; exact ha), fun _ _ p hp => q p _ (same_new hp) upd_same⟩
theorem wipe_at (σ : L2.St) (i : Nat) : ∀ vs : List Nat, (wipe σ vs)[i]? = if i ∈ vs then (σ[i]?).map fun _ => none else σ[i]?
  | [] => by simp [wipe]
  | v :: vs => by
    unfold wipe
    have ih := wipe_at σ i vs
    by_cases e : v = i
    · subst e
      rw [if_pos List.mem_cons_self, List.getElem?_set_self', ih]
      by_cases m : v ∈ vs
      · rw [if_pos m]
        cases σ[v]? <;> rfl
      · rw [if_neg m]
        cases σ[v]? <;> rfl
    · rw [List.getElem?_set_ne e, ih]
      by_cases m : i ∈ vs
      · rw [if_pos m, if_pos (List.mem_cons_of_mem _ m)]
      · rw [if_neg m, if_neg fun z => (List.mem_cons.mp z).elim (fun y => e y.symm) m]
theorem wipe_set {vs : List Nat} {k : Nat} (h : k ∈ vs) (σ : L2.St) (x : Option V) : wipe ((wipe σ vs).set k x) vs = wipe σ vs := by
  refine List.ext_getElem? fun i => ?_
  rw [wipe_at, wipe_at]
  by_cases m : i ∈ vs
  · rw [if_pos m, if_pos m]
    by_cases e : k = i
    · subst e
      rw [List.getElem?_set_self', wipe_at, if_pos m]
      cases σ[k]? <;> rfl
    · rw [List.getElem?_set_ne e, wipe_at, if_pos m]
      cases σ[i]? <;> rfl
  · rw [if_neg m, if_neg m, List.getElem?_set_ne (fun z : k = i => m (z ▸ h)), wipe_at, if_neg m]
section
variable {J : It} {n : Nat} {G : Hp → Prop} {Y : Nat → Hp → V → Hp → Prop}
/-- one clause, the target a name: Pv by the turn and the heap -/
theorem way_it (w : Walk J n G Y) {tt : TT} {tb : L2.St → Hp → (Hp → Prop) → Prop} {σ : L2.St} {H1 : Hp} {Qd : Hp → Prop} {k : Nat} {vs : List Nat} (hk : k ∈ vs) (Pv : Nat → Hp → Prop) (h0 : Pv 0 H1) (hG : ∀ i H, i ≤ n → Pv i H → G H)
    (hs : ∀ (i : Nat) (x : V) (H H' : Hp), i < n → Pv i H → Y i H x H' → tt ((wipe σ vs).set k (some x)) H' fun b H3 => if b = true then tb ((wipe σ vs).set k (some x)) H3 (Pv (i + 1)) else Pv (i + 1) H3) (hd : ∀ H, Pv n H → Qd H) :
    ∃ W : Nat → Nat → Hp → Prop, (∃ m, W 0 m H1) ∧ Way J (gName k) tt tb vs σ Qd W := by
  refine ⟨fun i m H => i ≤ n ∧ m = n - i ∧ Pv i H, ⟨n, Nat.zero_le _, rfl, h0⟩, fun i m H ⟨hi, hm, p⟩ => ?_⟩
  subst hm
  rcases Nat.lt_or_ge i n with lt | ge
  · refine .inr ⟨w.goes i H lt (hG i H hi p), Pv (i + 1), fun H' p' => ⟨n - (i + 1), by omega, by omega, rfl, p'⟩, fun x H' y => ⟨wipe_set hk σ _, ?_⟩⟩
    exact hs i x H H' lt p (w.yields i H x H' lt (hG i H hi p) y)
  · have e : i = n := Nat.le_antisymm hi ge
    subst e
    exact .inl ⟨w.stops H (hG i H hi p), hd H p⟩
/-- without a test -/
theorem way_itY (w : Walk J n G Y) {tb : L2.St → Hp → (Hp → Prop) → Prop} {σ : L2.St} {H1 : Hp} {Qd : Hp → Prop} {k : Nat} {vs : List Nat} (hk : k ∈ vs) (Pv : Nat → Hp → Prop) (h0 : Pv 0 H1) (hG : ∀ i H, i ≤ n → Pv i H → G H)
    (hs : ∀ (i : Nat) (x : V) (H H' : Hp), i < n → Pv i H → Y i H x H' → tb ((wipe σ vs).set k (some x)) H' (Pv (i + 1))) (hd : ∀ H, Pv n H → Qd H) :
    ∃ W : Nat → Nat → Hp → Prop, (∃ m, W 0 m H1) ∧ Way J (gName k) tYes tb vs σ Qd W :=
  way_it (tt := tYes) w hk Pv h0 hG (fun i x H H' hi hp y => hs i x H H' hi hp y) hd
end
section
variable {X : Cx}
/-- {k: v}, k a flat tuple -/
def tDisp1 (tk tv : TE) : TE := fun σ H Q => ∀ p, H p = none → tk σ (upd H p (.dT [])) fun x H1 => tv σ H1 fun y H2 => ∃ H3, DPut H2 p x y H3 ∧ Q (.ref p) H3
theorem pe_disp1 {pos : Pos} {k v : Expr} {tk tv : TE} (hu : X.A.units + 1 < cLine) (hk : PE X k tk) (hv : PE X v tv) : PE X (.Dict [some k] [v] pos) (tDisp1 tk tv) := by
  refine ⟨fun pins s σ H Q I q => ?_⟩
  have hn := I.hok.fresh (Nat.le_refl s.heap.objs.size)
  have I1 := I.laid (a := s.heap.objs.size) (o := .dT []) (h' := s.heap.push { cls := .type "dict", data := .dict #[] }) (t' := s.toks) (fun _ _ e => Heap.get?_push_of_some _ e) (Nat.le_refl _) (dt_empty s.heap I.big)
  have hp := pps_cons (pos := pos) hk hv pps_nil
  have run := hp.run pins _ σ _ (fun ps H' => match ps with
    | [(x, y)] => ∃ H4, DPut H' s.heap.objs.size x y H4 ∧ Q (.ref s.heap.objs.size) H4
    | _ => False) I1 (q _ hn)
  refine wpAny_Dict_any rfl rfl (by simp) (show 1 ≤ 15 by decide) (thn run fun vs s3 ⟨ps, H3, I3, rel, q3⟩ => ?_)
  cases rel with
  | nil => exact q3.elim
  | @cons a b as bs ab rest =>
  cases rest with
  | cons _ _ => exact q3.elim
  | nil =>
  obtain ⟨x, y⟩ := a
  obtain ⟨u, r⟩ := b
  obtain ⟨H4, put, q4⟩ := q3
  obtain ⟨rx, ry⟩ := ab
  show wpAny _ _ (forIn [(u, r)] PUnit.unit _) _ _ s3
  rw [List.forIn_cons]
  refine wpAny_bind (wpAny_bind (sets hu I3 put rx ry fun s5 I5 => wpAny_pure ?_))
  show wpAny _ _ (forIn [] PUnit.unit _) _ _ s5
  rw [List.forIn_nil]
  exact wpAny_pure ⟨.ref s.heap.objs.size, H4, I5, rfl, q4⟩
end
end TD

namespace R1
open PySem PySem.Spec PyProof.Rows L2 RK
local macro_rules | `(tactic| walk_at "sq") => `(tactic| first
  | exact SqL.of upd_same | exact upd_same | exact SqL.of (by assumption) | exact SqL.of (by rw [upd_ne (by assumption)]; assumption) | assumption)
local macro_rules | `(tactic| walk_at "sd") => `(tactic| first
  | assumption | omega | (refine Or.inl ⟨?_, ?_⟩ <;> omega) | (show _ ∧ _; constructor <;> omega) | (show _ ≠ _; simp; omega) | (exact Or.inl ⟨by decide, by decide⟩) | (exact Or.inr ⟨by decide, by decide⟩) | (show _ < _; decide) | (show _ ≤ _; decide))
local macro_rules | `(tactic| walk_at "at") => `(tactic| first | rfl | (refine atI_intV ?_ ?_ <;> omega) | assumption)
local macro_rules | `(tactic| walk_at "s1") => `(tactic| first
  | refine ⟨_, rfl, ?_⟩ | refine ⟨_, _, rfl, rfl, ?_⟩ | refine ⟨rfl, ?_⟩
  | refine ⟨_, _, _, _, rfl, rfl, by walk_at "sq", by walk_at "at", ?_⟩
  | refine Or.inl ⟨_, rfl, ?_⟩
  | refine ⟨_, _, rfl, Or.inl (by walk_at "sq"), ?_⟩
  | refine And.intro (by walk_at "sd") ?_)
local macro_rules | `(tactic| walk_at "s") => `(tactic| repeat walk_at "s1")

/-! dicts whose keys are texts -/
def getS : SV → Str → Option V
  | [], _ => none
  | p :: r, x => if p.1 = x then some p.2 else getS r x
theorem kvS_val (x : Str) : ∀ l : SV, valV (kvS l) (.inr x) = getS l x
  | [] => rfl
  | p :: l => by
    show valV ((Sum.inr p.1, p.2) :: kvS l) (.inr x) = if p.1 = x then some p.2 else getS l x
    by_cases e : p.1 = x
    · rw [valV_pos (by rw [e]), if_pos e]
    · rw [valV_neg (fun z => e (Sum.inr.inj z)), if_neg e, kvS_val x l]
theorem getS_some (x : Str) : ∀ l : SV, (getS l x).isSome = decide (x ∈ l.map (·.1))
  | [] => rfl
  | p :: l => by
    unfold getS
    by_cases e : p.1 = x
    · rw [if_pos e]
      exact (decide_eq_true (by rw [← e]; exact List.mem_cons_self)).symm
    · rw [if_neg e, getS_some x l]
      rw [decide_eq_decide, List.map_cons, List.mem_cons]
      exact ⟨.inr, fun h => h.elim (fun z => (e z.symm).elim) id⟩
theorem getS_mem {x : Str} {v : V} : ∀ {l : SV}, getS l x = some v → (x, v) ∈ l
  | [], h => nomatch h
  | p :: l, h => by
    unfold getS at h
    by_cases e : p.1 = x
    · rw [if_pos e] at h
      cases h
      exact e ▸ List.mem_cons_self
    · rw [if_neg e] at h
      exact List.mem_cons_of_mem _ (getS_mem h)
theorem getS_of {x : Str} {v : V} : ∀ {l : SV}, (l.map (·.1)).Nodup → (x, v) ∈ l → getS l x = some v
  | [], _, h => nomatch h
  | p :: l, n, h => by
    obtain ⟨n1, n2⟩ := List.nodup_cons.mp n
    unfold getS
    rcases List.mem_cons.mp h with h | h
    · rw [← h, if_pos rfl]
    · rw [if_neg (fun e => n1 (List.mem_map.mpr ⟨_, h, e.symm⟩)), getS_of n2 h]
theorem kvS_put {l : SV} {x : Str} (v : V) (h : x ∉ l.map (·.1)) : putK (kvS l) (.inr x) v = kvS (l ++ [(x, v)]) := by
  have e : ((kvS l).any fun kv => decide (kv.1 = Sum.inr x)) = false := by
    refine List.any_eq_false.mpr fun kv hkv => ?_
    obtain ⟨p, hp, rfl⟩ := List.mem_map.mp hkv
    intro z
    have z := Sum.inr.inj (of_decide_eq_true z)
    exact h (z ▸ List.mem_map.mpr ⟨p, hp, rfl⟩)
  unfold putK
  rw [e, if_neg (by decide)]
  unfold kvS
  rw [List.map_append]
  rfl
/-- texts that are keys, all with True -/
def mkV (ms : List Str) : SV := ms.map fun x => (x, V.bl true)
theorem mkV_keys (ms : List Str) : (mkV ms).map (·.1) = ms := by
  unfold mkV
  rw [List.map_map]
  exact List.map_id' _
/-! tuples of texts -/
def Tn (H H' : Hp) : Prop := ∀ b xs, H b = some (.tup xs) → H' b = some (.tup xs)
theorem Tn.of {H H' : Hp} (s : Same H H') : Tn H H' := fun b xs e => s b _ e
theorem Tn.put {H : Hp} {p : Addr} {o : HO} (n : ∀ xs, H p ≠ some (.tup xs)) : Tn H (upd H p o) := fun b xs e => by
  rw [upd_ne (fun (z : b = p) => n xs (z ▸ e))]
  exact e
theorem Tn.trans {H H1 H2 : Hp} (a : Tn H H1) (b : Tn H1 H2) : Tn H H2 := fun c xs e => b c xs (a c xs e)
inductive PsA (H : Hp) : List V → List (List Str) → Prop
  | nil : PsA H [] []
  | cons {q : Addr} {p : List Str} {us : List V} {l : List (List Str)} : H q = some (.tup (p.map V.str)) → PsA H us l → PsA H (.ref q :: us) (p :: l)
theorem PsA.tn {H H' : Hp} (s : Tn H H') : ∀ {us : List V} {l : List (List Str)}, PsA H us l → PsA H' us l
  | _, _, .nil => .nil
  | _, _, .cons e r => .cons (s _ _ e) (r.tn s)
theorem PsA.len {H : Hp} : ∀ {us : List V} {l : List (List Str)}, PsA H us l → us.length = l.length
  | _, _, .nil => rfl
  | _, _, .cons _ r => congrArg (· + 1) r.len
theorem PsA.app {H : Hp} : ∀ {us vs : List V} {l m : List (List Str)}, PsA H us l → PsA H vs m → PsA H (us ++ vs) (l ++ m)
  | _, _, _, _, .nil, h => h
  | _, _, _, _, .cons e r, h => .cons e (r.app h)
theorem PsA.at {H : Hp} : ∀ {us : List V} {l : List (List Str)} {i : Nat} {p : List Str}, PsA H us l → l[i]? = some p → ∃ q, us[i]? = some (.ref q) ∧ H q = some (.tup (p.map V.str))
  | _, _, 0, _, .cons e _, h => by cases h; exact ⟨_, rfl, e⟩
  | _, _, i + 1, _, .cons _ r, h => r.at (i := i) h
theorem memLenS : ∀ (ks ns : List Str), ks.Nodup → (∀ k, k ∈ ks → k ∈ ns) → ks.length ≤ ns.length
  | [], _, _, _ => Nat.zero_le _
  | k :: ks, ns, hn, h => by
    obtain ⟨n1, n2⟩ := List.nodup_cons.mp hn
    have h1 : k ∈ ns := h k List.mem_cons_self
    have := memLenS ks (ns.erase k) n2 fun x hx => (List.mem_erase_of_ne fun (z : x = k) => n1 (z ▸ hx)).mpr (h x (List.mem_cons_of_mem _ hx))
    rw [List.length_erase_of_mem h1] at this
    have := List.length_pos_of_mem h1
    rw [List.length_cons]
    omega
section
variable {g : Str → List Str} {f : Str}
theorem Bf.few {paths : List (List Str)} {a k : Nat} {ks : List Str} (b : Bf g f paths a k) (hf : f ∈ ks) (hk : ∀ x y, y ∈ g x → y ∈ ks) : paths.length ≤ ks.length := by
  rw [← List.length_map (f := lst)]
  refine memLenS _ _ b.nd fun x hx => ?_
  obtain ⟨q, hq, rfl⟩ := List.mem_map.mp hx
  rcases b.par q hq with rfl | ⟨p, n, ⟨i, e, h⟩, rfl⟩
  · exact hf
  · rw [lst_snoc]
    exact h.elim (fun z => hk _ _ z.2) fun z => hk _ _ (List.mem_of_mem_take z.2)
theorem Bf.len {paths : List (List Str)} {a k : Nat} (b : Bf g f paths a k) : ∀ (i : Nat) (q : List Str), paths[i]? = some q → q.length ≤ i + 1 := by
  intro i
  induction i using Nat.strongRecOn with
  | ind i ih =>
    intro q hq
    rcases b.par q (List.mem_of_getElem? hq) with rfl | ⟨p, n, ⟨j, e, _⟩, rfl⟩
    · exact Nat.succ_le_succ (Nat.zero_le _)
    · have hlt : j < i := by
        obtain ⟨h1, e1⟩ := List.getElem?_eq_some_iff.mp e
        obtain ⟨h2, e2⟩ := List.getElem?_eq_some_iff.mp hq
        rcases Nat.lt_trichotomy j i with z | z | z
        · exact z
        · subst z
          have : p = p ++ [n] := e1.symm.trans e2
          have := congrArg List.length this
          rw [List.length_append] at this
          exact absurd this (Nat.ne_of_lt (Nat.lt_succ_self _))
        · have := List.pairwise_iff_getElem.mp b.asc i j h2 h1 z
          rw [e1, e2] at this
          rcases this with y | y
          · rw [List.length_append] at y
            exact absurd y (by show ¬ _ + 1 < _; omega)
          · have y := y.1
            rw [List.length_append] at y
            exact absurd y (Nat.ne_of_gt (Nat.lt_succ_self _))
      have := ih j hlt p e
      rw [List.length_append]
      show _ + 1 ≤ _
      omega
end
/-- the dict of what comes behind each name -/
structure AfH (H : Hp) (d : Addr) (l : SV) (g : Str → List Str) : Prop where
  dd : H d = some (.dK (kvS l))
  nd : (l.map (·.1)).Nodup
  val : ∀ x ∈ l.map (·.1), ∃ a, getS l x = some (.ref a) ∧ H a = some (.lst ((g x).map V.str))
  srt : ∀ x, (g x).Pairwise fun a b => ¬ ltS b a
  cl : ∀ x y, y ∈ g x → y ∈ l.map (·.1)
  few : l.length ≤ 900
theorem AfH.up {H H' : Hp} {d : Addr} {l : SV} {g : Str → List Str} (h : AfH H d l g) (s : Same H H') : AfH H' d l g :=
  ⟨s _ _ h.dd, h.nd, fun x hx => let ⟨a, e1, e2⟩ := h.val x hx; ⟨a, e1, s _ _ e2⟩, h.srt, h.cl, h.few⟩
def RgO (H : Hp) (v : V) : Option (List Str) → Prop
  | none => v = .non
  | some p => ∃ a, v = .ref a ∧ H a = some (.tup (p.map V.str))
theorem RgO.up {H H' : Hp} (s : Same H H') {v : V} : ∀ {o : Option (List Str)}, RgO H v o → RgO H' v o
  | none, h => h
  | some p, h => let ⟨a, e1, e2⟩ := h; ⟨a, e1, s _ _ e2⟩
structure RfH (H Hx : Hp) (L M : Addr) (paths : List (List Str)) (qs : List V) : Prop where
  s : Same H Hx
  eL : Hx L = some (.lst qs)
  ps : PsA Hx qs paths
  eM : Hx M = some (.dK (kvS (mkV (paths.map lst))))
def spRing : Sp := fun vs H Q _ => ∃ (f : Str) (d : Addr) (l : SV) (g : Str → List Str), vs = [.str f, .ref d] ∧ AfH H d l g ∧ f ∈ l.map (·.1) ∧
  ∀ H' v o, Same H H' → Least g f o → RgO H' v o → Q v H'
section
variable {P : Program} {w : World} {K : PySem.W.Frag} {mg : Str → Option Value} {base : Heap} {A : Ads}
theorem ok_ring_from (T : Txt K mg A) : FnOk P w K mg base CX0 3 A.a_ring_from A.d_ring_from ["start", "after"] spRing := by
  refine T.F_ring_from.ok sc_ring_from (fun vs H Q E h => ?_) (fun cdv B outer s H vs Q E hr h => ?_)
  · obtain ⟨f, d, l, g, rfl, _⟩ := h
    rfl
  · obtain ⟨f, d, l, g, rfl, af, hf, q⟩ := h
    refine ⟨_, (pss_cons (ps_set (i := 2) sc_ring_from.nd rfl (.inl rfl) (pe_lst (pa_cons (pe_tup (pa_cons (pv 0) pa_nil)) pa_nil)))
    (pss_cons (ps_set (i := 3) sc_ring_from.nd rfl (.inl rfl) (pe_disp (pps_cons (pv 0) pe_bl pps_nil) (by rfl) (by rfl) (fun z => by cases z) (by decide)))
    (pss_cons (ps_set (i := 4) sc_ring_from.nd rfl (.inl rfl) pe_int)
    (pss_cons (ps_while PassesOwn.never (pt_cmpR op_lt (pv 4) (pe_callB len_seq (by rfl) T.n_len (by decide +kernel) (pa_cons (pv 2) pa_nil)) (nomark _)) (pss_cons (ps_set (i := 5) sc_ring_from.nd rfl (.inl rfl) (pe_ix ix_list (pv 2) (pv 4) (fun _ _ => rfl)))
    (pss_cons (ps_aug (i := 4) sc_ring_from.nd rfl (.inl rfl) pe_int ip_add)
    (pss_one (ps_for PassesOwn.never rfl (pi_list (pe_dget (hu_of hr) (pv 1) (pe_ix ix_tup (pv 5) (pe_un un_neg pe_int) (fun _ _ => rfl)) (fun _ _ => rfl))) (pg_name (i := 6) sc_ring_from.nd rfl (.inl rfl))
      (pss_cons (ps_if (pt_cmpR op_eq (pv 6) (pv 0) (nomark _)) (pss_one (ps_ret (pv 5))) pss_nil)
    (pss_one (ps_if (PW.pt (pw_and (pt_cmpR op_gt_str (pv 6) (pv 0) (nomark _)) (pw_and1 (pt_cmp (pc_dnotin (hu_of hr) (pv 6) (pv 3)))))) (pss_cons (ps_dput (hu_of hr) (pv 3) (pv 6) pe_bl rfl)
    (pss_one (ps_expr (pe_bm PySem.F.plainAttrs_list PySem.F.slot_list_append PySem.F.type_list_append mt_append (pv 2) (pa_cons (pe_op op_catA (pv 5) (pe_tup (pa_cons (pv 6) pa_nil))) pa_nil))))) pss_nil))))))))
    (pss_one (ps_ret pe_non)))))), ?_⟩
    refine ⟨_, rfl, lenOk (n := 1) rfl (by decide), fun p0 hp0 => ?_⟩
    have s0 := same_new (o := .tup [V.str f]) hp0
    have e0 : upd H p0 (.tup [V.str f]) p0 = some (.tup [V.str f]) := upd_same
    generalize upd H p0 (.tup [V.str f]) = H0 at s0 e0 ⊢
    refine ⟨lenOk (n := 1) rfl (by decide), fun L hL => ?_⟩
    have hnL : H L = none := s0.free hL
    have sL := same_new (o := .lst [V.ref p0]) hL
    have eL : upd H0 L (.lst [V.ref p0]) L = some (.lst [V.ref p0]) := upd_same
    generalize upd H0 L (.lst [V.ref p0]) = H1 at sL eL ⊢
    have s1 := s0.trans sL
    refine fun M hM => ?_
    have hnM : H M = none := s1.free hM
    have hML : M ≠ L := fun z => by rw [z, eL] at hM; cases hM
    have sM := same_new (o := .dK []) hM
    have eM0 : upd H1 M (.dK []) M = some (.dK []) := upd_same
    generalize upd H1 M (.dK []) = H2 at sM eM0 ⊢
    have s2 := s1.trans sM
    refine ⟨_, rfl, eM0, [(.inr f, .bl true)], rfl, (show 1 ≤ 15 by decide), ?_⟩
    have s3 : Same H (upd H2 M (.dK (mergeK [] [(Sum.inr f, V.bl true)]))) := same_mut s2 hnM
    have eM : upd H2 M (.dK (mergeK [] [(Sum.inr f, V.bl true)])) M = some (.dK (kvS (mkV [f]))) := upd_same
    have tM : Tn H2 (upd H2 M (.dK (mergeK [] [(Sum.inr f, V.bl true)]))) := Tn.put fun xs z => by rw [eM0] at z; cases z
    have eL3 : upd H2 M (.dK (mergeK [] [(Sum.inr f, V.bl true)])) L = some (.lst [V.ref p0]) := by rw [upd_ne (Ne.symm hML)]; exact sM _ _ eL
    generalize upd H2 M (.dK (mergeK [] [(Sum.inr f, V.bl true)])) = H3 at s3 eM tM eL3 ⊢
    have r0 : RfH H H3 L M [[f]] [V.ref p0] := ⟨s3, eL3, .cons (tM _ _ ((sL.trans sM) _ _ e0)) .nil, eM⟩
    have hks : (l.map (·.1)).length ≤ 900 := by rw [List.length_map]; exact af.few
    refine ⟨fun k σ Hx => ∃ (o5 o6 : Option V) (paths : List (List Str)) (qs : List V) (a : Nat), k = 1000 - a ∧ σ = [some (.str f), some (.ref d), some (.ref L), some (.ref M), some (.int (a : Nat)), o5, o6] ∧ RfH H Hx L M paths qs ∧ Bf g f paths a 0 ∧ a ≤ paths.length, ⟨1000, none, none, _, _, 0, rfl, rfl, r0, Bf.start f, Nat.zero_le _⟩, fun k σ Hx hW => ?_⟩
    obtain ⟨o5, o6, paths, qs, a, rfl, rfl, rf, bf, ha⟩ := hW
    have hfew := bf.few hf af.cl
    have hql := rf.ps.len
    refine ⟨_, rfl, _, rfl, L, _, rfl, .inl (SqL.of rf.eL), _, _, rfl, rfl, _, rfl, ?_⟩
    refine ifB (fun c1 => ?_) (fun c1 => ?_)
    · have c1 : (a : Int) < (qs.length : Nat) := of_decide_eq_true c1
      have hal : a < paths.length := by omega
      obtain ⟨P0, hP0⟩ : ∃ P0, paths[a]? = some P0 := ⟨_, List.getElem?_eq_getElem hal⟩
      obtain ⟨pa, eq1, eq2⟩ := rf.ps.at hP0
      refine ⟨fun σ' H' => ∃ (o5 o6 : Option V) (paths : List (List Str)) (qs : List V), σ' = [some (.str f), some (.ref d), some (.ref L), some (.ref M), some (.int ((a + 1 : Nat) : Int)), o5, o6] ∧ RfH H H' L M paths qs ∧ Bf g f paths (a + 1) 0 ∧ a + 1 ≤ paths.length, fun σ' H' hN => ?_, ?_⟩
      · obtain ⟨o5, o6, paths', qs', e, rf', bf', ha'⟩ := hN
        have := bf'.few hf af.cl
        exact ⟨1000 - (a + 1), by omega, o5, o6, paths', qs', a + 1, rfl, e, rf', bf', ha'⟩
      refine ⟨_, rfl, _, rfl, L, _, _, _, rfl, rfl, SqL.of rf.eL, atI_nat eq1, ?_⟩
      have wP := bf.way P0 (List.mem_of_getElem? hP0)
      obtain ⟨q0, eq0⟩ := wP.last
      refine ⟨_, rfl, _, _, rfl, rfl, ?_⟩
      have hlast : atI (P0.map V.str) (-1) = some (V.str (lst P0)) := by
        rw [eq0, List.map_append, lst_snoc]
        exact L2.atI_last _ _
      have hlk : lst P0 ∈ l.map (·.1) := by
        rcases bf.par P0 (List.mem_of_getElem? hP0) with e | ⟨p, n, ⟨i, _, h⟩, e⟩
        · rw [e]
          exact hf
        · rw [e, lst_snoc]
          exact h.elim (fun z => af.cl _ _ z.2) fun z => af.cl _ _ (List.mem_of_mem_take z.2)
      obtain ⟨la, ev, el⟩ := af.val _ hlk
      have hsrt := af.srt (lst P0)
      refine ⟨_, rfl, _, rfl, _, rfl, pa, _, -1, _, rfl, rfl, SqT.of eq2, hlast, d, _, rfl, ?_, la, rfl, ⟨_, SqL.of (rf.s _ _ el)⟩, ?_⟩
      · rw [← ev, ← kvS_val]
        exact DGet.k (k := .inr (lst P0)) (rf.s _ _ af.dd)
      refine for_it (walk_list (K := K) (a := la) (xs := (g (lst P0)).map V.str)) (fun i σ Hz => ∃ (o6 : Option V) (paths : List (List Str)) (qs : List V), σ = [some (.str f), some (.ref d), some (.ref L), some (.ref M), some (.int ((a + 1 : Nat) : Int)), some (.ref pa), o6] ∧ RfH H Hz L M paths qs ∧ Bf g f paths a i ∧ paths[a]? = some P0 ∧ Hz pa = some (.tup (P0.map V.str))) ⟨_, paths, qs, rfl, rf, bf, hP0, eq2⟩ (fun i σ Hz _ y => ?_) (fun i x σ Hz He hi y e => ?_) (fun σ Hz y => ?_)
      · obtain ⟨_, _, _, _, rf, _⟩ := y
        exact SqL.of (rf.s _ _ el)
      · obtain ⟨rfl, ex⟩ := e
        obtain ⟨o6, paths, qs, rfl, rf, bf, hP0, eq2⟩ := y
        rw [List.length_map] at hi
        have hm : (g (lst P0))[i]? = some (g (lst P0))[i] := List.getElem?_eq_getElem hi
        rw [List.getElem?_map, hm] at ex
        cases ex
        have hmem := List.mem_of_getElem? hm
        generalize (g (lst P0))[i] = m at hm hmem ⊢
        have hfew := bf.few hf af.cl
        have hql := rf.ps.len
        refine ⟨_, rfl, _, rfl, rfl, _, rfl, ?_⟩
        refine ifB (fun c2 => ?_) (fun c2 => ?_)
        · have c2 : V.str m = V.str f := of_decide_eq_true c2
          cases c2
          exact ⟨_, rfl, q He (.ref pa) (some P0) rf.s (bf.found hP0 hmem) ⟨pa, rfl, eq2⟩⟩
        · have c2 : m ≠ f := fun z => of_decide_eq_false c2 (by rw [z])
          refine ⟨_, rfl, _, rfl, _, _, rfl, rfl, _, rfl, ?_⟩
          refine ifB (fun c3 => ?_) (fun c3 => ?_)
          case refine_2 =>
            have c3 : ¬ ltS f m := fun z => of_decide_eq_false c3 (ltS_iff.mp z)
            exact ⟨_, paths, qs, rfl, rf, bf.pass hP0 hm c2 fun z => (c3 z).elim, hP0, eq2⟩
          have c3 : ltS f m := ltS_iff.mpr (of_decide_eq_true c3)
          refine ⟨_, rfl, _, rfl, M, _, rfl, DGet.k (k := .inr m) rf.eM, _, rfl, ?_⟩
          rw [kvS_val, getS_some, mkV_keys]
          refine ifB (fun c4 => ?_) (fun c4 => ?_)
          case refine_2 =>
            have c4 : m ∈ paths.map lst := by simpa using c4
            exact ⟨_, paths, qs, rfl, rf, bf.pass hP0 hm c2 fun _ => c4, hP0, eq2⟩
          have c4 : m ∉ paths.map lst := by simpa using c4
          have nM : ∀ xs, He M ≠ some (.tup xs) := fun xs z => by rw [rf.eM] at z; cases z
          refine ⟨_, rfl, _, rfl, M, _, rfl, DPut.k (k := .inr m) rf.eM (by rw [kvS_len]; unfold mkV; rw [List.length_map, List.length_map]; exact Nat.lt_of_le_of_lt (show _ ≤ 900 by omega) (by decide)), ?_⟩
          rw [kvS_put (.bl true) (by rw [mkV_keys]; exact c4)]
          have hMs : mkV (paths.map lst) ++ [(m, V.bl true)] = mkV ((paths ++ [P0 ++ [m]]).map lst) := by
            unfold mkV
            rw [List.map_append, List.map_append, List.map_singleton, lst_snoc]
            rfl
          rw [hMs]
          have sm4 : Same H (upd He M (.dK (kvS (mkV ((paths ++ [P0 ++ [m]]).map lst))))) := same_mut rf.s hnM
          have tn4 : Tn He (upd He M (.dK (kvS (mkV ((paths ++ [P0 ++ [m]]).map lst))))) := Tn.put nM
          have eM4 : upd He M (.dK (kvS (mkV ((paths ++ [P0 ++ [m]]).map lst)))) M = some (.dK (kvS (mkV ((paths ++ [P0 ++ [m]]).map lst)))) := upd_same
          have eL4 : upd He M (.dK (kvS (mkV ((paths ++ [P0 ++ [m]]).map lst)))) L = some (.lst qs) := by rw [upd_ne (Ne.symm hML)]; exact rf.eL
          generalize upd He M (.dK (kvS (mkV ((paths ++ [P0 ++ [m]]).map lst)))) = H4 at sm4 tn4 eM4 eL4 ⊢
          refine ⟨_, rfl, .inl ⟨rfl, _, SqL.of eL4⟩, _, rfl, _, rfl, lenOk (n := 1) rfl (by decide), fun t1 ht1 => ?_⟩
          have s5 := same_new (o := .tup [V.str m]) ht1
          have e5 : upd H4 t1 (.tup [V.str m]) t1 = some (.tup [V.str m]) := upd_same
          generalize upd H4 t1 (.tup [V.str m]) = H5 at s5 e5 ⊢
          have hPne : P0.map V.str ≠ [] := fun z => wP.ne (List.map_eq_nil_iff.mp z)
          have hPl := bf.len a P0 hP0
          refine TD.catL (s5 _ _ (tn4 _ _ eq2)) hPne (SqT.of e5) (by rw [List.length_map]; show _ + 1 ≤ _; omega) fun p3 H6 s6 hp3 => ?_
          have s56 := s5.trans s6
          have eL6 := s56 _ _ eL4
          have tn6 : Tn H6 (upd H6 L (.lst (qs ++ [V.ref p3]))) := Tn.put fun xs z => by rw [eL6] at z; cases z
          refine ⟨L, qs, _, rfl, rfl, eL6, Nat.lt_of_le_of_lt (show _ ≤ 900 by omega) (by decide), ?_⟩
          have tn46 := tn4.trans ((Tn.of s56).trans tn6)
          have hp3' : H6 p3 = some (.tup ((P0 ++ [m]).map V.str)) := by rw [hp3, List.map_append]; rfl
          refine ⟨_, paths ++ [P0 ++ [m]], qs ++ [V.ref p3], rfl, ⟨same_mut (sm4.trans s56) hnL, upd_same, (rf.ps.tn tn46).app (.cons (tn6 _ _ hp3') .nil), by rw [upd_ne hML]; exact s56 _ _ eM4⟩, bf.add hP0 hm c3 c4 hsrt, ?_, tn46 _ _ eq2⟩
          rw [List.getElem?_append_left (List.getElem?_eq_some_iff.mp hP0).1]
          exact hP0
      · obtain ⟨o6, paths, qs, rfl, rf, bf, hP0, eq2⟩ := y
        rw [List.length_map] at bf
        exact ⟨_, _, paths, qs, rfl, rf, bf.next hP0 rfl, (List.getElem?_eq_some_iff.mp hP0).1⟩
    · have c1 : ¬ (a : Int) < (qs.length : Nat) := of_decide_eq_false c1
      have hal : a = paths.length := by omega
      subst hal
      exact q Hx .non none rf.s bf.none rfl
end
end R1

namespace R1
open PySem PySem.Spec PyProof.Rows L2 RK
local macro_rules | `(tactic| walk_at "sq") => `(tactic| first
  | exact SqL.of upd_same | exact upd_same | exact SqL.of (by assumption) | exact SqL.of (by rw [upd_ne (by assumption)]; assumption) | assumption)
local macro_rules | `(tactic| walk_at "sd") => `(tactic| first
  | assumption | omega | (refine Or.inl ⟨?_, ?_⟩ <;> omega) | (show _ ∧ _; constructor <;> omega) | (show _ ≠ _; simp; omega) | (exact Or.inl ⟨by decide, by decide⟩) | (exact Or.inr ⟨by decide, by decide⟩) | (show _ < _; decide) | (show _ ≤ _; decide))
local macro_rules | `(tactic| walk_at "at") => `(tactic| first | rfl | (refine atI_intV ?_ ?_ <;> omega) | assumption)
local macro_rules | `(tactic| walk_at "s1") => `(tactic| first
  | refine ⟨_, rfl, ?_⟩ | refine ⟨_, _, rfl, rfl, ?_⟩ | refine ⟨rfl, ?_⟩
  | refine ⟨_, _, _, _, rfl, rfl, by walk_at "sq", by walk_at "at", ?_⟩
  | refine Or.inl ⟨_, rfl, ?_⟩
  | refine ⟨_, _, rfl, Or.inl (by walk_at "sq"), ?_⟩
  | refine And.intro (by walk_at "sd") ?_)
local macro_rules | `(tactic| walk_at "s") => `(tactic| repeat walk_at "s1")

/-! lets: a dict of trees -/
structure LtH (H : Hp) (d : Addr) (l : SV) (t : Str → Tr) : Prop where
  dd : H d = some (.dK (kvS l))
  nd : (l.map (·.1)).Nodup
  val : ∀ p ∈ l, TrK H p.2 (t p.1)
  ok : ∀ x ∈ l.map (·.1), LT (t x) ∧ dep (t x) ≤ 12 ∧ (namT (t x)).length ≤ 100
  few : l.length ≤ 60
theorem LtH.up {H H' : Hp} {d : Addr} {l : SV} {t : Str → Tr} (h : LtH H d l t) (s : Same H H') : LtH H' d l t :=
  ⟨s _ _ h.dd, h.nd, fun p hp => (h.val p hp).ups s, h.ok, h.few⟩
def uF (ks : List Str) (t : Tr) : List Str := (namT t).filter fun y => decide (y ∈ ks)
def gU (ks : List Str) (t : Str → Tr) (x : Str) : List Str := if x ∈ ks then uF ks (t x) else []
def srtS (l : List Str) : List Str := l.mergeSort fun a b => decide (¬ ltS b a)
theorem leS_trans {a b c : Str} (h : ¬ ltS b a) (g : ¬ ltS c b) : ¬ ltS c a := fun z => by
  rcases ltS_tri a b with e | e | e
  · exact g (ltS_trans z e)
  · exact g (e ▸ z)
  · exact h e
theorem leS_anti (a b : Str) (h : ¬ ltS b a) (g : ¬ ltS a b) : a = b := by
  rcases ltS_tri a b with e | e | e
  · exact (g e).elim
  · exact e
  · exact (h e).elim
theorem srtS_pw (l : List Str) : (srtS l).Pairwise fun a b => ¬ ltS b a := by
  have := List.pairwise_mergeSort (le := fun a b => decide (¬ ltS b a)) (fun a b c h g => decide_eq_true (leS_trans (of_decide_eq_true h) (of_decide_eq_true g))) (fun a b => by
    rcases ltS_tri a b with e | e | e
    · rw [decide_eq_true (ltS_asym e)]; rfl
    · subst e
      rw [decide_eq_true (ltS_irr a)]; rfl
    · rw [decide_eq_true (ltS_asym e), Bool.or_true]) l
  exact this.imp fun h => of_decide_eq_true h
theorem srtS_perm (l : List Str) : (srtS l).Perm l := List.mergeSort_perm _ _
theorem srtS_of {l ms : List Str} (p : ms.Perm l) (h : ms.Pairwise fun a b => ¬ ltS b a) : ms = srtS l :=
  AT.sorted_one (le := fun a b => ¬ ltS b a) leS_anti ms (srtS l) (p.trans (srtS_perm l).symm) h (srtS_pw l)
def gP (ks : List Str) (t : Str → Tr) (x : Str) : List Str := srtS (gU ks t x)
theorem gP_mem {ks : List Str} {t : Str → Tr} {x y : Str} : y ∈ gP ks t x ↔ y ∈ gU ks t x := (srtS_perm _).mem_iff
theorem gU_in {ks : List Str} {t : Str → Tr} {x y : Str} (h : y ∈ gU ks t x) : y ∈ ks := by
  unfold gU at h
  split at h
  · exact of_decide_eq_true (List.mem_filter.mp h).2
  · cases h
theorem gU_dom {ks : List Str} {t : Str → Tr} {x y : Str} (h : y ∈ gU ks t x) : x ∈ ks := by
  unfold gU at h
  split at h
  · assumption
  · cases h
theorem Ch.congr {g h : Str → List Str} (e : ∀ x y, y ∈ g x → y ∈ h x) {l : List Str} (c : Ch g l) : Ch h l := fun i a b ha hb => e _ _ (c i a b ha hb)
theorem Ring.congr {g h : Str → List Str} (e : ∀ x y, y ∈ g x → y ∈ h x) {f : Str} {w : List Str} (r : Ring g f w) : Ring h f w := let ⟨s, e1, c, e2⟩ := r; ⟨s, e1, c.congr e, e2⟩
/-- the least ring of all that begin with one of these names -/
def Best (g : Str → List Str) (ns : List Str) : Option (List Str) → Prop
  | none => ∀ f ∈ ns, ∀ w, ¬ Ring g f w
  | some p => (∃ f ∈ ns, Ring g f p) ∧ ∀ f ∈ ns, ∀ w, Ring g f w → leW p w
theorem Best.congr {g h : Str → List Str} (e : ∀ x y, y ∈ g x ↔ y ∈ h x) {ns ms : List Str} (n : ∀ x, x ∈ ns ↔ x ∈ ms) : ∀ {o : Option (List Str)}, Best g ns o → Best h ms o
  | none, b => fun f hf w r => b f ((n f).mpr hf) w (r.congr fun x y => (e x y).mpr)
  | some p, ⟨⟨f, hf, r⟩, b⟩ => ⟨⟨f, (n f).mp hf, r.congr fun x y => (e x y).mp⟩, fun f hf w r => b f ((n f).mpr hf) w (r.congr fun x y => (e x y).mpr)⟩
theorem best_uniq {g : Str → List Str} {ns : List Str} : ∀ {a b : Option (List Str)}, Best g ns a → Best g ns b → a = b
  | none, none, _, _ => rfl
  | none, some p, h, ⟨⟨f, hf, r⟩, _⟩ => (h f hf p r).elim
  | some p, none, ⟨⟨f, hf, r⟩, _⟩, h => (h f hf p r).elim
  | some p, some q, ⟨⟨f, hf, r⟩, h⟩, ⟨⟨f', hf', r'⟩, h'⟩ => congrArg some (leW_anti (h f' hf' q r') (h' f hf p r))
theorem Best.skip {g : Str → List Str} {ns : List Str} {m : Str} {o : Option (List Str)} (b : Best g ns o) (h : Least g m none) : Best g (ns ++ [m]) o := by
  cases o with
  | none => exact fun f hf w r => (List.mem_append.mp hf).elim (fun z => b f z w r) fun z => h w (List.mem_singleton.mp z ▸ r)
  | some p =>
    obtain ⟨⟨f, hf, r⟩, b⟩ := b
    exact ⟨⟨f, List.mem_append_left _ hf, r⟩, fun f hf w r => (List.mem_append.mp hf).elim (fun z => b f z w r) fun z => (h w (List.mem_singleton.mp z ▸ r)).elim⟩
theorem Best.first {g : Str → List Str} {ns : List Str} {m : Str} {p : List Str} (b : Best g ns none) (h : Least g m (some p)) : Best g (ns ++ [m]) (some p) :=
  ⟨⟨m, List.mem_append_right _ (List.mem_singleton.mpr rfl), h.1⟩, fun f hf w r => (List.mem_append.mp hf).elim (fun z => (b f z w r).elim) fun z => h.2 w (List.mem_singleton.mp z ▸ r)⟩
theorem Best.take {g : Str → List Str} {ns : List Str} {m : Str} {p q : List Str} (b : Best g ns (some q)) (h : Least g m (some p)) (l : ltW p q) : Best g (ns ++ [m]) (some p) :=
  ⟨⟨m, List.mem_append_right _ (List.mem_singleton.mpr rfl), h.1⟩, fun f hf w r => (List.mem_append.mp hf).elim (fun z => leW_trans (.inr l) (b.2 f z w r)) fun z => h.2 w (List.mem_singleton.mp z ▸ r)⟩
theorem Best.keep {g : Str → List Str} {ns : List Str} {m : Str} {p q : List Str} (b : Best g ns (some q)) (h : Least g m (some p)) (l : leW q p) : Best g (ns ++ [m]) (some q) :=
  ⟨let ⟨f, hf, r⟩ := b.1; ⟨f, List.mem_append_left _ hf, r⟩, fun f hf w r => (List.mem_append.mp hf).elim (fun z => b.2 f z w r) fun z => leW_trans l (h.2 w (List.mem_singleton.mp z ▸ r))⟩
/-- of two rings as long as each other that which begins with the lesser name is less -/
theorem ring_lt {g : Str → List Str} {f m : Str} {p q : List Str} (hq : Ring g f q) (hp : Ring g m p) (l : ltS f m) (hl : ¬ p.length < q.length) : leW q p := by
  refine .inr ?_
  rcases Nat.lt_or_ge q.length p.length with z | z
  · exact .inl z
  · obtain ⟨r, rfl, _⟩ := hq
    obtain ⟨r', rfl, _⟩ := hp
    exact .inr ⟨by omega, .inl l⟩
def spLeast : Sp := fun vs H Q _ => ∃ (d : Addr) (l : SV) (t : Str → Tr), vs = [.ref d] ∧ LtH H d l t ∧
  ∀ H' v o, Same H H' → Best (gU (l.map (·.1)) t) (l.map (·.1)) o → RgO H' v o → Q v H'
section
variable {P : Program} {w : World} {K : PySem.W.Frag} {mg : Str → Option Value} {base : Heap} {A : Ads}
theorem ok_least_ring (T : Txt K mg A) : FnOk P w K mg base CX0 25 A.a_least_ring A.d_least_ring ["lets"] spLeast := by
  refine T.F_least_ring.ok sc_least_ring (fun vs H Q E h => ?_) (fun cdv B outer s H vs Q E hr h => ?_)
  · obtain ⟨d, l, t, rfl, _⟩ := h
    rfl
  · obtain ⟨d, l, t, rfl, lt, q⟩ := h
    refine ⟨_, (pss_cons (ps_lock (TD.ps_coreO (o0 := .dK []) TD.empK (i := 3) (own := [("name", 1)]) (TD.blk1 rfl (hu_of hr) sc_least_ring.nd (pi_keys (pv 0)) (blkOk_by (own := [("name", 1)]) (N := N_least_ring) (sc := defScope s_least_ring) (by decide +kernel)) (fun _ _ _ _ _ => pg_name (i := 1) sc_least_ring.nd rfl (Or.inl rfl)) (fun _ _ _ _ _ => pts_nil) (fun _ _ _ _ _ => by exact (pv 1)) (fun _ _ _ _ _ => by exact (pe_call (ok_ascending T) (hr.mono (by omega)) rfl T.g_ascending T.F_ascending.kp T.b_ascending .nil pass0 (pa_cons (pe_lc (own := [("other", 2)]) rfl sc_least_ring.nd (show PI _ _ _ (iList K _) from (pi_list (pe_call (ok_lets_in T) (hr.mono (by omega)) rfl T.g_lets_in T.F_lets_in.kp T.b_lets_in .nil pass0 (pa_cons (pe_dget (hu_of hr) (pv 0) (pv 1) (fun _ _ => rfl)) pa_nil)))) (blkOk_by (own := [("other", 2)]) (N := N_least_ring) (sc := { kind := ScopeKind.function, names := [(Str.ofString ".0", NameKind.local), (Str.ofString "name", NameKind.local), (Str.ofString "ascending", NameKind.globalImplicit), (Str.ofString "lets_in", NameKind.globalImplicit), (Str.ofString "lets", NameKind.cell)], isGenerator := false, isCoroutine := false }) (by decide +kernel)) (fun _ _ _ _ _ => pg_name (i := 2) sc_least_ring.nd rfl (Or.inl rfl)) (fun _ _ _ _ _ => pts_one (by exact (pt_cmp (pc_din (hu_of hr) (pv 2) (pv 0))))) (fun _ _ _ _ _ => by exact (pv 2))) pa_nil)))) rfl rfl (TD.swD rfl rfl rfl (by decide +kernel))))
    (pss_cons (ps_set (i := 4) sc_least_ring.nd rfl (.inl rfl) pe_non)
    (pss_cons (ps_for PassesOwn.never rfl (pi_list (pe_call (ok_ascendingD T) (hr.mono (by omega)) rfl T.g_ascending T.F_ascending.kp T.b_ascending .nil pass0 (pa_cons (pv 0) pa_nil))) (pg_name (i := 1) sc_least_ring.nd rfl (.inl rfl))
      (pss_cons (ps_set (i := 5) sc_least_ring.nd rfl (.inl rfl) (pe_call (ok_ring_from T) (hr.mono (by omega)) rfl T.g_ring_from T.F_ring_from.kp T.b_ring_from .nil pass0 (pa_cons (pv 1) (pa_cons (pv 3) pa_nil))))
    (pss_one (ps_if (PW.pt (pw_and (pt_cmpR op_notN (pv 5) pe_non (nomark _)) (pw_and1 (PW.pt (pw_or (pt_cmpR op_isN (pv 4) pe_non (nomark _)) (pw_or1 (pt_cmpR op_lt (pe_callB len_seq (by rfl) T.n_len (by decide +kernel) (pa_cons (pv 5) pa_nil)) (pe_callB len_seq (by rfl) T.n_len (by decide +kernel) (pa_cons (pv 4) pa_nil)) (nomark _)))))))) (pss_one (ps_set (i := 4) sc_least_ring.nd rfl (.inl rfl) (pv 5))) pss_nil))))
    (pss_one (ps_ret (pv 4)))))), ?_⟩
    obtain ⟨ks, hks⟩ : ∃ ks : List Str, ks = l.map (·.1) := ⟨_, rfl⟩
    have hkl : ks.length = l.length := by rw [hks, List.length_map]
    have hnd := lt.nd
    rw [← hks] at q hnd
    have few := lt.few
    refine ⟨d, _, lt.dd, trivial, fun od => ?_⟩
    have edf : upd H d (.frz od (.dK (kvS l))) d = some (.frz od (.dK (kvS l))) := upd_same
    have tnF : Tn H (upd H d (.frz od (.dK (kvS l)))) := Tn.put fun xs z => by rw [lt.dd] at z; cases z
    have back : ∀ {H' : Hp}, Same (upd H d (.frz od (.dK (kvS l)))) H' → Same H (upd H' d (.dK (kvS l))) := fun s => same_lock lt.dd s
    generalize upd H d (.frz od (.dK (kvS l))) = HF at edf tnF back ⊢
    refine ⟨_, rfl, d, od, rfl, .inl ⟨_, edf, ?_⟩⟩
    refine fun D hD => ?_
    have hDd : D ≠ d := fun z => by rw [z, edf] at hD; cases hD
    refine TD.way_itY (walk_keys (d := d) (o := od) (kvs := kvS l)) (k := 1) (vs := [1]) (by decide) (fun i Hc => Same HF Hc ∧ ∃ as : SV, Hc D = some (.dK (kvS as)) ∧ as.map (·.1) = ks.take i ∧ ∀ p ∈ as, ∃ a, p.2 = .ref a ∧ Hc a = some (.lst ((gP ks t p.1).map V.str))) ⟨same_new hD, [], upd_same, rfl, fun p hp => nomatch hp⟩ (fun i Hc _ h => h.1 _ _ edf) (fun i x Hc Hy hi hp y => ?_) (fun Hc hp => ?_)
    · obtain ⟨rfl, k0, v0, ek, rfl⟩ := y
      obtain ⟨s2, as, eD, eas, has⟩ := hp
      rw [kvS_len] at hi
      unfold kvS at ek
      rw [List.getElem?_map, List.getElem?_eq_getElem hi] at ek
      cases ek
      have hmem := List.getElem_mem hi
      have hk : ks[i]? = some l[i].1 := by rw [hks, List.getElem?_map, List.getElem?_eq_getElem hi]; rfl
      generalize l[i] = pr at *
      obtain ⟨x, v⟩ := pr
      have htk : ks.take (i + 1) = ks.take i ++ [x] := by rw [List.take_add_one, hk]; rfl
      have hgx : getS l x = some v := getS_of lt.nd hmem
      have hxk : x ∈ ks := List.mem_of_getElem? hk
      have htv := (((lt.val _ hmem).up tnF).ups s2)
      obtain ⟨o1, o2, o3⟩ := lt.ok x (by rw [← hks]; exact hxk)
      have ed2 := s2 _ _ edf
      refine ⟨_, rfl, _, rfl, _, rfl, d, v, rfl, ?_, ?_⟩
      · rw [← hgx, ← kvS_val]
        exact .inl ⟨_, .inr x, .inr ⟨od, ed2⟩, rfl, rfl⟩
      have hnew : x ∉ as.map (·.1) := by
        rw [eas]
        intro z
        obtain ⟨j, hj, e⟩ := List.mem_iff_getElem.mp z
        rw [List.length_take] at hj
        rw [List.getElem_take] at e
        obtain ⟨hi', e'⟩ := List.getElem?_eq_some_iff.mp hk
        have := (List.getElem_inj hnd).mp (e.trans e'.symm)
        omega
      have hal : as.length ≤ i := by
        have := congrArg List.length eas
        rw [List.length_map, List.length_take] at this
        omega
      dsimp (config := { proj := false }) only [tNil, List.append_nil]
      refine ⟨v, t x, rfl, htv, o1, o2, by omega, fun H3 p s3 n3 e3 => ?_⟩
      refine ⟨p, rfl, ⟨_, SqL.of e3⟩, fun D2 hD2 => ?_⟩
      have hnl : ((namT (t x)).map V.str).length = (namT (t x)).length := List.length_map _
      refine lc_ask (walk_list (K := K) (a := p) (xs := (namT (t x)).map V.str)) (k := 2) (fun j acc Hz => Same H3 Hz ∧ acc = (((namT (t x)).take j).filter fun y => decide (y ∈ ks)).map V.str) (by omega) ⟨same_new hD2, rfl⟩ (fun j acc Hz h => SqL.of (h.1 _ _ e3)) (fun j Hz x Hz' hj y => y.1) (fun j u acc Hz hj hacl hpz eDz y R fls tru => ?_) (fun acc Hz hacl hpz eDz => ?_)
      · obtain ⟨_, ex⟩ := y
        obtain ⟨sz, rfl⟩ := hpz
        rw [hnl] at hj
        have hz : (namT (t x))[j]? = some (namT (t x))[j] := List.getElem?_eq_getElem hj
        rw [List.getElem?_map, hz] at ex
        cases ex
        rw [List.take_add_one, hz] at fls tru
        generalize (namT (t x))[j] = z at *
        refine ⟨_, rfl, _, rfl, d, _, rfl, .inl ⟨_, .inr z, .inr ⟨od, (s3.trans sz) _ _ ed2⟩, rfl, rfl⟩, _, rfl, ?_⟩
        rw [kvS_val, getS_some, ← hks]
        by_cases c : z ∈ ks
        · rw [decide_eq_true c]
          refine tru Hz eDz fun Q2 q2 => ⟨_, rfl, q2 _ Hz eDz ⟨same_mut sz hD2, ?_⟩⟩
          rw [List.filter_append, List.map_append]
          simp [c]
        · rw [decide_eq_false c]
          refine fls Hz eDz ⟨sz, ?_⟩
          rw [List.filter_append]
          simp [c]
      · obtain ⟨sz, rfl⟩ := hpz
        rw [hnl, List.take_length] at eDz
        have hul : ((namT (t x)).filter fun y => decide (y ∈ ks)).length ≤ 100 := Nat.le_trans (List.length_filter_le _ _) o3
        have hgu : gU ks t x = (namT (t x)).filter fun y => decide (y ∈ ks) := by unfold gU; rw [if_pos hxk]; rfl
        refine ⟨D2, _, rfl, SqL.of eDz, by omega, fun H5 r ms s5 n5 e5 pm sm => ?_⟩
        have s35 := s3.trans (sz.trans s5)
        have eD5 := s35 _ _ eD
        have hrD : r ≠ D := fun z => by rw [z, (s3.trans sz) _ _ eD] at n5; cases n5
        refine ⟨_, DPut.k (k := .inr x) eD5 (by rw [kvS_len]; exact Nat.lt_of_le_of_lt (show _ ≤ 60 by omega) (by decide)), same_mut (s2.trans s35) hD, as ++ [(x, .ref r)], by rw [upd_same, kvS_put _ hnew], by rw [List.map_append, eas, htk]; rfl, fun p hp => ?_⟩
        rcases List.mem_append.mp hp with hp | hp
        · obtain ⟨a, e1, e2⟩ := has p hp
          exact ⟨a, e1, by rw [upd_ne (fun z : a = D => by rw [z, eD] at e2; cases e2)]; exact s35 _ _ e2⟩
        · rw [List.mem_singleton.mp hp]
          refine ⟨r, rfl, ?_⟩
          rw [upd_ne hrD, e5]
          rw [show ms = gP ks t x from by unfold gP; rw [hgu]; exact srtS_of pm sm]
    · obtain ⟨s2, as, eD, eas, has⟩ := hp
      rw [kvS_len, ← hkl, List.take_length] at eas
      refine ⟨s2 _ _ edf, ?_⟩
      have s3 := back s2
      have eD3 : upd Hc d (.dK (kvS l)) D = some (.dK (kvS as)) := by rw [upd_ne hDd]; exact eD
      have tn3 : ∀ (a : Addr) (xs : List V), Hc a = some (.lst xs) → upd Hc d (.dK (kvS l)) a = some (.lst xs) := fun a xs e => by
        rw [upd_ne (fun z : a = d => by rw [z, s2 _ _ edf] at e; cases e)]
        exact e
      generalize upd Hc d (.dK (kvS l)) = H4 at s3 eD3 tn3 ⊢
      have af : AfH H4 D as (gP ks t) := by
        refine ⟨eD3, by rw [eas]; exact hnd, fun x hx => ?_, fun x => srtS_pw _, fun x y h => by rw [eas]; exact gU_in (gP_mem.mp h), ?_⟩
        · obtain ⟨p, hp, rfl⟩ := List.mem_map.mp hx
          obtain ⟨a, e1, e2⟩ := has p hp
          exact ⟨a, by rw [← e1]; exact getS_of (by rw [eas]; exact hnd) hp, tn3 _ _ e2⟩
        · have := congrArg List.length eas
          rw [List.length_map] at this
          omega
      refine ⟨_, rfl, ?_⟩
      refine ⟨d, l, rfl, s3 _ _ lt.dd, by omega, fun H5 r ms s5 n5 e5 pm sm => ?_⟩
      rw [← hks] at pm
      have hms : (ms.map V.str).length = ms.length := List.length_map _
      have mnd : ms.Nodup := pm.nodup_iff.mpr hnd
      refine ⟨r, rfl, ⟨_, SqL.of e5⟩, ?_⟩
      refine for_it (walk_list (K := K) (a := r) (xs := ms.map V.str)) (fun i σ Hz => ∃ (o1 o5 : Option V) (vb : V) (o : Option (List Str)), σ = [some (.ref d), o1, none, some (.ref D), some vb, o5] ∧ Same H5 Hz ∧ Best (gP ks t) (ms.take i) o ∧ RgO Hz vb o) ⟨none, none, .non, none, rfl, Same.refl _, (fun f hf => by rw [List.take_zero] at hf; cases hf), rfl⟩ (fun i σ Hz _ y => ?_) (fun i x σ Hz He hi y e => ?_) (fun σ Hz y => ?_)
      · obtain ⟨_, _, _, _, _, sm, _⟩ := y
        exact SqL.of (sm _ _ e5)
      · obtain ⟨rfl, ex⟩ := e
        obtain ⟨o1, o5, vb, o, rfl, sz, bo, hvb⟩ := y
        rw [hms] at hi
        have hm : ms[i]? = some ms[i] := List.getElem?_eq_getElem hi
        rw [List.getElem?_map, hm] at ex
        cases ex
        have hpre : ∀ f ∈ ms.take i, ltS f ms[i] := fun f hf => by
          obtain ⟨j, hj, rfl⟩ := List.mem_iff_getElem.mp hf
          rw [List.length_take] at hj
          rw [List.getElem_take]
          have h1 := List.pairwise_iff_getElem.mp sm j i (by omega) hi (by omega)
          have h2 : ms[j] ≠ ms[i] := fun z => by
            have := (List.getElem_inj mnd).mp z
            omega
          rcases ltS_tri ms[j] ms[i] with z | z | z
          · exact z
          · exact (h2 z).elim
          · exact (h1 z).elim
        have htk : ms.take (i + 1) = ms.take i ++ [ms[i]] := by rw [List.take_add_one, hm]; rfl
        have hmk : ms[i] ∈ ks := pm.mem_iff.mp (List.getElem_mem hi)
        rw [htk]
        generalize ms.take i = pre at *
        generalize ms[i] = m at *
        refine ⟨_, rfl, _, rfl, m, D, as, gP ks t, rfl, af.up (s5.trans sz), by rw [eas]; exact hmk, fun H6 v r0 s6 le hv => ?_⟩
        have s56 := sz.trans s6
        cases r0 with
        | none =>
          have hv : v = .non := hv
          subst hv
          refine ⟨_, rfl, rfl, _, rfl, ?_⟩
          exact ifF rfl ⟨_, _, vb, o, rfl, s56, bo.skip le, hvb.up s6⟩
        | some p =>
          obtain ⟨a, rfl, ea⟩ := hv
          refine ⟨_, rfl, rfl, _, rfl, ?_⟩
          refine ifT rfl ?_
          cases o with
          | none =>
            have hvb : vb = .non := hvb
            subst hvb
            refine ⟨_, rfl, rfl, _, rfl, ?_⟩
            refine ifT rfl ?_
            exact ifT rfl ⟨_, rfl, _, _, .ref a, some p, rfl, s56, bo.first le, a, rfl, ea⟩
          | some b =>
            obtain ⟨a2, rfl, ea2⟩ := hvb
            refine ⟨_, rfl, rfl, _, rfl, ?_⟩
            refine ifF rfl ?_
            have hpl : (p.map V.str).length = p.length := List.length_map _
            have hbl : (b.map V.str).length = b.length := List.length_map _
            refine ⟨_, rfl, a, _, rfl, .inr (SqT.of ea), _, rfl, a2, _, rfl, .inr (SqT.of (s6 _ _ ea2)), _, _, rfl, rfl, _, rfl, ?_⟩
            rw [hpl, hbl]
            refine ifB (fun c => ?_) (fun c => ?_)
            · have c : (p.length : Int) < (b.length : Nat) := of_decide_eq_true c
              exact ⟨_, rfl, _, _, .ref a, some p, rfl, s56, bo.take le (.inl (by omega)), a, rfl, ea⟩
            · have c : ¬ (p.length : Int) < (b.length : Nat) := of_decide_eq_false c
              obtain ⟨f, hf, rf⟩ := bo.1
              exact ⟨_, _, .ref a2, some b, rfl, s56, bo.keep le (ring_lt rf le.1 (hpre f hf) (by omega)), a2, rfl, s6 _ _ ea2⟩
      · obtain ⟨o1, o5, vb, o, rfl, sz, bo, hvb⟩ := y
        rw [hms, List.take_length] at bo
        exact ⟨_, rfl, q Hz vb o (s3.trans (s5.trans sz)) (bo.congr (fun x y => gP_mem) fun x => pm.mem_iff) hvb⟩
end
end R1

namespace R1
open PySem PySem.Spec PyProof.Rows L2 RK
local macro_rules | `(tactic| walk_at "sq") => `(tactic| first
  | exact SqL.of upd_same | exact upd_same | exact SqL.of (by assumption) | exact SqL.of (by rw [upd_ne (by assumption)]; assumption) | assumption)
local macro_rules | `(tactic| walk_at "sd") => `(tactic| first
  | assumption | omega | (refine Or.inl ⟨?_, ?_⟩ <;> omega) | (show _ ∧ _; constructor <;> omega) | (show _ ≠ _; simp; omega) | (exact Or.inl ⟨by decide, by decide⟩) | (exact Or.inr ⟨by decide, by decide⟩) | (show _ < _; decide) | (show _ ≤ _; decide))
local macro_rules | `(tactic| walk_at "at") => `(tactic| first | rfl | (refine atI_intV ?_ ?_ <;> omega) | assumption)
local macro_rules | `(tactic| walk_at "s1") => `(tactic| first
  | refine ⟨_, rfl, ?_⟩ | refine ⟨_, _, rfl, rfl, ?_⟩ | refine ⟨rfl, ?_⟩
  | refine ⟨_, _, _, _, rfl, rfl, by walk_at "sq", by walk_at "at", ?_⟩
  | refine Or.inl ⟨_, rfl, ?_⟩
  | refine ⟨_, _, rfl, Or.inl (by walk_at "sq"), ?_⟩
  | refine And.intro (by walk_at "sd") ?_)
local macro_rules | `(tactic| walk_at "s") => `(tactic| repeat walk_at "s1")

/-! where no ring is, some name uses none of those that are left -/
theorem least_of : ∀ S : List Str, S ≠ [] → ∃ m ∈ S, ∀ x ∈ S, ¬ ltS x m
  | [], h => (h rfl).elim
  | [a], _ => ⟨a, List.mem_cons_self, fun x hx => by rw [List.mem_singleton.mp hx]; exact ltS_irr a⟩
  | a :: b :: S, _ => by
    obtain ⟨m, hm, h⟩ := least_of (b :: S) (List.cons_ne_nil _ _)
    by_cases z : ltS a m
    · exact ⟨a, List.mem_cons_self, fun x hx => (List.mem_cons.mp hx).elim (fun e => e ▸ ltS_irr a) fun hx y => h x hx (ltS_trans y z)⟩
    · exact ⟨m, List.mem_cons_of_mem _ hm, fun x hx => (List.mem_cons.mp hx).elim (fun e => e ▸ z) (h x)⟩
theorem filter_lt {p : Str → Bool} : ∀ {S : List Str} {m : Str}, m ∈ S → p m = false → (S.filter p).length < S.length
  | a :: S, m, h, e => by
    rcases List.mem_cons.mp h with h | h
    · subst h
      rw [List.filter_cons_of_neg (by rw [e]; decide)]
      exact Nat.lt_succ_of_le (List.length_filter_le _ _)
    · have ih := filter_lt h e
      cases c : p a with
      | true => rw [List.filter_cons_of_pos c]; exact Nat.succ_lt_succ ih
      | false => rw [List.filter_cons_of_neg (by rw [c]; decide)]; exact Nat.lt_succ_of_lt ih
open Classical in
theorem progress {g : Str → List Str} (no : ∀ f w, ¬ Ring g f w) : ∀ (n : Nat) (S : List Str), S.length ≤ n → S ≠ [] → ∃ x ∈ S, ∀ y ∈ g x, y ∉ S
  | 0, S, h, hne => (hne (List.eq_nil_of_length_eq_zero (by omega))).elim
  | n + 1, S, h, hne => by
    obtain ⟨m, hm, hml⟩ := least_of S hne
    have up : ∀ x ∈ S, x ≠ m → ltS m x := fun x hx e => by
      rcases ltS_tri m x with z | z | z
      · exact z
      · exact (e z.symm).elim
      · exact (hml x hx z).elim
    let R : List Str := S.filter fun x => decide (∃ r, Ch g (m :: r ++ [x]) ∧ ∀ z ∈ r ++ [x], ltS m z)
    have hR : ∀ x, x ∈ R ↔ x ∈ S ∧ ∃ r, Ch g (m :: r ++ [x]) ∧ ∀ z ∈ r ++ [x], ltS m z := fun x => by
      show x ∈ List.filter _ S ↔ _
      rw [List.mem_filter, decide_eq_true_eq]
    have hlt : R.length < S.length := filter_lt hm (decide_eq_false fun ⟨r, _, z⟩ => ltS_irr m (z m (List.mem_append_right _ (List.mem_singleton.mpr rfl))))
    by_cases hx : ∃ x ∈ S, ∀ y ∈ g x, y ∉ S
    · exact hx
    have al : ∀ x ∈ S, ∃ y ∈ g x, y ∈ S := fun x hxs => by
      apply Classical.byContradiction
      intro z
      exact hx ⟨x, hxs, fun y hy hyS => z ⟨y, hy, hyS⟩⟩
    obtain ⟨y, hy, hyS⟩ := al m hm
    have c1 : Ch g [m, y] := Ch.cons hy (Ch.one y)
    have hym : y ≠ m := fun e => no m [m] ⟨[], rfl, by rw [e] at c1; exact c1, fun x hx => nomatch hx⟩
    have hyR : y ∈ R := (hR y).mpr ⟨hyS, [], c1, fun z hz => by rw [List.mem_singleton.mp hz]; exact up y hyS hym⟩
    obtain ⟨x, hxR, hx2⟩ := progress no n R (by omega) (fun z => by rw [z] at hyR; cases hyR)
    obtain ⟨hxS, r, c, hr⟩ := (hR x).mp hxR
    obtain ⟨u, hu, huS⟩ := al x hxS
    have c2 : Ch g ((m :: r ++ [x]) ++ [u]) := Ch.snoc (p := m :: r) c hu
    by_cases e : u = m
    · subst e
      exact (no u (u :: r ++ [x]) ⟨r ++ [x], rfl, c2, hr⟩).elim
    · refine (hx2 u hu ((hR u).mpr ⟨huS, r ++ [x], c2, fun z hz => ?_⟩)).elim
      rcases List.mem_append.mp hz with hz | hz
      · exact hr z hz
      · rw [List.mem_singleton.mp hz]
        exact up u huS e
/-! what trees tell -/
def kHome : List Key := [.inr (Str.ofString "home")]
def kLet (x : Str) : List Key := [.inr (Str.ofString "let"), .inr x]
def evT (hm : Option Int) (r : Str → Option Int) : Tr → Option Int
  | .num n => bnd (some n)
  | .one _ => bnd hm
  | .two _ x => bnd (r x)
  | .un op t => match evT hm r t with
    | none => none
    | some v => some (unO op v)
  | .bin op a b => match evT hm r a, evT hm r b with
    | some x, some y => bnd (resO op x y)
    | _, _ => none
theorem val_ev {kvs : List (List Key × V)} : ∀ {t : Tr}, LT t → val kvs t = evT (lk kvs kHome) (fun x => lk kvs (kLet x)) t
  | .num _, _ => rfl
  | .one w, h => by
    have h : w = _ := h
    subst h
    rfl
  | .two w x, h => by
    have h : w = _ := h.1
    subst h
    rfl
  | .un op t, h => by
    unfold val evT
    rw [val_ev h.2]
    all_goals (cases evT (lk kvs kHome) (fun x => lk kvs (kLet x)) t <;> rfl)
  | .bin op a b, h => by
    unfold val evT
    rw [val_ev h.2.1, val_ev h.2.2]
    all_goals (cases evT (lk kvs kHome) (fun x => lk kvs (kLet x)) a <;> cases evT (lk kvs kHome) (fun x => lk kvs (kLet x)) b <;> rfl)
theorem ev_congr {hm : Option Int} {r s : Str → Option Int} : ∀ {t : Tr}, (∀ x ∈ namT t, r x = s x) → evT hm r t = evT hm s t
  | .num _, _ => rfl
  | .one _, _ => rfl
  | .two _ x, h => by
    unfold evT
    rw [h x List.mem_cons_self]
  | .un op t, h => by
    unfold evT
    rw [ev_congr (t := t) h]
  | .bin op a b, h => by
    unfold evT
    rw [ev_congr (t := a) fun x hx => h x (List.mem_append_left _ hx), ev_congr (t := b) fun x hx => h x (List.mem_append_right _ hx)]
abbrev OV := List (Str × Option Int)
def getO : OV → Str → Option Int
  | [], _ => none
  | p :: r, x => if p.1 = x then p.2 else getO r x
theorem getO_app {x : Str} {ex : OV} : ∀ {fs : OV}, x ∈ fs.map (·.1) → getO (fs ++ ex) x = getO fs x
  | p :: fs, h => by
    show (if p.1 = x then p.2 else getO (fs ++ ex) x) = if p.1 = x then p.2 else getO fs x
    by_cases e : p.1 = x
    · rw [if_pos e, if_pos e]
    · rw [if_neg e, if_neg e, getO_app ((List.mem_cons.mp h).elim (fun z => (e z.symm).elim) id)]
theorem getO_mem {x : Str} {v : Option Int} : ∀ {fs : OV}, (fs.map (·.1)).Nodup → (x, v) ∈ fs → getO fs x = v
  | p :: fs, n, h => by
    obtain ⟨n1, n2⟩ := List.nodup_cons.mp n
    show (if p.1 = x then p.2 else getO fs x) = v
    rcases List.mem_cons.mp h with h | h
    · rw [← h, if_pos rfl]
    · rw [if_neg fun e => n1 (List.mem_map.mpr ⟨_, h, e.symm⟩), getO_mem n2 h]
theorem getO_new {x y : Str} {v : Option Int} {fs : OV} (h : x ∉ fs.map (·.1)) : getO (fs ++ [(x, v)]) y = if y ∈ fs.map (·.1) then getO fs y else if x = y then v else none := by
  induction fs with
  | nil => rfl
  | cons p fs ih =>
    show (if p.1 = y then p.2 else getO (fs ++ [(x, v)]) y) = if y ∈ p.1 :: fs.map (·.1) then (if p.1 = y then p.2 else getO fs y) else _
    by_cases e : p.1 = y
    · rw [if_pos e, if_pos (by rw [e]; exact List.mem_cons_self), if_pos e]
    · rw [if_neg e, if_neg e, ih fun z => h (List.mem_cons_of_mem _ z)]
      by_cases m : y ∈ fs.map (·.1)
      · rw [if_pos m, if_pos (List.mem_cons_of_mem _ m)]
      · rw [if_neg m, if_neg fun z => (List.mem_cons.mp z).elim (fun w => e w.symm) m]
theorem nm_snoc {fs : OV} {x : Str} {v : Option Int} : (fs ++ [(x, v)]).map (·.1) = fs.map (·.1) ++ [x] := by rw [List.map_append]; rfl
/-- what a let's name stands for: among the lets, what was found; else a fact -/
def rho (ks : List Str) (F : Str → Option Int) (r : Str → Option Int) (y : Str) : Option Int := if y ∈ ks then r y else F y
structure FsI (ks : List Str) (t : Str → Tr) (hm : Option Int) (F : Str → Option Int) (fs : OV) : Prop where
  nd : (fs.map (·.1)).Nodup
  sub : ∀ x ∈ fs.map (·.1), x ∈ ks
  us : ∀ x ∈ fs.map (·.1), ∀ y ∈ uF ks (t x), y ∈ fs.map (·.1)
  vl : ∀ p ∈ fs, p.2 = evT hm (rho ks F (getO fs)) (t p.1)
theorem FsI.nil {ks : List Str} {t : Str → Tr} {hm : Option Int} {F : Str → Option Int} : FsI ks t hm F [] := ⟨List.nodup_nil, (fun x h => nomatch h), (fun x h => nomatch h), (fun p h => nomatch h)⟩
theorem uF_mem {ks : List Str} {t : Tr} {y : Str} : y ∈ uF ks t ↔ y ∈ namT t ∧ y ∈ ks := by
  unfold uF
  rw [List.mem_filter, decide_eq_true_eq]
theorem rho_app {ks : List Str} {F : Str → Option Int} {fs ex : OV} {t : Tr} {hm : Option Int} (h : ∀ y ∈ uF ks t, y ∈ fs.map (·.1)) : evT hm (rho ks F (getO (fs ++ ex))) t = evT hm (rho ks F (getO fs)) t := by
  refine ev_congr fun y hy => ?_
  unfold rho
  by_cases k : y ∈ ks
  · rw [if_pos k, if_pos k, getO_app (h y (uF_mem.mpr ⟨hy, k⟩))]
  · rw [if_neg k, if_neg k]
theorem FsI.add {ks : List Str} {t : Str → Tr} {hm : Option Int} {F : Str → Option Int} {fs : OV} (b : FsI ks t hm F fs) {x : Str} {v : Option Int} (hx : x ∉ fs.map (·.1)) (hk : x ∈ ks) (hu : ∀ y ∈ uF ks (t x), y ∈ fs.map (·.1)) (hv : v = evT hm (rho ks F (getO fs)) (t x)) : FsI ks t hm F (fs ++ [(x, v)]) := by
  refine ⟨?_, fun z hz => ?_, fun z hz y hy => ?_, fun p hp => ?_⟩
  · rw [nm_snoc]
    exact List.nodup_append.mpr ⟨b.nd, List.pairwise_singleton _ _, fun a ha c hc e => hx (by rw [List.mem_singleton] at hc; rw [← hc, ← e]; exact ha)⟩
  · rw [nm_snoc, List.mem_append, List.mem_singleton] at hz
    exact hz.elim (b.sub z) fun e => e ▸ hk
  · rw [nm_snoc, List.mem_append, List.mem_singleton] at hz
    rw [nm_snoc, List.mem_append]
    exact .inl (hz.elim (fun e => b.us z e y hy) fun (e : z = x) => hu y (e ▸ hy))
  · rcases List.mem_append.mp hp with hp | hp
    · rw [b.vl p hp]
      exact (rho_app (b.us p.1 (List.mem_map.mpr ⟨p, hp, rfl⟩))).symm
    · rw [List.mem_singleton.mp hp]
      rw [hv]
      exact (rho_app hu).symm
/-- the facts as they are known behind some lets -/
structure KnI (kn : List (List Key × V)) (hm : Option Int) (F : Str → Option Int) (fs : OV) : Prop where
  hom : lk kn kHome = hm
  lt : ∀ y, lk kn (kLet y) = if y ∈ fs.map (·.1) then getO fs y else F y
  ok : FOk kn
theorem lk_put {kn : List (List Key × V)} {k j : List Key} {v : Option Int} : lk (putK kn k (optI v)) j = if j = k then v else lk kn j := by
  unfold lk
  rw [valV_put]
  by_cases e : j = k
  · rw [if_pos e, if_pos e]
    cases v <;> rfl
  · rw [if_neg e, if_neg e]
theorem KnI.put {kn : List (List Key × V)} {hm : Option Int} {F : Str → Option Int} {fs : OV} (b : KnI kn hm F fs) {x : Str} {v : Option Int} (hx : x ∉ fs.map (·.1)) : KnI (putK kn (kLet x) (optI v)) hm F (fs ++ [(x, v)]) := by
  refine ⟨?_, fun y => ?_, fun k u e => ?_⟩
  · rw [lk_put, if_neg (by intro e; cases e), b.hom]
  · rw [lk_put, b.lt, nm_snoc, getO_new hx]
    by_cases e : y = x
    · subst e
      rw [if_pos rfl, if_pos (List.mem_append_right _ (List.mem_singleton.mpr rfl)), if_neg hx, if_pos rfl]
    · rw [if_neg (fun z => e (by have := (List.cons.inj (List.cons.inj z).2).1; exact Sum.inr.inj this))]
      by_cases m : y ∈ fs.map (·.1)
      · rw [if_pos m, if_pos (List.mem_append_left _ m), if_pos m]
      · rw [if_neg m, if_neg fun z => (List.mem_append.mp z).elim m fun z => e (List.mem_singleton.mp z)]
  · rw [valV_put] at e
    split at e
    · cases e
      cases v
      · exact .inl rfl
      · exact .inr ⟨_, rfl⟩
    · exact b.ok k u e
theorem KnI.val {kn : List (List Key × V)} {hm : Option Int} {F : Str → Option Int} {fs : OV} {ks : List Str} (b : KnI kn hm F fs) (hs : ∀ x ∈ fs.map (·.1), x ∈ ks) {t : Tr} (ht : LT t) (hu : ∀ y ∈ uF ks t, y ∈ fs.map (·.1)) : val kn t = evT hm (rho ks F (getO fs)) t := by
  rw [val_ev ht, b.hom]
  refine ev_congr fun y hy => ?_
  show lk kn (kLet y) = _
  rw [b.lt]
  unfold rho
  by_cases k : y ∈ ks
  · rw [if_pos (hu y (uF_mem.mpr ⟨hy, k⟩)), if_pos k]
  · rw [if_neg fun z => k (hs y z), if_neg k]
/-- all lets told, each by the others -/
def Told (ks : List Str) (t : Str → Tr) (hm : Option Int) (F : Str → Option Int) (r : Str → Option Int) : Prop := ∀ x ∈ ks, r x = evT hm (rho ks F r) (t x)
theorem FsI.told {ks : List Str} {t : Str → Tr} {hm : Option Int} {F : Str → Option Int} {fs : OV} (b : FsI ks t hm F fs) (h : ∀ x ∈ ks, x ∈ fs.map (·.1)) : Told ks t hm F (getO fs) := fun x hx => by
  obtain ⟨p, hp, rfl⟩ := List.mem_map.mp (h x hx)
  rw [getO_mem b.nd hp, ← b.vl p hp]
theorem told_uniq {ks : List Str} {t : Str → Tr} {hm : Option Int} {F r s : Str → Option Int} (no : ∀ f w, ¬ Ring (gU ks t) f w) (hr : Told ks t hm F r) (hs : Told ks t hm F s) : ∀ x ∈ ks, r x = s x := fun x hx => by
  apply Classical.byContradiction
  intro hne
  let S := ks.filter fun y => decide (r y ≠ s y)
  have hS : ∀ y, y ∈ S ↔ y ∈ ks ∧ r y ≠ s y := fun y => by
    show y ∈ List.filter _ ks ↔ _
    rw [List.mem_filter, decide_eq_true_eq]
  have h0 : x ∈ S := (hS x).mpr ⟨hx, hne⟩
  obtain ⟨y, hy, hu⟩ := progress no S.length S (Nat.le_refl _) (fun z => by rw [z] at h0; cases h0)
  obtain ⟨hyk, hyn⟩ := (hS y).mp hy
  refine hyn ?_
  rw [hr y hyk, hs y hyk]
  refine ev_congr fun z hz => ?_
  unfold rho
  by_cases k : z ∈ ks
  · rw [if_pos k, if_pos k]
    apply Classical.byContradiction
    intro e
    exact hu z (by unfold gU; rw [if_pos hyk]; exact uF_mem.mpr ⟨hz, k⟩) ((hS z).mpr ⟨k, e⟩)
  · rw [if_neg k, if_neg k]
end R1

namespace R1
open PySem PySem.Spec PyProof.Rows L2 RK
local macro_rules | `(tactic| walk_at "sq") => `(tactic| first
  | exact SqL.of upd_same | exact upd_same | exact SqL.of (by assumption) | exact SqL.of (by rw [upd_ne (by assumption)]; assumption) | assumption)
local macro_rules | `(tactic| walk_at "sd") => `(tactic| first
  | assumption | omega | (refine Or.inl ⟨?_, ?_⟩ <;> omega) | (show _ ∧ _; constructor <;> omega) | (show _ ≠ _; simp; omega) | (exact Or.inl ⟨by decide, by decide⟩) | (exact Or.inr ⟨by decide, by decide⟩) | (show _ < _; decide) | (show _ ≤ _; decide))
local macro_rules | `(tactic| walk_at "at") => `(tactic| first | rfl | (refine atI_intV ?_ ?_ <;> omega) | assumption)
local macro_rules | `(tactic| walk_at "s1") => `(tactic| first
  | refine ⟨_, rfl, ?_⟩ | refine ⟨_, _, rfl, rfl, ?_⟩ | refine ⟨rfl, ?_⟩
  | refine ⟨_, _, _, _, rfl, rfl, by walk_at "sq", by walk_at "at", ?_⟩
  | refine Or.inl ⟨_, rfl, ?_⟩
  | refine ⟨_, _, rfl, Or.inl (by walk_at "sq"), ?_⟩
  | refine And.intro (by walk_at "sd") ?_)
local macro_rules | `(tactic| walk_at "s") => `(tactic| repeat walk_at "s1")

theorem valV_at {kv : List (List Key × V)} {k : List Key} {v : V} : ∀ {kv : List (List Key × V)}, (kv.map (·.1)).Nodup → (k, v) ∈ kv → valV kv k = some v
  | p :: kv, n, h => by
    obtain ⟨n1, n2⟩ := List.nodup_cons.mp n
    rcases List.mem_cons.mp h with h | h
    · rw [← h, valV_pos rfl]
    · rw [valV_neg (fun e => n1 (List.mem_map.mpr ⟨_, h, e.symm⟩)), valV_at (kv := []) n2 h]
theorem putT_new {kv : List (List Key × V)} {k : List Key} {v : V} (h : k ∉ kv.map (·.1)) : putK kv k v = kv ++ [(k, v)] := by
  unfold putK
  rw [if_neg]
  intro z
  obtain ⟨p, hp, e⟩ := List.any_eq_true.mp z
  exact h (List.mem_map.mpr ⟨p, hp, of_decide_eq_true e⟩)
theorem take_new {α : Type} {l : List α} (n : l.Nodup) {i : Nat} {x : α} (h : l[i]? = some x) : x ∉ l.take i := fun z => by
  obtain ⟨j, hj, e⟩ := List.mem_iff_getElem.mp z
  rw [List.length_take] at hj
  rw [List.getElem_take] at e
  obtain ⟨hi, e'⟩ := List.getElem?_eq_some_iff.mp h
  have := (List.getElem_inj n).mp (e.trans e'.symm)
  omega
theorem kvS_drop (l : SV) (x : Str) : dropK (kvS l) (.inr x) = kvS (l.filter fun p => decide (p.1 ≠ x)) := by
  unfold dropK kvS
  rw [List.filter_map]
  congr 1
  refine List.filter_congr fun p _ => ?_
  show decide ((Sum.inr p.1 : Key) ≠ Sum.inr x) = decide (p.1 ≠ x)
  rw [decide_eq_decide]
  exact ⟨fun h e => h (by rw [e]), fun h e => h (Sum.inr.inj e)⟩
/-- the values found, as a dict's entries -/
def opV (fs : OV) : SV := fs.map fun p => (p.1, optI p.2)
theorem opV_names (fs : OV) : (opV fs).map (·.1) = fs.map (·.1) := by
  unfold opV
  rw [List.map_map]
  rfl
theorem opV_get {x : Str} : ∀ {fs : OV}, x ∈ fs.map (·.1) → getS (opV fs) x = some (optI (getO fs x))
  | p :: fs, h => by
    show (if p.1 = x then some (optI p.2) else getS (opV fs) x) = some (optI (if p.1 = x then p.2 else getO fs x))
    by_cases e : p.1 = x
    · rw [if_pos e, if_pos e]
    · rw [if_neg e, if_neg e, opV_get ((List.mem_cons.mp h).elim (fun z => (e z.symm).elim) id)]
theorem opV_put {fs : OV} {x : Str} {v : Option Int} (h : x ∉ fs.map (·.1)) : putK (kvS (opV fs)) (.inr x) (optI v) = kvS (opV (fs ++ [(x, v)])) := by
  rw [kvS_put _ (by rw [opV_names]; exact h)]
  unfold opV
  rw [List.map_append]
  rfl
def onV (ks : List Str) (r : Str → Option Int) : SV := ks.map fun x => (x, optI (r x))
/-- ready: uses none of those that are left -/
def rdy (ks : List Str) (t : Str → Tr) (ls : List Str) (x : Str) : Bool := !((uF ks (t x)).any fun y => decide (y ∈ ls))
/-- lists stay when a dict is changed -/
def Ln (H H' : Hp) : Prop := ∀ a xs, H a = some (.lst xs) → H' a = some (.lst xs)
theorem Ln.of {H H' : Hp} (s : Same H H') : Ln H H' := fun a xs e => s a _ e
theorem Ln.trans {H H1 H2 : Hp} (a : Ln H H1) (b : Ln H1 H2) : Ln H H2 := fun c xs e => b c xs (a c xs e)
theorem Ln.put {H : Hp} {p : Addr} {o : HO} (n : ∀ xs, H p ≠ some (.lst xs)) : Ln H (upd H p o) := fun b xs e => by
  rw [upd_ne (fun (z : b = p) => n xs (z ▸ e))]
  exact e
def LvH (Hx : Hp) (ks : List Str) (t : Str → Tr) (ls : SV) : Prop := ∀ p ∈ ls, ∃ a, p.2 = .ref a ∧ Hx a = some (.lst ((uF ks (t p.1)).map V.str))
theorem LvH.ln {H H' : Hp} {ks : List Str} {t : Str → Tr} {ls : SV} (h : LvH H ks t ls) (s : Ln H H') : LvH H' ks t ls := fun p hp => let ⟨a, e1, e2⟩ := h p hp; ⟨a, e1, s _ _ e2⟩
structure VsH (H Hx : Hp) (Kn L Fd : Addr) (ks : List Str) (t : Str → Tr) (kn : List (List Key × V)) (ls : SV) (fs : OV) : Prop where
  s : Same H Hx
  eK : Hx Kn = some (.dT kn)
  eL : Hx L = some (.dK (kvS ls))
  eF : Hx Fd = some (.dK (kvS (opV fs)))
  lv : LvH Hx ks t ls
theorem VsH.up {H Hx Hy : Hp} {Kn L Fd : Addr} {ks : List Str} {t : Str → Tr} {kn : List (List Key × V)} {ls : SV} {fs : OV} (h : VsH H Hx Kn L Fd ks t kn ls fs) (s : Same Hx Hy) : VsH H Hy Kn L Fd ks t kn ls fs :=
  ⟨h.s.trans s, s _ _ h.eK, s _ _ h.eL, s _ _ h.eF, h.lv.ln (Ln.of s)⟩
def spVals : Sp := fun vs H Q _ => ∃ (d f : Addr) (l : SV) (t : Str → Tr) (kv : List (List Key × V)), vs = [.ref d, .ref f] ∧ LtH H d l t ∧ H f = some (.dT kv) ∧ FOk kv ∧ (kv.map (·.1)).Nodup ∧ kv.length ≤ 100 ∧ (∀ g w, ¬ Ring (gU (l.map (·.1)) t) g w) ∧
  ∀ H' D r, Same H H' → H D = none → H' D = some (.dK (kvS (onV (l.map (·.1)) r))) → Told (l.map (·.1)) t (lk kv kHome) (fun y => lk kv (kLet y)) r → Q (.ref D) H'
section
variable {P : Program} {w : World} {K : PySem.W.Frag} {mg : Str → Option Value} {base : Heap} {A : Ads}
theorem ok_let_values (T : Txt K mg A) : FnOk P w K mg base CX0 30 A.a_let_values A.d_let_values ["lets", "facts"] spVals := by
  refine T.F_let_values.ok sc_let_values (fun vs H Q E h => ?_) (fun cdv B outer s H vs Q E hr h => ?_)
  · obtain ⟨d, f, l, t, kv, rfl, _⟩ := h
    rfl
  · obtain ⟨d, f, l, t, kv, rfl, lt, hf, fok, kvn, kvl, nor, q⟩ := h
    refine ⟨_, (pss_cons (ps_lock (TD.ps_coreO (o0 := .dT []) TD.empT (i := 3) (own := [("fact", 2)]) (TD.blk1 rfl (hu_of hr) sc_let_values.nd (pi_keys (pv 1)) (blkOk_by (own := [("fact", 2)]) (N := N_let_values) (sc := defScope s_let_values) (by decide +kernel)) (fun _ _ _ _ _ => pg_name (i := 2) sc_let_values.nd rfl (Or.inl rfl)) (fun _ _ _ _ _ => pts_nil) (fun _ _ _ _ _ => by exact (pv 2)) (fun _ _ _ _ _ => by exact (pe_dget (hu_of hr) (pv 1) (pv 2) (fun _ _ => rfl)))) rfl rfl (TD.swD rfl rfl rfl (by decide +kernel))))
    (pss_cons (ps_set (i := 6) sc_let_values.nd rfl (.inr rfl) (pe_lock (show PE _ _ (TD.tDcO (.dK []) _ _ _ _ _) from TD.pe_coreO TD.empK (own := [("name", 4)]) (TD.blk1 rfl (hu_of hr) sc_let_values.nd (pi_keys (pv 0)) (blkOk_by (own := [("name", 4)]) (N := N_let_values) (sc := defScope s_let_values) (by decide +kernel)) (fun _ _ _ _ _ => pg_name (i := 4) sc_let_values.nd rfl (Or.inl rfl)) (fun _ _ _ _ _ => pts_nil) (fun _ _ _ _ _ => by exact (pv 4)) (fun _ _ _ _ _ => by exact (pe_lc (own := [("other", 5)]) rfl sc_let_values.nd (show PI _ _ _ (iList K _) from (pi_list (pe_call (ok_lets_in T) (hr.mono (by omega)) rfl T.g_lets_in T.F_lets_in.kp T.b_lets_in .nil pass0 (pa_cons (pe_dget (hu_of hr) (pv 0) (pv 4) (fun _ _ => rfl)) pa_nil)))) (blkOk_by (own := [("other", 5)]) (N := N_let_values) (sc := { kind := ScopeKind.function, names := [(Str.ofString ".0", NameKind.local), (Str.ofString "name", NameKind.local), (Str.ofString "lets_in", NameKind.globalImplicit), (Str.ofString "lets", NameKind.cell)], isGenerator := false, isCoroutine := false }) (by decide +kernel)) (fun _ _ _ _ _ => pg_name (i := 5) sc_let_values.nd rfl (Or.inl rfl)) (fun _ _ _ _ _ => pts_one (by exact (pt_cmp (pc_din (hu_of hr) (pv 5) (pv 0))))) (fun _ _ _ _ _ => by exact (pv 5))))))))
    (pss_cons (ps_set (i := 7) sc_let_values.nd rfl (.inr rfl) pe_dnewK)
    (pss_cons (ps_while PassesOwn.never (pt_cmpR op_gt (pe_callB call_lenD (by rfl) T.n_len (by decide +kernel) (pa_cons (pv 6) pa_nil)) pe_int (nomark _)) (pss_cons (ps_lock (ps_setLc (i := 8) (own := [("name", 4)]) rfl sc_let_values.nd rfl rfl (sw_true rfl rfl rfl (by decide +kernel)) (pi_keys (pv 6)) (blkOk_by (own := [("name", 4)]) (N := N_let_values) (sc := defScope s_let_values) (by decide +kernel)) (fun _ _ _ _ _ => pg_name (i := 4) sc_let_values.nd rfl (Or.inl rfl)) (fun _ _ _ _ _ => pts_one (by exact (pt_not (pt_val (pe_callB (r := rAny K) (cr_any rfl) (by rfl) T.n_any (by decide +kernel) (pa_cons (pe_lc (own := [("other", 5)]) rfl sc_let_values.nd (show PI _ _ _ (iList K _) from (pi_list (pe_dget (hu_of hr) (pv 6) (pv 4) (fun _ _ => rfl)))) (blkOk_by (own := [("other", 5)]) (N := N_let_values) (sc := { kind := ScopeKind.function, names := [(Str.ofString ".0", NameKind.local), (Str.ofString "name", NameKind.local), (Str.ofString "any", NameKind.globalImplicit), (Str.ofString "left", NameKind.cell)], isGenerator := false, isCoroutine := false }) (by decide +kernel)) (fun _ _ _ _ _ => pg_name (i := 5) sc_let_values.nd rfl (Or.inl rfl)) (fun _ _ _ _ _ => pts_nil) (fun _ _ _ _ _ => by exact (pe_cmp (pc_din (hu_of hr) (pv 5) (pv 6)) rfl))) pa_nil)))))) (fun _ _ _ _ _ => by exact (pv 4))))
    (pss_cons (ps_for PassesOwn.never rfl (pi_list (pv 8)) (pg_name (i := 4) sc_let_values.nd rfl (.inl rfl))
      (pss_cons (ps_dput (hu_of hr) (pv 7) (pv 4) (pe_call (ok_value T 16) (hr.mono (by omega)) rfl T.g_value T.F_value.kp T.b_value .nil pass0 (pa_cons (pe_dget (hu_of hr) (pv 0) (pv 4) (fun _ _ => rfl)) (pa_cons (pv 3) pa_nil))) rfl)
    (pss_one (ps_ddel (pv 6) (pv 4)))))
    (pss_one (ps_for PassesOwn.never rfl (pi_list (pv 8)) (pg_name (i := 4) sc_let_values.nd rfl (.inl rfl))
      (pss_one (ps_dput (hu_of hr) (pv 3) (pe_tup (pa_cons pe_str (pa_cons (pv 4) pa_nil))) (pe_dget (hu_of hr) (pv 7) (pv 4) (fun _ _ => rfl)) rfl)))))))
    (pss_one (ps_ret (pe_lock (show PE _ _ (TD.tDcO (.dK []) _ _ _ _ _) from TD.pe_coreO TD.empK (own := [("name", 4)]) (TD.blk1 rfl (hu_of hr) sc_let_values.nd (pi_keys (pv 0)) (blkOk_by (own := [("name", 4)]) (N := N_let_values) (sc := defScope s_let_values) (by decide +kernel)) (fun _ _ _ _ _ => pg_name (i := 4) sc_let_values.nd rfl (Or.inl rfl)) (fun _ _ _ _ _ => pts_nil) (fun _ _ _ _ _ => by exact (pv 4)) (fun _ _ _ _ _ => by exact (pe_dget (hu_of hr) (pv 7) (pv 4) (fun _ _ => rfl)))))))))))), ?_⟩
    obtain ⟨ks, hks⟩ : ∃ ks : List Str, ks = l.map (·.1) := ⟨_, rfl⟩
    have hkl : ks.length = l.length := by rw [hks, List.length_map]
    have hnd := lt.nd
    rw [← hks] at q hnd nor
    have few := lt.few
    -- known
    refine ⟨f, _, hf, trivial, fun od => ?_⟩
    have edf : upd H f (.frz od (.dT kv)) f = some (.frz od (.dT kv)) := upd_same
    have back : ∀ {H' : Hp}, Same (upd H f (.frz od (.dT kv))) H' → Same H (upd H' f (.dT kv)) := fun s => same_lock hf s
    have fnone : ∀ {p : Addr}, upd H f (.frz od (.dT kv)) p = none → H p = none := fun {p} e => by
      by_cases z : p = f
      · rw [z, upd_same] at e; cases e
      · rwa [upd_ne z] at e
    generalize upd H f (.frz od (.dT kv)) = HF at edf back fnone ⊢
    refine ⟨_, rfl, f, od, rfl, .inr ⟨_, edf, ?_⟩⟩
    refine fun Kn hKn => ?_
    have hKf : Kn ≠ f := fun z => by rw [z, edf] at hKn; cases hKn
    refine TD.way_itY (walk_keysT (d := f) (o := od) (kvs := kv)) (k := 2) (vs := [2]) (by decide) (fun i Hc => Same HF Hc ∧ Hc Kn = some (.dT (kv.take i))) ⟨same_new hKn, upd_same⟩ (fun i Hc _ h => h.1 _ _ edf) (fun i x Hc Hy hi hp y => ?_) (fun Hc hp => ?_)
    · obtain ⟨rfl, k0, v0, qa, ek, rfl, eqa⟩ := y
      obtain ⟨s2, eD⟩ := hp
      have hmem : (k0, v0) ∈ kv := List.mem_of_getElem? ek
      have hv := valV_at (kv := []) kvn hmem
      have htk : kv.take (i + 1) = kv.take i ++ [(k0, v0)] := by rw [List.take_add_one, ek]; rfl
      have hnew : k0 ∉ (kv.take i).map (·.1) := by
        rw [List.map_take]
        exact take_new kvn (by rw [List.getElem?_map, ek]; rfl)
      refine ⟨_, rfl, _, rfl, _, rfl, f, v0, rfl, .inr ⟨kv, k0, qa, .inr ⟨od, s2 _ _ edf⟩, rfl, eqa, hv.symm⟩, _, DPut.t eD eqa (by rw [List.length_take]; exact Nat.lt_of_le_of_lt (show _ ≤ 100 by omega) (by decide)), same_mut s2 hKn, ?_⟩
      rw [upd_same, putT_new hnew, htk]
    obtain ⟨s2, eD⟩ := hp
    rw [List.take_length] at eD
    refine ⟨s2 _ _ edf, ?_⟩
    have s1 := back s2
    have hnK : H Kn = none := fnone hKn
    have eK1 : upd Hc f (.dT kv) Kn = some (.dT kv) := by rw [upd_ne hKf]; exact eD
    generalize upd Hc f (.dT kv) = H1 at s1 eK1 ⊢
    clear s2 eD back edf hKn fnone
    have lt1 := lt.up s1
    -- left
    have few1 := lt1.few
    have fl := lt1.dd
    refine ⟨d, _, fl, trivial, fun od2 => ?_⟩
    have edf : upd H1 d (.frz od2 (.dK (kvS l))) d = some (.frz od2 (.dK (kvS l))) := upd_same
    have hKd : Kn ≠ d := fun z => by rw [z, fl] at eK1; cases eK1
    have eK2 : upd H1 d (.frz od2 (.dK (kvS l))) Kn = some (.dT kv) := by rw [upd_ne hKd]; exact eK1
    have tnF : Tn H1 (upd H1 d (.frz od2 (.dK (kvS l)))) := Tn.put fun xs z => by rw [fl] at z; cases z
    have back : ∀ {H' : Hp}, Same (upd H1 d (.frz od2 (.dK (kvS l)))) H' → Same H1 (upd H' d (.dK (kvS l))) := fun s => same_lock fl s
    have fnone : ∀ {p : Addr}, upd H1 d (.frz od2 (.dK (kvS l))) p = none → H1 p = none := fun {p} e => by
      by_cases z : p = d
      · rw [z, upd_same] at e; cases e
      · rwa [upd_ne z] at e
    generalize upd H1 d (.frz od2 (.dK (kvS l))) = HF at edf eK2 tnF back fnone ⊢
    refine ⟨_, rfl, d, od2, rfl, .inl ⟨_, edf, ?_⟩⟩
    refine fun L hLn => ?_
    have hLd : L ≠ d := fun z => by rw [z, edf] at hLn; cases hLn
    have hLK : L ≠ Kn := fun z => by rw [z, eK2] at hLn; cases hLn
    refine TD.way_itY (walk_keys (d := d) (o := od2) (kvs := kvS l)) (k := 4) (vs := [4]) (by decide) (fun i Hc => Same HF Hc ∧ ∃ as : SV, Hc L = some (.dK (kvS as)) ∧ as.map (·.1) = ks.take i ∧ LvH Hc ks t as) ⟨same_new hLn, [], upd_same, rfl, fun p hp => nomatch hp⟩ (fun i Hc _ h => h.1 _ _ edf) (fun i x Hc Hy hi hp y => ?_) (fun Hc hp => ?_)
    · obtain ⟨rfl, k0, v0, ek, rfl⟩ := y
      obtain ⟨s2, as, eD, eas, has⟩ := hp
      rw [kvS_len] at hi
      unfold kvS at ek
      rw [List.getElem?_map, List.getElem?_eq_getElem hi] at ek
      cases ek
      have hmem := List.getElem_mem hi
      have hk : ks[i]? = some l[i].1 := by rw [hks, List.getElem?_map, List.getElem?_eq_getElem hi]; rfl
      generalize l[i] = pr at *
      obtain ⟨x, v⟩ := pr
      have htk : ks.take (i + 1) = ks.take i ++ [x] := by rw [List.take_add_one, hk]; rfl
      have hgx : getS l x = some v := getS_of lt.nd hmem
      have hxk : x ∈ ks := List.mem_of_getElem? hk
      have htv := (((lt1.val _ hmem).up tnF).ups s2)
      obtain ⟨o1, o2, o3⟩ := lt.ok x (by rw [← hks]; exact hxk)
      have ed2 := s2 _ _ edf
      have hnew : x ∉ as.map (·.1) := by
        rw [eas]
        exact take_new hnd hk
      have hal : as.length ≤ i := by
        have := congrArg List.length eas
        rw [List.length_map, List.length_take] at this
        omega
      refine ⟨_, rfl, _, rfl, _, rfl, d, v, rfl, ?_, ?_⟩
      · rw [← hgx, ← kvS_val]
        exact .inl ⟨_, .inr x, .inr ⟨od2, ed2⟩, rfl, rfl⟩
      dsimp (config := { proj := false }) only [tNil, List.append_nil]
      refine ⟨v, t x, rfl, htv, o1, o2, by omega, fun H3 p s3 n3 e3 => ?_⟩
      refine ⟨p, rfl, ⟨_, SqL.of e3⟩, fun D2 hD2 => ?_⟩
      have hnl : ((namT (t x)).map V.str).length = (namT (t x)).length := List.length_map _
      refine lc_ask (walk_list (K := K) (a := p) (xs := (namT (t x)).map V.str)) (k := 5) (fun j acc Hz => Same H3 Hz ∧ acc = (((namT (t x)).take j).filter fun y => decide (y ∈ ks)).map V.str) (by omega) ⟨same_new hD2, rfl⟩ (fun j acc Hz h => SqL.of (h.1 _ _ e3)) (fun j Hz x Hz' hj y => y.1) (fun j u acc Hz hj hacl hpz eDz y R fls tru => ?_) (fun acc Hz hacl hpz eDz => ?_)
      · obtain ⟨_, ex⟩ := y
        obtain ⟨sz, rfl⟩ := hpz
        rw [hnl] at hj
        have hz : (namT (t x))[j]? = some (namT (t x))[j] := List.getElem?_eq_getElem hj
        rw [List.getElem?_map, hz] at ex
        cases ex
        rw [List.take_add_one, hz] at fls tru
        generalize (namT (t x))[j] = z at *
        refine ⟨_, rfl, _, rfl, d, _, rfl, .inl ⟨_, .inr z, .inr ⟨od2, (s3.trans sz) _ _ ed2⟩, rfl, rfl⟩, _, rfl, ?_⟩
        rw [kvS_val, getS_some, ← hks]
        by_cases c : z ∈ ks
        · rw [decide_eq_true c]
          refine tru Hz eDz fun Q2 q2 => ⟨_, rfl, q2 _ Hz eDz ⟨same_mut sz hD2, ?_⟩⟩
          rw [List.filter_append, List.map_append]
          simp [c]
        · rw [decide_eq_false c]
          refine fls Hz eDz ⟨sz, ?_⟩
          rw [List.filter_append]
          simp [c]
      · obtain ⟨sz, rfl⟩ := hpz
        rw [hnl, List.take_length] at eDz
        have s35 := s3.trans sz
        have eD5 := s35 _ _ eD
        have hrD : D2 ≠ L := fun z => by rw [z, s3 _ _ eD] at hD2; cases hD2
        have ln5 : Ln Hy (upd Hz L (.dK (putK (kvS as) (.inr x) (.ref D2)))) := (Ln.of s35).trans (Ln.put fun xs z => by rw [eD5] at z; cases z)
        refine ⟨_, DPut.k (k := .inr x) eD5 (by rw [kvS_len]; exact Nat.lt_of_le_of_lt (show _ ≤ 60 by omega) (by decide)), same_mut (s2.trans s35) hLn, as ++ [(x, .ref D2)], by rw [upd_same, kvS_put _ hnew], by rw [List.map_append, eas, htk]; rfl, fun p hp => ?_⟩
        rcases List.mem_append.mp hp with hp | hp
        · obtain ⟨a, e1, e2⟩ := has p hp
          exact ⟨a, e1, ln5 _ _ e2⟩
        · rw [List.mem_singleton.mp hp]
          exact ⟨D2, rfl, by rw [upd_ne hrD]; exact eDz⟩
    obtain ⟨s2, as, eD, eas, has⟩ := hp
    rw [kvS_len, ← hkl, List.take_length] at eas
    have ed3 := s2 _ _ edf
    refine ⟨ed3, ?_⟩
    have s12 := back s2
    have hnL : H L = none := s1.free (fnone hLn)
    have eK3 : upd Hc d (.dK (kvS l)) Kn = some (.dT kv) := by rw [upd_ne hKd]; exact s2 _ _ eK2
    have eL3 : upd Hc d (.dK (kvS l)) L = some (.dK (kvS as)) := by rw [upd_ne hLd]; exact eD
    have lv3 : LvH (upd Hc d (.dK (kvS l))) ks t as := has.ln (Ln.put fun xs z => by rw [ed3] at z; cases z)
    generalize upd Hc d (.dK (kvS l)) = H2 at s12 eK3 eL3 lv3 ⊢
    clear s2 eD back edf hLn fnone ed3 has tnF eK2
    have s2 := s1.trans s12
    -- found
    refine fun Fd hFd => ?_
    have hnF : H Fd = none := s2.free hFd
    have hFK : Fd ≠ Kn := fun z => by rw [z, eK3] at hFd; cases hFd
    have hFL : Fd ≠ L := fun z => by rw [z, eL3] at hFd; cases hFd
    have sF := same_new (o := .dK []) hFd
    have eF3 : upd H2 Fd (.dK []) Fd = some (.dK (kvS (opV []))) := upd_same
    generalize upd H2 Fd (.dK []) = H3 at sF eF3 ⊢
    have vs0 : VsH H H3 Kn L Fd ks t kv as [] := ⟨s2.trans sF, sF _ _ eK3, sF _ _ eL3, eF3, lv3.ln (Ln.of sF)⟩
    obtain ⟨F, hF⟩ : ∃ F : Str → Option Int, F = fun y => lk kv (kLet y) := ⟨_, rfl⟩
    obtain ⟨hm, hhm⟩ : ∃ hm : Option Int, hm = lk kv kHome := ⟨_, rfl⟩
    have kn0 : KnI kv hm F [] := ⟨hhm.symm, fun y => by rw [hF]; rfl, fok⟩
    rw [← hF, ← hhm] at q
    have eas0 : as.map (·.1) = ks.filter fun x => decide (x ∉ ([] : OV).map (·.1)) := by
      rw [eas]
      exact (List.filter_eq_self.mpr fun x _ => decide_eq_true List.not_mem_nil).symm
    refine ⟨fun k σ Hx => ∃ (o2 o4 o5 o8 : Option V) (fs : OV) (kn : List (List Key × V)) (ls : SV), k = ls.length ∧ σ = [some (.ref d), some (.ref f), o2, some (.ref Kn), o4, o5, some (.ref L), some (.ref Fd), o8] ∧ VsH H Hx Kn L Fd ks t kn ls fs ∧ FsI ks t hm F fs ∧ KnI kn hm F fs ∧ ls.map (·.1) = (ks.filter fun x => decide (x ∉ fs.map (·.1))) ∧ kn.length ≤ 100 + fs.length, ⟨_, _, _, _, _, [], kv, as, rfl, rfl, vs0, FsI.nil, kn0, eas0, by omega⟩, fun k σ Hx hW => ?_⟩
    clear vs0 kn0 eas0 eas lv3 eF3 eL3 eK3 eK1 sF hFd s12 lt1 few1 fl
    obtain ⟨o2, o4, o5, o8, fs, kn, ls, rfl, rfl, vh, fi, ki, els, hkn⟩ := hW
    refine ⟨_, rfl, L, _, rfl, vh.eL, _, _, rfl, rfl, _, rfl, ?_⟩
    rw [kvS_len]
    refine ifB (fun c1 => ?_) (fun c1 => ?_)
    · have c1 : (0 : Int) < (ls.length : Nat) := of_decide_eq_true c1
      refine ⟨fun σ' H' => ∃ (o2 o4 o5 o8 : Option V) (fs' : OV) (kn' : List (List Key × V)) (ls' : SV), ls'.length < ls.length ∧ σ' = [some (.ref d), some (.ref f), o2, some (.ref Kn), o4, o5, some (.ref L), some (.ref Fd), o8] ∧ VsH H H' Kn L Fd ks t kn' ls' fs' ∧ FsI ks t hm F fs' ∧ KnI kn' hm F fs' ∧ ls'.map (·.1) = (ks.filter fun x => decide (x ∉ fs'.map (·.1))) ∧ kn'.length ≤ 100 + fs'.length, fun σ' H' hN => ?_, ?_⟩
      · obtain ⟨o2, o4, o5, o8, fs', kn', ls', hlt, e, r⟩ := hN
        exact ⟨_, hlt, o2, o4, o5, o8, fs', kn', ls', rfl, e, r⟩
      obtain ⟨lns, hlns⟩ : ∃ lns : List Str, lns = ls.map (·.1) := ⟨_, rfl⟩
      have hll : lns.length = ls.length := by rw [hlns, List.length_map]
      rw [← hlns] at els
      have hl60 : lns.length ≤ 60 := by
        rw [els]
        exact Nat.le_trans (List.length_filter_le _ _) (by omega)
      have lnd : lns.Nodup := by rw [els]; exact hnd.sublist List.filter_sublist
      have lin : ∀ x, x ∈ lns ↔ x ∈ ks ∧ x ∉ fs.map (·.1) := fun x => by rw [els, List.mem_filter, decide_eq_true_eq]
      have eL := vh.eL
      refine ⟨L, _, eL, trivial, fun od3 => ?_⟩
      have edf : upd Hx L (.frz od3 (.dK (kvS ls))) L = some (.frz od3 (.dK (kvS ls))) := upd_same
      have lvF : LvH (upd Hx L (.frz od3 (.dK (kvS ls)))) ks t ls := vh.lv.ln (Ln.put fun xs z => by rw [eL] at z; cases z)
      have back : ∀ {H' : Hp}, Same (upd Hx L (.frz od3 (.dK (kvS ls)))) H' → Same Hx (upd H' L (.dK (kvS ls))) := fun s => same_lock eL s
      generalize upd Hx L (.frz od3 (.dK (kvS ls))) = HF at edf lvF back ⊢
      refine ⟨_, rfl, L, od3, rfl, .inl ⟨_, edf, ?_⟩⟩
      refine fun Rr hR => ?_
      have hRL : Rr ≠ L := fun z => by rw [z, edf] at hR; cases hR
      refine lc_ask (walk_keys (d := L) (o := od3) (kvs := kvS ls)) (k := 4) (fun j acc Hz => Same HF Hz ∧ acc = ((lns.take j).filter (rdy ks t lns)).map V.str) (by rw [kvS_len]; omega) ⟨same_new hR, rfl⟩ (fun j acc Hz h => h.1 _ _ edf) (fun j Hz x Hz' hj y => y.1) (fun j u acc Hz hj hacl hpz eDz y R fls tru => ?_) (fun acc Hz hacl hpz eDz => ?_)
      · obtain ⟨_, k0, v0, ek, rfl⟩ := y
        obtain ⟨sz, rfl⟩ := hpz
        rw [kvS_len] at hj
        unfold kvS at ek
        rw [List.getElem?_map, List.getElem?_eq_getElem hj] at ek
        cases ek
        have hmem := List.getElem_mem hj
        have hz : lns[j]? = some ls[j].1 := by rw [hlns, List.getElem?_map, List.getElem?_eq_getElem hj]; rfl
        rw [List.take_add_one, hz] at fls tru
        obtain ⟨a, ea1, ea2⟩ := lvF _ hmem
        have hg : getS ls ls[j].1 = some ls[j].2 := getS_of (by rw [← hlns]; exact lnd) hmem
        generalize ls[j] = pr at *
        obtain ⟨x, v⟩ := pr
        have ea1 : v = .ref a := ea1
        subst ea1
        have hxk : x ∈ ks := ((lin x).mp (List.mem_of_getElem? hz)).1
        have ea3 := sz _ _ ea2
        have hul : (uF ks (t x)).length ≤ 100 := Nat.le_trans (List.length_filter_le _ _) (lt.ok x (by rw [← hks]; exact hxk)).2.2
        have hml : ((uF ks (t x)).map V.str).length = (uF ks (t x)).length := List.length_map _
        refine ⟨_, rfl, _, rfl, L, .ref a, rfl, ?_, a, rfl, ⟨_, SqL.of ea3⟩, fun D2 hD2 => ?_⟩
        · rw [← hg, ← kvS_val]
          exact .inl ⟨_, .inr x, .inr ⟨od3, sz _ _ edf⟩, rfl, rfl⟩
        refine lc_inv (walk_list (K := K) (a := a) (xs := (uF ks (t x)).map V.str)) (fun j v => ((uF ks (t x)).map V.str)[j]? = some v) (fun j ac Hy => Same Hz Hy ∧ ac = ((uF ks (t x)).take j).map fun y => V.bl (decide (y ∈ lns))) (by omega) ⟨same_new hD2, rfl⟩ (fun j ac Hy h => SqL.of (h.1 _ _ ea3)) (fun j Hy v Hy' hj y => y) (fun j v ac Hy hj hacl pv eDy hv Q2 q2 => ?_) (fun ac Hy hacl pv eDy => ?_)
        · obtain ⟨sy, rfl⟩ := pv
          rw [hml] at hj
          rw [List.getElem?_map, List.getElem?_eq_getElem hj] at hv
          cases hv
          have htk : (uF ks (t x)).take (j + 1) = (uF ks (t x)).take j ++ [(uF ks (t x))[j]] := by rw [List.take_add_one, List.getElem?_eq_getElem hj]; rfl
          generalize (uF ks (t x))[j] = z at *
          refine ⟨_, rfl, _, rfl, L, _, rfl, .inl ⟨_, .inr z, .inr ⟨od3, sy _ _ (sz _ _ edf)⟩, rfl, rfl⟩, ?_⟩
          rw [kvS_val, getS_some, ← hlns]
          exact q2 _ Hy eDy ⟨same_mut sy hD2, by rw [htk, List.map_append]; rfl⟩
        · obtain ⟨sy, rfl⟩ := pv
          rw [hml, List.take_length] at eDy
          refine ⟨D2, (uF ks (t x)).map fun y => decide (y ∈ lns), rfl, SqL.of (by rw [eDy, List.map_map]; rfl), _, rfl, ?_⟩
          rw [List.any_map]
          have hr : (!((uF ks (t x)).any (id ∘ fun y => decide (y ∈ lns)))) = rdy ks t lns x := rfl
          show R (!((uF ks (t x)).any (id ∘ fun y => decide (y ∈ lns)))) Hy
          rw [hr]
          have szy := sz.trans sy
          cases c : rdy ks t lns x with
          | true =>
            refine tru Hy (sy _ _ eDz) fun Q2 q2 => ⟨_, rfl, q2 _ Hy (sy _ _ eDz) ⟨same_mut szy hR, ?_⟩⟩
            rw [List.filter_append, List.map_append]
            simp [c, kV]
          | false =>
            refine fls Hy (sy _ _ eDz) ⟨szy, ?_⟩
            rw [List.filter_append]
            simp [c]
      obtain ⟨sz, rfl⟩ := hpz
      rw [kvS_len, ← hll, List.take_length] at eDz
      have edz := sz _ _ edf
      refine ⟨edz, ?_⟩
      have vh2 := vh.up (back sz)
      have eR2 : upd Hz L (.dK (kvS ls)) Rr = some (.lst ((lns.filter (rdy ks t lns)).map V.str)) := by rw [upd_ne hRL]; exact eDz
      generalize upd Hz L (.dK (kvS ls)) = H4 at vh2 eR2 ⊢
      obtain ⟨rs, hrs⟩ : ∃ rs : List Str, rs = lns.filter (rdy ks t lns) := ⟨_, rfl⟩
      rw [← hrs] at eR2
      have rnd : rs.Nodup := by rw [hrs]; exact lnd.sublist List.filter_sublist
      have rin : ∀ x, x ∈ rs → (x ∈ ks ∧ x ∉ fs.map (·.1)) ∧ ∀ y ∈ uF ks (t x), y ∈ fs.map (·.1) := fun x hx => by
        rw [hrs, List.mem_filter] at hx
        refine ⟨(lin x).mp hx.1, fun y hy => ?_⟩
        have h2 : (!((uF ks (t x)).any fun y => decide (y ∈ lns))) = true := hx.2
        rw [Bool.not_eq_true', List.any_eq_false] at h2
        have h3 : y ∉ lns := fun z => h2 y hy (decide_eq_true z)
        apply Classical.byContradiction
        intro z
        exact h3 ((lin y).mpr ⟨(uF_mem.mp hy).2, z⟩)
      have hrl : rs.length ≤ 60 := by rw [hrs]; exact Nat.le_trans (List.length_filter_le _ _) hl60
      have hfl : fs.length ≤ 60 := by
        have := memLenS (fs.map (·.1)) ks fi.nd fi.sub
        rw [List.length_map] at this
        omega
      clear back edf lvF edz eDz sz hacl hR vh
      have hrm : (rs.map V.str).length = rs.length := List.length_map _
      obtain ⟨ex, hex⟩ : ∃ ex : List Str → OV, ex = fun l => l.map fun x => (x, val kn (t x)) := ⟨_, rfl⟩
      have exn : ∀ l, (ex l).map (·.1) = l := fun l => by
        rw [hex]
        show (l.map fun x => (x, val kn (t x))).map (·.1) = l
        rw [List.map_map]
        exact List.map_id' _
      have exs : ∀ l x, ex (l ++ [x]) = ex l ++ [(x, val kn (t x))] := fun l x => by
        rw [hex]
        show List.map _ (l ++ [x]) = _
        rw [List.map_append]
        rfl
      have hval : ∀ x ∈ rs, val kn (t x) = evT hm (rho ks F (getO fs)) (t x) := fun x hx => ki.val fi.sub (lt.ok x (by rw [← hks]; exact (rin x hx).1.1)).1 (rin x hx).2
      refine ⟨_, rfl, Rr, rfl, ⟨_, SqL.of eR2⟩, ?_⟩
      refine for_it (walk_list (K := K) (a := Rr) (xs := rs.map V.str)) (fun i σ Hz => ∃ (o2 o4 o5 : Option V) (ls' : SV), σ = [some (.ref d), some (.ref f), o2, some (.ref Kn), o4, o5, some (.ref L), some (.ref Fd), some (.ref Rr)] ∧ VsH H Hz Kn L Fd ks t kn ls' (fs ++ ex (rs.take i)) ∧ Hz Rr = some (.lst (rs.map V.str)) ∧ FsI ks t hm F (fs ++ ex (rs.take i)) ∧ ls' = ls.filter (fun p => decide (p.1 ∉ rs.take i))) ⟨_, _, _, ls, rfl, by rw [List.take_zero, hex]; exact (List.append_nil fs).symm ▸ vh2, eR2, by rw [List.take_zero, hex]; exact (List.append_nil fs).symm ▸ fi, (List.filter_eq_self.mpr fun p _ => decide_eq_true (by rw [List.take_zero]; exact List.not_mem_nil)).symm⟩ (fun i σ Hz _ y => ?_) (fun i x σ Hz He hi y e => ?_) (fun σ Hz y => ?_)
      · obtain ⟨_, _, _, _, _, _, e, _⟩ := y
        exact SqL.of e
      · obtain ⟨rfl, exx⟩ := e
        obtain ⟨o2, o4, o5, ls', rfl, vh, eR, fi2, hls'⟩ := y
        rw [hrm] at hi
        have hx : rs[i]? = some rs[i] := List.getElem?_eq_getElem hi
        rw [List.getElem?_map, hx] at exx
        cases exx
        have hmem := List.getElem_mem hi
        have hnew := take_new rnd hx
        have htk : rs.take (i + 1) = rs.take i ++ [rs[i]] := by rw [List.take_add_one, hx]; rfl
        have hpl : (rs.take i).length ≤ 60 := by rw [List.length_take]; omega
        rw [htk, exs, ← List.append_assoc]
        generalize rs.take i = pre at *
        generalize rs[i] = x at *
        obtain ⟨⟨hxk, hxf⟩, hus⟩ := rin x hmem
        obtain ⟨p, hp, hpx⟩ := List.mem_map.mp (show x ∈ l.map (·.1) by rw [← hks]; exact hxk)
        obtain ⟨x', v⟩ := p
        have hpx : x' = x := hpx
        subst hpx
        have hgx : getS l x' = some v := getS_of lt.nd hp
        have htv := (lt.val _ hp).ups vh.s
        obtain ⟨o1, oo2, o3⟩ := lt.ok x' (by rw [← hks]; exact hxk)
        have hnf : x' ∉ (fs ++ ex pre).map (·.1) := by
          rw [List.map_append, exn, List.mem_append]
          exact fun z => z.elim hxf hnew
        have hus2 : ∀ y ∈ uF ks (t x'), y ∈ (fs ++ ex pre).map (·.1) := fun y hy => by
          rw [List.map_append]
          exact List.mem_append_left _ (hus y hy)
        have hfl2 : (fs ++ ex pre).length ≤ 120 := by
          have := congrArg List.length (exn pre)
          rw [List.length_map] at this
          rw [List.length_append]
          omega
        refine ⟨_, rfl, _, rfl, d, v, rfl, ?_, _, rfl, ?_⟩
        · rw [← hgx, ← kvS_val]
          exact DGet.k (k := .inr x') (vh.s _ _ lt.dd)
        refine ⟨v, Kn, t x', kn, rfl, htv, o1.wf, by omega, vh.eK, ki.ok, fun H5 s5 => ?_⟩
        have vh5 := vh.up s5
        refine ⟨_, rfl, _, rfl, Fd, _, rfl, DPut.k (k := .inr x') vh5.eF (by rw [kvS_len]; unfold opV; rw [List.length_map]; exact Nat.lt_of_le_of_lt (show _ ≤ 120 by omega) (by decide)), ?_⟩
        rw [opV_put hnf]
        have vh6 : VsH H (upd H5 Fd (.dK (kvS (opV (fs ++ ex pre ++ [(x', val kn (t x'))]))))) Kn L Fd ks t kn ls' (fs ++ ex pre ++ [(x', val kn (t x'))]) := ⟨same_mut vh5.s hnF, by rw [upd_ne (Ne.symm hFK)]; exact vh5.eK, by rw [upd_ne (Ne.symm hFL)]; exact vh5.eL, upd_same, vh5.lv.ln (Ln.put fun xs z => by rw [vh5.eF] at z; cases z)⟩
        have eR6 : upd H5 Fd (.dK (kvS (opV (fs ++ ex pre ++ [(x', val kn (t x'))])))) Rr = some (.lst (rs.map V.str)) := by
          rw [upd_ne fun z : Rr = Fd => by have := vh5.eF; rw [← z, s5 _ _ eR] at this; cases this]
          exact s5 _ _ eR
        generalize upd H5 Fd (.dK (kvS (opV (fs ++ ex pre ++ [(x', val kn (t x'))])))) = H6 at vh6 eR6 ⊢
        refine ⟨_, rfl, _, rfl, L, _, .inr x', rfl, vh6.eL, rfl, ?_, ?_⟩
        · rw [kvS_val, getS_some]
          refine decide_eq_true ?_
          have : x' ∈ lns := (lin x').mpr ⟨hxk, hxf⟩
          rw [hlns] at this
          obtain ⟨pp, hpp, e⟩ := List.mem_map.mp this
          rw [hls']
          exact List.mem_map.mpr ⟨pp, List.mem_filter.mpr ⟨hpp, decide_eq_true (by rw [e]; exact hnew)⟩, e⟩
        rw [kvS_drop]
        have hf2 : (ls'.filter fun p => decide (p.1 ≠ x')) = ls.filter fun p => decide (p.1 ∉ pre ++ [x']) := by
          rw [hls', List.filter_filter]
          refine List.filter_congr fun p _ => ?_
          rw [Bool.eq_iff_iff, Bool.and_eq_true, decide_eq_true_eq, decide_eq_true_eq, decide_eq_true_eq, List.mem_append, List.mem_singleton]
          exact ⟨fun h z => z.elim h.2 h.1, fun h => ⟨fun z => h (.inr z), fun z => h (.inl z)⟩⟩
        refine ⟨_, _, _, _, rfl, ⟨same_mut vh6.s hnL, by rw [upd_ne (Ne.symm hLK)]; exact vh6.eK, upd_same, by rw [upd_ne hFL]; exact vh6.eF, fun p hp => ?_⟩, ?_, fi2.add hnf hxk hus2 ?_, hf2⟩
        · obtain ⟨a, e1, e2⟩ := vh6.lv p (List.mem_filter.mp hp).1
          exact ⟨a, e1, by rw [upd_ne fun z : a = L => by rw [z, vh6.eL] at e2; cases e2]; exact e2⟩
        · rw [upd_ne fun z : Rr = L => by rw [z, vh6.eL] at eR6; cases eR6]
          exact eR6
        · rw [hval x' hmem]
          exact (rho_app hus).symm
      obtain ⟨o2, o4, o5, ls2, rfl, vh, eR, fi2, hls2⟩ := y
      rw [hrm, List.take_length] at vh fi2 hls2
      have e2n : (fs ++ ex rs).map (·.1) = fs.map (·.1) ++ rs := by rw [List.map_append, exn]
      have e2l : (fs ++ ex rs).length = fs.length + rs.length := by
        have := congrArg List.length (exn rs)
        rw [List.length_map] at this
        rw [List.length_append, this]
      have exm : ∀ x ∈ rs, getO (fs ++ ex rs) x = val kn (t x) := fun x hx => by
        refine getO_mem fi2.nd (List.mem_append_right _ ?_)
        rw [hex]
        exact List.mem_map.mpr ⟨x, hx, rfl⟩
      refine ⟨_, rfl, Rr, rfl, ⟨_, SqL.of eR⟩, ?_⟩
      refine for_it (walk_list (K := K) (a := Rr) (xs := rs.map V.str)) (fun i σ Hz => ∃ (o2 o4 o5 : Option V) (kn' : List (List Key × V)), σ = [some (.ref d), some (.ref f), o2, some (.ref Kn), o4, o5, some (.ref L), some (.ref Fd), some (.ref Rr)] ∧ VsH H Hz Kn L Fd ks t kn' ls2 (fs ++ ex rs) ∧ Hz Rr = some (.lst (rs.map V.str)) ∧ KnI kn' hm F (fs ++ ex (rs.take i)) ∧ kn'.length ≤ 100 + fs.length + i) ⟨_, _, _, kn, rfl, vh, eR, by rw [List.take_zero, hex]; exact (List.append_nil fs).symm ▸ ki, by omega⟩ (fun i σ Hz _ y => ?_) (fun i x σ Hz He hi y e => ?_) (fun σ Hz y => ?_)
      · obtain ⟨_, _, _, _, _, _, e, _⟩ := y
        exact SqL.of e
      · obtain ⟨rfl, exx⟩ := e
        obtain ⟨o2, o4, o5, kn', rfl, vh, eR, ki2, hkl2⟩ := y
        rw [hrm] at hi
        have hx : rs[i]? = some rs[i] := List.getElem?_eq_getElem hi
        rw [List.getElem?_map, hx] at exx
        cases exx
        have hmem := List.getElem_mem hi
        have hnew := take_new rnd hx
        have htk : rs.take (i + 1) = rs.take i ++ [rs[i]] := by rw [List.take_add_one, hx]; rfl
        rw [htk, exs, ← List.append_assoc]
        generalize rs.take i = pre at *
        generalize rs[i] = x at *
        obtain ⟨⟨hxk, hxf⟩, hus⟩ := rin x hmem
        have hnf : x ∉ (fs ++ ex pre).map (·.1) := by
          rw [List.map_append, exn, List.mem_append]
          exact fun z => z.elim hxf hnew
        have hin2 : x ∈ (fs ++ ex rs).map (·.1) := by
          rw [e2n]
          exact List.mem_append_right _ hmem
        refine ⟨_, rfl, _, rfl, Fd, optI (val kn (t x)), rfl, ?_, _, rfl, _, rfl, lenOk (n := 2) rfl (by decide), fun qa hqa => ?_⟩
        · rw [← exm x hmem, ← opV_get hin2, ← kvS_val]
          exact DGet.k (k := .inr x) vh.eF
        have s5 := same_new (o := .tup [V.str (Str.ofString "let"), V.str x]) hqa
        have e5 : upd He qa (.tup [V.str (Str.ofString "let"), V.str x]) qa = some (.tup [V.str (Str.ofString "let"), V.str x]) := upd_same
        generalize upd He qa (.tup [V.str (Str.ofString "let"), V.str x]) = H5 at s5 e5 ⊢
        have vh5 := vh.up s5
        have hpl := length_putK kn' (kLet x) (optI (val kn (t x)))
        refine ⟨Kn, _, rfl, DPut.t (k := kLet x) vh5.eK e5 (Nat.lt_of_le_of_lt (show _ ≤ 300 by omega) (by decide)), ?_⟩
        refine ⟨_, _, _, _, rfl, ⟨same_mut vh5.s hnK, upd_same, by rw [upd_ne hLK]; exact vh5.eL, by rw [upd_ne hFK]; exact vh5.eF, vh5.lv.ln (Ln.put fun xs z => by rw [vh5.eK] at z; cases z)⟩, ?_, ki2.put hnf, by omega⟩
        rw [upd_ne fun z : Rr = Kn => by have := vh5.eK; rw [← z, s5 _ _ eR] at this; cases this]
        exact s5 _ _ eR
      obtain ⟨o2, o4, o5, kn', rfl, vh, eR, ki2, hkl2⟩ := y
      rw [hrm, List.take_length] at ki2
      rw [hrm] at hkl2
      have hln2 : ls2.map (·.1) = lns.filter fun x => decide (x ∉ rs) := by rw [hls2, hlns, List.filter_map]; rfl
      refine ⟨_, _, _, _, fs ++ ex rs, kn', ls2, ?_, rfl, vh, fi2, ki2, ?_, by omega⟩
      · have hne : lns ≠ [] := fun z => by rw [z] at hll; have : (0 : Nat) = ls.length := hll; omega
        obtain ⟨x, hx, hu⟩ := progress nor lns.length lns (Nat.le_refl _) hne
        have hxr : x ∈ rs := by
          rw [hrs, List.mem_filter]
          refine ⟨hx, ?_⟩
          show (!((uF ks (t x)).any fun y => decide (y ∈ lns))) = true
          rw [Bool.not_eq_true', List.any_eq_false]
          intro y hy z
          exact hu y (by unfold gU; rw [if_pos ((lin x).mp hx).1]; exact hy) (of_decide_eq_true z)
        have := filter_lt (p := fun x => decide (x ∉ rs)) hx (decide_eq_false fun z => z hxr)
        have e1 := congrArg List.length hln2
        rw [List.length_map] at e1
        omega
      · rw [hln2, els, List.filter_filter]
        refine List.filter_congr fun x _ => ?_
        rw [Bool.eq_iff_iff, Bool.and_eq_true, decide_eq_true_eq, decide_eq_true_eq, decide_eq_true_eq, e2n, List.mem_append]
        exact ⟨fun h z => z.elim h.2 h.1, fun h => ⟨fun z => h (.inr z), fun z => h (.inl z)⟩⟩
    · have c1 : ¬ (0 : Int) < (ls.length : Nat) := of_decide_eq_false c1
      obtain rfl : ls = [] := List.eq_nil_of_length_eq_zero (by omega)
      have hall : ∀ x ∈ ks, x ∈ fs.map (·.1) := fun x hx => by
        apply Classical.byContradiction
        intro z
        have : x ∈ ks.filter fun x => decide (x ∉ fs.map (·.1)) := List.mem_filter.mpr ⟨hx, decide_eq_true z⟩
        rw [← els] at this
        cases this
      have hFd : Fd ≠ d := fun z => by rw [z, lt.dd] at hnF; cases hnF
      have ed := vh.s _ _ lt.dd
      refine ⟨d, _, ed, trivial, fun od3 => ?_⟩
      have edf : upd Hx d (.frz od3 (.dK (kvS l))) d = some (.frz od3 (.dK (kvS l))) := upd_same
      have eFF : upd Hx d (.frz od3 (.dK (kvS l))) Fd = some (.dK (kvS (opV fs))) := by rw [upd_ne hFd]; exact vh.eF
      have back : ∀ {H' : Hp}, Same (upd Hx d (.frz od3 (.dK (kvS l)))) H' → Same Hx (upd H' d (.dK (kvS l))) := fun s => same_lock ed s
      have fnone : ∀ {p : Addr}, upd Hx d (.frz od3 (.dK (kvS l))) p = none → Hx p = none := fun {p} e => by
        by_cases z : p = d
        · rw [z, upd_same] at e; cases e
        · rwa [upd_ne z] at e
      generalize upd Hx d (.frz od3 (.dK (kvS l))) = HF at edf eFF back fnone ⊢
      refine ⟨_, rfl, d, od3, rfl, .inl ⟨_, edf, ?_⟩⟩
      refine fun D hD => ?_
      have hDd : D ≠ d := fun z => by rw [z, edf] at hD; cases hD
      refine TD.way_itY (walk_keys (d := d) (o := od3) (kvs := kvS l)) (k := 4) (vs := [4]) (by decide) (fun i Hc => Same HF Hc ∧ Hc D = some (.dK (kvS (onV (ks.take i) (getO fs))))) ⟨same_new hD, upd_same⟩ (fun i Hc _ h => h.1 _ _ edf) (fun i x Hc Hy hi hp y => ?_) (fun Hc hp => ?_)
      · obtain ⟨rfl, k0, v0, ek, rfl⟩ := y
        obtain ⟨s2, eD⟩ := hp
        rw [kvS_len] at hi
        unfold kvS at ek
        rw [List.getElem?_map, List.getElem?_eq_getElem hi] at ek
        cases ek
        have hk : ks[i]? = some l[i].1 := by rw [hks, List.getElem?_map, List.getElem?_eq_getElem hi]; rfl
        generalize l[i] = pr at *
        obtain ⟨x, v⟩ := pr
        have htk : ks.take (i + 1) = ks.take i ++ [x] := by rw [List.take_add_one, hk]; rfl
        have hxk : x ∈ ks := List.mem_of_getElem? hk
        have hon : ∀ l r, (onV l r).map (·.1) = l := fun l r => by
          unfold onV
          rw [List.map_map]
          exact List.map_id' _
        refine ⟨_, rfl, _, rfl, _, rfl, Fd, optI (getO fs x), rfl, ?_, _, DPut.k (k := .inr x) eD (by rw [kvS_len]; unfold onV; rw [List.length_map, List.length_take]; exact Nat.lt_of_le_of_lt (show _ ≤ 60 by omega) (by decide)), same_mut s2 hD, ?_⟩
        · rw [← opV_get (hall x hxk), ← kvS_val]
          exact DGet.k (k := .inr x) (s2 _ _ eFF)
        rw [upd_same, kvS_put _ (by rw [hon]; exact take_new hnd hk), htk]
        unfold onV
        rw [List.map_append]
        rfl
      obtain ⟨s2, eD⟩ := hp
      rw [kvS_len, ← hkl, List.take_length] at eD
      refine ⟨s2 _ _ edf, ?_⟩
      exact q _ D (getO fs) (vh.s.trans (back s2)) (vh.s.free (fnone hD)) (by rw [upd_ne hDd]; exact eD) (fi.told hall)
end
end R1

/-! <, >, <=, >= of alike data -/
namespace DG
open PySem PySem.Spec PyProof.Rows L2 PySem.W
variable {X : Cx}
theorem u60_of {k : Nat} {A : Around} (r : Room k A) : A.units + 60 < cLine := by have := r.un; omega
theorem u65_of {k : Nat} {A : Around} (r : Room k A) : A.units + 65 < cLine := by have := r.un; omega
def rCmD (K : PySem.W.Frag) (f : PyData → PyData → Bool) : R2 := fun x y H Q => ∃ d e, Dp K H x d ∧ Dp K H y e ∧ alike d e = true ∧ d ≠ .none ∧ d.depth ≤ 40 ∧ Q (.bl (f d e)) H
theorem op_ltD (hu : X.A.units + 60 < cLine) : OpR X (compareOp .Lt) (rCmD X.K dataLt) := by
  intro pins s σ H x y v u Q I rx ry h
  obtain ⟨d, e, hd, he, al, nn, dd, q⟩ := h
  obtain ⟨as, r1⟩ := Dp.reads I d x v hd rx
  obtain ⟨bs, r2⟩ := Dp.reads I e y u he ry
  exact lt_data r1 r2 al nn (by omega) ⟨.bl _, H, I, rfl, q⟩
theorem op_gtD (hu : X.A.units + 60 < cLine) : OpR X (compareOp .Gt) (rCmD X.K fun d e => dataLt e d) := by
  intro pins s σ H x y v u Q I rx ry h
  obtain ⟨d, e, hd, he, al, nn, dd, q⟩ := h
  obtain ⟨as, r1⟩ := Dp.reads I d x v hd rx
  obtain ⟨bs, r2⟩ := Dp.reads I e y u he ry
  exact gt_data r1 r2 al nn (by omega) ⟨.bl _, H, I, rfl, q⟩
theorem op_leD (hu : X.A.units + 60 < cLine) : OpR X (compareOp .LtE) (rCmD X.K fun d e => !dataLt e d) := by
  intro pins s σ H x y v u Q I rx ry h
  obtain ⟨d, e, hd, he, al, nn, dd, q⟩ := h
  obtain ⟨as, r1⟩ := Dp.reads I d x v hd rx
  obtain ⟨bs, r2⟩ := Dp.reads I e y u he ry
  exact le_data r1 r2 al nn (by omega) ⟨.bl _, H, I, rfl, q⟩
theorem op_geD (hu : X.A.units + 60 < cLine) : OpR X (compareOp .GtE) (rCmD X.K fun d e => !dataLt d e) := by
  intro pins s σ H x y v u Q I rx ry h
  obtain ⟨d, e, hd, he, al, nn, dd, q⟩ := h
  obtain ⟨as, r1⟩ := Dp.reads I d x v hd rx
  obtain ⟨bs, r2⟩ := Dp.reads I e y u he ry
  exact ge_data r1 r2 al nn (by omega) ⟨.bl _, H, I, rfl, q⟩
/-- x in a tuple of data -/
def rInTD (K : PySem.W.Frag) (neg : Bool) : R2 := fun x y H Q => ∃ d ds, Dp K H x d ∧ Dp K H y (.tuple ds) ∧ SeqAt.shaped d = true ∧ SeqAt.shaped (.tuple ds) = true ∧ Q (.bl (if neg then !(ds.any fun z => PyData.eqv z d) else ds.any fun z => PyData.eqv z d)) H
theorem op_inTD (hu : X.A.units + 65 < cLine) : OpR X (compareOp .In) (rInTD X.K false) := by
  intro pins s σ H x y v u Q I rx ry h
  obtain ⟨d, ds, hd, he, sd, se, q⟩ := h
  obtain ⟨as, r1⟩ := Dp.reads I d x v hd rx
  obtain ⟨bs, r2⟩ := Dp.reads I (.tuple ds) y u he ry
  exact SeqAt.in_tuple_reads r2 r1 (SeqAt.canLay_of_shaped se) (SeqAt.canLay_of_shaped sd) (room_in_shaped sd hu) ⟨.bl _, H, I, rfl, q⟩
theorem op_notInTD (hu : X.A.units + 65 < cLine) : OpR X (compareOp .NotIn) (rInTD X.K true) := by
  intro pins s σ H x y v u Q I rx ry h
  obtain ⟨d, ds, hd, he, sd, se, q⟩ := h
  obtain ⟨as, r1⟩ := Dp.reads I d x v hd rx
  obtain ⟨bs, r2⟩ := Dp.reads I (.tuple ds) y u he ry
  exact SeqAt.notIn_tuple_reads r2 r1 (SeqAt.canLay_of_shaped se) (SeqAt.canLay_of_shaped sd) (room_in_shaped sd hu) ⟨.bl _, H, I, rfl, q⟩
end DG

namespace R1
open PySem PySem.Spec PyProof.Rows L2 RK
local macro_rules | `(tactic| walk_at "sq") => `(tactic| first
  | exact SqL.of upd_same | exact upd_same | exact SqL.of (by assumption) | exact SqL.of (by rw [upd_ne (by assumption)]; assumption) | assumption)
local macro_rules | `(tactic| walk_at "sd") => `(tactic| first
  | assumption | omega | (refine Or.inl ⟨?_, ?_⟩ <;> omega) | (show _ ∧ _; constructor <;> omega) | (show _ ≠ _; simp; omega) | (exact Or.inl ⟨by decide, by decide⟩) | (exact Or.inr ⟨by decide, by decide⟩) | (show _ < _; decide) | (show _ ≤ _; decide))
local macro_rules | `(tactic| walk_at "at") => `(tactic| first | rfl | (refine atI_intV ?_ ?_ <;> omega) | assumption)
local macro_rules | `(tactic| walk_at "s1") => `(tactic| first
  | refine ⟨_, rfl, ?_⟩ | refine ⟨_, _, rfl, rfl, ?_⟩ | refine ⟨rfl, ?_⟩
  | refine ⟨_, _, _, _, rfl, rfl, by walk_at "sq", by walk_at "at", ?_⟩
  | refine Or.inl ⟨_, rfl, ?_⟩
  | refine ⟨_, _, rfl, Or.inl (by walk_at "sq"), ?_⟩
  | refine And.intro (by walk_at "sd") ?_)
local macro_rules | `(tactic| walk_at "s") => `(tactic| repeat walk_at "s1")

def spUses (K : PySem.W.Frag) : Nat → Sp
  | 0 => fun _ _ _ _ => False
  | n + 1 => fun vs H Q _ => ∃ (v : V) (d : Addr) (t : Tr) (l : SV), vs = [v, .ref d] ∧ TrK H v t ∧ LT t ∧ dep t ≤ n ∧ (namT t).length ≤ 1000 ∧ Rd H d (.dK (kvS l)) ∧ ∀ H' p, Same H H' → H p = none → H' p = some (.lst ((uF (l.map (·.1)) t).map V.str)) → Q (.ref p) H'
theorem spUses_of {K : PySem.W.Frag} {n : Nat} {v : V} {d : Addr} {t : Tr} {l : SV} {H : Hp} {Q : VK} {E : XK} (h : TrK H v t) (hn : dep t + 1 ≤ n) (hw : LT t) (hl : (namT t).length ≤ 1000) (hd : Rd H d (.dK (kvS l))) (q : ∀ H' p, Same H H' → H p = none → H' p = some (.lst ((uF (l.map (·.1)) t).map V.str)) → Q (.ref p) H') : spUses K n [v, .ref d] H Q E := by
  cases n with
  | zero => omega
  | succ m => exact ⟨v, d, t, l, rfl, h, hw, by omega, hl, hd, q⟩
theorem rd_up {H H' : Hp} {d : Addr} {o : HO} (h : Rd H d o) (s : Same H H') : Rd H' d o := h.elim (fun e => .inl (s _ _ e)) fun ⟨od, e⟩ => .inr ⟨od, s _ _ e⟩
section
variable {P : Program} {w : World} {K : PySem.W.Frag} {mg : Str → Option Value} {base : Heap} {A : Ads}
theorem ok_law_uses (T : Txt K mg A) : ∀ n : Nat, FnOk P w K mg base CX0 n A.a_law_uses A.d_law_uses ["_law_tree_here", "_law_lets_here"] (spUses K n)
  | 0 => ⟨fun _ _ _ _ h => h.elim, fun _ _ _ _ _ _ _ _ _ _ _ _ _ h => h.elim⟩
  | n + 1 => by
    have G0 : FnOk P w K mg base CX0 n A.a_law_uses A.d_law_uses ["_law_tree_here", "_law_lets_here"] (spUses K n) := ok_law_uses T n
    refine T.F_law_uses.ok sc_law_uses (fun vs H Q E h => ?_) (fun cdv B outer s H vs Q E hr h => ?_)
    · obtain ⟨v, d, t, l, rfl, _⟩ := h
      rfl
    · obtain ⟨v, d, t, l, rfl, ht, hw, hn, hl, hd, q⟩ := h
      refine ⟨_, (pss_cons (ps_if (pt_cmpR op_eq (pe_ix ix_tup (pv 0) pe_int (fun _ _ => rfl)) pe_str (nomark _)) (pss_one (ps_ret (pe_lc (own := [("_law_step", 2)]) rfl sc_law_uses.nd (pi_range1 (by rfl) T.n_range (pa_cons pe_int pa_nil)) (blkOk_by (own := [("_law_step", 2)]) (N := N_law_uses) (sc := defScope s_law_uses) (by decide +kernel)) (fun _ _ _ _ _ => pg_name (i := 2) sc_law_uses.nd rfl (Or.inl rfl)) (fun _ _ _ _ _ => pts_one (by exact (pt_cmp (pc_din (hu_of hr) (pe_ix (r := rIxT K) ix_tup (pv 0) pe_int (fun _ _ => rfl)) (pv 1))))) (fun _ _ _ _ _ => by exact (pe_ix (r := rIxT K) ix_tup (pv 0) pe_int (fun _ _ => rfl)))))) pss_nil)
    (pss_cons (ps_if (PW.pt (pw_or (pt_cmpR op_eq (pe_ix ix_tup (pv 0) pe_int (fun _ _ => rfl)) pe_str (nomark _)) (pw_or1 (pt_cmpR op_eq (pe_ix ix_tup (pv 0) pe_int (fun _ _ => rfl)) pe_str (nomark _))))) (pss_one (ps_ret (pe_lst pa_nil))) pss_nil)
    (pss_cons (ps_set (i := 3) sc_law_uses.nd rfl (.inl rfl) (pe_lst pa_nil))
    (pss_cons (ps_for PassesOwn.never rfl (pi_tup (pe_slice sl_tupA (pv 0) (po_some pe_int) po_none)) (pg_name (i := 4) sc_law_uses.nd rfl (.inl rfl))
      (pss_one (ps_set (i := 3) sc_law_uses.nd rfl (.inl rfl) (pe_op op_cat (pv 3) (pe_call G0 (hr.mono (by omega)) rfl T.g_law_uses T.F_law_uses.kp T.b_law_uses .nil pass0 (pa_cons (pv 4) (pa_cons (pv 1) pa_nil)))))))
    (pss_one (ps_ret (pv 3))))))), ?_⟩
      have loop : ∀ (a : Addr) (op : Str) (r1 : List V) (ps : List Tr), H a = some (.tup (.str op :: r1)) → r1.length = ps.length → (∀ (i : Nat) (v : V) (u : Tr), r1[i]? = some v → ps[i]? = some u → TrK H v u ∧ LT u ∧ dep u + 1 ≤ n) → (ps.flatMap namT).length ≤ 1000 → namT t = ps.flatMap namT → v = .ref a → isS op "let" = false → isS op "number" = false → isS op "home" = false →
          tSeq (tIfS (tTest (tOp rEq (tOp (rIxT K) (tVar 0) (tC (V.int 0))) (tC (V.str (Str.ofString "let")))))
            (tRet (tLc (iRng1 (tCons (tC (V.int 1)) tNil)) (gName 2) (tB (tDIn (tOp (rIxT K) (tVar 0) (tC (V.int 1))) (tVar 1))) (tOp (rIxT K) (tVar 0) (tC (V.int 1))) [2])) tNext)
            (tSeq (tIfS (tOr (tTest (tOp rEq (tOp (rIxT K) (tVar 0) (tC (V.int 0))) (tC (V.str (Str.ofString "number"))))) (tTest (tOp rEq (tOp (rIxT K) (tVar 0) (tC (V.int 0))) (tC (V.str (Str.ofString "home")))))) (tRet (tLst tNil)) tNext)
              (tSeq (tAsg (tLst tNil) (gName 3)) (tSeq (tFor (iTup K (tSl (rSlA K) (tVar 0) (tPart (tC (V.int 1))) tNoPart)) (gName 4) (tAsg (tOp rCat (tVar 3) (tCall (spUses K n) [] E0 (tCons (tVar 4) (tCons (tVar 1) tNil)))) (gName 3))) (tRet (tVar 3))))) { nx := fun x H' => Q V.non H', rt := Q } (L2.start N_law_uses [v, .ref d]) H := by
        intro a op r1 ps ha hlen hk hl2 hnam hv hlet hnum hhom
        subst hv
        refine ⟨_, rfl, a, _, 0, _, rfl, rfl, SqT.of ha, atI_nat (j := 0) rfl, rfl, _, rfl, ?_⟩
        refine ifF hlet ?_
        refine ⟨_, rfl, a, _, 0, _, rfl, rfl, SqT.of ha, atI_nat (j := 0) rfl, rfl, _, rfl, ?_⟩
        refine ifF hnum ?_
        refine ⟨_, rfl, a, _, 0, _, rfl, rfl, SqT.of ha, atI_nat (j := 0) rfl, rfl, _, rfl, ?_⟩
        refine ifF hhom ?_
        refine ⟨lenOk (n := 0) rfl (by decide), fun p hp => ?_⟩
        have s1 := same_new (o := .lst []) hp
        have e1 : upd H p (.lst []) p = some (.lst []) := upd_same
        generalize upd H p (.lst []) = H1 at s1 e1 ⊢
        refine ⟨_, rfl, 1, rfl, ?_⟩
        unfold tNoPart
        refine slA_of (SqT.of (s1 _ _ ha)) fun a2 H2 s2 e2 => ?_
        rw [show cutV (V.str op :: r1) (some 1) none = r1 from cutV_lo (xs := V.str op :: r1) 1] at e2
        have s12 := s1.trans s2
        refine ⟨a2, rfl, ⟨_, e2⟩, ?_⟩
        refine for_it (walk_tup (K := K) (a := a2) (xs := r1)) (fun i σ Hx => ∃ p o4, σ = [some (.ref a), some (.ref d), none, some (.ref p), o4] ∧ Same H2 Hx ∧ H p = none ∧ Hx p = some (.lst (((ps.take i).flatMap (uF (l.map (·.1)))).map V.str))) ⟨p, none, rfl, Same.refl _, hp, s2 _ _ e1⟩ (fun i σ Hx _ y => ?_) (fun i x σ Hx Hd hi y e => ?_) (fun σ Hx y => ?_)
        · obtain ⟨_, _, _, sm, _⟩ := y
          exact sqT_up e2 sm
        · obtain ⟨p, o4, rfl, sm, hp0, hp⟩ := y
          obtain ⟨rfl, ex⟩ := e
          have hi' : i < ps.length := by omega
          obtain ⟨hx, w1, w2⟩ := hk i x ps[i] ex (List.getElem?_eq_getElem hi')
          have sHd := s12.trans sm
          have htk : (ps.take (i + 1)).flatMap namT = (ps.take i).flatMap namT ++ namT ps[i] := by
            rw [List.take_succ_eq_append_getElem hi', List.flatMap_append]
            congr 1
            exact List.append_nil _
          have htk2 : (ps.take (i + 1)).flatMap (uF (l.map (·.1))) = (ps.take i).flatMap (uF (l.map (·.1))) ++ uF (l.map (·.1)) ps[i] := by
            rw [List.take_succ_eq_append_getElem hi', List.flatMap_append]
            congr 1
            exact List.append_nil _
          have hle : ((ps.take (i + 1)).flatMap namT).length ≤ 1000 := by
            refine Nat.le_trans ?_ hl2
            conv => rhs; rw [← List.take_append_drop (i + 1) ps, List.flatMap_append, List.length_append]
            omega
          have hfl : ∀ qs : List Tr, (qs.flatMap (uF (l.map (·.1)))).length ≤ (qs.flatMap namT).length := fun qs => by
            induction qs with
            | nil => exact Nat.le_refl 0
            | cons z qs ih =>
              rw [List.flatMap_cons, List.flatMap_cons, List.length_append, List.length_append]
              exact Nat.add_le_add (List.length_filter_le _ _) ih
          have h3 := hfl (ps.take (i + 1))
          rw [htk2, List.length_append] at h3
          rw [htk, List.length_append] at hle h3
          refine ⟨_, rfl, _, rfl, _, rfl, spUses_of (K := K) (hx.ups sHd) w2 w1 (by omega) (rd_up hd sHd) fun H3 p3 s3 n3 e3 => ?_⟩
          refine ⟨p, p3, _, _, rfl, rfl, s3 _ _ hp, e3, Nat.le_trans (show _ ≤ 1000 by rw [List.length_map, List.length_map]; omega) (by decide), fun p4 hp4 => ?_⟩
          have s4 := same_new (o := .lst (((ps.take i).flatMap (uF (l.map (·.1)))).map V.str ++ (uF (l.map (·.1)) ps[i]).map V.str)) hp4
          exact ⟨p4, _, rfl, sm.trans (s3.trans s4), (sHd.trans s3).free hp4, by rw [upd_same, htk2, List.map_append]⟩
        · obtain ⟨p, o4, rfl, sm, hp0, hp⟩ := y
          have hu : uF (l.map (·.1)) t = ps.flatMap (uF (l.map (·.1))) := by
            unfold uF
            rw [hnam, List.filter_flatMap]
          rw [hlen, List.take_length, ← hu] at hp
          exact ⟨_, rfl, q Hx p (s12.trans sm) hp0 hp⟩
      cases t with
      | two f x =>
        obtain ⟨a, rfl, ha⟩ := ht
        have hf : f = Str.ofString "let" := hw.1
        subst hf
        refine ⟨_, rfl, a, _, 0, _, rfl, rfl, SqT.of ha, atI_nat (j := 0) rfl, rfl, _, rfl, ?_⟩
        refine ifT (by decide +kernel) ?_
        refine ⟨1, rfl, by decide, by decide, fun D hD => ?_⟩
        rw [show (1 : Int).toNat = 1 from rfl]
        have hu : uF (l.map (·.1)) (.two (Str.ofString "let") x) = if x ∈ l.map (·.1) then [x] else [] := by
          unfold uF namT
          by_cases c : x ∈ l.map (·.1)
          · rw [List.filter_cons, if_pos (decide_eq_true c), if_pos c]; rfl
          · rw [List.filter_cons, if_neg (by rw [decide_eq_false c]; decide), if_neg c]; rfl
        refine lc_ask (walk_range (lo := 0) (n := 1)) (k := 2) (fun j acc Hz => Same H Hz ∧ acc = (if j = 0 then [] else (uF (l.map (·.1)) (.two (Str.ofString "let") x)).map V.str)) (by decide) ⟨same_new hD, rfl⟩ (fun j acc Hz h => trivial) (fun j Hz x Hz' hj y => y.1) (fun j u acc Hz hj hacl hpz eDz y R fls tru => ?_) (fun acc Hz hacl hpz eDz => ?_)
        · obtain ⟨sz, rfl⟩ := hpz
          obtain rfl : j = 0 := by omega
          refine ⟨_, rfl, a, _, 1, _, rfl, rfl, SqT.of (sz _ _ ha), atI_nat (j := 1) rfl, _, rfl, d, _, rfl, .inl ⟨_, .inr x, rd_up hd sz, rfl, rfl⟩, _, rfl, ?_⟩
          rw [kvS_val, getS_some]
          rw [hu] at fls tru
          by_cases c : x ∈ l.map (·.1)
          · rw [decide_eq_true c]
            refine tru Hz eDz fun Q2 q2 => ⟨_, rfl, a, _, 1, _, rfl, rfl, SqT.of (sz _ _ ha), atI_nat (j := 1) rfl, q2 _ Hz eDz ⟨same_mut sz hD, by rw [if_pos c]; rfl⟩⟩
          · rw [decide_eq_false c]
            exact fls Hz eDz ⟨sz, by rw [if_neg c]; rfl⟩
        · obtain ⟨sz, rfl⟩ := hpz
          exact q Hz D sz hD eDz
      | num m =>
        obtain ⟨a, rfl, ha⟩ := ht
        have hlet : isS (Str.ofString "number") "let" = false := by decide +kernel
        refine ⟨_, rfl, a, _, 0, _, rfl, rfl, SqT.of ha, atI_nat (j := 0) rfl, rfl, _, rfl, ?_⟩
        refine ifF hlet ?_
        refine ⟨_, rfl, a, _, 0, _, rfl, rfl, SqT.of ha, atI_nat (j := 0) rfl, rfl, _, rfl, ?_⟩
        refine ifT (by decide +kernel) ?_
        exact ifT rfl ⟨lenOk (n := 0) rfl (by decide), fun p hp => q _ p (same_new hp) hp upd_same⟩
      | one f =>
        obtain ⟨a, rfl, ha⟩ := ht
        have hf : f = Str.ofString "home" := hw
        subst hf
        have hlet : isS (Str.ofString "home") "let" = false := by decide +kernel
        refine ⟨_, rfl, a, _, 0, _, rfl, rfl, SqT.of ha, atI_nat (j := 0) rfl, rfl, _, rfl, ?_⟩
        refine ifF hlet ?_
        refine ⟨_, rfl, a, _, 0, _, rfl, rfl, SqT.of ha, atI_nat (j := 0) rfl, rfl, _, rfl, ?_⟩
        refine ifF (by decide +kernel) ?_
        refine ⟨_, rfl, a, _, 0, _, rfl, rfl, SqT.of ha, atI_nat (j := 0) rfl, rfl, _, rfl, ?_⟩
        refine ifT (by decide +kernel) ?_
        exact ⟨lenOk (n := 0) rfl (by decide), fun p hp => q _ p (same_new hp) hp upd_same⟩
      | un op t =>
        obtain ⟨a, u, rfl, ha, hu⟩ := ht
        have hop : op = Str.ofString "minus" := hw.1
        subst hop
        refine loop a _ [u] [t] ha rfl (fun i v w h1 h2 => ?_) (by simpa [namT] using hl) (by simp [namT]) rfl (by decide +kernel) (by decide +kernel) (by decide +kernel)
        cases i with
        | succ i => cases h1
        | zero =>
          cases h1
          cases h2
          exact ⟨hu, hw.2, by have : dep t + 1 ≤ n := hn; exact this⟩
      | bin op x y =>
        obtain ⟨a, u1, u2, rfl, ha, hu1, hu2⟩ := ht
        obtain ⟨o1, o2, o3, o4, o5, o6⟩ := op5 hw.1
        have hdd : max (dep x) (dep y) + 1 ≤ n := hn
        refine loop a _ [u1, u2] [x, y] ha rfl (fun i v w h1 h2 => ?_) (by simpa [namT] using hl) (by simp [namT]) rfl o2 o4 o5
        cases i with
        | zero =>
          cases h1
          cases h2
          exact ⟨hu1, hw.2.1, by omega⟩
        | succ i =>
          cases i with
          | succ i => cases h1
          | zero =>
            cases h1
            cases h2
            exact ⟨hu2, hw.2.2, by omega⟩
end
end R1

namespace R1
open PySem PySem.Spec PyProof.Rows L2 RK
local macro_rules | `(tactic| walk_at "sq") => `(tactic| first
  | exact SqL.of upd_same | exact upd_same | exact SqL.of (by assumption) | exact SqL.of (by rw [upd_ne (by assumption)]; assumption) | assumption)
local macro_rules | `(tactic| walk_at "sd") => `(tactic| first
  | assumption | omega | (refine Or.inl ⟨?_, ?_⟩ <;> omega) | (show _ ∧ _; constructor <;> omega) | (show _ ≠ _; simp; omega) | (exact Or.inl ⟨by decide, by decide⟩) | (exact Or.inr ⟨by decide, by decide⟩) | (show _ < _; decide) | (show _ ≤ _; decide))
local macro_rules | `(tactic| walk_at "at") => `(tactic| first | rfl | (refine atI_intV ?_ ?_ <;> omega) | assumption)
local macro_rules | `(tactic| walk_at "s1") => `(tactic| first
  | refine ⟨_, rfl, ?_⟩ | refine ⟨_, _, rfl, rfl, ?_⟩ | refine ⟨rfl, ?_⟩
  | refine ⟨_, _, _, _, rfl, rfl, by walk_at "sq", by walk_at "at", ?_⟩
  | refine Or.inl ⟨_, rfl, ?_⟩
  | refine ⟨_, _, rfl, Or.inl (by walk_at "sq"), ?_⟩
  | refine And.intro (by walk_at "sd") ?_)
local macro_rules | `(tactic| walk_at "s") => `(tactic| repeat walk_at "s1")

section
variable {X : Cx}
/-- len of a dict that may be locked -/
theorem call_lenR : CallR X (.builtin "len") (fun xs H Q => ∃ a kvs, xs = [V.ref a] ∧ Rd H a (.dK kvs) ∧ Q (.int kvs.length) H) := by
  intro pins s σ H xs us Q I r h
  obtain ⟨a, kvs, rfl, ha, q⟩ := h
  obtain ⟨u, rfl, ru⟩ := vals1 r
  cases ru
  exact d_len I ha fun t s' I' => ⟨.int kvs.length, H, I', ⟨t, rfl⟩, q⟩
end
/-! pairs with a text first -/
section
variable {β : Type}
def putA (l : List (Str × β)) (x : Str) (b : β) : List (Str × β) := if x ∈ l.map (·.1) then l.map (fun p => if p.1 = x then (p.1, b) else p) else l ++ [(x, b)]
theorem putA_names (l : List (Str × β)) (x : Str) (b : β) : (putA l x b).map (·.1) = if x ∈ l.map (·.1) then l.map (·.1) else l.map (·.1) ++ [x] := by
  unfold putA
  by_cases c : x ∈ l.map (·.1)
  · rw [if_pos c, if_pos c, List.map_map]
    refine List.map_congr_left fun p _ => ?_
    show (if p.1 = x then (p.1, b) else p).1 = p.1
    split <;> rfl
  · rw [if_neg c, if_neg c, List.map_append]
    rfl
theorem putA_nd {l : List (Str × β)} {x : Str} {b : β} (n : (l.map (·.1)).Nodup) : ((putA l x b).map (·.1)).Nodup := by
  rw [putA_names]
  by_cases c : x ∈ l.map (·.1)
  · rw [if_pos c]
    exact n
  · rw [if_neg c]
    exact List.nodup_append.mpr ⟨n, List.pairwise_singleton _ _, fun a ha d hd e => c (by rw [List.mem_singleton] at hd; rw [← hd, ← e]; exact ha)⟩
theorem putA_mem {l : List (Str × β)} {x : Str} {b : β} {p : Str × β} : p ∈ putA l x b ↔ p = (x, b) ∨ (p ∈ l ∧ p.1 ≠ x) := by
  unfold putA
  by_cases c : x ∈ l.map (·.1)
  · rw [if_pos c, List.mem_map]
    constructor
    · rintro ⟨q, hq, e⟩
      by_cases h : q.1 = x
      · rw [if_pos h] at e
        exact .inl (by rw [← e, h])
      · rw [if_neg h] at e
        exact .inr ⟨e ▸ hq, e ▸ h⟩
    · rintro (rfl | ⟨h1, h2⟩)
      · obtain ⟨q, hq, e⟩ := List.mem_map.mp c
        exact ⟨q, hq, by rw [if_pos e, e]⟩
      · exact ⟨p, h1, if_neg h2⟩
  · rw [if_neg c, List.mem_append, List.mem_singleton]
    constructor
    · rintro (h | h)
      · exact .inr ⟨h, fun e => c (List.mem_map.mpr ⟨p, h, e⟩)⟩
      · exact .inl h
    · rintro (h | ⟨h, _⟩)
      · exact .inr h
      · exact .inl h
theorem putA_len (l : List (Str × β)) (x : Str) (b : β) : (putA l x b).length ≤ l.length + 1 := by
  unfold putA
  split
  · rw [List.length_map]; omega
  · rw [List.length_append]; exact Nat.le_refl _
end
theorem kvS_putA (l : SV) (x : Str) (v : V) : putK (kvS l) (.inr x) v = kvS (putA l x v) := by
  by_cases c : x ∈ l.map (·.1)
  · have e : ((kvS l).any fun kv => decide (kv.1 = Sum.inr x)) = true := by
      obtain ⟨p, hp, e⟩ := List.mem_map.mp c
      exact List.any_eq_true.mpr ⟨_, List.mem_map.mpr ⟨p, hp, rfl⟩, decide_eq_true (by rw [← e])⟩
    unfold putK putA
    rw [if_pos e, if_pos c]
    unfold kvS
    rw [List.map_map, List.map_map]
    refine List.map_congr_left fun p _ => ?_
    show (if (Sum.inr p.1 : Key) = Sum.inr x then ((Sum.inr p.1 : Key), v) else ((Sum.inr p.1 : Key), p.2)) = ((Sum.inr (if p.1 = x then (p.1, v) else p).1 : Key), (if p.1 = x then (p.1, v) else p).2)
    by_cases h : p.1 = x
    · rw [if_pos (by rw [h]), if_pos h]
    · rw [if_neg fun z => h (Sum.inr.inj z), if_neg h]
  · unfold putA
    rw [if_neg c, kvS_put v c]
/-! ways back, by their steps -/
inductive Bk (g : Str → List Str) (f : Str) : Nat → Str → List Str → Prop
  | one : Bk g f 0 f [f]
  | cons {j : Nat} {x y : Str} {w : List Str} : y ∈ g x → ¬ ltS x f → Bk g f j y w → Bk g f (j + 1) x (x :: w)
section
variable {g : Str → List Str} {f : Str}
theorem Bk.len : ∀ {j : Nat} {x : Str} {w : List Str}, Bk g f j x w → w.length = j + 1
  | _, _, _, .one => rfl
  | _, _, _, .cons _ _ h => congrArg (· + 1) h.len
theorem Bk.head : ∀ {j : Nat} {x : Str} {w : List Str}, Bk g f j x w → ∃ r, w = x :: r
  | _, _, _, .one => ⟨[], rfl⟩
  | _, _, _, .cons _ _ _ => ⟨_, rfl⟩
theorem Bk.ch : ∀ {j : Nat} {x : Str} {w : List Str}, Bk g f j x w → Ch g w
  | _, _, _, .one => Ch.one f
  | _, _, _, .cons a _ h => by
    obtain ⟨r, rfl⟩ := h.head
    exact Ch.cons a h.ch
theorem Bk.pre : ∀ {j : Nat} {x : Str} {w : List Str}, Bk g f j x w → ∃ p, w = p ++ [f] ∧ p.length = j ∧ ∀ y ∈ p, ¬ ltS y f
  | _, _, _, .one => ⟨[], rfl, rfl, fun y hy => nomatch hy⟩
  | _, _, _, .cons a b h => by
    obtain ⟨p, rfl, e, k⟩ := h.pre
    exact ⟨_ :: p, rfl, congrArg (· + 1) e, fun y hy => (List.mem_cons.mp hy).elim (fun z => z ▸ b) (k y)⟩
theorem Bk.of_ch : ∀ {x : Str} {r : List Str}, Ch g (x :: r ++ [f]) → (∀ y ∈ x :: r, ¬ ltS y f) → Bk g f (r.length + 1) x (x :: r ++ [f])
  | x, [], c, h => .cons (c 0 x f rfl rfl) (h x List.mem_cons_self) .one
  | x, y :: r, c, h => .cons (c 0 x y rfl rfl) (h x List.mem_cons_self) (Bk.of_ch (x := y) (r := r) (fun i a b ha hb => c (i + 1) a b ha hb) fun z hz => h z (List.mem_cons_of_mem _ hz))
theorem Bk.whole {j : Nat} {x y : Str} {w : List Str} (h : Bk g f j x (y :: w)) : Bk g f w.length y (y :: w) := by
  obtain ⟨r, e⟩ := h.head
  have e2 := h.len
  have e3 : y = x := (List.cons.inj e).1
  subst e3
  have : j = w.length := by have e2 : w.length + 1 = j + 1 := e2; omega
  rw [← this]
  exact h
theorem Bk.suf' {y : Str} {w : List Str} : ∀ {j : Nat} {x : Str} {l : List Str}, Bk g f j x l → ∀ p : List Str, l = p ++ y :: w → Bk g f w.length y (y :: w)
  | _, _, _, .one, [], e => by
    have h : Bk g f 0 f [f] := .one
    rw [e] at h
    exact Bk.whole h
  | _, _, _, .one, a :: p, e => by
    have e2 : ([] : List Str) = p ++ y :: w := (List.cons.inj e).2
    cases p <;> cases e2
  | _, _, _, .cons a b h, [], e => by
    have h2 := Bk.cons a b h
    rw [e] at h2
    exact Bk.whole h2
  | _, _, _, .cons _ _ h, z :: p, e => Bk.suf' h p (List.cons.inj e).2
theorem Bk.suf {p : List Str} {j : Nat} {x : Str} {y : Str} {w : List Str} (h : Bk g f j x (p ++ y :: w)) : Bk g f w.length y (y :: w) := Bk.suf' h p rfl
theorem ring_bk {w : List Str} (h : Ring g f w) : Bk g f w.length f (w ++ [f]) := by
  obtain ⟨r, rfl, c, hr⟩ := h
  exact Bk.of_ch c fun y hy => (List.mem_cons.mp hy).elim (fun e => e ▸ ltS_irr f) fun hy => ltS_asym (hr y hy)
theorem bk_ring {j : Nat} {w : List Str} (h : Bk g f (j + 1) f w) (no : ∀ i, 1 ≤ i → i ≤ j → ∀ w, ¬ Bk g f i f w) : ∃ p, w = p ++ [f] ∧ Ring g f p ∧ p.length = j + 1 := by
  obtain ⟨p, rfl, e, k⟩ := h.pre
  obtain ⟨r, e2⟩ := h.head
  cases p with
  | nil => cases e
  | cons a r' =>
    have e3 : a = f := (List.cons.inj e2).1
    subst e3
    refine ⟨a :: r', rfl, ⟨r', rfl, h.ch, fun x hx => ?_⟩, e⟩
    have hne : x ≠ a := fun z => by
      subst z
      obtain ⟨r1, r2, rfl⟩ := List.append_of_mem hx
      have h2 := Bk.suf (p := x :: r1) (y := x) (w := r2 ++ [x]) (by simpa using h)
      rw [List.length_append] at h2
      refine no (r2.length + 1) (Nat.succ_le_succ (Nat.zero_le _)) ?_ _ h2
      have : (x :: (r1 ++ x :: r2)).length = j + 1 := e
      simp at this
      omega
    rcases ltS_tri a x with z | z | z
    · exact z
    · exact (hne z.symm).elim
    · exact (k x (List.mem_cons_of_mem _ hx) z).elim
theorem nm_uniq {β : Type} : ∀ {l : List (Str × β)} {x : Str} {a b : β}, (l.map (·.1)).Nodup → (x, a) ∈ l → (x, b) ∈ l → a = b
  | p :: l, x, a, b, n, ha, hb => by
    obtain ⟨n1, n2⟩ := List.nodup_cons.mp n
    rcases List.mem_cons.mp ha with ha | ha
    · rcases List.mem_cons.mp hb with hb | hb
      · exact congrArg Prod.snd (ha.trans hb.symm)
      · exact (n1 (List.mem_map.mpr ⟨_, hb, by rw [← ha]⟩)).elim
    · rcases List.mem_cons.mp hb with hb | hb
      · exact (n1 (List.mem_map.mpr ⟨_, ha, by rw [← hb]⟩)).elim
      · exact nm_uniq n2 ha hb
abbrev WT := List (Str × List Str)
/-- the ways of j steps: the least for each name -/
structure TbI (g : Str → List Str) (f : Str) (j : Nat) (tb : WT) : Prop where
  nd : (tb.map (·.1)).Nodup
  way : ∀ p ∈ tb, Bk g f j p.1 p.2
  all : ∀ x w, Bk g f j x w → ∃ w', (x, w') ∈ tb ∧ ¬ lxS w w'
theorem TbI.zero : TbI g f 0 [(f, [f])] := ⟨List.pairwise_singleton _ _, fun p hp => by rw [List.mem_singleton.mp hp]; exact .one, fun x w h => by cases h; exact ⟨[f], List.mem_singleton.mpr rfl, lx_irr _⟩⟩
/-- what was looked at of ks: all uses of the first i, the first k of the next -/
def Pt (g : Str → List Str) (ks : List Str) (i k : Nat) (x y : Str) : Prop := ∃ a, ks[a]? = some x ∧ ((a < i ∧ y ∈ g x) ∨ (a = i ∧ y ∈ (g x).take k))
structure LaI (g : Str → List Str) (f : Str) (j : Nat) (ks : List Str) (tb : WT) (i k : Nat) (la : WT) : Prop where
  nd : (la.map (·.1)).Nodup
  way : ∀ p ∈ la, Bk g f (j + 1) p.1 p.2
  all : ∀ x y w, Pt g ks i k x y → ¬ ltS x f → (y, w) ∈ tb → ∃ w', (x, w') ∈ la ∧ ¬ lxS (x :: w) w'
theorem LaI.start {j : Nat} {ks : List Str} {tb : WT} : LaI g f j ks tb 0 0 [] := ⟨List.nodup_nil, (fun p hp => nomatch hp), fun x y w h => by
  obtain ⟨a, _, h | ⟨rfl, h⟩⟩ := h
  · exact absurd h.1 (Nat.not_lt_zero _)
  · rw [List.take_zero] at h; cases h⟩
theorem pt_succ {ks : List Str} {i k : Nat} {x y X Y : Str} (hX : ks[i]? = some X) (hY : (g X)[k]? = some Y) (h : Pt g ks i (k + 1) x y) : Pt g ks i k x y ∨ (x = X ∧ y = Y) := by
  obtain ⟨a, e, h | ⟨rfl, h⟩⟩ := h
  · exact .inl ⟨a, e, .inl h⟩
  · rw [hX] at e
    cases e
    rw [List.take_add_one, hY, List.mem_append] at h
    rcases h with h | h
    · exact .inl ⟨a, hX, .inr ⟨rfl, h⟩⟩
    · exact .inr ⟨rfl, List.mem_singleton.mp h⟩
theorem LaI.skip {j : Nat} {ks : List Str} {tb : WT} {i k : Nat} {la : WT} {X Y : Str} (b : LaI g f j ks tb i k la) (hX : ks[i]? = some X) (hY : (g X)[k]? = some Y) (h : ltS X f ∨ Y ∉ tb.map (·.1)) : LaI g f j ks tb i (k + 1) la := by
  refine ⟨b.nd, b.way, fun x y w hp hx hw => ?_⟩
  rcases pt_succ hX hY hp with hp | ⟨rfl, rfl⟩
  · exact b.all x y w hp hx hw
  · exact (h.elim hx fun h => h (List.mem_map.mpr ⟨_, hw, rfl⟩)).elim
theorem LaI.keep {j : Nat} {ks : List Str} {tb : WT} {i k : Nat} {la : WT} {X Y : Str} {w v : List Str} (b : LaI g f j ks tb i k la) (ht : (tb.map (·.1)).Nodup) (hX : ks[i]? = some X) (hY : (g X)[k]? = some Y) (hw : (Y, w) ∈ tb) (hv : (X, v) ∈ la) (hl : ¬ lxS (X :: w) v) : LaI g f j ks tb i (k + 1) la := by
  refine ⟨b.nd, b.way, fun x y u hp hx hu => ?_⟩
  rcases pt_succ hX hY hp with hp | ⟨rfl, rfl⟩
  · exact b.all x y u hp hx hu
  · have : u = w := nm_uniq ht hu hw
    subst this
    exact ⟨v, hv, hl⟩
theorem LaI.put {j : Nat} {ks : List Str} {tb : WT} {i k : Nat} {la : WT} {X Y : Str} {w : List Str} (b : LaI g f j ks tb i k la) (ht : TbI g f j tb) (hX : ks[i]? = some X) (hY : (g X)[k]? = some Y) (hf : ¬ ltS X f) (hw : (Y, w) ∈ tb) (hl : ∀ v, (X, v) ∈ la → lxS (X :: w) v) : LaI g f j ks tb i (k + 1) (putA la X (X :: w)) := by
  have new : (X, X :: w) ∈ putA la X (X :: w) := putA_mem.mpr (.inl rfl)
  refine ⟨putA_nd b.nd, fun p hp => ?_, fun x y u hp hx hu => ?_⟩
  · rcases putA_mem.mp hp with rfl | ⟨hp, _⟩
    · exact .cons (List.mem_of_getElem? hY) hf (ht.way _ hw)
    · exact b.way p hp
  · rcases pt_succ hX hY hp with hp | ⟨rfl, rfl⟩
    · obtain ⟨w', h1, h2⟩ := b.all x y u hp hx hu
      by_cases e : x = X
      · subst e
        refine ⟨_, new, fun z => h2 (lx_trans z (hl w' h1))⟩
      · exact ⟨w', putA_mem.mpr (.inr ⟨h1, e⟩), h2⟩
    · have : u = w := nm_uniq ht.nd hu hw
      subst this
      exact ⟨_, new, lx_irr _⟩
theorem LaI.next {j : Nat} {ks : List Str} {tb : WT} {i k : Nat} {la : WT} {X : Str} (b : LaI g f j ks tb i k la) (hX : ks[i]? = some X) (hk : (g X).length = k) : LaI g f j ks tb (i + 1) 0 la := by
  refine ⟨b.nd, b.way, fun x y w hp hx hw => b.all x y w ?_ hx hw⟩
  obtain ⟨a, e, h | h⟩ := hp
  · by_cases z : a = i
    · subst z
      rw [hX] at e
      cases e
      exact ⟨a, hX, .inr ⟨rfl, by rw [List.take_of_length_le (by omega)]; exact h.2⟩⟩
    · exact ⟨a, e, .inl ⟨by omega, h.2⟩⟩
  · exact absurd h.2 (by rw [List.take_zero]; exact List.not_mem_nil)
theorem LaI.done {j : Nat} {ks : List Str} {tb : WT} {la : WT} (b : LaI g f j ks tb ks.length 0 la) (ht : TbI g f j tb) (hd : ∀ x y, y ∈ g x → x ∈ ks) : TbI g f (j + 1) la := by
  refine ⟨b.nd, b.way, fun x w h => ?_⟩
  cases h with
  | cons hy hx h =>
    rename_i y u
    obtain ⟨u', h1, h2⟩ := ht.all y u h
    obtain ⟨a, ha, e⟩ := List.mem_iff_getElem.mp (hd x y hy)
    obtain ⟨w', h3, h4⟩ := b.all x y u' ⟨a, by rw [List.getElem?_eq_getElem ha, e], .inl ⟨ha, hy⟩⟩ hx h1
    refine ⟨w', h3, fun z => ?_⟩
    rcases lx_tri (x :: u') w' with q | q | q
    · exact h4 q
    · rw [← q] at z
      rcases z with z | z
      · exact ltS_irr x z
      · exact h2 z.2
    · have := lx_trans z q
      rcases this with z | z
      · exact ltS_irr x z
      · exact h2 z.2
/-- no way of j steps: none of more -/
theorem bk_down {j : Nat} (no : ∀ x w, ¬ Bk g f j x w) : ∀ (d : Nat) (x : Str) (w : List Str), ¬ Bk g f (j + d) x w
  | 0, x, w, h => no x w h
  | d + 1, x, w, h => by
    cases h with
    | cons _ _ h => exact bk_down no d _ _ h
theorem found_least {j : Nat} {la : WT} {w : List Str} (b : TbI g f (j + 1) la) (no : ∀ i, 1 ≤ i → i ≤ j → ∀ w, ¬ Bk g f i f w) (h : (f, w) ∈ la) : ∃ p, w = p ++ [f] ∧ Least g f (some p) := by
  obtain ⟨p, rfl, r, e⟩ := bk_ring (b.way _ h) no
  refine ⟨p, rfl, r, fun q hq => ?_⟩
  have hb := ring_bk hq
  have hl : 1 ≤ q.length := by
    obtain ⟨s, rfl, _⟩ := hq
    exact Nat.succ_le_succ (Nat.zero_le _)
  rcases Nat.lt_trichotomy q.length (j + 1) with z | z | z
  · exact (no _ hl (by omega) _ hb).elim
  · rw [z] at hb
    obtain ⟨w', h1, h2⟩ := b.all f _ hb
    have := nm_uniq b.nd h1 h
    subst this
    rcases lx_tri q p with y | y | y
    · exact (h2 (lx_app _ _ (by omega) y)).elim
    · exact .inl y.symm
    · exact .inr (.inr ⟨by omega, y⟩)
  · exact .inr (.inl (by omega))
theorem gone_none {j : Nat} (b : TbI g f (j + 1) []) (no : ∀ i, 1 ≤ i → i ≤ j → ∀ w, ¬ Bk g f i f w) : Least g f none := fun w r => by
  have hb := ring_bk r
  have hl : 1 ≤ w.length := by
    obtain ⟨s, rfl, _⟩ := r
    exact Nat.succ_le_succ (Nat.zero_le _)
  have none : ∀ x w, ¬ Bk g f (j + 1) x w := fun x w h => by
    obtain ⟨_, h, _⟩ := b.all x w h
    cases h
  rcases Nat.lt_or_ge j w.length with z | z
  · obtain ⟨d, e⟩ : ∃ d, w.length = j + 1 + d := ⟨w.length - (j + 1), by omega⟩
    rw [e] at hb
    exact bk_down none d _ _ hb
  · exact no _ hl z _ hb
/-- a ring may be cut to one whose names differ -/
theorem nodup_or : ∀ l : List Str, l.Nodup ∨ ∃ a x b c, l = a ++ x :: (b ++ x :: c)
  | [] => .inl List.nodup_nil
  | x :: l => by
    by_cases h : x ∈ l
    · obtain ⟨b, c, rfl⟩ := List.append_of_mem h
      exact .inr ⟨[], x, b, c, rfl⟩
    · rcases nodup_or l with n | ⟨a, y, b, c, rfl⟩
      · exact .inl (List.nodup_cons.mpr ⟨h, n⟩)
      · exact .inr ⟨x :: a, y, b, c, rfl⟩
theorem ring_short : ∀ (n : Nat) (w : List Str), w.length ≤ n → Ring g f w → ∃ w', Ring g f w' ∧ w'.Nodup
  | 0, w, h, r => by
    obtain ⟨s, rfl, _⟩ := r
    cases h
  | n + 1, w, h, r => by
    obtain ⟨s, rfl, c, hr⟩ := r
    rcases nodup_or s with nd | ⟨a, x, b, d, rfl⟩
    · refine ⟨f :: s, ⟨s, rfl, c, hr⟩, List.nodup_cons.mpr ⟨fun z => ltS_irr f (hr f z), nd⟩⟩
    · refine ring_short n (f :: (a ++ x :: d)) ?_ ⟨a ++ x :: d, rfl, ?_, fun y hy => hr y ?_⟩
      · have h : (a ++ x :: (b ++ x :: d)).length + 1 ≤ n + 1 := h
        show (a ++ x :: d).length + 1 ≤ n
        rw [List.length_append, List.length_cons, List.length_append, List.length_cons] at h
        rw [List.length_append, List.length_cons]
        omega
      · have e1 : (f :: (a ++ x :: (b ++ x :: d))) ++ [f] = ((f :: a) ++ [x]) ++ (b ++ x :: (d ++ [f])) := by simp
        have e2 : (f :: (a ++ x :: (b ++ x :: d))) ++ [f] = ((f :: a) ++ x :: b) ++ (x :: (d ++ [f])) := by simp
        have c1 : Ch g ((f :: a) ++ [x]) := by rw [e1] at c; exact c.pre
        have c2 : Ch g (x :: (d ++ [f])) := by rw [e2] at c; exact c.suf
        have := Ch.join c1 c2
        have e3 : (f :: (a ++ x :: d)) ++ [f] = (f :: a) ++ x :: (d ++ [f]) := by simp
        rw [e3]
        exact this
      · rcases List.mem_append.mp hy with z | z
        · exact List.mem_append_left _ z
        · rcases List.mem_cons.mp z with rfl | z
          · exact List.mem_append_right _ List.mem_cons_self
          · exact List.mem_append_right _ (List.mem_cons_of_mem _ (List.mem_append_right _ (List.mem_cons_of_mem _ z)))
theorem ring_dom {w : List Str} {ks : List Str} (hd : ∀ x y, y ∈ g x → x ∈ ks) (r : Ring g f w) : ∀ x ∈ w, x ∈ ks := fun x hx => by
  obtain ⟨s, rfl, c, _⟩ := r
  obtain ⟨i, hi, e⟩ := List.mem_iff_getElem.mp hx
  have h1 : ((f :: s) ++ [f])[i]? = some x := by rw [List.getElem?_append_left hi, List.getElem?_eq_getElem hi, e]
  have h2 : i + 1 < ((f :: s) ++ [f]).length := by rw [List.length_append]; show _ < _ + 1; omega
  exact hd _ _ (c i x _ h1 (List.getElem?_eq_getElem h2))
theorem end_none {ks : List Str} (hd : ∀ x y, y ∈ g x → x ∈ ks) (no : ∀ i, 1 ≤ i → i ≤ ks.length → ∀ w, ¬ Bk g f i f w) : Least g f none := fun w r => by
  obtain ⟨w', r', nd⟩ := ring_short _ w (Nat.le_refl _) r
  have hl : 1 ≤ w'.length := by
    obtain ⟨s, rfl, _⟩ := r'
    exact Nat.succ_le_succ (Nat.zero_le _)
  exact no _ hl (memLenS w' ks nd (ring_dom hd r')) _ (ring_bk r')
end
end R1

namespace R1
open PySem PySem.Spec PyProof.Rows L2 RK
local macro_rules | `(tactic| walk_at "sq") => `(tactic| first
  | exact SqL.of upd_same | exact upd_same | exact SqL.of (by assumption) | exact SqL.of (by rw [upd_ne (by assumption)]; assumption) | assumption)
local macro_rules | `(tactic| walk_at "sd") => `(tactic| first
  | assumption | omega | (refine Or.inl ⟨?_, ?_⟩ <;> omega) | (show _ ∧ _; constructor <;> omega) | (show _ ≠ _; simp; omega) | (exact Or.inl ⟨by decide, by decide⟩) | (exact Or.inr ⟨by decide, by decide⟩) | (show _ < _; decide) | (show _ ≤ _; decide))
local macro_rules | `(tactic| walk_at "at") => `(tactic| first | rfl | (refine atI_intV ?_ ?_ <;> omega) | assumption)
local macro_rules | `(tactic| walk_at "s1") => `(tactic| first
  | refine ⟨_, rfl, ?_⟩ | refine ⟨_, _, rfl, rfl, ?_⟩ | refine ⟨rfl, ?_⟩
  | refine ⟨_, _, _, _, rfl, rfl, by walk_at "sq", by walk_at "at", ?_⟩
  | refine Or.inl ⟨_, rfl, ?_⟩
  | refine ⟨_, _, rfl, Or.inl (by walk_at "sq"), ?_⟩
  | refine And.intro (by walk_at "sd") ?_)
local macro_rules | `(tactic| walk_at "s") => `(tactic| repeat walk_at "s1")

/-! tuples of texts as data, in their order -/
instance lxDec : ∀ a b : List Str, Decidable (lxS a b)
  | [], [] => .isFalse id
  | [], _ :: _ => .isTrue True.intro
  | _ :: _, [] => .isFalse id
  | a :: as, b :: bs => @instDecidableOr _ _ _ (@instDecidableAnd _ _ _ (lxDec as bs))
def sD (p : List Str) : List PyData := p.map PyData.str
def tS (p : List Str) : PyData := .tuple (sD p)
theorem eqv_str (a b : Str) : PyData.eqv (.str a) (.str b) = decide (a = b) := by
  rw [Bool.eq_iff_iff, decide_eq_true_eq]
  simp [PyData.eqv]
theorem lt_sD : ∀ a b : List Str, PyProof.Rows.lexLt PyProof.Rows.itemOrd (PySem.W.keyToksAll (sD a)) (PySem.W.keyToksAll (sD b)) = decide (lxS a b)
  | [], [] => by decide
  | [], b :: bs => by
    show PyProof.Rows.lexLt PyProof.Rows.itemOrd [.inl 0] (.inl 1 :: _) = true
    rw [PySem.W.lex_atom (by decide)]
    decide
  | a :: as, [] => by
    show PyProof.Rows.lexLt PyProof.Rows.itemOrd (.inl 1 :: _) [.inl 0] = false
    rw [PySem.W.lex_atom (by decide)]
    decide
  | a :: as, b :: bs => by
    show PyProof.Rows.lexLt PyProof.Rows.itemOrd (PySem.W.keyToksAll (.str a :: sD as)) (PySem.W.keyToksAll (.str b :: sD bs)) = _
    by_cases e : a = b
    · subst e
      rw [PySem.W.dataLt_all_yes (by simp [PySem.W.alike]) (by rw [eqv_str]; exact decide_eq_true rfl), lt_sD as bs, decide_eq_decide]
      exact ⟨fun h => .inr ⟨rfl, h⟩, fun h => h.elim (fun z => (ltS_irr a z).elim) And.right⟩
    · rw [PySem.W.dataLt_all_no (by simp [PySem.W.alike]) (by rw [eqv_str]; exact decide_eq_false e), PySem.W.dataLt_str, decide_eq_decide, ← ltS_iff]
      exact ⟨.inl, fun h => h.elim id fun z => (e z.1).elim⟩
theorem lt_tS (a b : List Str) : PySem.W.dataLt (tS a) (tS b) = decide (lxS a b) := by
  unfold tS
  rw [PySem.W.dataLt_tuple, lt_sD]
theorem alike_sD : ∀ a b : List Str, PySem.W.alikeAll (sD a) (sD b) = true
  | [], [] => rfl
  | [], _ :: _ => rfl
  | _ :: _, [] => rfl
  | a :: as, b :: bs => by
    show (PySem.W.alike (.str _) (.str _) && PySem.W.alikeAll (sD as) (sD bs)) = true
    rw [alike_sD as bs]
    rfl
theorem dp_sD {K : PySem.W.Frag} {H : Hp} : ∀ p : List Str, DpAll K H (p.map V.str) (sD p)
  | [] => .nil
  | _ :: p => .cons (.str _) (dp_sD p)
theorem dp_tS {K : PySem.W.Frag} {H : Hp} {q : Addr} {p : List Str} (h : H q = some (.tup (p.map V.str))) : Dp K H (.ref q) (tS p) := .tup (SqT.of h) (dp_sD p)
theorem tS_depth (p : List Str) : (tS p).depth ≤ 40 := by
  show PyData.depthAll (sD p) + 1 ≤ 40
  have := depthA_le (n := 0) (xs := sD p) fun y hy => by
    obtain ⟨k, _, rfl⟩ := List.mem_map.mp hy
    exact Nat.le_refl 0
  omega
/-! tables: names with their ways -/
inductive TbH (H : Hp) : SV → WT → Prop
  | nil : TbH H [] []
  | cons {x : Str} {q : Addr} {w : List Str} {us : SV} {l : WT} : H q = some (.tup (w.map V.str)) → TbH H us l → TbH H ((x, .ref q) :: us) ((x, w) :: l)
theorem TbH.tn {H H' : Hp} (s : Tn H H') : ∀ {us : SV} {l : WT}, TbH H us l → TbH H' us l
  | _, _, .nil => .nil
  | _, _, .cons e r => .cons (s _ _ e) (r.tn s)
theorem TbH.names {H : Hp} : ∀ {us : SV} {l : WT}, TbH H us l → us.map (·.1) = l.map (·.1)
  | _, _, .nil => rfl
  | _, _, .cons _ r => congrArg (_ :: ·) r.names
theorem TbH.get {H : Hp} {x : Str} : ∀ {us : SV} {l : WT}, TbH H us l → x ∈ l.map (·.1) → ∃ q w, getS us x = some (.ref q) ∧ H q = some (.tup (w.map V.str)) ∧ (x, w) ∈ l
  | _, _, .cons (x := y) (q := q) (w := w) (us := us) e r, h => by
    by_cases z : y = x
    · subst z
      exact ⟨q, w, if_pos rfl, e, List.mem_cons_self⟩
    · obtain ⟨q', w', h1, h2, h3⟩ := r.get ((List.mem_cons.mp h).elim (fun e => (z e.symm).elim) id)
      exact ⟨q', w', (if_neg z).trans h1, h2, List.mem_cons_of_mem _ h3⟩
theorem TbH.map {H : Hp} {x : Str} {q : Addr} {w : List Str} (e : H q = some (.tup (w.map V.str))) : ∀ {us : SV} {l : WT}, TbH H us l → TbH H (us.map fun p => if p.1 = x then (p.1, .ref q) else p) (l.map fun p => if p.1 = x then (p.1, w) else p)
  | _, _, .nil => .nil
  | _, _, .cons (x := y) (q := q') (w := w') (us := us) (l := l) e' r => by
    show TbH H ((if y = x then (y, V.ref q) else (y, V.ref q')) :: us.map _) ((if y = x then (y, w) else (y, w')) :: l.map _)
    by_cases z : y = x
    · rw [if_pos z, if_pos z]
      exact .cons e (r.map e)
    · rw [if_neg z, if_neg z]
      exact .cons e' (r.map e)
theorem TbH.snoc {H : Hp} {x : Str} {q : Addr} {w : List Str} (e : H q = some (.tup (w.map V.str))) : ∀ {us : SV} {l : WT}, TbH H us l → TbH H (us ++ [(x, .ref q)]) (l ++ [(x, w)])
  | _, _, .nil => .cons e .nil
  | _, _, .cons e' r => .cons e' (r.snoc e)
theorem TbH.put {H : Hp} {x : Str} {q : Addr} {w : List Str} (e : H q = some (.tup (w.map V.str))) {us : SV} {l : WT} (h : TbH H us l) : TbH H (putA us x (.ref q)) (putA l x w) := by
  unfold putA
  rw [h.names]
  by_cases c : x ∈ l.map (·.1)
  · rw [if_pos c, if_pos c]
    exact h.map e
  · rw [if_neg c, if_neg c]
    exact h.snoc e
theorem slA_tup {K : PySem.W.Frag} {H : Hp} {a : Addr} {xs : List V} {lo hi : Option Int} {Q : VK} (h : H a = some (.tup xs)) (q : ∀ p H', Same H H' → H' p = some (.tup (cutV xs lo hi)) → Q (.ref p) H') : rSlA K (.ref a) lo hi H Q := by
  refine ⟨a, xs, rfl, SqT.of h, fun e => q a H (Same.refl _) ?_, fun _ p hp => q p _ (same_new hp) upd_same⟩
  have : cutV xs lo hi = xs := by
    unfold cutV
    rw [e.1, e.2]
    simp
  rw [this]
  exact h
theorem cutV_neg0 (xs : List V) : cutV xs none (some (-1)) = xs.dropLast := by
  show (xs.drop (HT.sIx xs.length 0 none)).take (HT.sIx xs.length xs.length (some (-1)) - HT.sIx xs.length 0 none) = _
  have e1 : HT.sIx xs.length 0 none = 0 := rfl
  have e2 : HT.sIx xs.length xs.length (some (-1)) = xs.length - 1 := by
    unfold HT.sIx
    simp only []
    rw [if_pos (by omega)]
    omega
  rw [e1, e2, List.drop_zero, Nat.sub_zero, List.dropLast_eq_take]
theorem cutV_neg1 (xs : List V) (x : V) : cutV (xs ++ [x]) none (some (-1)) = xs := by
  rw [cutV_neg0, List.dropLast_concat]
/-- the dict of uses, while it is walked -/
structure UsH (H : Hp) (d : Addr) (od : Obj) (l : SV) (g : Str → List Str) : Prop where
  dd : H d = some (.frz od (.dK (kvS l)))
  val : ∀ x ∈ l.map (·.1), ∃ a, getS l x = some (.ref a) ∧ H a = some (.lst ((g x).map V.str))
  dom : ∀ x y, y ∈ g x → x ∈ l.map (·.1)
  few : l.length ≤ 60
theorem UsH.up {H H' : Hp} {d : Addr} {od : Obj} {l : SV} {g : Str → List Str} (h : UsH H d od l g) (s : Same H H') : UsH H' d od l g :=
  ⟨s _ _ h.dd, fun x hx => let ⟨a, e1, e2⟩ := h.val x hx; ⟨a, e1, s _ _ e2⟩, h.dom, h.few⟩
theorem LaI.few {g : Str → List Str} {f : Str} {j : Nat} {ks : List Str} {tb : WT} {i k : Nat} {la : WT} (b : LaI g f j ks tb i k la) (hd : ∀ x y, y ∈ g x → x ∈ ks) : la.length ≤ ks.length := by
  rw [← List.length_map (f := Prod.fst)]
  refine memLenS _ _ b.nd fun x hx => ?_
  obtain ⟨⟨x, w⟩, hp, rfl⟩ := List.mem_map.mp hx
  have h : Bk g f (j + 1) x w := b.way _ hp
  cases h with
  | cons hy _ _ => exact hd _ _ hy
def spBack : Sp := fun vs H Q _ => ∃ (d : Addr) (f : Str) (od : Obj) (l : SV) (g : Str → List Str), vs = [.ref d, .str f] ∧ UsH H d od l g ∧ ∀ H' v o, Same H H' → Least g f o → RgO H' v o → Q v H'
section
variable {P : Program} {w : World} {K : PySem.W.Frag} {mg : Str → Option Value} {base : Heap} {A : Ads}
theorem ok_law_back (T : Txt K mg A) : FnOk P w K mg base CX0 4 A.a_law_back A.d_law_back ["_law_uses_here", "_law_first"] spBack := by
  refine T.F_law_back.ok sc_law_back (fun vs H Q E h => ?_) (fun cdv B outer s H vs Q E hr h => ?_)
  · obtain ⟨d, f, od, l, g, rfl, _⟩ := h
    rfl
  · obtain ⟨d, f, od, l, g, rfl, us, q⟩ := h
    refine ⟨_, (pss_cons (ps_set (i := 2) sc_law_back.nd rfl (.inl rfl) (pe_disp (pps_cons (pv 1) (pe_tup (pa_cons (pv 1) pa_nil)) pps_nil) (by rfl) (by rfl) (fun z => by cases z) (by decide)))
    (pss_cons (ps_for PassesOwn.never rfl (pi_range1 (by rfl) T.n_range (pa_cons (pe_callB call_lenR (by rfl) T.n_len (by decide +kernel) (pa_cons (pv 0) pa_nil)) pa_nil)) (pg_name (i := 3) sc_law_back.nd rfl (.inl rfl))
      (pss_cons (ps_set (i := 4) sc_law_back.nd rfl (.inl rfl) pe_dnewK)
    (pss_cons (ps_for PassesOwn.never rfl (pi_keys (pv 0)) (pg_name (i := 5) sc_law_back.nd rfl (.inl rfl))
      (pss_one (ps_for PassesOwn.never rfl (pi_list (pe_dget (hu_of hr) (pv 0) (pv 5) (fun _ _ => rfl))) (pg_name (i := 6) sc_law_back.nd rfl (.inl rfl))
      (pss_one (ps_if (PW.pt (pw_and (pt_cmpR op_ge_str (pv 5) (pv 1) (nomark _)) (pw_and1 (pt_cmp (pc_din (hu_of hr) (pv 6) (pv 2)))))) (pss_cons (ps_set (i := 7) sc_law_back.nd rfl (.inl rfl) (pe_op op_catA (pe_tup (pa_cons (pv 5) pa_nil)) (pe_dget (hu_of hr) (pv 2) (pv 6) (fun _ _ => rfl))))
    (pss_one (ps_if (PW.pt (pw_or (pt_cmp (pc_dnotin (hu_of hr) (pv 5) (pv 4))) (pw_or1 (pt_cmpR (DG.op_ltD (DG.u60_of hr)) (pv 7) (pe_dget (hu_of hr) (pv 4) (pv 5) (fun _ _ => rfl)) (nomark _))))) (pss_one (ps_dput (hu_of hr) (pv 4) (pv 5) (pv 7) rfl)) pss_nil))) pss_nil)))))
    (pss_cons (ps_if (pt_cmp (pc_din (hu_of hr) (pv 1) (pv 4))) (pss_one (ps_ret (pe_slice sl_tupA (pe_dget (hu_of hr) (pv 4) (pv 1) (fun _ _ => rfl)) po_none (po_some (pe_un un_neg pe_int))))) pss_nil)
    (pss_cons (ps_if (pt_cmpR op_eq (pe_callB call_lenD (by rfl) T.n_len (by decide +kernel) (pa_cons (pv 4) pa_nil)) pe_int (nomark _)) (pss_one (ps_ret pe_non)) pss_nil)
    (pss_one (ps_set (i := 2) sc_law_back.nd rfl (.inl rfl) (pv 4))))))))
    (pss_one (ps_ret pe_non)))), ?_⟩
    obtain ⟨ks, hks⟩ : ∃ ks : List Str, ks = l.map (·.1) := ⟨_, rfl⟩
    have hkl : ks.length = l.length := by rw [hks, List.length_map]
    have few := us.few
    have dom : ∀ x y, y ∈ g x → x ∈ ks := fun x y h => by rw [hks]; exact us.dom x y h
    refine fun Tb hTb => ?_
    have s1 := same_new (o := .dK []) hTb
    have eT1 : upd H Tb (.dK []) Tb = some (.dK []) := upd_same
    generalize upd H Tb (.dK []) = H1 at s1 eT1 ⊢
    refine ⟨_, rfl, _, rfl, lenOk (n := 1) rfl (by decide), fun t0 ht0 => ?_⟩
    have s2 := same_new (o := .tup [V.str f]) ht0
    have e2 : upd H1 t0 (.tup [V.str f]) t0 = some (.tup [V.str f]) := upd_same
    generalize upd H1 t0 (.tup [V.str f]) = H2 at s2 e2 ⊢
    have eT2 := s2 _ _ eT1
    refine ⟨eT2, [(.inr f, .ref t0)], rfl, (show 1 ≤ 15 by decide), ?_⟩
    have s3 : Same H (upd H2 Tb (.dK (mergeK [] [(Sum.inr f, V.ref t0)]))) := same_mut (s1.trans s2) hTb
    have eT : upd H2 Tb (.dK (mergeK [] [(Sum.inr f, V.ref t0)])) Tb = some (.dK (kvS [(f, V.ref t0)])) := upd_same
    have tM : Tn H2 (upd H2 Tb (.dK (mergeK [] [(Sum.inr f, V.ref t0)]))) := Tn.put fun xs z => by rw [eT2] at z; cases z
    generalize upd H2 Tb (.dK (mergeK [] [(Sum.inr f, V.ref t0)])) = H3 at s3 eT tM ⊢
    have tb0 : TbH H3 [(f, V.ref t0)] [(f, [f])] := .cons (tM _ _ e2) .nil
    refine ⟨_, rfl, d, kvS l, rfl, .inr ⟨od, s3 _ _ us.dd⟩, ((kvS l).length : Nat), rfl, by omega, by rw [kvS_len]; exact Int.lt_of_le_of_lt (show _ ≤ (60 : Int) by omega) (by decide), ?_⟩
    rw [Int.toNat_natCast]
    refine for_it (walk_range (lo := 0) (n := (kvS l).length)) (fun i σ Hx => ∃ (Tb : Addr) (o3 o4 o5 o6 o7 : Option V) (sv : SV) (tb : WT), σ = [some (.ref d), some (.str f), some (.ref Tb), o3, o4, o5, o6, o7] ∧ Same H Hx ∧ H Tb = none ∧ Hx Tb = some (.dK (kvS sv)) ∧ TbH Hx sv tb ∧ TbI g f i tb ∧ ∀ j, 1 ≤ j → j ≤ i → ∀ w, ¬ Bk g f j f w) ⟨Tb, none, none, none, none, none, _, _, rfl, s3, hTb, eT, tb0, TbI.zero, fun j h1 h2 => by omega⟩ (fun _ _ _ _ _ => trivial) (fun i x σ Hx He hi y e => ?_) (fun σ Hx y => ?_)
    · obtain ⟨rfl, rfl⟩ := e
      obtain ⟨Tb, o3, o4, o5, o6, o7, sv, tb, rfl, sx, hTb, eT, tbh, tbi, no⟩ := y
      rw [kvS_len] at hi
      refine fun La hLa => ?_
      have hLaH : H La = none := sx.free hLa
      have hLT : La ≠ Tb := fun z => by rw [z, eT] at hLa; cases hLa
      have s4 := same_new (o := .dK []) hLa
      have eL4 : upd He La (.dK []) La = some (.dK (kvS [])) := upd_same
      generalize upd He La (.dK []) = H4 at s4 eL4 ⊢
      have s4H := sx.trans s4
      have edf := us.dd
      refine ⟨_, rfl, d, od, rfl, .inl ⟨_, s4H _ _ edf, ?_⟩⟩
      refine for_it (walk_keys (d := d) (o := od) (kvs := kvS l)) (fun a σ Hx => ∃ (o5 o6 o7 : Option V) (sl : SV) (la : WT), σ = [some (.ref d), some (.str f), some (.ref Tb), some (.int (0 + (i : Nat) : Int)), some (.ref La), o5, o6, o7] ∧ Same H Hx ∧ Hx Tb = some (.dK (kvS sv)) ∧ TbH Hx sv tb ∧ Hx La = some (.dK (kvS sl)) ∧ TbH Hx sl la ∧ LaI g f i ks tb a 0 la) ⟨o5, o6, o7, [], [], rfl, s4H, s4 _ _ eT, tbh.tn (Tn.of s4), eL4, .nil, LaI.start⟩ (fun a σ Hx _ y => ?_) (fun a x σ Hx He ha y e => ?_) (fun σ Hx y => ?_)
      · obtain ⟨_, _, _, _, _, _, sm, _⟩ := y
        exact sm _ _ edf
      · obtain ⟨rfl, k0, v0, ek, rfl⟩ := e
        obtain ⟨o5, o6, o7, sl, la, rfl, sm, eTm, tbm, eLm, lam, lai⟩ := y
        rw [kvS_len] at ha
        unfold kvS at ek
        rw [List.getElem?_map, List.getElem?_eq_getElem ha] at ek
        cases ek
        have hX : ks[a]? = some l[a].1 := by rw [hks, List.getElem?_map, List.getElem?_eq_getElem ha]; rfl
        generalize l[a] = pr at *
        obtain ⟨X, v⟩ := pr
        have hXk : X ∈ l.map (·.1) := by rw [← hks]; exact List.mem_of_getElem? hX
        obtain ⟨ga, eg1, eg2⟩ := us.val X hXk
        refine ⟨_, rfl, _, rfl, d, .ref ga, rfl, ?_, ga, rfl, ⟨_, SqL.of (sm _ _ eg2)⟩, ?_⟩
        · rw [← eg1, ← kvS_val]
          exact .inl ⟨_, .inr X, .inr ⟨od, sm _ _ edf⟩, rfl, rfl⟩
        have hgl : ((g X).map V.str).length = (g X).length := List.length_map _
        refine for_it (walk_list (K := K) (a := ga) (xs := (g X).map V.str)) (fun k σ Hx => ∃ (o6 o7 : Option V) (sl : SV) (la : WT), σ = [some (.ref d), some (.str f), some (.ref Tb), some (.int (0 + (i : Nat) : Int)), some (.ref La), some (.str X), o6, o7] ∧ Same H Hx ∧ Hx Tb = some (.dK (kvS sv)) ∧ TbH Hx sv tb ∧ Hx La = some (.dK (kvS sl)) ∧ TbH Hx sl la ∧ LaI g f i ks tb a k la) ⟨o6, o7, sl, la, rfl, sm, eTm, tbm, eLm, lam, lai⟩ (fun k σ Hx _ y => ?_) (fun k x σ Hx He hk y e => ?_) (fun σ Hx y => ?_)
        · obtain ⟨_, _, _, _, _, sm, _⟩ := y
          exact SqL.of (sm _ _ eg2)
        · obtain ⟨rfl, ex⟩ := e
          obtain ⟨o6, o7, sl, la, rfl, sm, eTm, tbm, eLm, lam, lai⟩ := y
          rw [hgl] at hk
          have hY : (g X)[k]? = some (g X)[k] := List.getElem?_eq_getElem hk
          rw [List.getElem?_map, hY] at ex
          cases ex
          generalize (g X)[k] = Y at *
          refine ⟨_, rfl, _, rfl, X, f, rfl, rfl, _, rfl, ?_⟩
          refine ifB (fun c1 => ?_) (fun c1 => ?_)
          case refine_2 =>
            have c1 : ltS X f := by
              rw [Bool.not_eq_false'] at c1
              exact ltS_iff.mpr (of_decide_eq_true c1)
            exact ⟨_, o7, sl, la, rfl, sm, eTm, tbm, eLm, lam, lai.skip hX hY (.inl c1)⟩
          have c1 : ¬ ltS X f := by
            rw [Bool.not_eq_true'] at c1
            exact fun z => of_decide_eq_false c1 (ltS_iff.mp z)
          refine ⟨_, rfl, _, rfl, Tb, _, rfl, DGet.k (k := .inr Y) eTm, _, rfl, ?_⟩
          rw [kvS_val, getS_some, tbm.names]
          refine ifB (fun c2 => ?_) (fun c2 => ?_)
          case refine_2 =>
            have c2 : Y ∉ tb.map (·.1) := of_decide_eq_false c2
            exact ⟨_, o7, sl, la, rfl, sm, eTm, tbm, eLm, lam, lai.skip hX hY (.inr c2)⟩
          have c2 : Y ∈ tb.map (·.1) := of_decide_eq_true c2
          obtain ⟨qa, wy, gw1, gw2, gw3⟩ := tbm.get c2
          have hwl : wy.length = i + 1 := (tbi.way _ gw3).len
          refine ⟨_, rfl, lenOk (n := 1) rfl (by decide), fun t1 ht1 => ?_⟩
          have s5 := same_new (o := .tup [V.str X]) ht1
          have e5 : upd He t1 (.tup [V.str X]) t1 = some (.tup [V.str X]) := upd_same
          generalize upd He t1 (.tup [V.str X]) = H5 at s5 e5 ⊢
          refine ⟨_, rfl, _, rfl, Tb, .ref qa, rfl, ?_, ?_⟩
          · rw [← gw1, ← kvS_val]
            exact DGet.k (k := .inr Y) (s5 _ _ eTm)
          refine TD.catR (SqT.of e5) (s5 _ _ gw2) (fun z => by have := congrArg List.length z; rw [List.length_map, hwl] at this; cases this) (by rw [List.length_map]; show 1 + _ ≤ _; omega) fun p6 H6 s6 hp6 => ?_
          have s56 := s5.trans s6
          have hp6 : H6 p6 = some (.tup ((X :: wy).map V.str)) := hp6
          have sm6 := sm.trans s56
          have eT6 := s56 _ _ eTm
          have eL6 := s56 _ _ eLm
          have tb6 := tbm.tn (Tn.of s56)
          have la6 := lam.tn (Tn.of s56)
          have hll := lai.few dom
          have hsl : sl.length = la.length := by
            have := congrArg List.length lam.names
            rwa [List.length_map, List.length_map] at this
          refine ⟨_, rfl, _, rfl, La, _, rfl, DGet.k (k := .inr X) eL6, _, rfl, ?_⟩
          rw [kvS_val, getS_some, lam.names]
          have hput : (∀ v, (X, v) ∈ la → lxS (X :: wy) v) → ∃ (o6 o7 : Option V) (sl' : SV) (la' : WT), ([some (.ref d), some (.str f), some (.ref Tb), some (.int (0 + (i : Nat) : Int)), some (.ref La), some (.str X), some (.str Y), some (.ref p6)] : L2.St) = [some (.ref d), some (.str f), some (.ref Tb), some (.int (0 + (i : Nat) : Int)), some (.ref La), some (.str X), o6, o7] ∧ Same H (upd H6 La (.dK (putK (kvS sl) (.inr X) (.ref p6)))) ∧ upd H6 La (.dK (putK (kvS sl) (.inr X) (.ref p6))) Tb = some (.dK (kvS sv)) ∧ TbH (upd H6 La (.dK (putK (kvS sl) (.inr X) (.ref p6)))) sv tb ∧ upd H6 La (.dK (putK (kvS sl) (.inr X) (.ref p6))) La = some (.dK (kvS sl')) ∧ TbH (upd H6 La (.dK (putK (kvS sl) (.inr X) (.ref p6)))) sl' la' ∧ LaI g f i ks tb a (k + 1) la' := fun hl => by
            have tn : Tn H6 (upd H6 La (.dK (putK (kvS sl) (.inr X) (.ref p6)))) := Tn.put fun xs z => by rw [eL6] at z; cases z
            exact ⟨_, _, putA sl X (.ref p6), putA la X (X :: wy), rfl, same_mut sm6 hLaH, by rw [upd_ne (Ne.symm hLT)]; exact eT6, tb6.tn tn, by rw [upd_same, kvS_putA], (la6.tn tn).put (tn _ _ hp6), lai.put tbi hX hY c1 gw3 hl⟩
          by_cases c3 : X ∈ la.map (·.1)
          · rw [decide_eq_true c3]
            refine ifF rfl ?_
            obtain ⟨qv, wv, gv1, gv2, gv3⟩ := la6.get c3
            refine ⟨_, rfl, _, rfl, _, rfl, La, .ref qv, rfl, ?_, tS (X :: wy), tS wv, dp_tS hp6, dp_tS gv2, alike_sD _ _, (fun z => nomatch z), tS_depth _, _, rfl, ?_⟩
            · rw [← gv1, ← kvS_val]
              exact DGet.k (k := .inr X) eL6
            rw [lt_tS]
            refine ifB (fun c4 => ?_) (fun c4 => ?_)
            · have c4 := of_decide_eq_true c4
              exact ⟨_, rfl, _, rfl, _, rfl, La, _, rfl, DPut.k (k := .inr X) eL6 (by rw [kvS_len]; exact Nat.lt_of_le_of_lt (show _ ≤ 60 by omega) (by decide)), hput fun v hv => by rw [nm_uniq lai.nd hv gv3]; exact c4⟩
            · have c4 := of_decide_eq_false c4
              exact ⟨_, _, sl, la, rfl, sm6, eT6, tb6, eL6, la6, lai.keep tbi.nd hX hY gw3 gv3 c4⟩
          · rw [decide_eq_false c3]
            refine ifT rfl ?_
            exact ⟨_, rfl, _, rfl, _, rfl, La, _, rfl, DPut.k (k := .inr X) eL6 (by rw [kvS_len]; exact Nat.lt_of_le_of_lt (show _ ≤ 60 by omega) (by decide)), hput fun v hv => (c3 (List.mem_map.mpr ⟨_, hv, rfl⟩)).elim⟩
        · obtain ⟨o6, o7, sl, la, rfl, sm, eTm, tbm, eLm, lam, lai⟩ := y
          rw [hgl] at lai
          exact ⟨_, o6, o7, sl, la, rfl, sm, eTm, tbm, eLm, lam, lai.next hX rfl⟩
      obtain ⟨o5, o6, o7, sl, la, rfl, sm, eTm, tbm, eLm, lam, lai⟩ := y
      rw [kvS_len, ← hkl] at lai
      have tb2 := lai.done tbi dom
      have hsl : sl.length = la.length := by
        have := congrArg List.length lam.names
        rwa [List.length_map, List.length_map] at this
      refine ⟨_, rfl, _, rfl, La, _, rfl, DGet.k (k := .inr f) eLm, _, rfl, ?_⟩
      rw [kvS_val, getS_some, lam.names]
      refine ifB (fun c5 => ?_) (fun c5 => ?_)
      · have c5 : f ∈ la.map (·.1) := of_decide_eq_true c5
        obtain ⟨qv, wv, gv1, gv2, gv3⟩ := lam.get c5
        obtain ⟨p, rfl, lst⟩ := found_least tb2 no gv3
        refine ⟨_, rfl, _, rfl, La, .ref qv, rfl, ?_, ?_⟩
        · rw [← gv1, ← kvS_val]
          exact DGet.k (k := .inr f) eLm
        unfold tNoPart
        refine ⟨_, rfl, _, rfl, ?_⟩
        refine slA_tup gv2 fun p7 H7 s7 hp7 => ?_
        refine q H7 (.ref p7) (some p) (sm.trans s7) lst ⟨p7, rfl, ?_⟩
        rw [hp7, List.map_append]
        exact congrArg (fun z => some (HO.tup z)) (cutV_neg1 _ _)
      · have c5 : f ∉ la.map (·.1) := of_decide_eq_false c5
        have no2 : ∀ j, 1 ≤ j → j ≤ i + 1 → ∀ w, ¬ Bk g f j f w := fun j h1 h2 w hb => by
          by_cases e : j = i + 1
          · subst e
            obtain ⟨w', h3, _⟩ := tb2.all f w hb
            exact c5 (List.mem_map.mpr ⟨_, h3, rfl⟩)
          · exact no j h1 (by omega) w hb
        refine ⟨_, rfl, La, _, rfl, eLm, rfl, _, rfl, ?_⟩
        refine ifB (fun c6 => ?_) (fun c6 => ?_)
        · have c6 : V.int ((kvS sl).length : Nat) = V.int 0 := of_decide_eq_true c6
          have c6 : ((kvS sl).length : Int) = 0 := V.int.inj c6
          rw [kvS_len, hsl] at c6
          obtain rfl : la = [] := List.eq_nil_of_length_eq_zero (by omega)
          exact q Hx .non none sm (gone_none tb2 no) rfl
        · exact ⟨_, rfl, La, _, _, _, _, _, sl, la, rfl, sm, hLaH, eLm, lam, tb2, no2⟩
    · obtain ⟨Tb, o3, o4, o5, o6, o7, sv, tb, rfl, sx, hTb, eT, tbh, tbi, no⟩ := y
      rw [kvS_len, ← hkl] at no
      exact q Hx .non none sx (end_none dom no) rfl
end
end R1

namespace R1
open PySem PySem.Spec PyProof.Rows L2 RK
local macro_rules | `(tactic| walk_at "sq") => `(tactic| first
  | exact SqL.of upd_same | exact upd_same | exact SqL.of (by assumption) | exact SqL.of (by rw [upd_ne (by assumption)]; assumption) | assumption)
local macro_rules | `(tactic| walk_at "sd") => `(tactic| first
  | assumption | omega | (refine Or.inl ⟨?_, ?_⟩ <;> omega) | (show _ ∧ _; constructor <;> omega) | (show _ ≠ _; simp; omega) | (exact Or.inl ⟨by decide, by decide⟩) | (exact Or.inr ⟨by decide, by decide⟩) | (show _ < _; decide) | (show _ ≤ _; decide))
local macro_rules | `(tactic| walk_at "at") => `(tactic| first | rfl | (refine atI_intV ?_ ?_ <;> omega) | assumption)
local macro_rules | `(tactic| walk_at "s1") => `(tactic| first
  | refine ⟨_, rfl, ?_⟩ | refine ⟨_, _, rfl, rfl, ?_⟩ | refine ⟨rfl, ?_⟩
  | refine ⟨_, _, _, _, rfl, rfl, by walk_at "sq", by walk_at "at", ?_⟩
  | refine Or.inl ⟨_, rfl, ?_⟩
  | refine ⟨_, _, rfl, Or.inl (by walk_at "sq"), ?_⟩
  | refine And.intro (by walk_at "sd") ?_)
local macro_rules | `(tactic| walk_at "s") => `(tactic| repeat walk_at "s1")

theorem eqv_sD : ∀ a b : List Str, PyData.eqvAll (sD a) (sD b) = decide (a = b)
  | [], [] => by simp [sD, PyData.eqvAll]
  | [], b :: bs => by simp [sD, PyData.eqvAll]
  | a :: as, [] => by simp [sD, PyData.eqvAll]
  | a :: as, b :: bs => by
    show PyData.eqvAll (PyData.str a :: sD as) (PyData.str b :: sD bs) = _
    rw [PyData.eqvAll, eqv_str, eqv_sD as bs]
    by_cases e : a = b
    · subst e
      simp
    · simp [e]
theorem eqv_tS (a b : List Str) : PyData.eqv (tS a) (tS b) = decide (a = b) := by
  unfold tS
  rw [PyData.eqv, eqv_sD]
def lenD (p : List Str) : PyData := .tuple [.int (p.length : Nat), tS p]
theorem lt_lenD (p q : List Str) : PySem.W.dataLt (lenD p) (lenD q) = true ↔ ltW p q := by
  unfold lenD
  rw [PySem.W.dataLt_tuple]
  by_cases e : p.length = q.length
  · rw [PySem.W.dataLt_all_yes (by simp [PySem.W.alike]) (by rw [e]; simp [PyData.eqv])]
    by_cases e2 : p = q
    · subst e2
      rw [PySem.W.dataLt_all_yes (show PySem.W.alike (tS p) (tS p) = true from alike_sD p p) (by rw [eqv_tS]; exact decide_eq_true rfl)]
      exact ⟨fun h => (by cases h), fun h => (ltW_irr p h).elim⟩
    · rw [PySem.W.dataLt_all_no (show PySem.W.alike (tS p) (tS q) = true from alike_sD p q) (by rw [eqv_tS]; exact decide_eq_false e2), lt_tS, decide_eq_true_eq]
      exact ⟨fun h => .inr ⟨e, h⟩, fun h => h.elim (fun z => by omega) And.right⟩
  · rw [PySem.W.dataLt_all_no (by simp [PySem.W.alike]) (by simp [PyData.eqv]; omega), PySem.W.dataLt_int, decide_eq_true_eq]
    exact ⟨fun h => .inl (by omega), fun h => h.elim (fun z => by omega) fun z => (e z.1).elim⟩
theorem lenD_depth (p : List Str) : (lenD p).depth ≤ 40 := by
  show PyData.depthAll [.int (p.length : Nat), tS p] + 1 ≤ 40
  have h1 : (tS p).depth ≤ 1 := by
    show PyData.depthAll (sD p) + 1 ≤ 1
    have := depthA_le (n := 0) (xs := sD p) fun y hy => by
      obtain ⟨k, _, rfl⟩ := List.mem_map.mp hy
      exact Nat.le_refl 0
    omega
  have := depthA_le (n := 1) (xs := [.int (p.length : Nat), tS p]) fun y hy => by
    rcases List.mem_cons.mp hy with rfl | hy
    · exact Nat.zero_le _
    · cases List.mem_singleton.mp hy
      exact h1
  omega
def spLawRing : Sp := fun vs H Q _ => ∃ (d : Addr) (l : SV) (t : Str → Tr), vs = [.ref d] ∧ LtH H d l t ∧
  ∀ H' v o, Same H H' → Best (gU (l.map (·.1)) t) (l.map (·.1)) o → RgO H' v o → Q v H'
section
variable {P : Program} {w : World} {K : PySem.W.Frag} {mg : Str → Option Value} {base : Heap} {A : Ads}
theorem ok_law_ring (T : Txt K mg A) : FnOk P w K mg base CX0 25 A.a_law_ring A.d_law_ring ["_law_lets_here"] spLawRing := by
  refine T.F_law_ring.ok sc_law_ring (fun vs H Q E h => ?_) (fun cdv B outer s H vs Q E hr h => ?_)
  · obtain ⟨d, l, t, rfl, _⟩ := h
    rfl
  · obtain ⟨d, l, t, rfl, lt, q⟩ := h
    refine ⟨_, (pss_cons (ps_set (i := 1) sc_law_ring.nd rfl (.inl rfl) pe_dnewK)
    (pss_cons (ps_lock (ps_for PassesOwn.never rfl (pi_keys (pv 0)) (pg_name (i := 2) sc_law_ring.nd rfl (.inl rfl))
      (pss_one (ps_dput (hu_of hr) (pv 1) (pv 2) (pe_call (ok_law_uses T 16) (hr.mono (by omega)) rfl T.g_law_uses T.F_law_uses.kp T.b_law_uses .nil pass0 (pa_cons (pe_dget (hu_of hr) (pv 0) (pv 2) (fun _ _ => rfl)) (pa_cons (pv 0) pa_nil))) rfl))))
    (pss_cons (ps_set (i := 3) sc_law_ring.nd rfl (.inl rfl) pe_non)
    (pss_cons (ps_lock (ps_for PassesOwn.never rfl (pi_keys (pv 1)) (pg_name (i := 2) sc_law_ring.nd rfl (.inl rfl))
      (pss_cons (ps_set (i := 4) sc_law_ring.nd rfl (.inl rfl) (pe_call (ok_law_back T) (hr.mono (by omega)) rfl T.g_law_back T.F_law_back.kp T.b_law_back .nil pass0 (pa_cons (pv 1) (pa_cons (pv 2) pa_nil))))
    (pss_one (ps_if (PW.pt (pw_and (pt_cmpR op_notN (pv 4) pe_non (nomark _)) (pw_and1 (PW.pt (pw_or (pt_cmpR op_isN (pv 3) pe_non (nomark _)) (pw_or1 (pt_cmpR (DG.op_ltD (DG.u60_of hr)) (pe_tup (pa_cons (pe_callB len_seq (by rfl) T.n_len (by decide +kernel) (pa_cons (pv 4) pa_nil)) (pa_cons (pv 4) pa_nil))) (pe_tup (pa_cons (pe_callB len_seq (by rfl) T.n_len (by decide +kernel) (pa_cons (pv 3) pa_nil)) (pa_cons (pv 3) pa_nil))) (nomark _)))))))) (pss_one (ps_set (i := 3) sc_law_ring.nd rfl (.inl rfl) (pv 4))) pss_nil)))))
    (pss_one (ps_ret (pv 3))))))), ?_⟩
    obtain ⟨ks, hks⟩ : ∃ ks : List Str, ks = l.map (·.1) := ⟨_, rfl⟩
    have hkl : ks.length = l.length := by rw [hks, List.length_map]
    have hnd := lt.nd
    rw [← hks] at q hnd
    have few := lt.few
    refine fun U hU => ?_
    have hUd : U ≠ d := fun z => by rw [z, lt.dd] at hU; cases hU
    have ed1 : upd H U (.dK []) d = some (.dK (kvS l)) := same_new hU _ _ lt.dd
    have eU1 : upd H U (.dK []) U = some (.dK (kvS [])) := upd_same
    have sfr : ∀ od, Same (upd H d (.frz od (.dK (kvS l)))) (upd (upd H U (.dK [])) d (.frz od (.dK (kvS l)))) := fun od => same_frz_new hU
    generalize upd H U (.dK []) = H1 at ed1 eU1 sfr ⊢
    refine ⟨d, _, ed1, trivial, fun od => ?_⟩
    have hUf : upd H d (.frz od (.dK (kvS l))) U = none := by rw [upd_ne hUd]; exact hU
    have eUf : upd H1 d (.frz od (.dK (kvS l))) U = some (.dK (kvS [])) := by rw [upd_ne hUd]; exact eU1
    have edF : upd H d (.frz od (.dK (kvS l))) d = some (.frz od (.dK (kvS l))) := upd_same
    have tnF : Tn H (upd H d (.frz od (.dK (kvS l)))) := Tn.put fun xs z => by rw [lt.dd] at z; cases z
    have sF := sfr od
    have back : ∀ {H' : Hp}, Same (upd H d (.frz od (.dK (kvS l)))) H' → Same H (upd H' d (.dK (kvS l))) := fun s => same_lock lt.dd s
    have edf := sF _ _ edF
    generalize upd H1 d (.frz od (.dK (kvS l))) = Hf at sF eUf edf ⊢
    generalize upd H d (.frz od (.dK (kvS l))) = HF at hUf edF tnF back sF
    refine ⟨_, rfl, d, od, rfl, .inl ⟨_, edf, ?_⟩⟩
    refine for_it (walk_keys (d := d) (o := od) (kvs := kvS l)) (fun i σ Hc => ∃ (o2 : Option V) (as : SV), σ = [some (.ref d), some (.ref U), o2, none, none] ∧ Same HF Hc ∧ Hc U = some (.dK (kvS as)) ∧ as.map (·.1) = ks.take i ∧ LvH Hc ks t as) ⟨_, [], rfl, sF, eUf, rfl, fun p hp => nomatch hp⟩ (fun i σ Hc _ y => ?_) (fun i x σ Hc He hi y e => ?_) (fun σ Hc y => ?_)
    · obtain ⟨_, _, _, s1, _⟩ := y
      exact s1 _ _ edF
    · obtain ⟨rfl, k0, v0, ek, rfl⟩ := e
      obtain ⟨o2, as, rfl, s2, eD, eas, has⟩ := y
      rw [kvS_len] at hi
      unfold kvS at ek
      rw [List.getElem?_map, List.getElem?_eq_getElem hi] at ek
      cases ek
      have hmem := List.getElem_mem hi
      have hk : ks[i]? = some l[i].1 := by rw [hks, List.getElem?_map, List.getElem?_eq_getElem hi]; rfl
      generalize l[i] = pr at *
      obtain ⟨x, v⟩ := pr
      have htk : ks.take (i + 1) = ks.take i ++ [x] := by rw [List.take_add_one, hk]; rfl
      have hgx : getS l x = some v := getS_of lt.nd hmem
      have hxk : x ∈ ks := List.mem_of_getElem? hk
      have htv : TrK He v (t x) := (((lt.val _ hmem).up tnF).ups s2)
      obtain ⟨o1, oo2, o3⟩ := lt.ok x (by rw [← hks]; exact hxk)
      have ed2 := s2 _ _ edF
      have hnew : x ∉ as.map (·.1) := by
        rw [eas]
        exact take_new hnd hk
      have hal : as.length ≤ i := by
        have := congrArg List.length eas
        rw [List.length_map, List.length_take] at this
        omega
      refine ⟨_, rfl, _, rfl, d, v, rfl, ?_, _, rfl, ?_⟩
      · rw [← hgx, ← kvS_val]
        exact .inl ⟨_, .inr x, .inr ⟨od, ed2⟩, rfl, rfl⟩
      dsimp (config := { proj := false }) only [tNil, List.append_nil]
      refine spUses_of (K := K) (n := 16) (l := l) htv (by omega) o1 (by omega) (.inr ⟨od, ed2⟩) fun H3 D2 s3 n3 e3 => ?_
      rw [← hks] at e3
      have eD5 := s3 _ _ eD
      have hrD : D2 ≠ U := fun z => by rw [z, eD] at n3; cases n3
      have ln5 : Ln He (upd H3 U (.dK (putK (kvS as) (.inr x) (.ref D2)))) := (Ln.of s3).trans (Ln.put fun xs z => by rw [eD5] at z; cases z)
      refine ⟨_, rfl, _, rfl, U, _, rfl, DPut.k (k := .inr x) eD5 (by rw [kvS_len]; exact Nat.lt_of_le_of_lt (show _ ≤ 60 by omega) (by decide)), ?_⟩
      refine ⟨_, as ++ [(x, .ref D2)], rfl, same_mut (s2.trans s3) hUf, by rw [upd_same, kvS_put _ hnew], by rw [List.map_append, eas, htk]; rfl, fun p hp => ?_⟩
      rcases List.mem_append.mp hp with hp | hp
      · obtain ⟨a, e1, e2⟩ := has p hp
        exact ⟨a, e1, ln5 _ _ e2⟩
      · rw [List.mem_singleton.mp hp]
        exact ⟨D2, rfl, by rw [upd_ne hrD]; exact e3⟩
    obtain ⟨o2, as, rfl, s2, eD, eas, has⟩ := y
    rw [kvS_len, ← hkl, List.take_length] at eas
    have ed3 := s2 _ _ edF
    refine ⟨ed3, ?_⟩
    have s4 := back s2
    have eU4 : upd Hc d (.dK (kvS l)) U = some (.dK (kvS as)) := by rw [upd_ne hUd]; exact eD
    have lv4 : LvH (upd Hc d (.dK (kvS l))) ks t as := has.ln (Ln.put fun xs z => by rw [ed3] at z; cases z)
    generalize upd Hc d (.dK (kvS l)) = H4 at s4 eU4 lv4 ⊢
    have hal : as.length = ks.length := by
      have := congrArg List.length eas
      rwa [List.length_map] at this
    refine ⟨U, _, eU4, trivial, fun od2 => ?_⟩
    have euf : upd H4 U (.frz od2 (.dK (kvS as))) U = some (.frz od2 (.dK (kvS as))) := upd_same
    have lvF : LvH (upd H4 U (.frz od2 (.dK (kvS as)))) ks t as := lv4.ln (Ln.put fun xs z => by rw [eU4] at z; cases z)
    have back2 : ∀ {H' : Hp}, Same (upd H4 U (.frz od2 (.dK (kvS as)))) H' → Same H4 (upd H' U (.dK (kvS as))) := fun s => same_lock eU4 s
    generalize upd H4 U (.frz od2 (.dK (kvS as))) = H5 at euf lvF back2 ⊢
    have us : UsH H5 U od2 as (gU ks t) := ⟨euf, fun x hx => by
      obtain ⟨p, hp, rfl⟩ := List.mem_map.mp hx
      obtain ⟨a, e1, e2⟩ := lvF p hp
      have hxk : p.1 ∈ ks := by rw [← eas]; exact hx
      exact ⟨a, by rw [← e1]; exact getS_of (by rw [eas]; exact hnd) hp, by unfold gU; rw [if_pos hxk]; exact e2⟩, fun x y h => by rw [eas]; exact gU_dom h, by omega⟩
    refine ⟨_, rfl, U, od2, rfl, .inl ⟨_, euf, ?_⟩⟩
    refine for_it (walk_keys (d := U) (o := od2) (kvs := kvS as)) (fun i σ Hz => ∃ (o2 o4 : Option V) (vb : V) (o : Option (List Str)), σ = [some (.ref d), some (.ref U), o2, some vb, o4] ∧ Same H5 Hz ∧ Best (gU ks t) (ks.take i) o ∧ RgO Hz vb o) ⟨_, _, .non, none, rfl, Same.refl _, (fun f hf => by rw [List.take_zero] at hf; cases hf), rfl⟩ (fun i σ Hz _ y => ?_) (fun i x σ Hz He hi y e => ?_) (fun σ Hz y => ?_)
    · obtain ⟨_, _, _, _, _, sm, _⟩ := y
      exact sm _ _ euf
    · obtain ⟨rfl, k0, v0, ek, rfl⟩ := e
      obtain ⟨o2, o4, vb, o, rfl, sz, bo, hvb⟩ := y
      rw [kvS_len] at hi
      unfold kvS at ek
      rw [List.getElem?_map, List.getElem?_eq_getElem hi] at ek
      cases ek
      have hk : ks[i]? = some as[i].1 := by rw [← eas, List.getElem?_map, List.getElem?_eq_getElem hi]; rfl
      generalize as[i] = pr at *
      obtain ⟨m, v⟩ := pr
      have htk : ks.take (i + 1) = ks.take i ++ [m] := by rw [List.take_add_one, hk]; rfl
      rw [htk]
      generalize ks.take i = pre at *
      refine ⟨_, rfl, _, rfl, U, m, od2, as, gU ks t, rfl, us.up sz, fun H6 v r0 s6 le hv => ?_⟩
      have s56 := sz.trans s6
      cases r0 with
      | none =>
        have hv : v = .non := hv
        subst hv
        refine ⟨_, rfl, rfl, _, rfl, ?_⟩
        exact ifF rfl ⟨_, _, vb, o, rfl, s56, bo.skip le, hvb.up s6⟩
      | some p =>
        obtain ⟨a, rfl, ea⟩ := hv
        refine ⟨_, rfl, rfl, _, rfl, ?_⟩
        refine ifT rfl ?_
        cases o with
        | none =>
          have hvb : vb = .non := hvb
          subst hvb
          refine ⟨_, rfl, rfl, _, rfl, ?_⟩
          exact ifT rfl ⟨_, rfl, _, _, .ref a, some p, rfl, s56, bo.first le, a, rfl, ea⟩
        | some b =>
          obtain ⟨a2, rfl, ea2⟩ := hvb
          refine ⟨_, rfl, rfl, _, rfl, ?_⟩
          refine ifF rfl ?_
          have hpl : (p.map V.str).length = p.length := List.length_map _
          have hbl : (b.map V.str).length = b.length := List.length_map _
          have ea26 := s6 _ _ ea2
          refine ⟨_, rfl, a, _, rfl, .inr (SqT.of ea), _, rfl, lenOk (n := 2) rfl (by decide), fun t1 ht1 => ?_⟩
          rw [hpl]
          have s7 := same_new (o := .tup [V.int (p.length : Nat), V.ref a]) ht1
          have e7 : upd H6 t1 (.tup [V.int (p.length : Nat), V.ref a]) t1 = some (.tup [V.int (p.length : Nat), V.ref a]) := upd_same
          generalize upd H6 t1 (.tup [V.int (p.length : Nat), V.ref a]) = H7 at s7 e7 ⊢
          refine ⟨_, rfl, a2, _, rfl, .inr (SqT.of (s7 _ _ ea26)), _, rfl, lenOk (n := 2) rfl (by decide), fun t2 ht2 => ?_⟩
          rw [hbl]
          have s8 := same_new (o := .tup [V.int (b.length : Nat), V.ref a2]) ht2
          have e8 : upd H7 t2 (.tup [V.int (b.length : Nat), V.ref a2]) t2 = some (.tup [V.int (b.length : Nat), V.ref a2]) := upd_same
          generalize upd H7 t2 (.tup [V.int (b.length : Nat), V.ref a2]) = H8 at s8 e8 ⊢
          have s78 := s7.trans s8
          refine ⟨lenD p, lenD b, .tup (SqT.of (s8 _ _ e7)) (.cons (.int _) (.cons (dp_tS (s78 _ _ ea)) .nil)), .tup (SqT.of e8) (.cons (.int _) (.cons (dp_tS (s78 _ _ ea26)) .nil)), ?_, (fun z => nomatch z), lenD_depth p, _, rfl, ?_⟩
          · show (PySem.W.alike (.int (p.length : Nat)) (.int (b.length : Nat)) && (PySem.W.alikeAll (sD p) (sD b) && true)) = true
            rw [alike_sD]
            rfl
          refine ifB (fun c => ?_) (fun c => ?_)
          · have c := (lt_lenD p b).mp c
            exact ⟨_, rfl, _, _, .ref a, some p, rfl, s56.trans s78, bo.take le c, a, rfl, s78 _ _ ea⟩
          · have c : ¬ ltW p b := fun z => by rw [(lt_lenD p b).mpr z] at c; cases c
            have lw : leW b p := by
              rcases ltW_tri p b with z | z | z
              · exact (c z).elim
              · exact .inl z.symm
              · exact .inr z
            exact ⟨_, _, .ref a2, some b, rfl, s56.trans s78, bo.keep le lw, a2, rfl, s78 _ _ ea26⟩
    · obtain ⟨o2, o4, vb, o, rfl, sz, bo, hvb⟩ := y
      rw [kvS_len, hal, List.take_length] at bo
      refine ⟨sz _ _ euf, ?_⟩
      have su : Tn Hz (upd Hz U (.dK (kvS as))) := Tn.put fun xs z => by rw [sz _ _ euf] at z; cases z
      refine ⟨_, rfl, q _ vb o (s4.trans (back2 sz)) bo ?_⟩
      cases o with
      | none => exact hvb
      | some p =>
        obtain ⟨a, e1, e2⟩ := hvb
        exact ⟨a, e1, su _ _ e2⟩
end
end R1

namespace R1
open PySem PySem.Spec PyProof.Rows L2 RK
local macro_rules | `(tactic| walk_at "sq") => `(tactic| first
  | exact SqL.of upd_same | exact upd_same | exact SqL.of (by assumption) | exact SqL.of (by rw [upd_ne (by assumption)]; assumption) | assumption)
local macro_rules | `(tactic| walk_at "sd") => `(tactic| first
  | assumption | omega | (refine Or.inl ⟨?_, ?_⟩ <;> omega) | (show _ ∧ _; constructor <;> omega) | (show _ ≠ _; simp; omega) | (exact Or.inl ⟨by decide, by decide⟩) | (exact Or.inr ⟨by decide, by decide⟩) | (show _ < _; decide) | (show _ ≤ _; decide))
local macro_rules | `(tactic| walk_at "at") => `(tactic| first | rfl | (refine atI_intV ?_ ?_ <;> omega) | assumption)
local macro_rules | `(tactic| walk_at "s1") => `(tactic| first
  | refine ⟨_, rfl, ?_⟩ | refine ⟨_, _, rfl, rfl, ?_⟩ | refine ⟨rfl, ?_⟩
  | refine ⟨_, _, _, _, rfl, rfl, by walk_at "sq", by walk_at "at", ?_⟩
  | refine Or.inl ⟨_, rfl, ?_⟩
  | refine ⟨_, _, rfl, Or.inl (by walk_at "sq"), ?_⟩
  | refine And.intro (by walk_at "sd") ?_)
local macro_rules | `(tactic| walk_at "s") => `(tactic| repeat walk_at "s1")

def spPair : Sp := fun vs H Q _ => ∃ (op : Str) (x y : Int), vs = [.str op, .int x, .int y] ∧ V.str op ∈ OPS5 ∧ Sm x ∧ Sm y ∧ Q (optI (resO op x y)) H
def numOk : Tr → Prop
  | .num n => Sm n
  | .one _ => True
  | .two _ _ => True
  | .un _ t => numOk t
  | .bin _ a b => numOk a ∧ numOk b
def SmO (o : Option Int) : Prop := ∀ i, o = some i → Sm i
theorem bnd_id {o : Option Int} (h : SmO o) : bnd o = o := by
  cases o with
  | none => rfl
  | some i => exact if_pos (h i rfl)
theorem ev_sm {hm : Option Int} {r : Str → Option Int} {t : Tr} : SmO (evT hm r t) := by
  induction t with
  | num n => exact fun i h => bnd_sm h
  | one w => exact fun i h => bnd_sm h
  | two w x => exact fun i h => bnd_sm h
  | un op t ih =>
    intro v h
    have h2 : (match evT hm r t with | none => none | some v => some (unO op v)) = some v := h
    cases ht : evT hm r t with
    | none => rw [ht] at h2; cases h2
    | some x =>
      rw [ht] at h2
      cases h2
      have := ih x ht
      unfold unO b2i Sm at *
      split
      · omega
      · split <;> decide
  | bin op a b _ _ =>
    intro v h
    have h2 : (match evT hm r a, evT hm r b with | some x, some y => bnd (resO op x y) | _, _ => none) = some v := h
    cases ha : evT hm r a with
    | none => rw [ha] at h2; cases h2
    | some x =>
      cases hb : evT hm r b with
      | none => rw [ha, hb] at h2; cases h2
      | some y =>
        rw [ha, hb] at h2
        exact bnd_sm h2
/-- facts whose values are small -/
def SmF (kv : List (List Key × V)) : Prop := FOk kv ∧ ∀ k, SmO (lk kv k)
def rV (kv : List (List Key × V)) (vs : OV) (y : Str) : Option Int := if y ∈ vs.map (·.1) then getO vs y else lk kv (kLet y)
def spValueL : Nat → Sp
  | 0 => fun _ _ _ _ => False
  | n + 1 => fun vs H Q _ => ∃ (v : V) (f e : Addr) (t : Tr) (kv : List (List Key × V)) (fs : OV), vs = [v, .ref f, .ref e] ∧ TrK H v t ∧ LT t ∧ numOk t ∧ dep t ≤ n ∧ H f = some (.dT kv) ∧ SmF kv ∧ H e = some (.dK (kvS (opV fs))) ∧ (∀ x, SmO (getO fs x)) ∧ ∀ H', Same H H' → Q (optI (evT (lk kv kHome) (rV kv fs) t)) H'
theorem spValueL_of {n : Nat} {v : V} {f e : Addr} {t : Tr} {kv : List (List Key × V)} {fs : OV} {H : Hp} {Q : VK} {E : XK} (h : TrK H v t) (hw : LT t) (hno : numOk t) (hn : dep t + 1 ≤ n) (hf : H f = some (.dT kv)) (smf : SmF kv) (he : H e = some (.dK (kvS (opV fs)))) (smv : ∀ x, SmO (getO fs x)) (q : ∀ H', Same H H' → Q (optI (evT (lk kv kHome) (rV kv fs) t)) H') : spValueL n [v, .ref f, .ref e] H Q E := by
  cases n with
  | zero => omega
  | succ m => exact ⟨v, f, e, t, kv, fs, rfl, h, hw, hno, by omega, hf, smf, he, smv, q⟩
section
variable {P : Program} {w : World} {K : PySem.W.Frag} {mg : Str → Option Value} {base : Heap} {A : Ads}
theorem ok_law_pair (T : Txt K mg A) : FnOk P w K mg base CX0 2 A.a_law_pair A.d_law_pair ["_law_op", "_law_first", "_law_second"] spPair := by
  refine T.F_law_pair.ok sc_law_pair (fun vs H Q E h => ?_) (fun cdv B outer s H vs Q E hr h => ?_)
  · obtain ⟨op, x, y, rfl, _⟩ := h
    rfl
  · obtain ⟨op, x, y, rfl, hop, hx, hy, q⟩ := h
    refine ⟨_, (pss_cons (ps_if (pt_cmpR op_eq (pv 0) pe_str (nomark _)) (pss_one (ps_ret (pe_op op_add (pv 1) (pv 2)))) pss_nil)
    (pss_cons (ps_if (pt_cmpR op_eq (pv 0) pe_str (nomark _)) (pss_one (ps_ret (pe_op op_sub (pv 1) (pv 2)))) pss_nil)
    (pss_cons (ps_if (pt_cmpR op_eq (pv 0) pe_str (nomark _)) (pss_one (ps_ret (pe_op op_mul (pv 1) (pv 2)))) pss_nil)
    (pss_cons (ps_if (pt_cmpR op_eq (pv 0) pe_str (nomark _)) (pss_one (ps_ret (pe_callTy call_int1 (by rfl) T.n_int (by decide +kernel) (pa_cons (pe_cmpR op_lt (pv 1) (pv 2) (nomark _)) pa_nil)))) pss_nil)
    (pss_cons (ps_if (pt_cmpR op_eq (pv 2) pe_int (nomark _)) (pss_one (ps_ret pe_non)) pss_nil)
    (pss_one (ps_ret (pe_op op_fdivN (pv 1) (pv 2))))))))), ?_⟩
    unfold Sm at hx hy
    unfold OPS5 at hop
    simp only [List.mem_cons, List.not_mem_nil, or_false] at hop
    have big : (1000000000 : Int) < 2 ^ 64 := by decide
    rcases hop with e | e | e | e | e
    all_goals cases e
    · refine ⟨_, rfl, rfl, _, rfl, ?_⟩
      refine ifT (by decide +kernel) ?_
      refine ⟨_, rfl, _, rfl, _, _, rfl, rfl, ?_⟩
      have : resO (Str.ofString "+") x y = some (x + y) := by
        unfold resO
        rw [if_neg (by decide +kernel), if_neg (by decide +kernel), if_neg (by decide +kernel), if_pos (by decide +kernel)]
      rw [this] at q
      exact q
    · refine ⟨_, rfl, rfl, _, rfl, ?_⟩
      refine ifF (by decide +kernel) ?_
      refine ⟨_, rfl, rfl, _, rfl, ?_⟩
      refine ifT (by decide +kernel) ?_
      refine ⟨_, rfl, _, rfl, _, _, rfl, rfl, ?_⟩
      have : resO (Str.ofString "-") x y = some (x - y) := by
        unfold resO
        rw [if_neg (by decide +kernel), if_neg (by decide +kernel), if_neg (by decide +kernel), if_neg (by decide +kernel), if_pos (by decide +kernel)]
      rw [this] at q
      exact q
    · refine ⟨_, rfl, rfl, _, rfl, ?_⟩
      refine ifF (by decide +kernel) ?_
      refine ⟨_, rfl, rfl, _, rfl, ?_⟩
      refine ifF (by decide +kernel) ?_
      refine ⟨_, rfl, rfl, _, rfl, ?_⟩
      refine ifT (by decide +kernel) ?_
      refine ⟨_, rfl, _, rfl, _, _, rfl, rfl, .inl ⟨by omega, by omega⟩, ?_⟩
      have : resO (Str.ofString "*") x y = some (x * y) := by
        unfold resO
        rw [if_neg (by decide +kernel), if_neg (by decide +kernel), if_neg (by decide +kernel), if_neg (by decide +kernel), if_neg (by decide +kernel), if_pos (by decide +kernel)]
      rw [this] at q
      exact q
    · refine ⟨_, rfl, rfl, _, rfl, ?_⟩
      refine ifF (by decide +kernel) ?_
      refine ⟨_, rfl, rfl, _, rfl, ?_⟩
      refine ifF (by decide +kernel) ?_
      refine ⟨_, rfl, rfl, _, rfl, ?_⟩
      refine ifF (by decide +kernel) ?_
      refine ⟨_, rfl, rfl, _, rfl, ?_⟩
      refine ifF (by decide +kernel) ?_
      have : resO (Str.ofString "/") x y = if eqI y 0 then none else some (x.fdiv y) := by
        unfold resO
        rw [if_neg (by decide +kernel), if_neg (by decide +kernel), if_neg (by decide +kernel), if_neg (by decide +kernel), if_neg (by decide +kernel), if_neg (by decide +kernel)]
        by_cases c : eqI y 0 = true
        · rw [if_pos c, if_pos c]
        · rw [if_neg c, if_neg c, if_pos (by decide +kernel)]
      rw [this] at q
      refine ⟨_, rfl, rfl, _, rfl, ?_⟩
      refine ifB (fun c => ?_) (fun c => ?_)
      · rw [if_pos (show eqI y 0 = true from c)] at q
        exact q
      · rw [if_neg (show ¬ eqI y 0 = true from fun z => by have c : eqI y 0 = false := c; rw [z] at c; cases c)] at q
        have c : ¬ V.int y = V.int 0 := of_decide_eq_false c
        have c : y ≠ 0 := fun z => c (by rw [z])
        exact ⟨_, rfl, _, rfl, _, _, rfl, rfl, ⟨c, by omega⟩, q⟩
    · refine ⟨_, rfl, rfl, _, rfl, ?_⟩
      refine ifF (by decide +kernel) ?_
      refine ⟨_, rfl, rfl, _, rfl, ?_⟩
      refine ifF (by decide +kernel) ?_
      refine ⟨_, rfl, rfl, _, rfl, ?_⟩
      refine ifF (by decide +kernel) ?_
      refine ⟨_, rfl, rfl, _, rfl, ?_⟩
      refine ifT (by decide +kernel) ?_
      have : resO (Str.ofString "<") x y = some (b2i (decide (x < y))) := by
        unfold resO
        rw [if_neg (by decide +kernel), if_neg (by decide +kernel), if_pos (by decide +kernel)]
        have : cmpO (Str.ofString "<") x y = decide (x < y) := by
          unfold cmpO
          rw [if_neg (by decide +kernel), if_neg (by decide +kernel), if_pos (by decide +kernel), show isS (Str.ofString "<") "<" = true from by decide +kernel]
          cases decide (x < y) <;> rfl
        rw [this]
      rw [this] at q
      refine ⟨_, rfl, _, rfl, _, _, rfl, rfl, .inr ⟨_, rfl, ?_⟩⟩
      exact q
theorem ok_law_value (T : Txt K mg A) : ∀ n, FnOk P w K mg base CX0 (n + 3) A.a_law_value A.d_law_value ["_law_tree_here", "_law_facts", "_law_values_here"] (spValueL n)
  | 0 => ⟨fun _ _ _ _ h => h.elim, fun _ _ _ _ _ _ _ _ _ _ _ _ _ h => h.elim⟩
  | n + 1 => by
    have G0 : FnOk P w K mg base CX0 (n + 3) A.a_law_value A.d_law_value ["_law_tree_here", "_law_facts", "_law_values_here"] (spValueL n) := ok_law_value T n
    refine T.F_law_value.ok sc_law_value (fun vs H Q E h => ?_) (fun cdv B outer s H vs Q E hr h => ?_)
    · obtain ⟨v, f, e, t, kv, fs, rfl, _⟩ := h
      rfl
    · obtain ⟨v, f, e, t, kv, fs, rfl, ht, hw, hno, hn, hf, smf, he, smv, q⟩ := h
      refine ⟨_, (pss_cons (ps_if (pt_cmpR op_eq (pe_ix ix_tup (pv 0) pe_int (fun _ _ => rfl)) pe_str (nomark _)) (pss_one (ps_ret (pe_ix ix_tup (pv 0) pe_int (fun _ _ => rfl)))) pss_nil)
    (pss_cons (ps_if (pt_cmpR op_eq (pe_ix ix_tup (pv 0) pe_int (fun _ _ => rfl)) pe_str (nomark _)) (pss_one (ps_ret (pe_dget1 (hu_of hr) (pv 1) (pv 0) ⟨rfl, rfl, rfl, rfl⟩))) pss_nil)
    (pss_cons (ps_if (PW.pt (pw_and (pt_cmpR op_eq (pe_ix ix_tup (pv 0) pe_int (fun _ _ => rfl)) pe_str (nomark _)) (pw_and1 (pt_cmp (pc_din (hu_of hr) (pe_ix ix_tup (pv 0) pe_int (fun _ _ => rfl)) (pv 2)))))) (pss_one (ps_ret (pe_dget (hu_of hr) (pv 2) (pe_ix ix_tup (pv 0) pe_int (fun _ _ => rfl)) (fun _ _ => rfl)))) pss_nil)
    (pss_cons (ps_if (pt_cmpR op_eq (pe_ix ix_tup (pv 0) pe_int (fun _ _ => rfl)) pe_str (nomark _)) (pss_one (ps_ret (pe_dget1 (hu_of hr) (pv 1) (pv 0) ⟨rfl, rfl, rfl, rfl⟩))) pss_nil)
    (pss_cons (ps_set (i := 3) sc_law_value.nd rfl (.inl rfl) (pe_call G0 (hr.mono (by omega)) rfl T.g_law_value T.F_law_value.kp T.b_law_value .nil pass0 (pa_cons (pe_ix ix_tup (pv 0) pe_int (fun _ _ => rfl)) (pa_cons (pv 1) (pa_cons (pv 2) pa_nil)))))
    (pss_cons (ps_if (pt_cmpR op_isN (pv 3) pe_non (nomark _)) (pss_one (ps_ret pe_non)) pss_nil)
    (pss_cons (ps_if (pt_cmpR op_eq (pe_ix ix_tup (pv 0) pe_int (fun _ _ => rfl)) pe_str (nomark _)) (pss_one (ps_ret (pe_un un_neg (pv 3)))) pss_nil)
    (pss_cons (ps_set (i := 4) sc_law_value.nd rfl (.inl rfl) (pe_call G0 (hr.mono (by omega)) rfl T.g_law_value T.F_law_value.kp T.b_law_value .nil pass0 (pa_cons (pe_ix ix_tup (pv 0) pe_int (fun _ _ => rfl)) (pa_cons (pv 1) (pa_cons (pv 2) pa_nil)))))
    (pss_cons (ps_if (pt_cmpR op_isN (pv 4) pe_non (nomark _)) (pss_one (ps_ret pe_non)) pss_nil)
    (pss_cons (ps_set (i := 5) sc_law_value.nd rfl (.inl rfl) (pe_call (ok_law_pair T) (hr.mono (by omega)) rfl T.g_law_pair T.F_law_pair.kp T.b_law_pair .nil pass0 (pa_cons (pe_ix ix_tup (pv 0) pe_int (fun _ _ => rfl)) (pa_cons (pv 3) (pa_cons (pv 4) pa_nil)))))
    (pss_cons (ps_if (PW.pt (pw_or (pt_cmpR op_isN (pv 5) pe_non (nomark _)) (pw_or (pt_cmpR op_gt (pv 5) pe_int (nomark _)) (pw_or1 (pt_cmpR op_lt (pv 5) (pe_un un_neg pe_int) (nomark _)))))) (pss_one (ps_ret pe_non)) pss_nil)
    (pss_one (ps_ret (pv 5)))))))))))))), ?_⟩
      have get1 : ∀ (a : Addr) (k : List Key) (Q : VK), H a = some (.tup (k.map kV)) → Q (optI (lk kv k)) H → ∃ o, DGet H f (.ref a) o ∧ Q (o.getD .non) H := fun a k Q ha hq => ⟨_, DGet.t hf ha, by rw [lk_get smf.1]; exact hq⟩
      cases t with
      | num m =>
        obtain ⟨a, rfl, ha⟩ := ht
        refine ⟨_, rfl, a, _, 0, _, rfl, rfl, SqT.of ha, atI_nat (j := 0) rfl, rfl, _, rfl, ?_⟩
        refine ifT (by decide +kernel) ?_
        refine ⟨_, rfl, a, _, 1, _, rfl, rfl, SqT.of ha, atI_nat (j := 1) rfl, ?_⟩
        have := q H (Same.refl H)
        rw [show evT (lk kv kHome) (rV kv fs) (.num m) = some m from bnd_id (o := some m) fun i z => by cases z; exact hno] at this
        exact this
      | one w =>
        obtain ⟨a, rfl, ha⟩ := ht
        have hw : w = Str.ofString "home" := hw
        subst hw
        refine ⟨_, rfl, a, _, 0, _, rfl, rfl, SqT.of ha, atI_nat (j := 0) rfl, rfl, _, rfl, ?_⟩
        refine ifF (by decide +kernel) ?_
        refine ⟨_, rfl, a, _, 0, _, rfl, rfl, SqT.of ha, atI_nat (j := 0) rfl, rfl, _, rfl, ?_⟩
        refine ifT (by decide +kernel) ?_
        refine ⟨_, rfl, f, rfl, .inr ⟨_, .inl hf⟩, _, rfl, ?_⟩
        refine get1 a kHome _ ha ?_
        have := q H (Same.refl H)
        rw [show evT (lk kv kHome) (rV kv fs) (.one (Str.ofString "home")) = lk kv kHome from bnd_id (smf.2 kHome)] at this
        exact this
      | two w x =>
        obtain ⟨a, rfl, ha⟩ := ht
        have hw : w = Str.ofString "let" := hw.1
        subst hw
        refine ⟨_, rfl, a, _, 0, _, rfl, rfl, SqT.of ha, atI_nat (j := 0) rfl, rfl, _, rfl, ?_⟩
        refine ifF (by decide +kernel) ?_
        refine ⟨_, rfl, a, _, 0, _, rfl, rfl, SqT.of ha, atI_nat (j := 0) rfl, rfl, _, rfl, ?_⟩
        refine ifF (by decide +kernel) ?_
        refine ⟨_, rfl, a, _, 0, _, rfl, rfl, SqT.of ha, atI_nat (j := 0) rfl, rfl, _, rfl, ?_⟩
        refine ifT (by decide +kernel) ?_
        refine ⟨_, rfl, a, _, 1, _, rfl, rfl, SqT.of ha, atI_nat (j := 1) rfl, _, rfl, e, _, rfl, DGet.k (k := .inr x) he, _, rfl, ?_⟩
        rw [kvS_val, getS_some, opV_names]
        have q0 := q H (Same.refl H)
        by_cases c : x ∈ fs.map (·.1)
        · rw [decide_eq_true c]
          refine ifT rfl ?_
          rw [show evT (lk kv kHome) (rV kv fs) (.two (Str.ofString "let") x) = getO fs x from by show bnd (rV kv fs x) = _; unfold rV; rw [if_pos c]; exact bnd_id (smv x)] at q0
          refine ⟨_, rfl, _, rfl, a, _, 1, _, rfl, rfl, SqT.of ha, atI_nat (j := 1) rfl, e, _, rfl, ?_, q0⟩
          rw [← opV_get c, ← kvS_val]
          exact DGet.k (k := .inr x) he
        · rw [decide_eq_false c]
          refine ifF rfl ?_
          refine ⟨_, rfl, a, _, 0, _, rfl, rfl, SqT.of ha, atI_nat (j := 0) rfl, rfl, _, rfl, ?_⟩
          refine ifT (by decide +kernel) ?_
          refine ⟨_, rfl, f, rfl, .inr ⟨_, .inl hf⟩, _, rfl, ?_⟩
          refine get1 a (kLet x) _ ha ?_
          rw [show evT (lk kv kHome) (rV kv fs) (.two (Str.ofString "let") x) = lk kv (kLet x) from by show bnd (rV kv fs x) = _; unfold rV; rw [if_neg c]; exact bnd_id (smf.2 _)] at q0
          exact q0
      | un op t =>
        obtain ⟨a, u, rfl, ha, hu⟩ := ht
        have hop : op = Str.ofString "minus" := hw.1
        subst hop
        refine ⟨_, rfl, a, _, 0, _, rfl, rfl, SqT.of ha, atI_nat (j := 0) rfl, rfl, _, rfl, ?_⟩
        refine ifF (by decide +kernel) ?_
        refine ⟨_, rfl, a, _, 0, _, rfl, rfl, SqT.of ha, atI_nat (j := 0) rfl, rfl, _, rfl, ?_⟩
        refine ifF (by decide +kernel) ?_
        refine ⟨_, rfl, a, _, 0, _, rfl, rfl, SqT.of ha, atI_nat (j := 0) rfl, rfl, _, rfl, ?_⟩
        refine ifF (by decide +kernel) ?_
        refine ⟨_, rfl, a, _, 0, _, rfl, rfl, SqT.of ha, atI_nat (j := 0) rfl, rfl, _, rfl, ?_⟩
        refine ifF (by decide +kernel) ?_
        refine ⟨_, rfl, a, _, 1, _, rfl, rfl, SqT.of ha, atI_nat (j := 1) rfl, _, rfl, _, rfl, ?_⟩
        dsimp (config := { proj := false }) only [tNil, List.append_nil]
        refine spValueL_of (f := f) (e := e) (t := t) (kv := kv) (fs := fs) hu hw.2 hno hn hf smf he smv fun H1 s1 => ?_
        have q1 := q H1 s1
        have e1 : evT (lk kv kHome) (rV kv fs) (.un (Str.ofString "minus") t) = match evT (lk kv kHome) (rV kv fs) t with | none => none | some v => some (unO (Str.ofString "minus") v) := rfl
        rw [e1] at q1
        cases ev : evT (lk kv kHome) (rV kv fs) t with
        | none =>
          rw [ev] at q1
          exact ⟨_, rfl, rfl, _, rfl, ifT rfl q1⟩
        | some z =>
          rw [ev] at q1
          refine ⟨_, rfl, rfl, _, rfl, ifF rfl ?_⟩
          refine ⟨_, rfl, a, _, 0, _, rfl, rfl, SqT.of (s1 _ _ ha), atI_nat (j := 0) rfl, rfl, _, rfl, ?_⟩
          refine ifT (by decide +kernel) ?_
          refine ⟨_, rfl, _, rfl, ?_⟩
          have q1 : Q (optI (some (unO (Str.ofString "minus") z))) H1 := q1
          rw [show unO (Str.ofString "minus") z = -z from if_pos (by decide +kernel)] at q1
          exact q1
      | bin op x y =>
        obtain ⟨a, u1, u2, rfl, ha, hu1, hu2⟩ := ht
        obtain ⟨o1, o2, o3, o4, o5, o6⟩ := op5 hw.1
        have hdd : max (dep x) (dep y) + 1 ≤ n := hn
        refine ⟨_, rfl, a, _, 0, _, rfl, rfl, SqT.of ha, atI_nat (j := 0) rfl, rfl, _, rfl, ?_⟩
        refine ifF o4 ?_
        refine ⟨_, rfl, a, _, 0, _, rfl, rfl, SqT.of ha, atI_nat (j := 0) rfl, rfl, _, rfl, ?_⟩
        refine ifF o5 ?_
        refine ⟨_, rfl, a, _, 0, _, rfl, rfl, SqT.of ha, atI_nat (j := 0) rfl, rfl, _, rfl, ?_⟩
        refine ifF o2 ?_
        refine ⟨_, rfl, a, _, 0, _, rfl, rfl, SqT.of ha, atI_nat (j := 0) rfl, rfl, _, rfl, ?_⟩
        refine ifF o2 ?_
        refine ⟨_, rfl, a, _, 1, _, rfl, rfl, SqT.of ha, atI_nat (j := 1) rfl, _, rfl, _, rfl, ?_⟩
        dsimp (config := { proj := false }) only [tNil, List.append_nil]
        refine spValueL_of (f := f) (e := e) (t := x) (kv := kv) (fs := fs) hu1 hw.2.1 hno.1 (by omega) hf smf he smv fun H1 s1 => ?_
        have e1 : evT (lk kv kHome) (rV kv fs) (.bin op x y) = match evT (lk kv kHome) (rV kv fs) x, evT (lk kv kHome) (rV kv fs) y with | some x, some y => bnd (resO op x y) | _, _ => none := rfl
        rw [e1] at q
        cases ev : evT (lk kv kHome) (rV kv fs) x with
        | none =>
          rw [ev] at q
          exact ⟨_, rfl, rfl, _, rfl, ifT rfl (q H1 s1)⟩
        | some z =>
          have sz : Sm z := ev_sm z ev
          rw [ev] at q
          refine ⟨_, rfl, rfl, _, rfl, ifF rfl ?_⟩
          refine ⟨_, rfl, a, _, 0, _, rfl, rfl, SqT.of (s1 _ _ ha), atI_nat (j := 0) rfl, rfl, _, rfl, ?_⟩
          refine ifF o6 ?_
          refine ⟨_, rfl, a, _, 2, _, rfl, rfl, SqT.of (s1 _ _ ha), atI_nat (j := 2) rfl, _, rfl, _, rfl, ?_⟩
          dsimp (config := { proj := false }) only [tNil, List.append_nil]
          refine spValueL_of (f := f) (e := e) (t := y) (kv := kv) (fs := fs) (hu2.ups s1) hw.2.2 hno.2 (by omega) (s1 _ _ hf) smf (s1 _ _ he) smv fun H2 s2 => ?_
          have s12 := s1.trans s2
          cases ev2 : evT (lk kv kHome) (rV kv fs) y with
          | none =>
            rw [ev2] at q
            exact ⟨_, rfl, rfl, _, rfl, ifT rfl (q H2 s12)⟩
          | some z2 =>
            have sz2 : Sm z2 := ev_sm z2 ev2
            rw [ev2] at q
            have q2 : Q (optI (bnd (resO op z z2))) H2 := q H2 s12
            refine ⟨_, rfl, rfl, _, rfl, ifF rfl ?_⟩
            refine ⟨_, rfl, a, _, 0, _, rfl, rfl, SqT.of (s12 _ _ ha), atI_nat (j := 0) rfl, _, rfl, _, rfl, op, z, z2, rfl, hw.1, sz, sz2, ?_⟩
            cases er : resO op z z2 with
            | none =>
              rw [er] at q2
              exact ⟨_, rfl, rfl, _, rfl, ifT rfl q2⟩
            | some r =>
              rw [er] at q2
              have eb : bnd (some r) = if -1000000000 ≤ r ∧ r ≤ 1000000000 then some r else none := rfl
              rw [eb] at q2
              refine ⟨_, rfl, rfl, _, rfl, ifF rfl ?_⟩
              refine ⟨_, rfl, _, _, rfl, rfl, _, rfl, ?_⟩
              refine ifB (fun c => ?_) (fun c => ?_)
              · have c := of_decide_eq_true c
                rw [if_neg (by omega)] at q2
                exact q2
              · have c := of_decide_eq_false c
                refine ⟨_, rfl, _, rfl, _, _, rfl, rfl, _, rfl, ?_⟩
                refine ifB (fun c2 => ?_) (fun c2 => ?_)
                · have c2 := of_decide_eq_true c2
                  rw [if_neg (by omega)] at q2
                  exact q2
                · have c2 := of_decide_eq_false c2
                  rw [if_pos (by omega)] at q2
                  exact ⟨_, rfl, q2⟩
end
end R1

namespace R1
open PySem PySem.Spec PyProof.Rows L2 RK
local macro_rules | `(tactic| walk_at "sq") => `(tactic| first
  | exact SqL.of upd_same | exact upd_same | exact SqL.of (by assumption) | exact SqL.of (by rw [upd_ne (by assumption)]; assumption) | assumption)
local macro_rules | `(tactic| walk_at "sd") => `(tactic| first
  | assumption | omega | (refine Or.inl ⟨?_, ?_⟩ <;> omega) | (show _ ∧ _; constructor <;> omega) | (show _ ≠ _; simp; omega) | (exact Or.inl ⟨by decide, by decide⟩) | (exact Or.inr ⟨by decide, by decide⟩) | (show _ < _; decide) | (show _ ≤ _; decide))
local macro_rules | `(tactic| walk_at "at") => `(tactic| first | rfl | (refine atI_intV ?_ ?_ <;> omega) | assumption)
local macro_rules | `(tactic| walk_at "s1") => `(tactic| first
  | refine ⟨_, rfl, ?_⟩ | refine ⟨_, _, rfl, rfl, ?_⟩ | refine ⟨rfl, ?_⟩
  | refine ⟨_, _, _, _, rfl, rfl, by walk_at "sq", by walk_at "at", ?_⟩
  | refine Or.inl ⟨_, rfl, ?_⟩
  | refine ⟨_, _, rfl, Or.inl (by walk_at "sq"), ?_⟩
  | refine And.intro (by walk_at "sd") ?_)
local macro_rules | `(tactic| walk_at "s") => `(tactic| repeat walk_at "s1")

theorem same_upd {H H' : Hp} {d : Addr} {o : HO} (s : Same H H') : Same (upd H d o) (upd H' d o) := fun b x e => by
  by_cases z : b = d
  · subst z
    rw [upd_same] at e ⊢
    exact e
  · rw [upd_ne z] at e ⊢
    exact s b x e
theorem getO_none {x : Str} : ∀ {fs : OV}, x ∉ fs.map (·.1) → getO fs x = none
  | [], _ => rfl
  | p :: fs, h => by
    show (if p.1 = x then p.2 else getO fs x) = none
    rw [if_neg fun e => h (by rw [← e]; exact List.mem_cons_self), getO_none fun z => h (List.mem_cons_of_mem _ z)]
theorem FsI.sm {ks : List Str} {t : Str → Tr} {hm : Option Int} {F : Str → Option Int} {fs : OV} (b : FsI ks t hm F fs) (x : Str) : SmO (getO fs x) := by
  by_cases c : x ∈ fs.map (·.1)
  · obtain ⟨p, hp, rfl⟩ := List.mem_map.mp c
    rw [getO_mem b.nd hp, b.vl p hp]
    exact ev_sm
  · rw [getO_none c]
    exact fun i h => nomatch h
theorem FsI.few {ks : List Str} {t : Str → Tr} {hm : Option Int} {F : Str → Option Int} {fs : OV} (b : FsI ks t hm F fs) : fs.length ≤ ks.length := by
  have := memLenS (fs.map (·.1)) ks b.nd b.sub
  rwa [List.length_map] at this
theorem FsI.rv {ks : List Str} {t : Str → Tr} {hm : Option Int} {kv : List (List Key × V)} {fs : OV} (b : FsI ks t hm (fun y => lk kv (kLet y)) fs) {u : Tr} (hu : ∀ y ∈ uF ks u, y ∈ fs.map (·.1)) : evT hm (rV kv fs) u = evT hm (rho ks (fun y => lk kv (kLet y)) (getO fs)) u := by
  refine ev_congr fun y hy => ?_
  unfold rV rho
  by_cases k : y ∈ ks
  · rw [if_pos k, if_pos (hu y (uF_mem.mpr ⟨hy, k⟩))]
  · rw [if_neg k, if_neg fun z => k (b.sub y z)]
def spLawVals : Sp := fun vs H Q _ => ∃ (d f : Addr) (l : SV) (t : Str → Tr) (kv : List (List Key × V)), vs = [.ref d, .ref f] ∧ LtH H d l t ∧ (∀ x ∈ l.map (·.1), numOk (t x)) ∧ H f = some (.dT kv) ∧ SmF kv ∧ (∀ g w, ¬ Ring (gU (l.map (·.1)) t) g w) ∧
  ∀ H' D fs, Same H H' → H D = none → H' D = some (.dK (kvS (opV fs))) → FsI (l.map (·.1)) t (lk kv kHome) (fun y => lk kv (kLet y)) fs → (∀ x ∈ l.map (·.1), x ∈ fs.map (·.1)) → Q (.ref D) H'
section
variable {P : Program} {w : World} {K : PySem.W.Frag} {mg : Str → Option Value} {base : Heap} {A : Ads}
theorem ok_law_values (T : Txt K mg A) : FnOk P w K mg base CX0 25 A.a_law_values A.d_law_values ["_law_lets_here", "_law_facts"] spLawVals := by
  refine T.F_law_values.ok sc_law_values (fun vs H Q E h => ?_) (fun cdv B outer s H vs Q E hr h => ?_)
  · obtain ⟨d, f, l, t, kv, rfl, _⟩ := h
    rfl
  · obtain ⟨d, f, l, t, kv, rfl, lt, nok, hf, smf, nor, q⟩ := h
    refine ⟨_, (pss_cons (ps_set (i := 2) sc_law_values.nd rfl (.inr rfl) pe_dnewK)
    (pss_cons (ps_for PassesOwn.never rfl (pi_range1 (by rfl) T.n_range (pa_cons (pe_callB call_lenD (by rfl) T.n_len (by decide +kernel) (pa_cons (pv 0) pa_nil)) pa_nil)) (pg_name (i := 3) sc_law_values.nd rfl (.inl rfl))
      (pss_one (ps_lock (ps_for PassesOwn.never rfl (pi_keys (pv 0)) (pg_name (i := 4) sc_law_values.nd rfl (.inl rfl))
      (pss_one (ps_if (PW.pt (pw_and (pt_cmp (pc_dnotin (hu_of hr) (pv 4) (pv 2))) (pw_and1 (pt_val (pe_callB (cr_all rfl) (by rfl) T.n_all (by decide +kernel) (pa_cons (pe_lc (own := [("_law_other", 5)]) rfl sc_law_values.nd (pi_list (pe_call (ok_law_uses T 16) (hr.mono (by omega)) rfl T.g_law_uses T.F_law_uses.kp T.b_law_uses .nil pass0 (pa_cons (pe_dget (hu_of hr) (pv 0) (pv 4) (fun _ _ => rfl)) (pa_cons (pv 0) pa_nil)))) (blkOk_by (own := [("_law_other", 5)]) (N := N_law_values) (sc := defScope s_law_values) (by decide +kernel)) (fun _ _ _ _ _ => pg_name (i := 5) sc_law_values.nd rfl (Or.inl rfl)) (fun _ _ _ _ _ => pts_nil) (fun _ _ _ _ _ => by exact (pe_cmp (pc_din (hu_of hr) (pv 5) (pv 2)) rfl))) pa_nil)))))) (pss_one (ps_dput (hu_of hr) (pv 2) (pv 4) (pe_call (ok_law_value T 14) (hr.mono (by omega)) rfl T.g_law_value T.F_law_value.kp T.b_law_value .nil pass0 (pa_cons (pe_dget (hu_of hr) (pv 0) (pv 4) (fun _ _ => rfl)) (pa_cons (pv 1) (pa_cons (pv 2) pa_nil)))) rfl)) pss_nil))))))
    (pss_one (ps_ret (pv 2))))), ?_⟩
    obtain ⟨ks, hks⟩ : ∃ ks : List Str, ks = l.map (·.1) := ⟨_, rfl⟩
    have hkl : ks.length = l.length := by rw [hks, List.length_map]
    have hnd := lt.nd
    have few := lt.few
    rw [← hks] at q hnd nor
    obtain ⟨F, hF⟩ : ∃ F : Str → Option Int, F = fun y => lk kv (kLet y) := ⟨_, rfl⟩
    obtain ⟨hm, hhm⟩ : ∃ hm : Option Int, hm = lk kv kHome := ⟨_, rfl⟩
    rw [← hF, ← hhm] at q
    refine fun Vd hV => ?_
    have hVd : Vd ≠ d := fun z => by rw [z, lt.dd] at hV; cases hV
    have s1 := same_new (o := .dK []) hV
    have e1 : upd H Vd (.dK []) Vd = some (.dK (kvS (opV []))) := upd_same
    generalize upd H Vd (.dK []) = H1 at s1 e1 ⊢
    refine ⟨_, rfl, d, kvS l, rfl, s1 _ _ lt.dd, ((kvS l).length : Nat), rfl, by omega, by rw [kvS_len]; exact Int.lt_of_le_of_lt (show _ ≤ (60 : Int) by omega) (by decide), ?_⟩
    rw [Int.toNat_natCast]
    refine for_it (walk_range (lo := 0) (n := (kvS l).length)) (fun i σ Hx => ∃ (o3 o4 o5 : Option V) (fs : OV), σ = [some (.ref d), some (.ref f), some (.ref Vd), o3, o4, o5] ∧ Same H Hx ∧ Hx Vd = some (.dK (kvS (opV fs))) ∧ FsI ks t hm F fs ∧ (i ≤ fs.length ∨ ∀ x ∈ ks, x ∈ fs.map (·.1))) ⟨none, none, none, [], rfl, s1, e1, FsI.nil, .inl (Nat.zero_le _)⟩ (fun _ _ _ _ _ => trivial) (fun i x σ Hx He hi y e => ?_) (fun σ Hx y => ?_)
    · obtain ⟨rfl, rfl⟩ := e
      obtain ⟨o3, o4, o5, fs0, rfl, sx, eV, fi0, hpg⟩ := y
      have ed := sx _ _ lt.dd
      refine ⟨d, _, ed, trivial, fun od => ?_⟩
      have edF : upd H d (.frz od (.dK (kvS l))) d = some (.frz od (.dK (kvS l))) := upd_same
      have hVF : upd H d (.frz od (.dK (kvS l))) Vd = none := by rw [upd_ne hVd]; exact hV
      have tnF : Tn H (upd H d (.frz od (.dK (kvS l)))) := Tn.put fun xs z => by rw [lt.dd] at z; cases z
      have hfd : f ≠ d := fun z => by rw [z, lt.dd] at hf; cases hf
      have hfF : upd H d (.frz od (.dK (kvS l))) f = some (.dT kv) := by rw [upd_ne hfd]; exact hf
      have sF : Same (upd H d (.frz od (.dK (kvS l)))) (upd He d (.frz od (.dK (kvS l)))) := same_upd sx
      have eVF : upd He d (.frz od (.dK (kvS l))) Vd = some (.dK (kvS (opV fs0))) := by rw [upd_ne hVd]; exact eV
      have back : ∀ {H' : Hp}, Same (upd H d (.frz od (.dK (kvS l)))) H' → Same H (upd H' d (.dK (kvS l))) := fun s => same_lock lt.dd s
      generalize upd He d (.frz od (.dK (kvS l))) = Hf at sF eVF ⊢
      generalize upd H d (.frz od (.dK (kvS l))) = HF at edF hVF tnF hfF sF back
      refine ⟨_, rfl, d, od, rfl, .inl ⟨_, sF _ _ edF, ?_⟩⟩
      refine for_it (walk_keys (d := d) (o := od) (kvs := kvS l)) (fun a σ Hc => ∃ (o4 o5 : Option V) (ex : OV), σ = [some (.ref d), some (.ref f), some (.ref Vd), some (.int (0 + (i : Nat) : Int)), o4, o5] ∧ Same HF Hc ∧ Hc Vd = some (.dK (kvS (opV (fs0 ++ ex)))) ∧ FsI ks t hm F (fs0 ++ ex) ∧ ∀ x ∈ ks.take a, x ∉ fs0.map (·.1) → (∀ y ∈ uF ks (t x), y ∈ fs0.map (·.1)) → ex ≠ []) ⟨o4, o5, [], rfl, sF, by rw [List.append_nil]; exact eVF, by rw [List.append_nil]; exact fi0, fun x hx => by rw [List.take_zero] at hx; cases hx⟩ (fun a σ Hc _ y => ?_) (fun a x σ Hc He ha y e => ?_) (fun σ Hc y => ?_)
      · obtain ⟨_, _, _, _, sm, _⟩ := y
        exact sm _ _ edF
      · obtain ⟨rfl, k0, v0, ek, rfl⟩ := e
        obtain ⟨o4, o5, ex, rfl, sm, eVm, fi, hpr⟩ := y
        rw [kvS_len] at ha
        unfold kvS at ek
        rw [List.getElem?_map, List.getElem?_eq_getElem ha] at ek
        cases ek
        have hmem := List.getElem_mem ha
        have hX : ks[a]? = some l[a].1 := by rw [hks, List.getElem?_map, List.getElem?_eq_getElem ha]; rfl
        generalize l[a] = pr at *
        obtain ⟨X, v⟩ := pr
        have htk : ks.take (a + 1) = ks.take a ++ [X] := by rw [List.take_add_one, hX]; rfl
        have hXk : X ∈ ks := List.mem_of_getElem? hX
        have hXl : X ∈ l.map (·.1) := by rw [← hks]; exact hXk
        have hgx : getS l X = some v := getS_of lt.nd hmem
        obtain ⟨p1, p2, p3⟩ := lt.ok X hXl
        have htv : TrK He v (t X) := (((lt.val _ hmem).up tnF).ups sm)
        have edm := sm _ _ edF
        have dget : ∀ {Hz : Hp}, Same He Hz → DGet Hz d (.str X) (some v) := fun {Hz} sz => by
          rw [← hgx, ← kvS_val]
          exact .inl ⟨_, .inr X, .inr ⟨od, sz _ _ edm⟩, rfl, rfl⟩
        have hfew := fi.few
        refine ⟨_, rfl, _, rfl, Vd, _, rfl, DGet.k (k := .inr X) eVm, _, rfl, ?_⟩
        rw [kvS_val, getS_some, opV_names]
        by_cases c1 : X ∈ (fs0 ++ ex).map (·.1)
        · rw [decide_eq_true c1]
          refine ifF rfl ⟨_, o5, ex, rfl, sm, eVm, fi, fun x hx hn hu => ?_⟩
          rw [htk] at hx
          rcases List.mem_append.mp hx with hx | hx
          · exact hpr x hx hn hu
          · cases List.mem_singleton.mp hx
            intro z
            rw [z, List.append_nil] at c1
            exact hn c1
        · rw [decide_eq_false c1]
          refine ifT rfl ?_
          refine ⟨_, rfl, _, rfl, d, v, rfl, dget (Same.refl _), _, rfl, ?_⟩
          dsimp (config := { proj := false }) only [tNil, List.append_nil]
          refine spUses_of (K := K) (n := 16) (l := l) htv (by omega) p1 (by omega) (.inr ⟨od, edm⟩) fun H3 D2 s3 n3 e3 => ?_
          rw [← hks] at e3
          refine ⟨D2, rfl, ⟨_, SqL.of e3⟩, fun D3 hD3 => ?_⟩
          have hml : ((uF ks (t X)).map V.str).length = (uF ks (t X)).length := List.length_map _
          have hul : (uF ks (t X)).length ≤ 100 := Nat.le_trans (List.length_filter_le _ _) p3
          have eV3 := s3 _ _ eVm
          refine lc_inv (walk_list (K := K) (a := D2) (xs := (uF ks (t X)).map V.str)) (fun j v => ((uF ks (t X)).map V.str)[j]? = some v) (fun j ac Hy => Same H3 Hy ∧ ac = ((uF ks (t X)).take j).map fun y => V.bl (decide (y ∈ (fs0 ++ ex).map (·.1)))) (by omega) ⟨same_new hD3, rfl⟩ (fun j ac Hy h => SqL.of (h.1 _ _ e3)) (fun j Hy v Hy' hj y => y) (fun j v ac Hy hj hacl pv eDy hv Q2 q2 => ?_) (fun ac Hy hacl pv eDy => ?_)
          · obtain ⟨sy, rfl⟩ := pv
            rw [hml] at hj
            rw [List.getElem?_map, List.getElem?_eq_getElem hj] at hv
            cases hv
            have htk2 : (uF ks (t X)).take (j + 1) = (uF ks (t X)).take j ++ [(uF ks (t X))[j]] := by rw [List.take_add_one, List.getElem?_eq_getElem hj]; rfl
            generalize (uF ks (t X))[j] = z at *
            refine ⟨_, rfl, _, rfl, Vd, _, rfl, DGet.k (k := .inr z) (sy _ _ eV3), ?_⟩
            rw [kvS_val, getS_some, opV_names]
            exact q2 _ Hy eDy ⟨same_mut sy hD3, by rw [htk2, List.map_append (l₂ := [z])]; rfl⟩
          obtain ⟨sy, rfl⟩ := pv
          rw [hml, List.take_length] at eDy
          refine ⟨D3, (uF ks (t X)).map fun y => decide (y ∈ (fs0 ++ ex).map (·.1)), rfl, SqL.of (by rw [eDy, List.map_map]; rfl), _, rfl, ?_⟩
          rw [List.all_map]
          have s3y := s3.trans sy
          have smy := sm.trans s3y
          refine ifB (fun c2 => ?_) (fun c2 => ?_)
          · have hus : ∀ y ∈ uF ks (t X), y ∈ (fs0 ++ ex).map (·.1) := fun y hy => of_decide_eq_true (List.all_eq_true.mp c2 y hy)
            refine ⟨_, rfl, _, rfl, d, v, rfl, dget s3y, _, rfl, _, rfl, ?_⟩
            dsimp (config := { proj := false }) only [tNil, List.append_nil]
            refine spValueL_of (n := 14) (f := f) (e := Vd) (t := t X) (kv := kv) (fs := fs0 ++ ex) (htv.ups s3y) p1 (nok X hXl) (by omega) (smy _ _ hfF) smf (s3y _ _ eVm) fi.sm fun H5 s5 => ?_
            have eV5 := s5 _ _ (s3y _ _ eVm)
            have hval : evT (lk kv kHome) (rV kv (fs0 ++ ex)) (t X) = evT hm (rho ks F (getO (fs0 ++ ex))) (t X) := by
              rw [hF] at fi ⊢
              rw [← hhm]
              exact fi.rv hus
            rw [hval]
            refine ⟨_, rfl, _, rfl, Vd, _, rfl, DPut.k (k := .inr X) eV5 (by rw [kvS_len]; unfold opV; rw [List.length_map]; exact Nat.lt_of_le_of_lt (show _ ≤ 60 by omega) (by decide)), ?_⟩
            rw [opV_put c1]
            refine ⟨_, o5, ex ++ [(X, evT hm (rho ks F (getO (fs0 ++ ex))) (t X))], rfl, same_mut (smy.trans s5) hVF, by rw [upd_same, ← List.append_assoc], by rw [← List.append_assoc]; exact fi.add c1 hXk hus rfl, fun _ _ _ _ z => by simp at z⟩
          · refine ⟨_, o5, ex, rfl, smy, s3y _ _ eVm, fi, fun x hx hn hu => ?_⟩
            · rw [htk] at hx
              rcases List.mem_append.mp hx with hx | hx
              · exact hpr x hx hn hu
              · cases List.mem_singleton.mp hx
                have : (List.all (uF ks (t X)) (id ∘ fun y => decide (y ∈ (fs0 ++ ex).map (·.1)))) = true := List.all_eq_true.mpr fun y hy => decide_eq_true (by rw [List.map_append]; exact List.mem_append_left _ (hu y hy))
                rw [this] at c2
                cases c2
      · obtain ⟨o4, o5, ex, rfl, sm, eVm, fi, hpr⟩ := y
        rw [kvS_len, ← hkl, List.take_length] at hpr
        refine ⟨sm _ _ edF, ?_⟩
        refine ⟨_, o4, o5, fs0 ++ ex, rfl, back sm, by rw [upd_ne hVd]; exact eVm, fi, ?_⟩
        by_cases hc : ∀ x ∈ ks, x ∈ fs0.map (·.1)
        · exact .inr fun x hx => by rw [List.map_append]; exact List.mem_append_left _ (hc x hx)
        · refine .inl ?_
          have hne : (ks.filter fun x => decide (x ∉ fs0.map (·.1))) ≠ [] := fun z => hc fun x hx => by
            apply Classical.byContradiction
            intro h
            have : x ∈ ks.filter fun x => decide (x ∉ fs0.map (·.1)) := List.mem_filter.mpr ⟨hx, decide_eq_true h⟩
            rw [z] at this
            cases this
          obtain ⟨x, hx, hu⟩ := progress nor _ _ (Nat.le_refl _) hne
          obtain ⟨hxk, hxn⟩ := List.mem_filter.mp hx
          have hex := hpr x hxk (of_decide_eq_true hxn) fun y hy => by
            apply Classical.byContradiction
            intro h
            exact hu y (by unfold gU; rw [if_pos hxk]; exact hy) (List.mem_filter.mpr ⟨(uF_mem.mp hy).2, decide_eq_true h⟩)
          have := List.length_pos_iff.mpr hex
          have hi0 := hpg.resolve_right hc
          rw [List.length_append]
          omega
    · obtain ⟨o3, o4, o5, fs, rfl, sx, eV, fi, hpg⟩ := y
      refine ⟨_, rfl, q Hx Vd fs sx hV eV fi (hpg.elim (fun h => ?_) id)⟩
      rw [kvS_len, ← hkl] at h
      intro x hx
      apply Classical.byContradiction
      intro z
      have := memLenS (x :: fs.map (·.1)) ks (List.nodup_cons.mpr ⟨z, fi.nd⟩) fun y hy => (List.mem_cons.mp hy).elim (fun e => e ▸ hx) (fi.sub y)
      rw [List.length_cons, List.length_map] at this
      omega
end
end R1

namespace R1
open PySem PySem.Spec PyProof.Rows L2 RK
local macro_rules | `(tactic| walk_at "sq") => `(tactic| first
  | exact SqL.of upd_same | exact upd_same | exact SqL.of (by assumption) | exact SqL.of (by rw [upd_ne (by assumption)]; assumption) | assumption)
local macro_rules | `(tactic| walk_at "sd") => `(tactic| first
  | assumption | omega | (refine Or.inl ⟨?_, ?_⟩ <;> omega) | (show _ ∧ _; constructor <;> omega) | (show _ ≠ _; simp; omega) | (exact Or.inl ⟨by decide, by decide⟩) | (exact Or.inr ⟨by decide, by decide⟩) | (show _ < _; decide) | (show _ ≤ _; decide))
local macro_rules | `(tactic| walk_at "at") => `(tactic| first | rfl | (refine atI_intV ?_ ?_ <;> omega) | assumption)
local macro_rules | `(tactic| walk_at "s1") => `(tactic| first
  | refine ⟨_, rfl, ?_⟩ | refine ⟨_, _, rfl, rfl, ?_⟩ | refine ⟨rfl, ?_⟩
  | refine ⟨_, _, _, _, rfl, rfl, by walk_at "sq", by walk_at "at", ?_⟩
  | refine Or.inl ⟨_, rfl, ?_⟩
  | refine ⟨_, _, rfl, Or.inl (by walk_at "sq"), ?_⟩
  | refine And.intro (by walk_at "sd") ?_)
local macro_rules | `(tactic| walk_at "s") => `(tactic| repeat walk_at "s1")

def optD : Option Int → PyData
  | none => .none
  | some i => .int i
theorem dx_opt {K : PySem.W.Frag} {H : Hp} (o : Option Int) : Dx K H noS (optI o) (optD o) := by
  cases o with
  | none => exact .non
  | some i => exact .int i
theorem optD_ok (o : Option Int) : (optD o).canLay0 = true ∧ (optD o).depth ≤ 1 ∧ wdB (optD o) = true := by
  cases o <;> exact ⟨rfl, by simp [optD, PyData.depth], rfl⟩
def spSame : Sp := fun vs H Q _ => ∃ (a b : Addr) (ks : List Str) (r : Str → Option Int) (fs : OV), vs = [.ref a, .ref b] ∧ a ≠ b ∧ ks.length ≤ 60 ∧ ks.Nodup ∧ H a = some (.dK (kvS (onV ks r))) ∧ H b = some (.dK (kvS (opV fs))) ∧ (fs.map (·.1)).Nodup ∧ (∀ x, x ∈ fs.map (·.1) ↔ x ∈ ks) ∧ (∀ x ∈ ks, r x = getO fs x) ∧ ∀ H', Same H H' → Q (.bl true) H'
section
variable {P : Program} {w : World} {K : PySem.W.Frag} {mg : Str → Option Value} {base : Heap} {A : Ads}
theorem onV_names (ks : List Str) (r : Str → Option Int) : (onV ks r).map (·.1) = ks := by
  unfold onV
  rw [List.map_map]
  exact List.map_id' _
theorem onV_get {ks : List Str} {r : Str → Option Int} {x : Str} (n : ks.Nodup) (h : x ∈ ks) : getS (onV ks r) x = some (optI (r x)) :=
  getS_of (by rw [onV_names]; exact n) (List.mem_map.mpr ⟨x, h, rfl⟩)
theorem ok_law_same (T : Txt K mg A) : FnOk P w K mg base CX0 40 A.a_law_same A.d_law_same ["_law_told", "_law_due"] spSame := by
  refine T.F_law_same.ok sc_law_same (fun vs H Q E h => ?_) (fun cdv B outer s H vs Q E hr h => ?_)
  · obtain ⟨a, b, ks, r, fs, rfl, _⟩ := h
    rfl
  · obtain ⟨a, b, ks, r, fs, rfl, hab, few, kn, ha, hb, fn, fm, he, q⟩ := h
    refine ⟨_, (pss_cons (ps_if (PW.pt (pw_or (pt_not (pt_val (pe_callB call_isi (by rfl) T.n_isinstance (by decide +kernel) (pa_cons (pv 0) (pa_cons (pe_bltn (v := .ty "dict") (u := .type "dict") (by rfl) T.n_dict (by decide +kernel) rfl) pa_nil))))) (pw_or1 (pt_cmpR op_ne (pe_callB call_lenD (by rfl) T.n_len (by decide +kernel) (pa_cons (pv 0) pa_nil)) (pe_callB call_lenD (by rfl) T.n_len (by decide +kernel) (pa_cons (pv 1) pa_nil)) (nomark _))))) (pss_one (ps_ret pe_bl)) pss_nil)
    (pss_one (ps_ret (pe_callB (cr_all rfl) (by rfl) T.n_all (by decide +kernel) (pa_cons (pe_lock (pe_lc (own := [("_law_name", 2)]) rfl sc_law_same.nd (pi_keys (pv 1)) (blkOk_by (own := [("_law_name", 2)]) (N := N_law_same) (sc := defScope s_law_same) (by decide +kernel)) (fun _ _ _ _ _ => pg_name (i := 2) sc_law_same.nd rfl (Or.inl rfl)) (fun _ _ _ _ _ => pts_nil) (fun _ _ _ _ _ => by exact (pe_and (pe_cmp (pc_din (hu_of hr) (pv 2) (pv 0)) rfl) (pe_one (pe_cmpR (r := rEqD K) (op_eqD hr.units) (pe_call (ok_plain T 30) (hr.mono (by omega)) rfl T.g_law_plain T.F_law_plain.kp T.b_law_plain .nil pass0 (pa_cons (pe_dget (hu_of hr) (pv 0) (pv 2) (fun _ _ => rfl)) pa_nil)) (pe_call (ok_plain T 30) (hr.mono (by omega)) rfl T.g_law_plain T.F_law_plain.kp T.b_law_plain .nil pass0 (pa_cons (pe_dget (hu_of hr) (pv 1) (pv 2) (fun _ _ => rfl)) pa_nil)) (nomark _))))))) pa_nil))))), ?_⟩
    have hlen : fs.length = ks.length := by
      have h1 := memLenS (fs.map (·.1)) ks fn fun x hx => (fm x).mp hx
      have h2 := memLenS ks (fs.map (·.1)) kn fun x hx => (fm x).mpr hx
      rw [List.length_map] at h1 h2
      omega
    refine ⟨_, rfl, .ref a, .ty "dict", .type "dict", .type "dict", true, rfl, .ty _, .base (.dK ha), by rfl, _, rfl, ?_⟩
    refine ifF rfl ?_
    refine ⟨_, rfl, a, _, rfl, ha, _, rfl, b, _, rfl, hb, rfl, _, rfl, ?_⟩
    refine ifF (by rw [kvS_len, kvS_len]; unfold onV opV; rw [List.length_map, List.length_map, hlen]; exact congrArg (!·) (decide_eq_true rfl)) ?_
    refine ⟨b, _, hb, trivial, fun od => ?_⟩
    have edf : upd H b (.frz od (.dK (kvS (opV fs)))) b = some (.frz od (.dK (kvS (opV fs)))) := upd_same
    have haF : upd H b (.frz od (.dK (kvS (opV fs)))) a = some (.dK (kvS (onV ks r))) := by rw [upd_ne hab]; exact ha
    have back : ∀ {H' : Hp}, Same (upd H b (.frz od (.dK (kvS (opV fs))))) H' → Same H (upd H' b (.dK (kvS (opV fs)))) := fun s => same_lock hb s
    generalize upd H b (.frz od (.dK (kvS (opV fs)))) = HF at edf haF back ⊢
    refine ⟨_, rfl, b, od, rfl, .inl ⟨_, edf, ?_⟩⟩
    refine fun D hD => ?_
    have hDb : D ≠ b := fun z => by rw [z, edf] at hD; cases hD
    refine lc_inv (walk_keys (d := b) (o := od) (kvs := kvS (opV fs))) (fun j v => ∃ x, (fs.map (·.1))[j]? = some x ∧ v = .str x) (fun j ac Hy => Same HF Hy ∧ ac = List.replicate j (V.bl true)) (by rw [kvS_len]; unfold opV; rw [List.length_map]; omega) ⟨same_new hD, rfl⟩ (fun j ac Hy h => h.1 _ _ edf) (fun j Hy v Hy' hj y => ?_) (fun j v ac Hy hj hacl pv eDy hv Q2 q2 => ?_) (fun ac Hy hacl pv eDy => ?_)
    · obtain ⟨rfl, k0, v0, ek, rfl⟩ := y
      refine ⟨rfl, ?_⟩
      unfold kvS opV at ek
      rw [List.map_map, List.getElem?_map] at ek
      cases hf : fs[j]? with
      | none => rw [hf] at ek; cases ek
      | some p =>
        rw [hf] at ek
        cases ek
        exact ⟨p.1, by rw [List.getElem?_map, hf]; rfl, rfl⟩
    · obtain ⟨sy, rfl⟩ := pv
      obtain ⟨x, hx, rfl⟩ := hv
      have hxf : x ∈ fs.map (·.1) := List.mem_of_getElem? hx
      have hxk := (fm x).mp hxf
      obtain ⟨o1, o2, o3⟩ := optD_ok (r x)
      have osh := plD_shaped o1 (Nat.le_trans o2 (by decide))
      refine ⟨_, rfl, _, rfl, a, _, rfl, DGet.k (k := .inr x) (sy _ _ haF), _, rfl, ?_⟩
      refine ifT (by rw [kvS_val, getS_some, onV_names]; exact decide_eq_true hxk) ?_
      refine ⟨_, rfl, _, rfl, a, optI (r x), rfl, ?_, ?_⟩
      · rw [← onV_get kn hxk, ← kvS_val]
        exact DGet.k (k := .inr x) (sy _ _ haF)
      refine ⟨optI (r x), _, noS, rfl, fun _ z => z.elim, dx_opt _, Nat.le_trans o2 (by decide), o3, fun H3 v3 s3 d3 => ?_⟩
      refine ⟨_, rfl, _, rfl, b, optI (r x), rfl, ?_, ?_⟩
      · rw [he x hxk, ← opV_get hxf, ← kvS_val]
        exact .inl ⟨_, .inr x, .inr ⟨od, (sy.trans s3) _ _ edf⟩, rfl, rfl⟩
      refine ⟨optI (r x), _, noS, rfl, fun _ z => z.elim, dx_opt _, Nat.le_trans o2 (by decide), o3, fun H5 v5 s5 d5 => ?_⟩
      refine ⟨_, _, (Dx.up (Out.of s5) d3).dp, d5.dp, osh, osh, ?_⟩
      rw [SeqAt.eqv_refl _ (plD_lay _ o1)]
      have s35 := s3.trans s5
      exact q2 _ H5 (s35 _ _ eDy) ⟨same_mut (sy.trans s35) hD, by rw [List.replicate_succ']⟩
    · obtain ⟨sy, rfl⟩ := pv
      refine ⟨sy _ _ edf, ?_⟩
      have s8 := back sy
      refine ⟨D, List.replicate (kvS (opV fs)).length true, rfl, SqL.of (by rw [upd_ne hDb, eDy, List.map_replicate]), ?_⟩
      rw [List.all_replicate]
      have := q _ s8
      split
      · exact this
      · exact this
end
end R1

namespace R1
open PySem PySem.Spec PyProof.Rows L2 RK
local macro_rules | `(tactic| walk_at "sq") => `(tactic| first
  | exact SqL.of upd_same | exact upd_same | exact SqL.of (by assumption) | exact SqL.of (by rw [upd_ne (by assumption)]; assumption) | assumption)
local macro_rules | `(tactic| walk_at "sd") => `(tactic| first
  | assumption | omega | (refine Or.inl ⟨?_, ?_⟩ <;> omega) | (show _ ∧ _; constructor <;> omega) | (show _ ≠ _; simp; omega) | (exact Or.inl ⟨by decide, by decide⟩) | (exact Or.inr ⟨by decide, by decide⟩) | (show _ < _; decide) | (show _ ≤ _; decide))
local macro_rules | `(tactic| walk_at "at") => `(tactic| first | rfl | (refine atI_intV ?_ ?_ <;> omega) | assumption)
local macro_rules | `(tactic| walk_at "s1") => `(tactic| first
  | refine ⟨_, rfl, ?_⟩ | refine ⟨_, _, rfl, rfl, ?_⟩ | refine ⟨rfl, ?_⟩
  | refine ⟨_, _, _, _, rfl, rfl, by walk_at "sq", by walk_at "at", ?_⟩
  | refine Or.inl ⟨_, rfl, ?_⟩
  | refine ⟨_, _, rfl, Or.inl (by walk_at "sq"), ?_⟩
  | refine And.intro (by walk_at "sd") ?_)
local macro_rules | `(tactic| walk_at "s") => `(tactic| repeat walk_at "s1")

abbrev LTR : List Nat := (Str.ofString "abcdefghijklmnopqrstuvwxyz").cps.toList
abbrev DIG : List Nat := (Str.ofString "0123456789").cps.toList
theorem str_ext' {a b : Str} (h : a.cps.toList = b.cps.toList) : a = b := by
  cases a
  cases b
  simp only [Str.mk.injEq]
  exact Array.toList_inj.mp h
/-- the letters that tell the names apart -/
def L26 : List Nat := (Str.ofString "etaoinshrdlcumwfgypbvkjxqz").cps.toList
theorem L26_nd : L26.Nodup := by decide +kernel
theorem L26_len : L26.length = 26 := by decide +kernel
theorem at_app {a b : Str} {k : Nat} {c : Nat} (h : a.cps.toList[k]? = some c) : (a ++ b).cps.toList[k]? = some c := by
  have := (List.getElem?_eq_some_iff.mp h).1
  show (a.cps ++ b.cps).toList[k]? = some c
  rw [Array.toList_append, List.getElem?_append_left this]
  exact h
theorem at_mid {a : Str} {c : Nat} : (a ++ (⟨#[c]⟩ : Str)).cps.toList[a.length]? = some c := by
  show (a.cps ++ #[c]).toList[a.cps.size]? = some c
  rw [Array.toList_append, List.getElem?_append_right (by simp)]
  simp
/-- names whose signs at one place are the letters, one behind the other -/
def TolN (pos : Nat) (ss : List Str) : Prop := ∀ (j : Nat) (s : Str), ss[j]? = some s → s.cps.toList[pos]? = L26[j]?
theorem TolN.snoc {pos : Nat} {ss : List Str} {s : Str} {c : Nat} (h : TolN pos ss) (h1 : L26[ss.length]? = some c) (h2 : s.cps.toList[pos]? = some c) : TolN pos (ss ++ [s]) := fun j x e => by
  by_cases hj : j < ss.length
  · rw [List.getElem?_append_left hj] at e
    exact h j x e
  · have hj2 : j = ss.length := by
      have := (List.getElem?_eq_some_iff.mp e).1
      rw [List.length_append] at this
      have : j < ss.length + 1 := this
      omega
    subst hj2
    rw [List.getElem?_append_right (Nat.le_refl _), Nat.sub_self] at e
    cases e
    rw [h1, h2]
theorem TolN.nodup {pos : Nat} {ss : List Str} (h : TolN pos ss) (hl : ss.length ≤ 26) : ss.Nodup := by
  refine List.pairwise_iff_getElem.mpr fun i j hi hj hij e => ?_
  have h1 := h i ss[i] (List.getElem?_eq_getElem hi)
  have h2 := h j ss[j] (List.getElem?_eq_getElem hj)
  rw [e, h2] at h1
  have l := L26_len
  rw [List.getElem?_eq_getElem (by omega), List.getElem?_eq_getElem (by omega)] at h1
  have := (List.getElem_inj L26_nd).mp (Option.some.inj h1)
  omega
def LO (s : Str) : Prop := ∀ c ∈ s.cps.toList, c ∈ LTR
def DO (s : Str) : Prop := ∀ c ∈ s.cps.toList, c ∈ LTR ++ DIG
theorem LO.d {s : Str} (h : LO s) : DO s := fun c hc => List.mem_append_left _ (h c hc)
theorem cps_app (a b : Str) : (a ++ b).cps.toList = a.cps.toList ++ b.cps.toList := Array.toList_append
theorem lo_app {a b : Str} (ha : LO a) (hb : LO b) : LO (a ++ b) := fun c hc => by
  rw [cps_app] at hc
  rcases List.mem_append.mp hc with z | z
  · exact ha c z
  · exact hb c z
theorem do_app {a b : Str} (ha : DO a) (hb : DO b) : DO (a ++ b) := fun c hc => by
  rw [cps_app] at hc
  rcases List.mem_append.mp hc with z | z
  · exact ha c z
  · exact hb c z
theorem lo_cut {a : Str} (h : LO a) (lo hi : Option Int) : LO (cutS a lo hi) := fun c hc => h c (List.mem_of_mem_drop (List.mem_of_mem_take hc))
theorem do_cut {a : Str} (h : DO a) (lo hi : Option Int) : DO (cutS a lo hi) := fun c hc => h c (List.mem_of_mem_drop (List.mem_of_mem_take hc))
theorem lo_dec {s : Str} (h : (s.cps.toList.all fun c => decide (c ∈ LTR)) = true) : LO s := fun c hc => of_decide_eq_true (List.all_eq_true.mp h c hc)
theorem do_dec {s : Str} (h : (s.cps.toList.all fun c => decide (c ∈ LTR ++ DIG)) = true) : DO s := fun c hc => of_decide_eq_true (List.all_eq_true.mp h c hc)
/-- a short name -/
structure NM (s : Str) : Prop where
  lo : 1 ≤ s.length
  hi : s.length ≤ 6
  hd : s.cps.toList.headD 0 ∈ LTR
  al : DO s
theorem head_app {a b : Str} (h : 1 ≤ a.length) : (a ++ b).cps.toList.headD 0 = a.cps.toList.headD 0 := by
  rw [cps_app]
  cases hl : a.cps.toList with
  | nil =>
    have : a.length = a.cps.toList.length := rfl
    rw [this, hl] at h
    exact absurd h (by decide)
  | cons c r => rfl
theorem LO.head {s : Str} (h : LO s) (h1 : 1 ≤ s.length) : s.cps.toList.headD 0 ∈ LTR := by
  cases hl : s.cps.toList with
  | nil =>
    have : s.length = s.cps.toList.length := rfl
    rw [this, hl] at h1
    exact absurd h1 (by decide)
  | cons c r => exact h c (by rw [hl]; exact List.mem_cons_self)
def StrsK (H : Hp) (l : Addr) (n : Nat) : Prop := ∃ ss : List Str, H l = some (.lst (ss.map V.str)) ∧ ss.length = n ∧ (∀ s ∈ ss, NM s) ∧ ss.Nodup
def spNames' : Sp := fun vs H Q _ => ∃ (c p : Addr) (n : Nat), vs = [.ref p, .int (n : Int)] ∧ Src c H p ∧ n ≤ 20 ∧ ∀ H' l, Src c H' p → But p H H' → H l = none → StrsK H' l n → Q (.ref l) H'
theorem letter_at : ∀ k : _root_.Fin 26, ∃ c, (Str.ofString "etaoinshrdlcumwfgypbvkjxqz").cps.toList[k.val]? = some c ∧ LO ⟨#[c]⟩ := fun k => by
  have hl : (Str.ofString "etaoinshrdlcumwfgypbvkjxqz").cps.toList.length = 26 := by decide +kernel
  have ho : LO (Str.ofString "etaoinshrdlcumwfgypbvkjxqz") := lo_dec (by decide +kernel)
  exact ⟨_, List.getElem?_eq_getElem (by rw [hl]; exact k.isLt), fun c hc => by
    rw [List.mem_singleton.mp hc]
    exact ho _ (List.getElem_mem _)⟩
theorem letters_len : (Str.ofString "etaoinshrdlcumwfgypbvkjxqz").length ≤ sizeLine := by decide +kernel
theorem one_len (c : Nat) : (⟨#[c]⟩ : Str).length = 1 := rfl
theorem app_len' (a b : Str) : (a ++ b).length = a.length + b.length := by
  show (a.cps ++ b.cps).size = a.cps.size + b.cps.size
  exact Array.size_append
theorem cut1_len (s : Str) (k : Nat) : (cutS s none (some (k : Int))).length = min k s.length := by
  have e : s = sO s.cps.toList := str_ext' (by simp [sO])
  have l : s.length = s.cps.toList.length := rfl
  rw [l]
  conv => lhs; rw [e, cut_hi, sO_len]
  rw [List.length_take]
theorem cut2_len (s : Str) (k : Nat) : (cutS s (some (k : Int)) none).length = s.length - k := by
  have e : s = sO s.cps.toList := str_ext' (by simp [sO])
  have l : s.length = s.cps.toList.length := rfl
  rw [l]
  conv => lhs; rw [e, cut_lo, sO_len]
  rw [List.length_drop]
theorem nm_lo {s : Str} (h : LO s) (h1 : 1 ≤ s.length) (h4 : s.length ≤ 4) : NM s := ⟨h1, by omega, h.head h1, h.d⟩
theorem nm_app {a b : Str} (h : LO a) (h1 : 1 ≤ a.length) (h4 : a.length ≤ 4) (hb : DO b) (hl : b.length ≤ 2) : NM (a ++ b) := ⟨by rw [app_len']; omega, by rw [app_len']; omega, by rw [head_app h1]; exact h.head h1, do_app h.d hb⟩
section
variable {P : Program} {w : World} {K : PySem.W.Frag} {mg : Str → Option Value} {base : Heap} {A : Ads}
theorem ok_law_names (T : Txt K mg A) : FnOk P w K mg base CX0 2 A.a_law_names A.d_law_names ["_law_source_here", "_law_count"] spNames' := by
  refine T.F_law_names.ok sc_law_names (fun vs H Q E h => ?_) (fun cdv B outer s H vs Q E hr h => ?_)
  · obtain ⟨c, p, n, rfl, _⟩ := h
    rfl
  · obtain ⟨c, p, n, rfl, hs, hn, q⟩ := h
    refine ⟨_, (pss_cons (ps_set (i := 2) sc_law_names.nd rfl (.inr rfl) pe_str)
    (pss_cons (ps_set (i := 3) sc_law_names.nd rfl (.inl rfl) (pe_call (ok_law_draw T) (hr.mono (by omega)) rfl T.g_law_draw T.F_law_draw.kp T.b_law_draw .nil pass0 (pa_cons (pv 0) (pa_cons pe_int pa_nil))))
    (pss_cons (ps_set (i := 5) sc_law_names.nd rfl (.inl rfl) (pe_bm PySem.F.plainAttrs_str PySem.F.slot_str_join PySem.F.type_str_join mt_join pe_str (pa_cons (pe_lc (own := [("_law_step", 4)]) rfl sc_law_names.nd (pi_range1 (by rfl) T.n_range (pa_cons (pe_op op_add pe_int (pe_call (ok_law_draw T) (hr.mono (by omega)) rfl T.g_law_draw T.F_law_draw.kp T.b_law_draw .nil pass0 (pa_cons (pv 0) (pa_cons pe_int pa_nil)))) pa_nil)) (blkOk_by (own := [("_law_step", 4)]) (N := N_law_names) (sc := defScope s_law_names) (by decide +kernel)) (fun _ _ _ _ _ => pg_name (i := 4) sc_law_names.nd rfl (Or.inl rfl)) (fun _ _ _ _ _ => pts_nil) (fun _ _ _ _ _ => by exact (pe_ix ix_str (pv 2) (pe_call (ok_law_draw T) (hr.mono (by omega)) rfl T.g_law_draw T.F_law_draw.kp T.b_law_draw .nil pass0 (pa_cons (pv 0) (pa_cons pe_int pa_nil))) (fun _ _ => rfl)))) pa_nil)))
    (pss_cons (ps_set (i := 6) sc_law_names.nd rfl (.inl rfl) (pe_lst pa_nil))
    (pss_cons (ps_for PassesOwn.never rfl (pi_range1 (by rfl) T.n_range (pa_cons (pv 1) pa_nil)) (pg_name (i := 7) sc_law_names.nd rfl (.inl rfl))
      (pss_cons (ps_set (i := 8) sc_law_names.nd rfl (.inl rfl) (pe_ix ix_str (pv 2) (pe_op op_mod (pe_callTy call_int1 (by rfl) T.n_int (by decide +kernel) (pa_cons (pv 7) pa_nil)) pe_int) (fun _ _ => rfl)))
    (pss_cons (ps_if (pt_cmpR op_ge (pv 7) pe_int (nomark _)) (pss_one (ps_set (i := 8) sc_law_names.nd rfl (.inl rfl) (pe_op op_add_str (pv 8) (pe_ix ix_str (pv 2) (pe_op op_fdiv (pv 7) pe_int) (fun _ _ => rfl))))) pss_nil)
    (pss_cons (ps_set (i := 9) sc_law_names.nd rfl (.inl rfl) (pe_op op_add_str (pv 5) (pv 8)))
    (pss_cons (ps_if (pt_cmpR op_eq (pv 3) pe_int (nomark _)) (pss_one (ps_set (i := 9) sc_law_names.nd rfl (.inl rfl) (pe_op op_add_str (pv 8) (pv 5)))) pss_nil)
    (pss_cons (ps_if (pt_cmpR op_eq (pv 3) pe_int (nomark _)) (pss_one (ps_set (i := 9) sc_law_names.nd rfl (.inl rfl) (pe_op op_add_str (pe_op op_add_str (pe_slice sl_str (pv 5) po_none (po_some pe_int)) (pv 8)) (pe_slice sl_str (pv 5) (po_some pe_int) po_none)))) pss_nil)
    (pss_cons (ps_set (i := 10) sc_law_names.nd rfl (.inl rfl) (pe_call (ok_law_draw T) (hr.mono (by omega)) rfl T.g_law_draw T.F_law_draw.kp T.b_law_draw .nil pass0 (pa_cons (pv 0) (pa_cons pe_int pa_nil))))
    (pss_cons (ps_if (pt_cmpR op_gt (pv 10) pe_int (nomark _)) (pss_one (ps_set (i := 9) sc_law_names.nd rfl (.inl rfl) (pe_op op_add_str (pv 9) (pe_callTy call_str_int (by rfl) T.n_str (by decide +kernel) (pa_cons (pe_op op_mul (pv 10) pe_int) pa_nil))))) pss_nil)
    (pss_one (ps_expr (pe_bm PySem.F.plainAttrs_list PySem.F.slot_list_append PySem.F.type_list_append mt_append (pv 6) (pa_cons (pv 9) pa_nil))))))))))))
    (pss_one (ps_ret (pv 6)))))))), ?_⟩
    refine ⟨_, rfl, c, p, 3, rfl, hs, by decide, by decide, fun H1 mode lm hs1 b1 => ?_⟩
    walk_at "s"
    refine ⟨c, p, 3, rfl, hs1, by decide, by decide, fun H2 n3 ln3 hs2 b2 => ?_⟩
    refine ⟨_, _, rfl, rfl, 1 + (n3 : Int), rfl, by omega, by omega, fun D hD => ?_⟩
    rw [show ((1 : Int) + (n3 : Int)).toNat = n3 + 1 by omega]
    refine lc_inv (walk_range (lo := 0) (n := n3 + 1)) (fun i v => True) (fun i acc H4 => Src c H4 p ∧ But p H2 H4 ∧ ∃ ys : List Str, acc = ys.map V.str ∧ ∀ y ∈ ys, y.length = 1 ∧ LO y) (by omega) ⟨src_up hs2 (same_new hD), But.of (same_new hD), [], rfl, by simp⟩ (fun _ _ _ _ => trivial) (fun i H1 v H2 hi y => ⟨y.1, trivial⟩) (fun i v acc H4 hi hl pv e5 _ Q q => ?_) (fun acc H4 hl4 pv e4 => ?_)
    · obtain ⟨hs4, b4, ys, rfl, hy⟩ := pv
      have np : D ≠ p := fun z => by
        rw [z] at hD
        exact src_ne hs2 hD
      refine ⟨_, rfl, _, rfl, c, p, 26, rfl, hs4, by decide, by decide, fun H5 k lk hs5 b5 => ?_⟩
      obtain ⟨ch, hch, hso⟩ := letter_at ⟨k, by omega⟩
      refine ⟨_, _, ch, rfl, rfl, letters_len, atI_nat hch, ?_⟩
      refine q _ H5 (b5 _ _ np e5) ⟨src_put hs5 np fun z => src_cne hs2 (z ▸ hD), but_new (b4.trans b5) hD, ys ++ [⟨#[ch]⟩], by rw [List.map_append]; rfl, fun y hy2 => ?_⟩
      rcases List.mem_append.mp hy2 with z | z
      · exact hy y z
      · rw [List.mem_singleton.mp z]
        exact ⟨rfl, hso⟩
    obtain ⟨hs4, b4, ys, rfl, hy⟩ := pv
    rw [List.length_map] at hl4
    refine ⟨_, _, ys, rfl, rfl, .inl (SqL.of e4), ?_, ?_⟩
    · have : (ys.map fun x => x.length).sum = ys.length := by
        clear e4 hl4
        induction ys with
        | nil => rfl
        | cons y r ih =>
          rw [List.map_cons, List.sum_cons, ih (fun z hz => hy z (List.mem_cons_of_mem _ hz)), (hy y List.mem_cons_self).1, List.length_cons]
          omega
      rw [this, show (Str.ofString "").length = 0 by decide +kernel]
      omega
    have hcm : (Txt.join (Str.ofString "") ys).length ≤ 3 := by
      rw [show Str.ofString "" = sO [] by decide +kernel, RK.join_nil, sO_len]
      have : ((ys.map fun s => s.cps.toList).flatten).length = ys.length := by
        clear e4 hl4
        induction ys with
        | nil => rfl
        | cons y r ih =>
          rw [List.map_cons, List.flatten_cons, List.length_append, ih (fun z hz => hy z (List.mem_cons_of_mem _ hz)), List.length_cons]
          have : y.cps.toList.length = 1 := by
            rw [Array.length_toList]
            exact (hy y List.mem_cons_self).1
          omega
      rw [this]
      omega
    have hco : LO (Txt.join (Str.ofString "") ys) := by
      rw [show Str.ofString "" = sO [] by decide +kernel, RK.join_nil]
      intro x hx
      obtain ⟨l, hl, hxl⟩ := List.mem_flatten.mp hx
      obtain ⟨y, hy1, hy2⟩ := List.mem_map.mp hl
      subst hy2
      exact (hy y hy1).2 x hxl
    generalize Txt.join (Str.ofString "") ys = cm at hcm hco
    have b04 := (b1.trans b2).trans b4
    clear e4 hl4 hy b4 b2 b1 hs1 hs2
    refine ⟨lenOk (n := 0) rfl (by decide), fun D2 nD2 => ?_⟩
    have hDp : D2 ≠ p := fun z => by rw [z] at nD2; exact src_ne hs4 nD2
    have hDc : D2 ≠ c := fun z => by rw [z] at nD2; exact src_cne hs4 nD2
    have hHD : H D2 = none := by
      cases hh : H D2 with
      | none => rfl
      | some o => rw [b04 _ _ hDp hh] at nD2; cases nD2
    generalize hH6 : upd H4 D2 _ = H6
    have hs6 : Src c H6 p := by rw [← hH6]; exact src_up hs4 (same_new nD2)
    have b6 : But p H H6 := by rw [← hH6]; exact b04.trans (But.of (same_new nD2))
    have e6 : H6 D2 = some (.lst []) := by rw [← hH6]; exact upd_same
    clear hH6 nD2 hs4 b04
    refine ⟨_, rfl, (n : Int), rfl, by omega, by omega, ?_⟩
    rw [Int.toNat_natCast]
    obtain ⟨pos, hpos⟩ : ∃ pos : Nat, pos = if mode = 1 then 0 else if mode = 2 then (cutS cm none (some 1)).length else cm.length := ⟨_, rfl⟩
    refine for_it (walk_range (lo := 0) (n := n)) (fun i σ Hc => ∃ ss o4 o7 o8 o9 o10, σ = [some (.ref p), some (.int (n : Int)), some (.str (Str.ofString "etaoinshrdlcumwfgypbvkjxqz")), some (.int (mode : Int)), o4, some (.str cm), some (.ref D2), o7, o8, o9, o10] ∧ Src c Hc p ∧ But p H Hc ∧ Hc D2 = some (.lst (ss.map V.str)) ∧ ss.length = i ∧ (∀ s ∈ ss, NM s) ∧ TolN pos ss) ⟨[], _, _, _, _, _, rfl, hs6, b6, e6, rfl, by simp, fun j s e => by simp at e⟩ (fun _ _ _ _ _ => trivial) (fun i x σ H7 H8 hi y e => ?_) (fun σ H7 y => ?_)
    · obtain ⟨rfl, rfl⟩ := e
      obtain ⟨ss, o4, o7, o8, o9, o10, rfl, hs7, b7, e7, hsl, hsk, htd⟩ := y
      obtain ⟨ch, hch, hso⟩ := letter_at ⟨i % 26, Nat.mod_lt _ (by decide)⟩
      have hat : atI (Str.ofString "etaoinshrdlcumwfgypbvkjxqz").cps.toList ((0 + (i : Int)) % 26) = some ch := by
        rw [show (0 + (i : Int)) % 26 = ((i % 26 : Nat) : Int) by omega]
        exact atI_nat hch
      refine ⟨_, rfl, _, rfl, .inl ⟨_, rfl, _, _, rfl, rfl, (by show (0 : Int) < 26; decide), _, _, ch, rfl, rfl, letters_len, hat, ?_⟩⟩
      refine ⟨_, rfl, _, _, rfl, rfl, _, rfl, ifF (decide_eq_false (by omega)) ?_⟩
      have how : (⟨#[ch]⟩ : Str).length = 1 := rfl
      have hL : L26[ss.length]? = some ch := by
        rw [hsl]
        have : i % 26 = i := Nat.mod_eq_of_lt (by omega)
        rw [← hch]
        show L26[i]? = L26[i % 26]?
        rw [this]
      have how0 : (⟨#[ch]⟩ : Str).cps.toList[0]? = some ch := rfl
      have howm : ∀ a : Str, (a ++ (⟨#[ch]⟩ : Str)).cps.toList[a.length]? = some ch := fun a => at_mid
      generalize (⟨#[ch]⟩ : Str) = ow at how hso how0 howm ⊢
      refine ⟨_, rfl, _, rfl, _, _, rfl, rfl, by rw [how]; exact Nat.le_trans (show cm.length + 1 ≤ 100 by omega) (by decide), ?_⟩
      refine ⟨_, rfl, rfl, _, rfl, ite2 (fun c1 => ?_) (fun c1 => ?_)⟩
      · refine ⟨_, rfl, _, rfl, _, _, rfl, rfl, by rw [how]; exact Nat.le_trans (show 1 + cm.length ≤ 100 by omega) (by decide), ?_⟩
        have hm2 : (decide (V.int (mode : Int) = V.int 2)) = false := by
          have := V.int.inj (of_decide_eq_true c1)
          exact decide_eq_false fun z => by have := V.int.inj z; omega
        refine ⟨_, rfl, rfl, _, rfl, ifF hm2 ?_⟩
        obtain ⟨nx, hnx, hnp, hn1, hnl, hns⟩ : ∃ nx, nx = ow ++ cm ∧ nx.cps.toList[pos]? = some ch ∧ 1 ≤ nx.length ∧ nx.length ≤ 4 ∧ LO nx := ⟨_, rfl, by rw [hpos, if_pos (by have := V.int.inj (of_decide_eq_true c1); omega)]; exact at_app how0, by rw [app_len']; omega, by rw [app_len']; omega, lo_app hso hco⟩
        rw [← hnx]
        refine ⟨_, rfl, c, p, 4, rfl, hs7, by decide, by decide, fun H9 tl ltl hs9 b9 => ?_⟩
        have e9 := b9 _ _ hDp e7
        refine ⟨_, rfl, _, _, rfl, rfl, _, rfl, ite2 (fun ct => ?_) (fun ct => ?_)⟩
        · have htl : (Str.ofString (toString ((tl : Int) * 7))).length ≤ 2 := by
            match tl, ltl with
            | 0, _ => decide +kernel
            | 1, _ => decide +kernel
            | 2, _ => decide +kernel
            | 3, _ => decide +kernel
            | n + 4, h => exact absurd h (by omega)
          have hts : DO (Str.ofString (toString ((tl : Int) * 7))) := by
            match tl, ltl with
            | 0, _ => exact do_dec (by decide +kernel)
            | 1, _ => exact do_dec (by decide +kernel)
            | 2, _ => exact do_dec (by decide +kernel)
            | 3, _ => exact do_dec (by decide +kernel)
            | n + 4, h => exact absurd h (by omega)
          refine ⟨_, rfl, _, rfl, _, _, rfl, rfl, .inr ⟨by decide, by decide⟩, (tl : Int) * 7, rfl, ?_, _, _, rfl, rfl, Nat.le_trans (show _ ≤ 100 by omega) (by decide), ?_⟩
          · match tl, ltl with
            | 0, _ => decide +kernel
            | 1, _ => decide +kernel
            | 2, _ => decide +kernel
            | 3, _ => decide +kernel
            | n + 4, h => exact absurd h (by omega)
          refine ⟨_, rfl, .inl ⟨rfl, _, SqL.of e9⟩, _, rfl, D2, _, _, rfl, rfl, e9, ?_, ss ++ [nx ++ Str.ofString (toString ((tl : Int) * 7))], _, _, _, _, _, rfl, src_put hs9 hDp hDc, but_new (b7.trans b9) hHD, by rw [List.map_append]; exact upd_same, by rw [List.length_append, hsl]; rfl, fun z hz => ?_, htd.snoc hL (at_app hnp)⟩
          · rw [List.length_map, hsl]
            exact Nat.lt_of_lt_of_le (show i < 100 by omega) (by decide)
          rcases List.mem_append.mp hz with y | y
          · exact hsk z y
          · rw [List.mem_singleton.mp y]
            exact nm_app hns hn1 hnl hts htl
        · refine ⟨_, rfl, .inl ⟨rfl, _, SqL.of e9⟩, _, rfl, D2, _, _, rfl, rfl, e9, ?_, ss ++ [nx], _, _, _, _, _, rfl, src_put hs9 hDp hDc, but_new (b7.trans b9) hHD, by rw [List.map_append]; exact upd_same, by rw [List.length_append, hsl]; rfl, fun z hz => ?_, htd.snoc hL hnp⟩
          · rw [List.length_map, hsl]
            exact Nat.lt_of_lt_of_le (show i < 100 by omega) (by decide)
          rcases List.mem_append.mp hz with y | y
          · exact hsk z y
          · rw [List.mem_singleton.mp y]
            exact nm_lo hns hn1 hnl
      refine ⟨_, rfl, rfl, _, rfl, ite2 (fun c2 => ?_) (fun c2 => ?_)⟩
      · have h1 := cutS_length cm none (some 1)
        have h2 := cutS_length cm (some 1) none
        have hc100 : cm.length ≤ sizeLine := Nat.le_trans (show cm.length ≤ 100 by omega) (by decide)
        unfold tNoPart
        refine ⟨_, rfl, _, rfl, cm, rfl, hc100, _, rfl, _, _, rfl, rfl, Nat.le_trans (show _ ≤ 100 by omega) (by decide), _, rfl, _, rfl, cm, rfl, hc100, _, _, rfl, rfl, Nat.le_trans (show _ ≤ 100 by rw [app_len']; omega) (by decide), ?_⟩
        obtain ⟨nx, hnx, hnp, hn1, hnl, hns⟩ : ∃ nx, nx = cutS cm none (some 1) ++ ow ++ cutS cm (some 1) none ∧ nx.cps.toList[pos]? = some ch ∧ 1 ≤ nx.length ∧ nx.length ≤ 4 ∧ LO nx := ⟨_, rfl, by rw [hpos, if_neg (by have := V.int.inj (of_decide_eq_true c2); omega), if_pos (by have := V.int.inj (of_decide_eq_true c2); omega)]; exact at_app (howm _), by rw [app_len', app_len', how]; omega, by rw [app_len', app_len', how, show (cutS cm none (some 1)).length = min 1 cm.length from cut1_len cm 1, show (cutS cm (some 1) none).length = cm.length - 1 from cut2_len cm 1]; omega, lo_app (lo_app (lo_cut hco _ _) hso) (lo_cut hco _ _)⟩
        rw [← hnx]
        refine ⟨_, rfl, c, p, 4, rfl, hs7, by decide, by decide, fun H9 tl ltl hs9 b9 => ?_⟩
        have e9 := b9 _ _ hDp e7
        refine ⟨_, rfl, _, _, rfl, rfl, _, rfl, ite2 (fun ct => ?_) (fun ct => ?_)⟩
        · have htl : (Str.ofString (toString ((tl : Int) * 7))).length ≤ 2 := by
            match tl, ltl with
            | 0, _ => decide +kernel
            | 1, _ => decide +kernel
            | 2, _ => decide +kernel
            | 3, _ => decide +kernel
            | n + 4, h => exact absurd h (by omega)
          have hts : DO (Str.ofString (toString ((tl : Int) * 7))) := by
            match tl, ltl with
            | 0, _ => exact do_dec (by decide +kernel)
            | 1, _ => exact do_dec (by decide +kernel)
            | 2, _ => exact do_dec (by decide +kernel)
            | 3, _ => exact do_dec (by decide +kernel)
            | n + 4, h => exact absurd h (by omega)
          refine ⟨_, rfl, _, rfl, _, _, rfl, rfl, .inr ⟨by decide, by decide⟩, (tl : Int) * 7, rfl, ?_, _, _, rfl, rfl, Nat.le_trans (show _ ≤ 100 by omega) (by decide), ?_⟩
          · match tl, ltl with
            | 0, _ => decide +kernel
            | 1, _ => decide +kernel
            | 2, _ => decide +kernel
            | 3, _ => decide +kernel
            | n + 4, h => exact absurd h (by omega)
          refine ⟨_, rfl, .inl ⟨rfl, _, SqL.of e9⟩, _, rfl, D2, _, _, rfl, rfl, e9, ?_, ss ++ [nx ++ Str.ofString (toString ((tl : Int) * 7))], _, _, _, _, _, rfl, src_put hs9 hDp hDc, but_new (b7.trans b9) hHD, by rw [List.map_append]; exact upd_same, by rw [List.length_append, hsl]; rfl, fun z hz => ?_, htd.snoc hL (at_app hnp)⟩
          · rw [List.length_map, hsl]
            exact Nat.lt_of_lt_of_le (show i < 100 by omega) (by decide)
          rcases List.mem_append.mp hz with y | y
          · exact hsk z y
          · rw [List.mem_singleton.mp y]
            exact nm_app hns hn1 hnl hts htl
        · refine ⟨_, rfl, .inl ⟨rfl, _, SqL.of e9⟩, _, rfl, D2, _, _, rfl, rfl, e9, ?_, ss ++ [nx], _, _, _, _, _, rfl, src_put hs9 hDp hDc, but_new (b7.trans b9) hHD, by rw [List.map_append]; exact upd_same, by rw [List.length_append, hsl]; rfl, fun z hz => ?_, htd.snoc hL hnp⟩
          · rw [List.length_map, hsl]
            exact Nat.lt_of_lt_of_le (show i < 100 by omega) (by decide)
          rcases List.mem_append.mp hz with y | y
          · exact hsk z y
          · rw [List.mem_singleton.mp y]
            exact nm_lo hns hn1 hnl
      · obtain ⟨nx, hnx, hnp, hn1, hnl, hns⟩ : ∃ nx, nx = cm ++ ow ∧ nx.cps.toList[pos]? = some ch ∧ 1 ≤ nx.length ∧ nx.length ≤ 4 ∧ LO nx := ⟨_, rfl, by rw [hpos, if_neg (fun z => c1 (decide_eq_true (congrArg V.int (by omega)))), if_neg (fun z => c2 (decide_eq_true (congrArg V.int (by omega))))]; exact howm _, by rw [app_len']; omega, by rw [app_len']; omega, lo_app hco hso⟩
        rw [← hnx]
        refine ⟨_, rfl, c, p, 4, rfl, hs7, by decide, by decide, fun H9 tl ltl hs9 b9 => ?_⟩
        have e9 := b9 _ _ hDp e7
        refine ⟨_, rfl, _, _, rfl, rfl, _, rfl, ite2 (fun ct => ?_) (fun ct => ?_)⟩
        · have htl : (Str.ofString (toString ((tl : Int) * 7))).length ≤ 2 := by
            match tl, ltl with
            | 0, _ => decide +kernel
            | 1, _ => decide +kernel
            | 2, _ => decide +kernel
            | 3, _ => decide +kernel
            | n + 4, h => exact absurd h (by omega)
          have hts : DO (Str.ofString (toString ((tl : Int) * 7))) := by
            match tl, ltl with
            | 0, _ => exact do_dec (by decide +kernel)
            | 1, _ => exact do_dec (by decide +kernel)
            | 2, _ => exact do_dec (by decide +kernel)
            | 3, _ => exact do_dec (by decide +kernel)
            | n + 4, h => exact absurd h (by omega)
          refine ⟨_, rfl, _, rfl, _, _, rfl, rfl, .inr ⟨by decide, by decide⟩, (tl : Int) * 7, rfl, ?_, _, _, rfl, rfl, Nat.le_trans (show _ ≤ 100 by omega) (by decide), ?_⟩
          · match tl, ltl with
            | 0, _ => decide +kernel
            | 1, _ => decide +kernel
            | 2, _ => decide +kernel
            | 3, _ => decide +kernel
            | n + 4, h => exact absurd h (by omega)
          refine ⟨_, rfl, .inl ⟨rfl, _, SqL.of e9⟩, _, rfl, D2, _, _, rfl, rfl, e9, ?_, ss ++ [nx ++ Str.ofString (toString ((tl : Int) * 7))], _, _, _, _, _, rfl, src_put hs9 hDp hDc, but_new (b7.trans b9) hHD, by rw [List.map_append]; exact upd_same, by rw [List.length_append, hsl]; rfl, fun z hz => ?_, htd.snoc hL (at_app hnp)⟩
          · rw [List.length_map, hsl]
            exact Nat.lt_of_lt_of_le (show i < 100 by omega) (by decide)
          rcases List.mem_append.mp hz with y | y
          · exact hsk z y
          · rw [List.mem_singleton.mp y]
            exact nm_app hns hn1 hnl hts htl
        · refine ⟨_, rfl, .inl ⟨rfl, _, SqL.of e9⟩, _, rfl, D2, _, _, rfl, rfl, e9, ?_, ss ++ [nx], _, _, _, _, _, rfl, src_put hs9 hDp hDc, but_new (b7.trans b9) hHD, by rw [List.map_append]; exact upd_same, by rw [List.length_append, hsl]; rfl, fun z hz => ?_, htd.snoc hL hnp⟩
          · rw [List.length_map, hsl]
            exact Nat.lt_of_lt_of_le (show i < 100 by omega) (by decide)
          rcases List.mem_append.mp hz with y | y
          · exact hsk z y
          · rw [List.mem_singleton.mp y]
            exact nm_lo hns hn1 hnl
    · obtain ⟨ss, o4, o7, o8, o9, o10, rfl, hs7, b7, e7, hsl, hsk, htd⟩ := y
      exact ⟨_, rfl, q _ D2 hs7 b7 hHD ⟨ss, e7, hsl, hsk, htd.nodup (by omega)⟩⟩
end
end R1

namespace R1
open PySem PySem.Spec PyProof.Rows L2 RK
local macro_rules | `(tactic| walk_at "sq") => `(tactic| first
  | exact SqL.of upd_same | exact upd_same | exact SqL.of (by assumption) | exact SqL.of (by rw [upd_ne (by assumption)]; assumption) | assumption)
local macro_rules | `(tactic| walk_at "sd") => `(tactic| first
  | assumption | omega | (refine Or.inl ⟨?_, ?_⟩ <;> omega) | (show _ ∧ _; constructor <;> omega) | (show _ ≠ _; simp; omega) | (exact Or.inl ⟨by decide, by decide⟩) | (exact Or.inr ⟨by decide, by decide⟩) | (show _ < _; decide) | (show _ ≤ _; decide))
local macro_rules | `(tactic| walk_at "at") => `(tactic| first | rfl | (refine atI_intV ?_ ?_ <;> omega) | assumption)
local macro_rules | `(tactic| walk_at "s1") => `(tactic| first
  | refine ⟨_, rfl, ?_⟩ | refine ⟨_, _, rfl, rfl, ?_⟩ | refine ⟨rfl, ?_⟩
  | refine ⟨_, _, _, _, rfl, rfl, by walk_at "sq", by walk_at "at", ?_⟩
  | refine Or.inl ⟨_, rfl, ?_⟩
  | refine ⟨_, _, rfl, Or.inl (by walk_at "sq"), ?_⟩
  | refine And.intro (by walk_at "sd") ?_)
local macro_rules | `(tactic| walk_at "s") => `(tactic| repeat walk_at "s1")

def spMixed : Sp := fun vs H Q _ => ∃ (c p e : Addr) (rs : List Str), vs = [.ref p, .ref e] ∧ Src c H p ∧ e ≠ p ∧ H e = some (.lst (rs.map V.str)) ∧ rs.length ≤ 20 ∧
  ∀ H' r (ms : List Str), Src c H' p → But p H H' → H r = none → H' r = some (.lst (ms.map V.str)) → ms.Perm rs → Q (.ref r) H'
theorem perm_move {ms ls rs : List Str} {k : Nat} {x : Str} (hx : ls[k]? = some x) (p : (ms ++ ls).Perm rs) : ((ms ++ [x]) ++ (ls.take k ++ ls.drop (k + 1))).Perm rs := by
  refine .trans ?_ p
  rw [List.append_assoc]
  refine List.Perm.append_left ms ?_
  obtain ⟨h, e⟩ := List.getElem?_eq_some_iff.mp hx
  have e2 : ls = ls.take k ++ x :: ls.drop (k + 1) := by
    rw [← e, List.getElem_cons_drop, List.take_append_drop]
  conv => rhs; rw [e2]
  exact (List.perm_middle (a := x) (l₁ := ls.take k) (l₂ := ls.drop (k + 1))).symm
section
variable {P : Program} {w : World} {K : PySem.W.Frag} {mg : Str → Option Value} {base : Heap} {A : Ads}
theorem ok_law_mixed (T : Txt K mg A) : FnOk P w K mg base CX0 2 A.a_law_mixed A.d_law_mixed ["_law_source_here", "_law_row"] spMixed := by
  refine T.F_law_mixed.ok sc_law_mixed (fun vs H Q E h => ?_) (fun cdv B outer s H vs Q E hr h => ?_)
  · obtain ⟨c, p, e, rs, rfl, _⟩ := h
    rfl
  · obtain ⟨c, p, e, rs, rfl, hs, hep, he, hl, q⟩ := h
    refine ⟨_, (pss_cons (ps_set (i := 2) sc_law_mixed.nd rfl (.inl rfl) (pe_callTy list_of (by rfl) T.n_list (by decide +kernel) (pa_cons (pv 1) pa_nil)))
    (pss_cons (ps_set (i := 3) sc_law_mixed.nd rfl (.inl rfl) (pe_lst pa_nil))
    (pss_cons (ps_for PassesOwn.never rfl (pi_range1 (by rfl) T.n_range (pa_cons (pe_callB len_seq (by rfl) T.n_len (by decide +kernel) (pa_cons (pv 1) pa_nil)) pa_nil)) (pg_name (i := 4) sc_law_mixed.nd rfl (.inl rfl))
      (pss_cons (ps_set (i := 5) sc_law_mixed.nd rfl (.inl rfl) (pe_call (ok_law_draw T) (hr.mono (by omega)) rfl T.g_law_draw T.F_law_draw.kp T.b_law_draw .nil pass0 (pa_cons (pv 0) (pa_cons (pe_callB len_seq (by rfl) T.n_len (by decide +kernel) (pa_cons (pv 2) pa_nil)) pa_nil))))
    (pss_cons (ps_expr (pe_bm PySem.F.plainAttrs_list PySem.F.slot_list_append PySem.F.type_list_append mt_append (pv 3) (pa_cons (pe_ix ix_list (pv 2) (pv 5) (fun _ _ => rfl)) pa_nil)))
    (pss_one (ps_set (i := 2) sc_law_mixed.nd rfl (.inl rfl) (pe_op op_cat (pe_slice sl_list (pv 2) po_none (po_some (pv 5))) (pe_slice sl_list (pv 2) (po_some (pe_op op_add (pv 5) pe_int)) po_none)))))))
    (pss_one (ps_ret (pv 3)))))), ?_⟩
    have hrl : (rs.map V.str).length = rs.length := List.length_map _
    refine ⟨_, rfl, e, _, rfl, .inl (SqL.of he), fun lf hlf => ?_⟩
    have hpn : H p ≠ none := fun z => src_ne hs z
    have hlp : lf ≠ p := fun z => hpn (z ▸ hlf)
    have s1 := same_new (o := .lst (rs.map V.str)) hlf
    have e1 : upd H lf (.lst (rs.map V.str)) lf = some (.lst (rs.map V.str)) := upd_same
    generalize upd H lf (.lst (rs.map V.str)) = H1 at s1 e1 ⊢
    refine ⟨lenOk (n := 0) rfl (by decide), fun M hM => ?_⟩
    have hMH : H M = none := s1.free hM
    have hMp : M ≠ p := fun z => hpn (z ▸ hMH)
    have hMc : M ≠ c := fun z => src_cne hs (z ▸ hMH)
    have hlM : lf ≠ M := fun z => by rw [← z, e1] at hM; cases hM
    have s2 := same_new (o := .lst []) hM
    have e2 : upd H1 M (.lst []) M = some (.lst []) := upd_same
    generalize upd H1 M (.lst []) = H2 at s2 e2 ⊢
    have s12 := s1.trans s2
    refine ⟨_, rfl, e, _, rfl, .inl (SqL.of (s12 _ _ he)), ((rs.map V.str).length : Nat), rfl, by omega, by omega, ?_⟩
    rw [Int.toNat_natCast, hrl]
    refine for_it (walk_range (lo := 0) (n := rs.length)) (fun i σ Hx => ∃ (lf : Addr) (o4 o5 : Option V) (ls ms : List Str), σ = [some (.ref p), some (.ref e), some (.ref lf), some (.ref M), o4, o5] ∧ Src c Hx p ∧ But p H Hx ∧ lf ≠ p ∧ lf ≠ M ∧ Hx lf = some (.lst (ls.map V.str)) ∧ Hx M = some (.lst (ms.map V.str)) ∧ (ms ++ ls).Perm rs ∧ ms.length = i) ⟨lf, none, none, rs, [], rfl, src_up hs s12, But.of s12, hlp, hlM, s2 _ _ e1, e2, List.Perm.refl _, rfl⟩ (fun _ _ _ _ _ => trivial) (fun i x σ Hx He hi y e => ?_) (fun σ Hx y => ?_)
    · obtain ⟨rfl, rfl⟩ := e
      obtain ⟨lf, o4, o5, ls, ms, rfl, hs3, b3, hlp, hlM, elf, eM, pm, hms⟩ := y
      have hll : (ls.map V.str).length = ls.length := List.length_map _
      have htot := pm.length_eq
      rw [List.length_append] at htot
      refine ⟨_, rfl, _, rfl, lf, _, rfl, .inl (SqL.of elf), c, p, _, rfl, hs3, by omega, by omega, fun H4 k lk hs4 b4 => ?_⟩
      have elf4 := b4 _ _ hlp elf
      have eM4 := b4 _ _ hMp eM
      have hk : k < ls.length := by omega
      have hx : ls[k]? = some ls[k] := List.getElem?_eq_getElem hk
      have pm2 := perm_move hx pm
      generalize ls[k] = x at hx pm2
      have hat : atI (ls.map V.str) (k : Int) = some (.str x) := atI_nat (by rw [List.getElem?_map, hx]; rfl)
      refine ⟨_, rfl, .inl ⟨rfl, _, SqL.of eM4⟩, _, rfl, _, rfl, lf, _, _, _, rfl, rfl, SqL.of elf4, hat, M, _, _, rfl, rfl, eM4, ?_, ?_⟩
      · rw [List.length_map]
        exact Nat.lt_of_le_of_lt (show _ ≤ 20 by omega) (by decide)
      have hs5 : Src c (upd H4 M (.lst (ms.map V.str ++ [V.str x]))) p := src_put hs4 hMp hMc
      have b5 : But p H (upd H4 M (.lst (ms.map V.str ++ [V.str x]))) := but_new (b3.trans b4) hMH
      have elf5 : upd H4 M (.lst (ms.map V.str ++ [V.str x])) lf = some (.lst (ls.map V.str)) := by rw [upd_ne hlM]; exact elf4
      have eM5 : upd H4 M (.lst (ms.map V.str ++ [V.str x])) M = some (.lst ((ms ++ [x]).map V.str)) := by rw [upd_same, List.map_append]; rfl
      generalize upd H4 M (.lst (ms.map V.str ++ [V.str x])) = H5 at hs5 b5 elf5 eM5 ⊢
      unfold tNoPart
      refine ⟨_, rfl, _, rfl, _, rfl, lf, _, rfl, SqL.of elf5, fun l1 hl1 => ?_⟩
      rw [cutV_hi, ← List.map_take]
      have s6 := same_new (o := .lst ((ls.take k).map V.str)) hl1
      have e6 : upd H5 l1 (.lst ((ls.take k).map V.str)) l1 = some (.lst ((ls.take k).map V.str)) := upd_same
      generalize upd H5 l1 (.lst ((ls.take k).map V.str)) = H6 at s6 e6 ⊢
      refine ⟨_, rfl, _, rfl, _, _, rfl, rfl, _, rfl, lf, _, rfl, SqL.of (s6 _ _ elf5), fun l2 hl2 => ?_⟩
      rw [show ((k : Int) + 1) = ((k + 1 : Nat) : Int) from rfl, cutV_lo, ← List.map_drop]
      have s7 := same_new (o := .lst ((ls.drop (k + 1)).map V.str)) hl2
      have e7 : upd H6 l2 (.lst ((ls.drop (k + 1)).map V.str)) l2 = some (.lst ((ls.drop (k + 1)).map V.str)) := upd_same
      generalize upd H6 l2 (.lst ((ls.drop (k + 1)).map V.str)) = H7 at s7 e7 ⊢
      refine ⟨l1, l2, _, _, rfl, rfl, s7 _ _ e6, e7, ?_, fun l3 hl3 => ?_⟩
      · rw [List.length_map, List.length_map, List.length_take, List.length_drop]
        exact Nat.le_trans (show _ ≤ 40 by omega) (by decide)
      have s8 := same_new (o := .lst ((ls.take k).map V.str ++ (ls.drop (k + 1)).map V.str)) hl3
      have s58 := s6.trans (s7.trans s8)
      have hs8 := src_up hs5 s58
      refine ⟨l3, _, _, ls.take k ++ ls.drop (k + 1), ms ++ [x], rfl, hs8, b5.trans (But.of s58), ?_, ?_, by rw [upd_same, List.map_append], s58 _ _ eM5, pm2, by rw [List.length_append, hms]; rfl⟩
      · intro z
        rw [z] at hl3
        exact src_ne (src_up hs5 (s6.trans s7)) hl3
      · intro z
        rw [z, (s6.trans s7) _ _ eM5] at hl3
        cases hl3
    · obtain ⟨lf, o4, o5, ls, ms, rfl, hs3, b3, hlp, hlM, elf, eM, pm, hms⟩ := y
      have htot := pm.length_eq
      rw [List.length_append] at htot
      obtain rfl : ls = [] := List.eq_nil_of_length_eq_zero (by omega)
      rw [List.append_nil] at pm
      exact ⟨_, rfl, q Hx M ms hs3 b3 hMH eM pm⟩
end
end R1

namespace R1
open PySem PySem.Spec PyProof.Rows L2 RK
local macro_rules | `(tactic| walk_at "sq") => `(tactic| first
  | exact SqL.of upd_same | exact upd_same | exact SqL.of (by assumption) | exact SqL.of (by rw [upd_ne (by assumption)]; assumption) | assumption)
local macro_rules | `(tactic| walk_at "sd") => `(tactic| first
  | assumption | omega | (refine Or.inl ⟨?_, ?_⟩ <;> omega) | (show _ ∧ _; constructor <;> omega) | (show _ ≠ _; simp; omega) | (exact Or.inl ⟨by decide, by decide⟩) | (exact Or.inr ⟨by decide, by decide⟩) | (show _ < _; decide) | (show _ ≤ _; decide))
local macro_rules | `(tactic| walk_at "at") => `(tactic| first | rfl | (refine atI_intV ?_ ?_ <;> omega) | assumption)
local macro_rules | `(tactic| walk_at "s1") => `(tactic| first
  | refine ⟨_, rfl, ?_⟩ | refine ⟨_, _, rfl, rfl, ?_⟩ | refine ⟨rfl, ?_⟩
  | refine ⟨_, _, _, _, rfl, rfl, by walk_at "sq", by walk_at "at", ?_⟩
  | refine Or.inl ⟨_, rfl, ?_⟩
  | refine ⟨_, _, rfl, Or.inl (by walk_at "sq"), ?_⟩
  | refine And.intro (by walk_at "sd") ?_)
local macro_rules | `(tactic| walk_at "s") => `(tactic| repeat walk_at "s1")

def LfOk (t : Tr) : Prop := LT t ∧ numOk t ∧ dep t = 0 ∧ (namT t).length ≤ 1
def TrOk (n : Nat) (t : Tr) : Prop := LT t ∧ numOk t ∧ dep t ≤ n ∧ (namT t).length ≤ n + 1
def spLeaf : Sp := fun vs H Q _ => ∃ (c p e : Addr) (ks : List Str), vs = [.ref p, .ref e] ∧ Src c H p ∧ e ≠ p ∧ H e = some (.lst (ks.map V.str)) ∧ ks.length ≤ 20 ∧ (∀ x ∈ ks, SO x) ∧
  ∀ H' v t, Src c H' p → But p H H' → TrK H' v t → LfOk t → Q v H'
section
variable {P : Program} {w : World} {K : PySem.W.Frag} {mg : Str → Option Value} {base : Heap} {A : Ads}
theorem ok_law_leaf (T : Txt K mg A) : FnOk P w K mg base CX0 2 A.a_law_leaf A.d_law_leaf ["_law_source_here", "_law_lets_here"] spLeaf := by
  refine T.F_law_leaf.ok sc_law_leaf (fun vs H Q E h => ?_) (fun cdv B outer s H vs Q E hr h => ?_)
  · obtain ⟨c, p, e, ks, rfl, _⟩ := h
    rfl
  · obtain ⟨c, p, e, ks, rfl, hs, hep, he, hl, hso, q⟩ := h
    refine ⟨_, (pss_cons (ps_set (i := 2) sc_law_leaf.nd rfl (.inl rfl) (pe_call (ok_law_draw T) (hr.mono (by omega)) rfl T.g_law_draw T.F_law_draw.kp T.b_law_draw .nil pass0 (pa_cons (pv 0) (pa_cons pe_int pa_nil))))
    (pss_cons (ps_if (PW.pt (pw_and (pt_cmpR op_lt (pv 2) pe_int (nomark _)) (pw_and1 (pt_cmpR op_gt (pe_callB len_seq (by rfl) T.n_len (by decide +kernel) (pa_cons (pv 1) pa_nil)) pe_int (nomark _))))) (pss_one (ps_ret (pe_tup (pa_cons pe_str (pa_cons (pe_ix ix_list (pv 1) (pe_call (ok_law_draw T) (hr.mono (by omega)) rfl T.g_law_draw T.F_law_draw.kp T.b_law_draw .nil pass0 (pa_cons (pv 0) (pa_cons (pe_callB len_seq (by rfl) T.n_len (by decide +kernel) (pa_cons (pv 1) pa_nil)) pa_nil))) (fun _ _ => rfl)) pa_nil))))) pss_nil)
    (pss_cons (ps_if (pt_cmpR op_eq (pv 2) pe_int (nomark _)) (pss_one (ps_ret (pe_tup (pa_cons pe_str pa_nil)))) pss_nil)
    (pss_cons (ps_if (pt_cmpR op_eq (pv 2) pe_int (nomark _)) (pss_one (ps_ret (pe_tup (pa_cons pe_str (pa_cons pe_str pa_nil))))) pss_nil)
    (pss_one (ps_ret (pe_tup (pa_cons pe_str (pa_cons (pe_call (ok_law_draw T) (hr.mono (by omega)) rfl T.g_law_draw T.F_law_draw.kp T.b_law_draw .nil pass0 (pa_cons (pv 0) (pa_cons pe_int pa_nil))) pa_nil))))))))), ?_⟩
    have hkl : (ks.map V.str).length = ks.length := List.length_map _
    have two : ∀ (H' : Hp) (x : Str), Src c H' p → But p H H' → SO x → ∀ q0, H' q0 = none → Q (.ref q0) (upd H' q0 (.tup [.str (Str.ofString "let"), .str x])) := fun H' x hs' b' hx q0 hq0 => q _ (.ref q0) (.two (Str.ofString "let") x) (src_up hs' (same_new hq0)) (b'.trans (But.of (same_new hq0))) ⟨q0, rfl, upd_same⟩ ⟨⟨rfl, hx⟩, True.intro, rfl, Nat.le_refl 1⟩
    refine ⟨_, rfl, c, p, 8, rfl, hs, by decide, by decide, fun H1 way lw hs1 b1 => ?_⟩
    have he1 := b1 _ _ hep he
    have rest : tSeq (tIfS (tTest (tOp rEq (tVar 2) (tC (V.int 5)))) (tRet (tTup (tCons (tC (V.str (Str.ofString "home"))) tNil))) tNext)
        (tSeq (tIfS (tTest (tOp rEq (tVar 2) (tC (V.int 6)))) (tRet (tTup (tCons (tC (V.str (Str.ofString "let"))) (tCons (tC (V.str (Str.ofString "nolet"))) tNil)))) tNext)
          (tRet (tTup (tCons (tC (V.str (Str.ofString "number"))) (tCons (tCall spDraw [] E0 (tCons (tVar 0) (tCons (tC (V.int 6)) tNil))) tNil)))))
        { nx := fun x H' => Q V.non H', rt := Q } [some (.ref p), some (.ref e), some (.int (way : Int))] H1 := by
      refine ⟨_, rfl, rfl, _, rfl, ?_⟩
      refine ifB (fun c1 => ?_) (fun c1 => ?_)
      · exact ⟨lenOk (n := 1) rfl (by decide), fun q0 hq0 => q _ (.ref q0) (.one (Str.ofString "home")) (src_up hs1 (same_new hq0)) (b1.trans (But.of (same_new hq0))) ⟨q0, rfl, upd_same⟩ ⟨rfl, True.intro, rfl, Nat.zero_le _⟩⟩
      refine ⟨_, rfl, rfl, _, rfl, ?_⟩
      refine ifB (fun c2 => ?_) (fun c2 => ?_)
      · exact ⟨lenOk (n := 2) rfl (by decide), fun q0 hq0 => two H1 _ hs1 b1 (so_dec (by decide +kernel)) q0 hq0⟩
      refine ⟨_, rfl, c, p, 6, rfl, hs1, by decide, by decide, fun H2 n ln hs2 b2 => ?_⟩
      exact ⟨lenOk (n := 2) rfl (by decide), fun q0 hq0 => q _ (.ref q0) (.num (n : Int)) (src_up hs2 (same_new hq0)) ((b1.trans b2).trans (But.of (same_new hq0))) ⟨q0, rfl, upd_same⟩ ⟨True.intro, ⟨by omega, by omega⟩, rfl, Nat.zero_le _⟩⟩
    refine ⟨_, rfl, _, _, rfl, rfl, _, rfl, ?_⟩
    refine ifB (fun c1 => ?_) (fun c1 => ?_)
    · refine ⟨_, rfl, e, _, rfl, .inl (SqL.of he1), _, _, rfl, rfl, _, rfl, ?_⟩
      rw [hkl]
      refine ifB (fun c2 => ?_) (fun c2 => ?_)
      · have c2 : (0 : Int) < (ks.length : Nat) := of_decide_eq_true c2
        refine ⟨_, rfl, _, rfl, _, rfl, e, _, rfl, .inl (SqL.of he1), c, p, _, rfl, hs1, by rw [hkl]; omega, by rw [hkl]; omega, fun H2 k lk hs2 b2 => ?_⟩
        rw [hkl] at lk
        have hk : k < ks.length := by omega
        have hx : ks[k]? = some ks[k] := List.getElem?_eq_getElem hk
        refine ⟨e, _, _, _, rfl, rfl, SqL.of (b2 _ _ hep he1), atI_nat (by rw [List.getElem?_map, hx]; rfl), lenOk (n := 2) rfl (by decide), fun q0 hq0 => ?_⟩
        exact two H2 _ hs2 (b1.trans b2) (hso _ (List.getElem_mem hk)) q0 hq0
      · exact rest
    · exact rest
end
end R1

namespace R1
open PySem PySem.Spec PyProof.Rows L2 RK
local macro_rules | `(tactic| walk_at "sq") => `(tactic| first
  | exact SqL.of upd_same | exact upd_same | exact SqL.of (by assumption) | exact SqL.of (by rw [upd_ne (by assumption)]; assumption) | assumption)
local macro_rules | `(tactic| walk_at "sd") => `(tactic| first
  | assumption | omega | (refine Or.inl ⟨?_, ?_⟩ <;> omega) | (show _ ∧ _; constructor <;> omega) | (show _ ≠ _; simp; omega) | (exact Or.inl ⟨by decide, by decide⟩) | (exact Or.inr ⟨by decide, by decide⟩) | (show _ < _; decide) | (show _ ≤ _; decide))
local macro_rules | `(tactic| walk_at "at") => `(tactic| first | rfl | (refine atI_intV ?_ ?_ <;> omega) | assumption)
local macro_rules | `(tactic| walk_at "s1") => `(tactic| first
  | refine ⟨_, rfl, ?_⟩ | refine ⟨_, _, rfl, rfl, ?_⟩ | refine ⟨rfl, ?_⟩
  | refine ⟨_, _, _, _, rfl, rfl, by walk_at "sq", by walk_at "at", ?_⟩
  | refine Or.inl ⟨_, rfl, ?_⟩
  | refine ⟨_, _, rfl, Or.inl (by walk_at "sq"), ?_⟩
  | refine And.intro (by walk_at "sd") ?_)
local macro_rules | `(tactic| walk_at "s") => `(tactic| repeat walk_at "s1")

theorem src_tn {H H' : Hp} {c p : Addr} (h : Src c H p) (b : But p H H') : Tn H H' := fun q xs e => by
  refine b q _ (fun z => ?_) e
  obtain ⟨cs, pl, dg, ct, mx, e2, _⟩ := h
  rw [z, e2] at e
  cases e
inductive LvA (H : Hp) : List V → List Tr → Prop
  | nil : LvA H [] []
  | cons {v : V} {t : Tr} {vs : List V} {ts : List Tr} : TrK H v t → LfOk t → LvA H vs ts → LvA H (v :: vs) (t :: ts)
theorem LvA.tn {H H' : Hp} (s : Tn H H') : ∀ {vs : List V} {ts : List Tr}, LvA H vs ts → LvA H' vs ts
  | _, _, .nil => .nil
  | _, _, .cons a b r => .cons (a.up s) b (r.tn s)
theorem LvA.app {H : Hp} : ∀ {vs us : List V} {ts ss : List Tr}, LvA H vs ts → LvA H us ss → LvA H (vs ++ us) (ts ++ ss)
  | _, _, _, _, .nil, h => h
  | _, _, _, _, .cons a b r, h => .cons a b (r.app h)
theorem LvA.len {H : Hp} : ∀ {vs : List V} {ts : List Tr}, LvA H vs ts → vs.length = ts.length
  | _, _, .nil => rfl
  | _, _, .cons _ _ r => congrArg (· + 1) r.len
theorem LvA.get {H : Hp} : ∀ {vs : List V} {ts : List Tr} {i : Nat} {v : V}, LvA H vs ts → vs[i]? = some v → ∃ t, ts[i]? = some t ∧ TrK H v t ∧ LfOk t
  | _, _, 0, _, .cons a b _, h => by cases h; exact ⟨_, rfl, a, b⟩
  | _, _, i + 1, _, .cons _ _ r, h => r.get (i := i) h
def TkOk (n : Nat) (t : Tr) : Prop := LT t ∧ numOk t ∧ dep t ≤ n ∧ (namT t).length ≤ n + 1
theorem LfOk.tk {t : Tr} (h : LfOk t) : TkOk 0 t := ⟨h.1, h.2.1, Nat.le_of_eq h.2.2.1, h.2.2.2⟩
theorem TkOk.bin {n : Nat} {op : Str} {a b : Tr} (ho : V.str op ∈ OPS5) (h : TkOk n a) (k : LfOk b) : TkOk (n + 1) (.bin op a b) ∧ TkOk (n + 1) (.bin op b a) := by
  obtain ⟨a1, a2, a3, a4⟩ := h
  obtain ⟨b1, b2, b3, b4⟩ := k
  refine ⟨⟨⟨ho, a1, b1⟩, ⟨a2, b2⟩, ?_, ?_⟩, ⟨⟨ho, b1, a1⟩, ⟨b2, a2⟩, ?_, ?_⟩⟩
  · show max (dep a) (dep b) + 1 ≤ _
    omega
  · show (namT a ++ namT b).length ≤ _
    rw [List.length_append]
    omega
  · show max (dep b) (dep a) + 1 ≤ _
    omega
  · show (namT b ++ namT a).length ≤ _
    rw [List.length_append]
    omega
def spTree : Sp := fun vs H Q _ => ∃ (c p e m : Addr) (ks us : List Str), vs = [.ref p, .ref e, .ref m] ∧ Src c H p ∧ e ≠ p ∧ H e = some (.lst (ks.map V.str)) ∧ ks.length ≤ 20 ∧ (∀ x ∈ ks, SO x) ∧ m ≠ p ∧ H m = some (.lst (us.map V.str)) ∧ us.length ≤ 2 ∧ (∀ x ∈ us, SO x) ∧
  ∀ H' v t, Src c H' p → But p H H' → TrK H' v t → TkOk 10 t → Q v H'
section
variable {P : Program} {w : World} {K : PySem.W.Frag} {mg : Str → Option Value} {base : Heap} {A : Ads}
theorem ok_law_tree (T : Txt K mg A) : FnOk P w K mg base CX0 4 A.a_law_tree A.d_law_tree ["_law_source_here", "_law_lets_here", "_law_must"] spTree := by
  refine T.F_law_tree.ok sc_law_tree (fun vs H Q E h => ?_) (fun cdv B outer s H vs Q E hr h => ?_)
  · obtain ⟨c, p, e, m, ks, us, rfl, _⟩ := h
    rfl
  · obtain ⟨c, p, e, m, ks, us, rfl, hs, hep, he, hl, hso, hmp, hm, hul, huo, q⟩ := h
    refine ⟨_, (pss_cons (ps_set (i := 4) sc_law_tree.nd rfl (.inl rfl) (pe_op op_cat (pe_lc (own := [("_law_name", 3)]) rfl sc_law_tree.nd (pi_list (pv 2)) (blkOk_by (own := [("_law_name", 3)]) (N := N_law_tree) (sc := defScope s_law_tree) (by decide +kernel)) (fun _ _ _ _ _ => pg_name (i := 3) sc_law_tree.nd rfl (Or.inl rfl)) (fun _ _ _ _ _ => pts_nil) (fun _ _ _ _ _ => by exact (pe_tup (pa_cons pe_str (pa_cons (pv 3) pa_nil))))) (pe_lst (pa_cons (pe_call (ok_law_leaf T) (hr.mono (by omega)) rfl T.g_law_leaf T.F_law_leaf.kp T.b_law_leaf .nil pass0 (pa_cons (pv 0) (pa_cons (pv 1) pa_nil))) pa_nil))))
    (pss_cons (ps_if (pt_cmpR op_eq (pe_call (ok_law_draw T) (hr.mono (by omega)) rfl T.g_law_draw T.F_law_draw.kp T.b_law_draw .nil pass0 (pa_cons (pv 0) (pa_cons pe_int pa_nil))) pe_int (nomark _)) (pss_one (ps_expr (pe_bm PySem.F.plainAttrs_list PySem.F.slot_list_append PySem.F.type_list_append mt_append (pv 4) (pa_cons (pe_call (ok_law_leaf T) (hr.mono (by omega)) rfl T.g_law_leaf T.F_law_leaf.kp T.b_law_leaf .nil pass0 (pa_cons (pv 0) (pa_cons (pv 1) pa_nil))) pa_nil)))) pss_nil)
    (pss_cons (ps_set (i := 5) sc_law_tree.nd rfl (.inl rfl) (pe_ix ix_list (pv 4) pe_int (fun _ _ => rfl)))
    (pss_cons (ps_for PassesOwn.never rfl (pi_list (pe_slice sl_list (pv 4) (po_some pe_int) po_none)) (pg_name (i := 6) sc_law_tree.nd rfl (.inl rfl))
      (pss_cons (ps_set (i := 7) sc_law_tree.nd rfl (.inl rfl) (pe_ix ix_tup (pe_tup (pa_cons pe_str (pa_cons pe_str (pa_cons pe_str (pa_cons pe_str (pa_cons pe_str pa_nil)))))) (pe_call (ok_law_draw T) (hr.mono (by omega)) rfl T.g_law_draw T.F_law_draw.kp T.b_law_draw .nil pass0 (pa_cons (pv 0) (pa_cons pe_int pa_nil))) (fun _ _ => rfl)))
    (pss_one (ps_if (pt_cmpR op_eq (pe_call (ok_law_draw T) (hr.mono (by omega)) rfl T.g_law_draw T.F_law_draw.kp T.b_law_draw .nil pass0 (pa_cons (pv 0) (pa_cons pe_int pa_nil))) pe_int (nomark _)) (pss_one (ps_set (i := 5) sc_law_tree.nd rfl (.inl rfl) (pe_tup (pa_cons (pv 7) (pa_cons (pv 5) (pa_cons (pv 6) pa_nil)))))) (pss_one (ps_set (i := 5) sc_law_tree.nd rfl (.inl rfl) (pe_tup (pa_cons (pv 7) (pa_cons (pv 6) (pa_cons (pv 5) pa_nil))))))))))
    (pss_cons (ps_if (pt_cmpR op_eq (pe_call (ok_law_draw T) (hr.mono (by omega)) rfl T.g_law_draw T.F_law_draw.kp T.b_law_draw .nil pass0 (pa_cons (pv 0) (pa_cons pe_int pa_nil))) pe_int (nomark _)) (pss_one (ps_set (i := 5) sc_law_tree.nd rfl (.inl rfl) (pe_tup (pa_cons pe_str (pa_cons (pv 5) pa_nil))))) pss_nil)
    (pss_one (ps_ret (pv 5)))))))), ?_⟩
    have hml : (us.map V.str).length = us.length := List.length_map _
    refine ⟨_, rfl, m, rfl, ⟨_, SqL.of hm⟩, fun D hD => ?_⟩
    have hDp : D ≠ p := fun z => src_ne hs (z ▸ hD)
    refine lc_inv (walk_list (K := K) (a := m) (xs := us.map V.str)) (fun j v => (us.map V.str)[j]? = some v) (fun j ac Hy => Same H Hy ∧ LvA Hy ac ((us.take j).map fun x => Tr.two (Str.ofString "let") x)) (by omega) ⟨same_new hD, .nil⟩ (fun j ac Hy h => SqL.of (h.1 _ _ hm)) (fun j Hy v Hy' hj y => y) (fun j v ac Hy hj hacl pv eDy hv Q2 q2 => ?_) (fun ac Hy hacl pv eDy => ?_)
    · obtain ⟨sy, lv⟩ := pv
      rw [hml] at hj
      have hx : us[j]? = some us[j] := List.getElem?_eq_getElem hj
      rw [List.getElem?_map, hx] at hv
      cases hv
      have htk : us.take (j + 1) = us.take j ++ [us[j]] := by rw [List.take_add_one, hx]; rfl
      have hxo := huo _ (List.getElem_mem hj)
      generalize us[j] = x at *
      refine ⟨_, rfl, lenOk (n := 2) rfl (by decide), fun q0 hq0 => ?_⟩
      have s4 := same_new (o := .tup [V.str (Str.ofString "let"), V.str x]) hq0
      have e4 : upd Hy q0 (.tup [V.str (Str.ofString "let"), V.str x]) q0 = some (.tup [V.str (Str.ofString "let"), V.str x]) := upd_same
      generalize upd Hy q0 (.tup [V.str (Str.ofString "let"), V.str x]) = H4 at s4 e4 ⊢
      have eD4 := s4 _ _ eDy
      have tn5 : Tn H4 (upd H4 D (.lst (ac ++ [V.ref q0]))) := Tn.put fun xs z => by rw [eD4] at z; cases z
      refine q2 _ H4 eD4 ⟨same_mut (sy.trans s4) hD, ?_⟩
      rw [htk, List.map_append]
      exact (lv.tn ((Tn.of s4).trans tn5)).app (.cons ⟨q0, rfl, tn5 _ _ e4⟩ ⟨⟨rfl, hxo⟩, True.intro, rfl, Nat.le_refl 1⟩ .nil)
    obtain ⟨sy, lv⟩ := pv
    rw [hml, List.take_length] at lv
    obtain ⟨ls0, hls0⟩ : ∃ ls0 : List Tr, ls0 = us.map fun x => Tr.two (Str.ofString "let") x := ⟨_, rfl⟩
    have hl0 : ls0.length ≤ 2 := by rw [hls0, List.length_map]; exact hul
    rw [← hls0] at lv
    have hal := lv.len
    have hsy := src_up hs sy
    refine ⟨_, rfl, _, rfl, c, p, e, ks, rfl, hsy, hep, sy _ _ he, hl, hso, fun H1 v1 t1 hs1 b1 k1 f1 => ?_⟩
    have b01 := (But.of sy).trans b1
    refine ⟨lenOk (n := 1) rfl (by decide), fun l1 hl1 => ?_⟩
    have s2 := same_new (o := .lst [v1]) hl1
    have e2 : upd H1 l1 (.lst [v1]) l1 = some (.lst [v1]) := upd_same
    generalize upd H1 l1 (.lst [v1]) = H2 at s2 e2 ⊢
    have tn12 := (src_tn hsy b1).trans (Tn.of s2)
    refine ⟨D, l1, _, _, rfl, rfl, s2 _ _ (b1 _ _ hDp eDy), e2, Nat.le_trans (show _ ≤ 10 by rw [hal]; show _ + 1 ≤ _; omega) (by decide), fun Lf hLf => ?_⟩
    have s3 := same_new (o := .lst (ac ++ [v1])) hLf
    have e3 : upd H2 Lf (.lst (ac ++ [v1])) Lf = some (.lst (ac ++ [v1])) := upd_same
    have lv3 : LvA (upd H2 Lf (.lst (ac ++ [v1]))) (ac ++ [v1]) (ls0 ++ [t1]) := (lv.tn (tn12.trans (Tn.of s3))).app (.cons (k1.ups (s2.trans s3)) f1 .nil)
    have hLp : Lf ≠ p := fun z => src_ne (src_up hs1 s2) (z ▸ hLf)
    have hLc : Lf ≠ c := fun z => src_cne (src_up hs1 s2) (z ▸ hLf)
    have hLH : H Lf = none := by
      cases hh : H Lf with
      | none => rfl
      | some o => rw [s2 _ _ (b01 _ _ hLp hh)] at hLf; cases hLf
    generalize upd H2 Lf (.lst (ac ++ [v1])) = H3 at s3 e3 lv3 ⊢
    have s13 := s2.trans s3
    have hs3 := src_up hs1 s13
    have b3 : But p H H3 := b01.trans (But.of s13)
    have tail : ∀ (H4 : Hp) (vs : List V) (ls : List Tr), Src c H4 p → But p H H4 → H4 Lf = some (.lst vs) → LvA H4 vs ls → 1 ≤ ls.length → ls.length ≤ 5 → tSeq (tAsg (tOp (rIxL K) (tVar 4) (tC (V.int 0))) (gName 5)) (tSeq (tFor (iList K (tSl (rSlL K) (tVar 4) (tPart (tC (V.int 1))) tNoPart)) (gName 6)
        (tSeq (tAsg (tOp (rIxT K) (tTup (tCons (tC (V.str (Str.ofString "+"))) (tCons (tC (V.str (Str.ofString "-"))) (tCons (tC (V.str (Str.ofString "*"))) (tCons (tC (V.str (Str.ofString "/"))) (tCons (tC (V.str (Str.ofString "<"))) tNil)))))) (tCall spDraw [] E0 (tCons (tVar 0) (tCons (tC (V.int 5)) tNil)))) (gName 7))
          (tIfS (tTest (tOp rEq (tCall spDraw [] E0 (tCons (tVar 0) (tCons (tC (V.int 2)) tNil))) (tC (V.int 1)))) (tAsg (tTup (tCons (tVar 7) (tCons (tVar 5) (tCons (tVar 6) tNil)))) (gName 5)) (tAsg (tTup (tCons (tVar 7) (tCons (tVar 6) (tCons (tVar 5) tNil)))) (gName 5)))))
        (tSeq (tIfS (tTest (tOp rEq (tCall spDraw [] E0 (tCons (tVar 0) (tCons (tC (V.int 4)) tNil))) (tC (V.int 1)))) (tAsg (tTup (tCons (tC (V.str (Str.ofString "minus"))) (tCons (tVar 5) tNil))) (gName 5)) tNext) (tRet (tVar 5))))
        { nx := fun x H' => Q V.non H', rt := Q } [some (.ref p), some (.ref e), some (.ref m), none, some (.ref Lf), none, none, none] H4 := by
      intro H4 vs ls hs4 b4 e4 lv4 h1 h5
      have hvl := lv4.len
      cases vs with
      | nil => rw [List.length_nil] at hvl; omega
      | cons v vs =>
        cases lv4 with
        | cons kt ft lr =>
          rename_i t ts
          have hvl := lr.len
          have h5 : ts.length + 1 ≤ 5 := h5
          refine ⟨_, rfl, Lf, _, 0, _, rfl, rfl, SqL.of e4, atI_nat (j := 0) rfl, ?_⟩
          refine ⟨_, rfl, 1, rfl, ?_⟩
          unfold tNoPart
          refine ⟨Lf, _, rfl, SqL.of e4, fun l2 hl2 => ?_⟩
          rw [show cutV (v :: vs) (some 1) none = vs from cutV_lo (xs := v :: vs) 1]
          have s5 := same_new (o := .lst vs) hl2
          have e5 : upd H4 l2 (.lst vs) l2 = some (.lst vs) := upd_same
          have hl2p : l2 ≠ p := fun z => src_ne hs4 (z ▸ hl2)
          generalize upd H4 l2 (.lst vs) = H5 at s5 e5 ⊢
          refine ⟨l2, rfl, ⟨_, SqL.of e5⟩, ?_⟩
          refine for_it (walk_list (K := K) (a := l2) (xs := vs)) (fun i σ Hx => ∃ (vt : V) (tt : Tr) (o6 o7 : Option V), σ = [some (.ref p), some (.ref e), some (.ref m), none, some (.ref Lf), some vt, o6, o7] ∧ Src c Hx p ∧ But p H Hx ∧ Hx l2 = some (.lst vs) ∧ LvA Hx vs ts ∧ TrK Hx vt tt ∧ TkOk i tt) ⟨v, t, none, none, rfl, src_up hs4 s5, b4.trans (But.of s5), e5, lr.tn (Tn.of s5), kt.ups s5, ft.tk⟩ (fun i σ Hx _ y => ?_) (fun i x σ Hx He hi y e => ?_) (fun σ Hx y => ?_)
          · obtain ⟨_, _, _, _, _, _, _, e, _⟩ := y
            exact SqL.of e
          · obtain ⟨rfl, ex⟩ := e
            obtain ⟨vt, tt, o6, o7, rfl, hs6, b6, e6, lv6, k6, f6⟩ := y
            obtain ⟨tx, _, kx, fx⟩ := lv6.get ex
            refine ⟨lenOk (n := 5) rfl (by decide), fun ot hot => ?_⟩
            have s7 := same_new (o := .tup OPS5) hot
            have e7 : upd He ot (.tup OPS5) ot = some (.tup OPS5) := upd_same
            unfold OPS5 at s7 e7
            generalize upd He ot _ = H7 at s7 e7 ⊢
            refine ⟨_, rfl, c, p, 5, rfl, src_up hs6 s7, by decide, by decide, fun H8 k lk hs8 b8 => ?_⟩
            have tn8 := (Tn.of s7).trans (src_tn (src_up hs6 s7) b8)
            have hop : ∃ op, OPS5[k]? = some (V.str op) ∧ V.str op ∈ OPS5 := by
              have hk : k < OPS5.length := by show k < 5; omega
              have hm := List.getElem_mem hk
              obtain ⟨op, ho⟩ : ∃ op, OPS5[k] = V.str op := by
                have : ∀ y ∈ OPS5, ∃ op, y = V.str op := fun y hy => by
                  unfold OPS5 at hy
                  simp only [List.mem_cons, List.not_mem_nil, or_false] at hy
                  rcases hy with z | z | z | z | z <;> exact ⟨_, z⟩
                exact this _ hm
              exact ⟨op, by rw [List.getElem?_eq_getElem hk, ho], ho ▸ hm⟩
            obtain ⟨op, hop1, hop2⟩ := hop
            refine ⟨ot, _, _, _, rfl, rfl, SqT.of ((src_tn (src_up hs6 s7) b8) _ _ e7), atI_nat hop1, ?_⟩
            obtain ⟨bin1, bin2⟩ := f6.bin hop2 fx
            refine ⟨_, rfl, c, p, 2, rfl, hs8, by decide, by decide, fun H9 k2 lk2 hs9 b9 => ?_⟩
            have tn9 := tn8.trans (src_tn hs8 b9)
            have b69 := (b6.trans (But.of s7)).trans (b8.trans b9)
            have e9 := b9 _ _ hl2p (b8 _ _ hl2p (s7 _ _ e6))
            refine ⟨rfl, _, rfl, ?_⟩
            refine ifB (fun c1 => ?_) (fun c1 => ?_)
            · refine ⟨_, rfl, _, rfl, _, rfl, lenOk (n := 3) rfl (by decide), fun q0 hq0 => ?_⟩
              have s10 := same_new (o := .tup [V.str op, vt, x]) hq0
              exact ⟨.ref q0, .bin op tt tx, _, _, rfl, src_up hs9 s10, b69.trans (But.of s10), s10 _ _ e9, lv6.tn (tn9.trans (Tn.of s10)), ⟨q0, _, _, rfl, upd_same, k6.up (tn9.trans (Tn.of s10)), kx.up (tn9.trans (Tn.of s10))⟩, bin1⟩
            · refine ⟨_, rfl, _, rfl, _, rfl, lenOk (n := 3) rfl (by decide), fun q0 hq0 => ?_⟩
              have s10 := same_new (o := .tup [V.str op, x, vt]) hq0
              exact ⟨.ref q0, .bin op tx tt, _, _, rfl, src_up hs9 s10, b69.trans (But.of s10), s10 _ _ e9, lv6.tn (tn9.trans (Tn.of s10)), ⟨q0, _, _, rfl, upd_same, kx.up (tn9.trans (Tn.of s10)), k6.up (tn9.trans (Tn.of s10))⟩, bin2⟩
          · obtain ⟨vt, tt, o6, o7, rfl, hs6, b6, e6, lv6, k6, f6⟩ := y
            obtain ⟨f1, f2, f3, f4⟩ := f6
            refine ⟨_, rfl, c, p, 4, rfl, hs6, by decide, by decide, fun H8 k lk hs8 b8 => ?_⟩
            have tn8 := src_tn hs6 b8
            refine ⟨rfl, _, rfl, ?_⟩
            refine ifB (fun c1 => ?_) (fun c1 => ?_)
            · refine ⟨_, rfl, lenOk (n := 2) rfl (by decide), fun q0 hq0 => ?_⟩
              have s10 := same_new (o := .tup [V.str (Str.ofString "minus"), vt]) hq0
              exact ⟨_, rfl, q _ (.ref q0) (.un (Str.ofString "minus") tt) (src_up hs8 s10) ((b6.trans b8).trans (But.of s10)) ⟨q0, _, rfl, upd_same, k6.up (tn8.trans (Tn.of s10))⟩ ⟨⟨rfl, f1⟩, f2, by show dep tt + 1 ≤ 10; omega, by show (namT tt).length ≤ 11; omega⟩⟩
            · exact ⟨_, rfl, q _ vt tt hs8 (b6.trans b8) (k6.up tn8) ⟨f1, f2, by omega, by omega⟩⟩
    refine ⟨_, rfl, c, p, 3, rfl, hs3, by decide, by decide, fun H4 k lk hs4 b4 => ?_⟩
    have e4 := b4 _ _ hLp e3
    have lv4 := lv3.tn (src_tn hs3 b4)
    have b34 := b3.trans b4
    refine ⟨rfl, _, rfl, ?_⟩
    refine ifB (fun c1 => ?_) (fun c1 => ?_)
    · refine ⟨_, rfl, .inl ⟨rfl, _, SqL.of e4⟩, _, rfl, _, rfl, c, p, e, ks, rfl, hs4, hep, b34 _ _ hep he, hl, hso, fun H5 v5 t5 hs5 b5 k5 f5 => ?_⟩
      have e5 := b5 _ _ hLp e4
      refine ⟨Lf, _, _, rfl, rfl, e5, Nat.lt_of_le_of_lt (show _ ≤ 10 by rw [List.length_append, hal]; show _ + 1 ≤ _; omega) (by decide), ?_⟩
      have tn6 : Tn H5 (upd H5 Lf (.lst (ac ++ [v1] ++ [v5]))) := Tn.put fun xs z => by rw [e5] at z; cases z
      refine tail _ (ac ++ [v1] ++ [v5]) (ls0 ++ [t1] ++ [t5]) (src_put hs5 hLp hLc) (but_new (b34.trans b5) hLH) upd_same ((lv4.tn ((src_tn hs4 b5).trans tn6)).app (.cons (k5.up tn6) f5 .nil)) (by rw [List.length_append]; show 1 ≤ _ + 1; omega) ?_
      rw [List.length_append, List.length_append]
      show _ + 1 + 1 ≤ 5
      omega
    · refine tail H4 (ac ++ [v1]) (ls0 ++ [t1]) hs4 b34 e4 lv4 (by rw [List.length_append]; show 1 ≤ _ + 1; omega) ?_
      rw [List.length_append]
      show _ + 1 ≤ 5
      omega
end
end R1

namespace R1
open PySem PySem.Spec PyProof.Rows L2 RK
local macro_rules | `(tactic| walk_at "sq") => `(tactic| first
  | exact SqL.of upd_same | exact upd_same | exact SqL.of (by assumption) | exact SqL.of (by rw [upd_ne (by assumption)]; assumption) | assumption)
local macro_rules | `(tactic| walk_at "sd") => `(tactic| first
  | assumption | omega | (refine Or.inl ⟨?_, ?_⟩ <;> omega) | (show _ ∧ _; constructor <;> omega) | (show _ ≠ _; simp; omega) | (exact Or.inl ⟨by decide, by decide⟩) | (exact Or.inr ⟨by decide, by decide⟩) | (show _ < _; decide) | (show _ ≤ _; decide))
local macro_rules | `(tactic| walk_at "at") => `(tactic| first | rfl | (refine atI_intV ?_ ?_ <;> omega) | assumption)
local macro_rules | `(tactic| walk_at "s1") => `(tactic| first
  | refine ⟨_, rfl, ?_⟩ | refine ⟨_, _, rfl, rfl, ?_⟩ | refine ⟨rfl, ?_⟩
  | refine ⟨_, _, _, _, rfl, rfl, by walk_at "sq", by walk_at "at", ?_⟩
  | refine Or.inl ⟨_, rfl, ?_⟩
  | refine ⟨_, _, rfl, Or.inl (by walk_at "sq"), ?_⟩
  | refine And.intro (by walk_at "sd") ?_)
local macro_rules | `(tactic| walk_at "s") => `(tactic| repeat walk_at "s1")

def TsH (H : Hp) (l : SV) (t : Str → Tr) : Prop := ∀ q ∈ l, TrK H q.2 (t q.1) ∧ TkOk 10 (t q.1)
theorem TsH.tn {H H' : Hp} {l : SV} {t : Str → Tr} (h : TsH H l t) (s : Tn H H') : TsH H' l t := fun q hq => ⟨(h q hq).1.up s, (h q hq).2⟩
def spLets : Sp := fun vs H Q _ => ∃ (c p e : Addr) (ks : List Str), vs = [.ref p, .ref e] ∧ Src c H p ∧ e ≠ p ∧ H e = some (.lst (ks.map V.str)) ∧ ks.length ≤ 20 ∧ (∀ x ∈ ks, SO x) ∧ ks.Nodup ∧
  ∀ H' D (l : SV) t, Src c H' p → But p H H' → H D = none → H' D = some (.dK (kvS l)) → (l.map (·.1)).Perm ks → TsH H' l t → Q (.ref D) H'
theorem fmod_at {a n : Nat} : ((a : Int)).fmod (n : Int) = ((a % n : Nat) : Int) := by
  rw [Int.fmod_eq_emod_of_nonneg _ (Int.natCast_nonneg n)]
  rfl
section
variable {P : Program} {w : World} {K : PySem.W.Frag} {mg : Str → Option Value} {base : Heap} {A : Ads}
theorem ok_law_lets (T : Txt K mg A) : FnOk P w K mg base CX0 6 A.a_law_lets A.d_law_lets ["_law_source_here", "_law_names_here"] spLets := by
  refine T.F_law_lets.ok sc_law_lets (fun vs H Q E h => ?_) (fun cdv B outer s H vs Q E hr h => ?_)
  · obtain ⟨c, p, e, ks, rfl, _⟩ := h
    rfl
  · obtain ⟨c, p, e, ks, rfl, hs, hep, he, hl, hso, hnd, q⟩ := h
    refine ⟨_, (pss_cons (ps_set (i := 2) sc_law_lets.nd rfl (.inl rfl) (pe_call (ok_law_draw T) (hr.mono (by omega)) rfl T.g_law_draw T.F_law_draw.kp T.b_law_draw .nil pass0 (pa_cons (pv 0) (pa_cons pe_int pa_nil))))
    (pss_cons (ps_set (i := 3) sc_law_lets.nd rfl (.inl rfl) pe_dnewK)
    (pss_cons (ps_for PassesOwn.never rfl (pi_range1 (by rfl) T.n_range (pa_cons (pe_callB len_seq (by rfl) T.n_len (by decide +kernel) (pa_cons (pv 1) pa_nil)) pa_nil)) (pg_name (i := 4) sc_law_lets.nd rfl (.inl rfl))
      (pss_cons (ps_if (PW.pt (pw_or (pt_cmpR op_eq (pv 2) pe_int (nomark _)) (pw_or1 (pt_cmpR op_eq (pv 2) pe_int (nomark _))))) (pss_one (ps_dput (hu_of hr) (pv 3) (pe_ix ix_list (pv 1) (pv 4) (fun _ _ => rfl)) (pe_call (ok_law_tree T) (hr.mono (by omega)) rfl T.g_law_tree T.F_law_tree.kp T.b_law_tree .nil pass0 (pa_cons (pv 0) (pa_cons (pe_slice sl_list (pv 1) po_none (po_some (pv 4))) (pa_cons (pe_lst pa_nil) pa_nil)))) rfl)) pss_nil)
    (pss_cons (ps_if (pt_cmpR op_eq (pv 2) pe_int (nomark _)) (pss_one (ps_dput (hu_of hr) (pv 3) (pe_ix ix_list (pv 1) (pv 4) (fun _ _ => rfl)) (pe_call (ok_law_tree T) (hr.mono (by omega)) rfl T.g_law_tree T.F_law_tree.kp T.b_law_tree .nil pass0 (pa_cons (pv 0) (pa_cons (pv 1) (pa_cons (pe_lst pa_nil) pa_nil)))) rfl)) pss_nil)
    (pss_cons (ps_if (pt_cmpR op_eq (pv 2) pe_int (nomark _)) (pss_cons (ps_set (i := 5) sc_law_lets.nd rfl (.inl rfl) (pe_lst (pa_cons (pe_ix ix_list (pv 1) (pe_op op_modN (pe_callTy call_int1 (by rfl) T.n_int (by decide +kernel) (pa_cons (pe_op op_add (pv 4) pe_int) pa_nil)) (pe_callB len_seq (by rfl) T.n_len (by decide +kernel) (pa_cons (pv 1) pa_nil))) (fun _ _ => rfl)) pa_nil)))
    (pss_cons (ps_if (pt_cmpR op_eq (pe_call (ok_law_draw T) (hr.mono (by omega)) rfl T.g_law_draw T.F_law_draw.kp T.b_law_draw .nil pass0 (pa_cons (pv 0) (pa_cons pe_int pa_nil))) pe_int (nomark _)) (pss_one (ps_expr (pe_bm PySem.F.plainAttrs_list PySem.F.slot_list_append PySem.F.type_list_append mt_append (pv 5) (pa_cons (pe_ix ix_list (pv 1) (pe_op op_modN (pe_callTy call_int1 (by rfl) T.n_int (by decide +kernel) (pa_cons (pe_op op_add (pe_op op_add (pv 4) pe_int) (pe_call (ok_law_draw T) (hr.mono (by omega)) rfl T.g_law_draw T.F_law_draw.kp T.b_law_draw .nil pass0 (pa_cons (pv 0) (pa_cons pe_int pa_nil)))) pa_nil)) (pe_callB len_seq (by rfl) T.n_len (by decide +kernel) (pa_cons (pv 1) pa_nil))) (fun _ _ => rfl)) pa_nil)))) pss_nil)
    (pss_one (ps_dput (hu_of hr) (pv 3) (pe_ix ix_list (pv 1) (pv 4) (fun _ _ => rfl)) (pe_call (ok_law_tree T) (hr.mono (by omega)) rfl T.g_law_tree T.F_law_tree.kp T.b_law_tree .nil pass0 (pa_cons (pv 0) (pa_cons (pe_lst pa_nil) (pa_cons (pv 5) pa_nil)))) rfl)))) pss_nil)
    (pss_one (ps_if (pt_cmpR op_eq (pv 2) pe_int (nomark _)) (pss_cons (ps_set (i := 6) sc_law_lets.nd rfl (.inl rfl) (pe_callTy call_int1 (by rfl) T.n_int (by decide +kernel) (pa_cons (pe_op op_add (pe_op op_mul (pe_op op_fdiv (pv 4) pe_int) pe_int) (pe_op op_mod (pe_callTy call_int1 (by rfl) T.n_int (by decide +kernel) (pa_cons (pe_op op_add (pe_op op_add (pv 4) pe_int) (pe_call (ok_law_draw T) (hr.mono (by omega)) rfl T.g_law_draw T.F_law_draw.kp T.b_law_draw .nil pass0 (pa_cons (pv 0) (pa_cons pe_int pa_nil)))) pa_nil)) pe_int)) pa_nil)))
    (pss_one (ps_dput (hu_of hr) (pv 3) (pe_ix ix_list (pv 1) (pv 4) (fun _ _ => rfl)) (pe_call (ok_law_tree T) (hr.mono (by omega)) rfl T.g_law_tree T.F_law_tree.kp T.b_law_tree .nil pass0 (pa_cons (pv 0) (pa_cons (pe_lst pa_nil) (pa_cons (pe_lst (pa_cons (pe_ix ix_list (pv 1) (pe_callB (call_min2 rfl) (by rfl) T.n_min (by decide +kernel) (pa_cons (pv 6) (pa_cons (pe_op op_sub (pe_callB len_seq (by rfl) T.n_len (by decide +kernel) (pa_cons (pv 1) pa_nil)) pe_int) pa_nil))) (fun _ _ => rfl)) pa_nil)) pa_nil)))) rfl))) pss_nil))))))
    (pss_cons (ps_set (i := 7) sc_law_lets.nd rfl (.inl rfl) pe_dnewK)
    (pss_cons (ps_for PassesOwn.never rfl (pi_list (pe_call (ok_law_mixed T) (hr.mono (by omega)) rfl T.g_law_mixed T.F_law_mixed.kp T.b_law_mixed .nil pass0 (pa_cons (pv 0) (pa_cons (pv 1) pa_nil)))) (pg_name (i := 8) sc_law_lets.nd rfl (.inl rfl))
      (pss_one (ps_dput (hu_of hr) (pv 7) (pv 8) (pe_dget (hu_of hr) (pv 3) (pv 8) (fun _ _ => rfl)) rfl)))
    (pss_one (ps_ret (pv 7)))))))), ?_⟩
    have hkl : (ks.map V.str).length = ks.length := List.length_map _
    refine ⟨_, rfl, c, p, 5, rfl, hs, by decide, by decide, fun H1 way lw hs1 b1 => ?_⟩
    refine fun D hD => ?_
    have hDp : D ≠ p := fun z => src_ne hs1 (z ▸ hD)
    have hDc : D ≠ c := fun z => src_cne hs1 (z ▸ hD)
    have hDH : H D = none := by
      cases hh : H D with
      | none => rfl
      | some o => rw [b1 _ _ hDp hh] at hD; cases hD
    have s2 := same_new (o := .dK []) hD
    have eD2 : upd H1 D (.dK []) D = some (.dK (kvS [])) := upd_same
    generalize upd H1 D (.dK []) = H2 at s2 eD2 ⊢
    have hs2 := src_up hs1 s2
    have b2 : But p H H2 := b1.trans (But.of s2)
    refine ⟨_, rfl, e, _, rfl, .inl (SqL.of (b2 _ _ hep he)), ((ks.map V.str).length : Nat), rfl, by omega, by omega, ?_⟩
    rw [Int.toNat_natCast, hkl]
    refine for_it (walk_range (lo := 0) (n := ks.length)) (fun i σ Hx => ∃ (o4 o5 o6 : Option V) (l : SV) (t : Str → Tr), σ = [some (.ref p), some (.ref e), some (.int (way : Int)), some (.ref D), o4, o5, o6, none, none] ∧ Src c Hx p ∧ But p H Hx ∧ Hx D = some (.dK (kvS l)) ∧ l.map (·.1) = ks.take i ∧ TsH Hx l t) ⟨none, none, none, [], fun _ => .num 0, rfl, hs2, b2, eD2, rfl, fun q hq => nomatch hq⟩ (fun _ _ _ _ _ => trivial) (fun i x σ Hx He hi y e0 => ?_) (fun σ Hx y => ?_)
    · obtain ⟨rfl, rfl⟩ := e0
      obtain ⟨o4, o5, o6, l, t, rfl, hs3, b3, eD, els, tsh⟩ := y
      have he3 := b3 _ _ hep he
      have hk : ks[i]? = some ks[i] := List.getElem?_eq_getElem hi
      have htk : ks.take (i + 1) = ks.take i ++ [ks[i]] := by rw [List.take_add_one, hk]; rfl
      have hat : atI (ks.map V.str) (0 + (i : Nat) : Int) = some (.str ks[i]) := by
        rw [Int.zero_add]
        exact atI_nat (by rw [List.getElem?_map, hk]; rfl)
      have hnew : ks[i] ∉ l.map (·.1) := by
        rw [els]
        exact take_new hnd hk
      have hll : l.length ≤ 20 := by
        have := congrArg List.length els
        rw [List.length_map, List.length_take] at this
        omega
      have e4 : ([some (.ref p), some (.ref e), some (.int (way : Int)), some (.ref D), o4, o5, o6, none, none] : L2.St).set 4 (some (.int (0 + (i : Nat) : Int))) = [some (.ref p), some (.ref e), some (.int (way : Int)), some (.ref D), some (.int (0 + (i : Nat) : Int)), o5, o6, none, none] := rfl
      have put : ∀ (H4 : Hp) (v : V) (t1 : Tr), Src c H4 p → But p H H4 → H4 D = some (.dK (kvS l)) → TsH H4 l t → TrK H4 v t1 → TkOk 10 t1 → ∃ H5, DPut H4 D (.str ks[i]) v H5 ∧ Src c H5 p ∧ But p H H5 ∧ H5 D = some (.dK (kvS (l ++ [(ks[i], v)]))) ∧ (l ++ [(ks[i], v)]).map (·.1) = ks.take (i + 1) ∧ TsH H5 (l ++ [(ks[i], v)]) (fun y => if y = ks[i] then t1 else t y) := by
        intro H4 v t1 hs4 b4 eD4 ts4 k1 f1
        have tn : Tn H4 (upd H4 D (.dK (putK (kvS l) (.inr ks[i]) v))) := Tn.put fun xs z => by rw [eD4] at z; cases z
        refine ⟨_, DPut.k (k := .inr ks[i]) eD4 (by rw [kvS_len]; exact Nat.lt_of_le_of_lt hll (by decide)), src_put hs4 hDp hDc, but_new b4 hDH, by rw [upd_same, kvS_put _ hnew], by rw [List.map_append, els, htk]; rfl, fun z hz => ?_⟩
        rcases List.mem_append.mp hz with hz | hz
        · have : z.1 ≠ ks[i] := fun y => hnew (y ▸ List.mem_map.mpr ⟨z, hz, rfl⟩)
          show TrK _ z.2 (if z.1 = ks[i] then t1 else t z.1) ∧ TkOk 10 (if z.1 = ks[i] then t1 else t z.1)
          rw [if_neg this]
          exact ⟨(ts4 z hz).1.up tn, (ts4 z hz).2⟩
        · rw [List.mem_singleton.mp hz]
          show TrK _ v (if ks[i] = ks[i] then t1 else t ks[i]) ∧ TkOk 10 (if ks[i] = ks[i] then t1 else t ks[i])
          rw [if_pos rfl]
          exact ⟨k1.up tn, f1⟩
      have hsom : ∀ x ∈ ([] : List Str), SO x := fun x hx => nomatch hx
      have w5 : way = 0 ∨ way = 4 ∨ way = 1 ∨ way = 2 ∨ way = 3 := by omega
      have w04 : ∀ b : Bool, (way = 0 ∨ way = 4) → True := fun _ _ => True.intro
      rcases w5 with rfl | rfl | rfl | rfl | rfl
      · refine ⟨_, rfl, rfl, _, rfl, ?_⟩
        refine ifT rfl ?_
        unfold tNoPart
        refine ⟨_, rfl, _, rfl, _, rfl, _, rfl, e, _, rfl, SqL.of he3, fun l1 hl1 => ?_⟩
        rw [Int.zero_add, cutV_hi, ← List.map_take]
        have s5 := same_new (o := .lst ((ks.take i).map V.str)) hl1
        have e5 : upd He l1 (.lst ((ks.take i).map V.str)) l1 = some (.lst ((ks.take i).map V.str)) := upd_same
        have hl1p : l1 ≠ p := fun z => src_ne hs3 (z ▸ hl1)
        generalize upd He l1 (.lst ((ks.take i).map V.str)) = H5 at s5 e5 ⊢
        refine ⟨lenOk (n := 0) rfl (by decide), fun l2 hl2 => ?_⟩
        have s6 := same_new (o := .lst []) hl2
        have e6 : upd H5 l2 (.lst []) l2 = some (.lst (([] : List Str).map V.str)) := upd_same
        have hl2p : l2 ≠ p := fun z => src_ne (src_up hs3 s5) (z ▸ hl2)
        generalize upd H5 l2 (.lst []) = H6 at s6 e6 ⊢
        have s56 := s5.trans s6
        refine ⟨c, p, l1, l2, ks.take i, [], rfl, src_up hs3 s56, hl1p, s6 _ _ e5, by rw [List.length_take]; omega, (fun x hx => hso x (List.mem_of_mem_take hx)), hl2p, e6, Nat.zero_le _, hsom, fun H7 v t1 hs7 b7 k1 f1 => ?_⟩
        have tn := (Tn.of s56).trans (src_tn (src_up hs3 s56) b7)
        have b7' := b3.trans ((But.of s56).trans b7)
        obtain ⟨H8, dp, r1, r2, r3, r4, r5⟩ := put H7 v t1 hs7 b7' (b7 _ _ hDp (s56 _ _ eD)) (tsh.tn tn) k1 f1
        refine ⟨_, rfl, _, rfl, _, rfl, e, _, _, _, rfl, rfl, SqL.of (b7' _ _ hep he), hat, D, H8, rfl, dp, ?_⟩
        refine ⟨_, rfl, rfl, _, rfl, ?_⟩
        refine ifF rfl ?_
        refine ⟨_, rfl, rfl, _, rfl, ?_⟩
        refine ifF rfl ?_
        refine ⟨_, rfl, rfl, _, rfl, ?_⟩
        refine ifF rfl ?_
        exact ⟨_, o5, o6, _, _, rfl, r1, r2, r3, r4, r5⟩
      · refine ⟨_, rfl, rfl, _, rfl, ?_⟩
        refine ifF rfl ?_
        refine ⟨_, rfl, rfl, _, rfl, ?_⟩
        refine ifT rfl ?_
        unfold tNoPart
        refine ⟨_, rfl, _, rfl, _, rfl, _, rfl, e, _, rfl, SqL.of he3, fun l1 hl1 => ?_⟩
        rw [Int.zero_add, cutV_hi, ← List.map_take]
        have s5 := same_new (o := .lst ((ks.take i).map V.str)) hl1
        have e5 : upd He l1 (.lst ((ks.take i).map V.str)) l1 = some (.lst ((ks.take i).map V.str)) := upd_same
        have hl1p : l1 ≠ p := fun z => src_ne hs3 (z ▸ hl1)
        generalize upd He l1 (.lst ((ks.take i).map V.str)) = H5 at s5 e5 ⊢
        refine ⟨lenOk (n := 0) rfl (by decide), fun l2 hl2 => ?_⟩
        have s6 := same_new (o := .lst []) hl2
        have e6 : upd H5 l2 (.lst []) l2 = some (.lst (([] : List Str).map V.str)) := upd_same
        have hl2p : l2 ≠ p := fun z => src_ne (src_up hs3 s5) (z ▸ hl2)
        generalize upd H5 l2 (.lst []) = H6 at s6 e6 ⊢
        have s56 := s5.trans s6
        refine ⟨c, p, l1, l2, ks.take i, [], rfl, src_up hs3 s56, hl1p, s6 _ _ e5, by rw [List.length_take]; omega, (fun x hx => hso x (List.mem_of_mem_take hx)), hl2p, e6, Nat.zero_le _, hsom, fun H7 v t1 hs7 b7 k1 f1 => ?_⟩
        have tn := (Tn.of s56).trans (src_tn (src_up hs3 s56) b7)
        have b7' := b3.trans ((But.of s56).trans b7)
        obtain ⟨H8, dp, r1, r2, r3, r4, r5⟩ := put H7 v t1 hs7 b7' (b7 _ _ hDp (s56 _ _ eD)) (tsh.tn tn) k1 f1
        refine ⟨_, rfl, _, rfl, _, rfl, e, _, _, _, rfl, rfl, SqL.of (b7' _ _ hep he), hat, D, H8, rfl, dp, ?_⟩
        refine ⟨_, rfl, rfl, _, rfl, ?_⟩
        refine ifF rfl ?_
        refine ⟨_, rfl, rfl, _, rfl, ?_⟩
        refine ifF rfl ?_
        refine ⟨_, rfl, rfl, _, rfl, ?_⟩
        refine ifF rfl ?_
        exact ⟨_, o5, o6, _, _, rfl, r1, r2, r3, r4, r5⟩
      · skip
        refine ⟨_, rfl, rfl, _, rfl, ?_⟩
        refine ifF rfl ?_
        refine ⟨_, rfl, rfl, _, rfl, ?_⟩
        refine ifF rfl ?_
        refine ⟨_, rfl, rfl, _, rfl, ?_⟩
        refine ifT rfl ?_
        refine ⟨_, rfl, _, rfl, lenOk (n := 0) rfl (by decide), fun l2 hl2 => ?_⟩
        have s6 := same_new (o := .lst []) hl2
        have e6 : upd He l2 (.lst []) l2 = some (.lst (([] : List Str).map V.str)) := upd_same
        have hl2p : l2 ≠ p := fun z => src_ne hs3 (z ▸ hl2)
        generalize upd He l2 (.lst []) = H6 at s6 e6 ⊢
        refine ⟨c, p, e, l2, ks, [], rfl, src_up hs3 s6, hep, s6 _ _ he3, hl, hso, hl2p, e6, Nat.zero_le _, hsom, fun H7 v t1 hs7 b7 k1 f1 => ?_⟩
        have tn := (Tn.of s6).trans (src_tn (src_up hs3 s6) b7)
        have b7' := b3.trans ((But.of s6).trans b7)
        obtain ⟨H8, dp, r1, r2, r3, r4, r5⟩ := put H7 v t1 hs7 b7' (b7 _ _ hDp (s6 _ _ eD)) (tsh.tn tn) k1 f1
        refine ⟨_, rfl, _, rfl, _, rfl, e, _, _, _, rfl, rfl, SqL.of (b7' _ _ hep he), hat, D, H8, rfl, dp, ?_⟩
        refine ⟨_, rfl, rfl, _, rfl, ?_⟩
        refine ifF rfl ?_
        refine ⟨_, rfl, rfl, _, rfl, ?_⟩
        refine ifF rfl ?_
        exact ⟨_, o5, o6, _, _, rfl, r1, r2, r3, r4, r5⟩
      · skip
        refine ⟨_, rfl, rfl, _, rfl, ?_⟩
        refine ifF rfl ?_
        refine ⟨_, rfl, rfl, _, rfl, ?_⟩
        refine ifF rfl ?_
        refine ⟨_, rfl, rfl, _, rfl, ?_⟩
        refine ifF rfl ?_
        refine ⟨_, rfl, rfl, _, rfl, ?_⟩
        refine ifT rfl ?_
        have hn0 : ks.length ≠ 0 := by omega
        have idx : ∀ a : Nat, ∃ y, ks[a % ks.length]? = some y ∧ y ∈ ks ∧ atI (ks.map V.str) (((a : Int)).fmod (ks.length : Nat)) = some (.str y) := fun a => by
          have ha : a % ks.length < ks.length := Nat.mod_lt _ (by omega)
          refine ⟨ks[a % ks.length], List.getElem?_eq_getElem ha, List.getElem_mem ha, ?_⟩
          rw [fmod_at]
          exact atI_nat (by rw [List.getElem?_map, List.getElem?_eq_getElem ha]; rfl)
        have at0 : ∀ a b : Nat, (b = ks.length) → ∀ z : Int, z = (a : Int) → ∃ y, y ∈ ks ∧ atI (ks.map V.str) (z.fmod (b : Nat)) = some (.str y) := fun a b hb z hz => by
          obtain ⟨y, _, h1, h2⟩ := idx a
          exact ⟨y, h1, by rw [hz, hb]; exact h2⟩
        obtain ⟨y1, hy1, at1⟩ := at0 (i + 1) _ hkl (0 + (i : Int) + 1) (by omega)
        refine ⟨_, rfl, _, rfl, _, _, rfl, rfl, .inl ⟨_, rfl, _, rfl, e, _, rfl, .inl (SqL.of he3), _, _, rfl, rfl, by rw [hkl]; omega, e, _, _, _, rfl, rfl, SqL.of he3, at1, lenOk (n := 1) rfl (by decide), fun ml hml0 => ?_⟩⟩
        have hmlp : ml ≠ p := fun z => src_ne hs3 (z ▸ hml0)
        have hmlc : ml ≠ c := fun z => src_cne hs3 (z ▸ hml0)
        have hmlD : ml ≠ D := fun z => by rw [z, eD] at hml0; cases hml0
        have hmlH : H ml = none := by
          cases hh : H ml with
          | none => rfl
          | some o => rw [b3 _ _ hmlp hh] at hml0; cases hml0
        have s4 := same_new (o := .lst [V.str y1]) hml0
        have em4 : upd He ml (.lst [V.str y1]) ml = some (.lst ([y1].map V.str)) := upd_same
        generalize upd He ml (.lst [V.str y1]) = H4 at s4 em4 ⊢
        have hs4 := src_up hs3 s4
        have b4 : But p H H4 := b3.trans (But.of s4)
        refine ⟨_, rfl, c, p, 4, rfl, hs4, by decide, by decide, fun HQ k0 lk0 hs5 b5q => ?_⟩
        have b5 := b4.trans b5q
        have em5 := b5q _ _ hmlp em4
        have eD5 := b5q _ _ hDp (s4 _ _ eD)
        have ts5 := tsh.tn ((Tn.of s4).trans (src_tn hs4 b5q))
        refine ⟨rfl, _, rfl, ?_⟩
        refine ifB (fun c1 => ?_) (fun c1 => ?_)
        · refine ⟨_, rfl, .inl ⟨rfl, _, SqL.of em5⟩, _, rfl, _, rfl, _, _, rfl, rfl, _, rfl, c, p, 3, rfl, hs5, by decide, by decide, fun H9 k1 lk1 hs9 b9 => ?_⟩
          obtain ⟨y2, hy2, at2⟩ := at0 (i + 2 + k1) _ hkl (0 + (i : Int) + 2 + (k1 : Int)) (by omega)
          refine ⟨_, _, rfl, rfl, .inl ⟨_, rfl, _, rfl, e, _, rfl, .inl (SqL.of (b9 _ _ hep (b5 _ _ hep he))), _, _, rfl, rfl, by rw [hkl]; omega, e, _, _, _, rfl, rfl, SqL.of (b9 _ _ hep (b5 _ _ hep he)), at2, ml, _, _, rfl, rfl, b9 _ _ hmlp em5, (show 1 < sizeLine by decide), ?_⟩⟩
          have em9 := b9 _ _ hmlp em5
          have tn9 : Tn H9 (upd H9 ml (.lst ([y1].map V.str ++ [V.str y2]))) := Tn.put fun xs z => by rw [em9] at z; cases z
          have hsA : Src c (upd H9 ml (.lst ([y1].map V.str ++ [V.str y2]))) p := src_put hs9 hmlp hmlc
          have bA : But p H (upd H9 ml (.lst ([y1].map V.str ++ [V.str y2]))) := but_new (b5.trans b9) hmlH
          have emA : upd H9 ml (.lst ([y1].map V.str ++ [V.str y2])) ml = some (.lst ([y1, y2].map V.str)) := upd_same
          have eDA : upd H9 ml (.lst ([y1].map V.str ++ [V.str y2])) D = some (.dK (kvS l)) := by rw [upd_ne (Ne.symm hmlD)]; exact b9 _ _ hDp eD5
          have tsA := ts5.tn ((src_tn hs5 b9).trans tn9)
          generalize upd H9 ml (.lst ([y1].map V.str ++ [V.str y2])) = HQ at hsA bA emA eDA tsA ⊢
          have hs5 := hsA
          have b5 := bA
          have em5 := emA
          have eD5 := eDA
          have ts5 := tsA
          have hus : ([y1, y2] : List Str).length ≤ 2 := Nat.le_refl 2
          have huk : ∀ x ∈ [y1, y2], x ∈ ks := fun x hx => by
            rcases List.mem_cons.mp hx with rfl | hx
            · exact hy1
            · rw [List.mem_singleton.mp hx]; exact hy2
          obtain ⟨us, hue⟩ : ∃ us, us = [y1, y2] := ⟨_, rfl⟩
          rw [← hue] at em5 hus huk
          refine ⟨_, rfl, lenOk (n := 0) rfl (by decide), fun l2 hl2 => ?_⟩
          have s6 := same_new (o := .lst []) hl2
          have e6 : upd HQ l2 (.lst []) l2 = some (.lst (([] : List Str).map V.str)) := upd_same
          have hl2p : l2 ≠ p := fun z => src_ne hs5 (z ▸ hl2)
          generalize upd HQ l2 (.lst []) = H6 at s6 e6 ⊢
          refine ⟨_, rfl, c, p, l2, ml, [], us, rfl, src_up hs5 s6, hl2p, e6, Nat.zero_le _, hsom, hmlp, s6 _ _ em5, hus, (fun x hx => hso x (huk x hx)), fun H7 v t1 hs7 b7 k1 f1 => ?_⟩
          have tn := (Tn.of s6).trans (src_tn (src_up hs5 s6) b7)
          have b7' := b5.trans ((But.of s6).trans b7)
          obtain ⟨H8, dp, r1, r2, r3, r4, r5⟩ := put H7 v t1 hs7 b7' (b7 _ _ hDp (s6 _ _ eD5)) (ts5.tn tn) k1 f1
          refine ⟨_, rfl, _, rfl, _, rfl, e, _, _, _, rfl, rfl, SqL.of (b7' _ _ hep he), hat, D, H8, rfl, dp, ?_⟩
          refine ⟨_, rfl, rfl, _, rfl, ?_⟩
          refine ifF rfl ?_
          exact ⟨_, _, o6, _, _, rfl, r1, r2, r3, r4, r5⟩
        · have hus : ([y1] : List Str).length ≤ 2 := show 1 ≤ 2 by decide
          have huk : ∀ x ∈ [y1], x ∈ ks := fun x hx => by rw [List.mem_singleton.mp hx]; exact hy1
          obtain ⟨us, hue⟩ : ∃ us, us = [y1] := ⟨_, rfl⟩
          rw [← hue] at em5 hus huk
          refine ⟨_, rfl, lenOk (n := 0) rfl (by decide), fun l2 hl2 => ?_⟩
          have s6 := same_new (o := .lst []) hl2
          have e6 : upd HQ l2 (.lst []) l2 = some (.lst (([] : List Str).map V.str)) := upd_same
          have hl2p : l2 ≠ p := fun z => src_ne hs5 (z ▸ hl2)
          generalize upd HQ l2 (.lst []) = H6 at s6 e6 ⊢
          refine ⟨_, rfl, c, p, l2, ml, [], us, rfl, src_up hs5 s6, hl2p, e6, Nat.zero_le _, hsom, hmlp, s6 _ _ em5, hus, (fun x hx => hso x (huk x hx)), fun H7 v t1 hs7 b7 k1 f1 => ?_⟩
          have tn := (Tn.of s6).trans (src_tn (src_up hs5 s6) b7)
          have b7' := b5.trans ((But.of s6).trans b7)
          obtain ⟨H8, dp, r1, r2, r3, r4, r5⟩ := put H7 v t1 hs7 b7' (b7 _ _ hDp (s6 _ _ eD5)) (ts5.tn tn) k1 f1
          refine ⟨_, rfl, _, rfl, _, rfl, e, _, _, _, rfl, rfl, SqL.of (b7' _ _ hep he), hat, D, H8, rfl, dp, ?_⟩
          refine ⟨_, rfl, rfl, _, rfl, ?_⟩
          refine ifF rfl ?_
          exact ⟨_, _, o6, _, _, rfl, r1, r2, r3, r4, r5⟩
      · skip
        refine ⟨_, rfl, rfl, _, rfl, ?_⟩
        refine ifF rfl ?_
        refine ⟨_, rfl, rfl, _, rfl, ?_⟩
        refine ifF rfl ?_
        refine ⟨_, rfl, rfl, _, rfl, ?_⟩
        refine ifF rfl ?_
        refine ⟨_, rfl, rfl, _, rfl, ?_⟩
        refine ifF rfl ?_
        refine ⟨_, rfl, rfl, _, rfl, ?_⟩
        refine ifT rfl ?_
        refine ⟨_, rfl, _, _, rfl, rfl, ⟨show (0 : Int) < 3 by decide, show (3 : Int) < 1073741824 by decide⟩, _, _, rfl, rfl, .inr ⟨by decide, by decide⟩, _, rfl, _, _, rfl, rfl, _, rfl, c, p, 2, rfl, hs3, by decide, by decide, fun H5 k1 lk1 hs5 b5 => ?_⟩
        refine ⟨_, _, rfl, rfl, .inl ⟨_, rfl, _, _, rfl, rfl, (show (0 : Int) < 3 by decide), _, _, rfl, rfl, .inl ⟨_, rfl, ?_⟩⟩⟩
        have hA : 0 ≤ (0 + (i : Int)) / 3 * 3 + (0 + (i : Int) + 1 + (k1 : Int)) % 3 := by omega
        generalize (0 + (i : Int)) / 3 * 3 + (0 + (i : Int) + 1 + (k1 : Int)) % 3 = A6 at hA
        have b35 := b3.trans b5
        have he5 := b35 _ _ hep he
        have idxI : ∀ z : Int, 0 ≤ z → z < ks.length → ∃ y, y ∈ ks ∧ atI (ks.map V.str) z = some (.str y) := fun z h0 h1 => by
          obtain ⟨j, rfl⟩ : ∃ j : Nat, z = (j : Int) := ⟨z.toNat, by omega⟩
          have hj : j < ks.length := by omega
          exact ⟨ks[j], List.getElem_mem hj, atI_nat (by rw [List.getElem?_map, List.getElem?_eq_getElem hj]; rfl)⟩
        obtain ⟨y1, hy1, at1⟩ := idxI (if (((ks.map V.str).length : Nat) : Int) - 1 < A6 then (((ks.map V.str).length : Nat) : Int) - 1 else A6) (by rw [hkl]; split <;> omega) (by rw [hkl]; split <;> omega)
        refine ⟨_, rfl, lenOk (n := 0) rfl (by decide), fun l2 hl2 => ?_⟩
        have s6 := same_new (o := .lst []) hl2
        have e6 : upd H5 l2 (.lst []) l2 = some (.lst (([] : List Str).map V.str)) := upd_same
        have hl2p : l2 ≠ p := fun z => src_ne hs5 (z ▸ hl2)
        generalize upd H5 l2 (.lst []) = H6 at s6 e6 ⊢
        refine ⟨_, rfl, _, rfl, _, rfl, e, _, rfl, .inl (SqL.of (s6 _ _ he5)), _, _, rfl, rfl, _, _, rfl, e, _, _, _, rfl, rfl, SqL.of (s6 _ _ he5), at1, lenOk (n := 1) rfl (by decide), fun ml hml0 => ?_⟩
        have hs6 := src_up hs5 s6
        have hmlp : ml ≠ p := fun z => src_ne hs6 (z ▸ hml0)
        have s7 := same_new (o := .lst [V.str y1]) hml0
        have e7 : upd H6 ml (.lst [V.str y1]) ml = some (.lst ([y1].map V.str)) := upd_same
        generalize upd H6 ml (.lst [V.str y1]) = H7 at s7 e7 ⊢
        have s67 := s6.trans s7
        refine ⟨c, p, l2, ml, [], [y1], rfl, src_up hs5 s67, hl2p, s7 _ _ e6, Nat.zero_le _, hsom, hmlp, e7, (show 1 ≤ 2 by decide), (fun x hx => by rw [List.mem_singleton.mp hx]; exact hso _ hy1), fun H8 v t1 hs8 b8 k1 f1 => ?_⟩
        have tn := ((src_tn hs3 b5).trans (Tn.of s67)).trans (src_tn (src_up hs5 s67) b8)
        have b8' := b35.trans ((But.of s67).trans b8)
        obtain ⟨H9, dp, r1, r2, r3, r4, r5⟩ := put H8 v t1 hs8 b8' (b8 _ _ hDp (s67 _ _ (b5 _ _ hDp eD))) (tsh.tn tn) k1 f1
        refine ⟨_, rfl, _, rfl, _, rfl, e, _, _, _, rfl, rfl, SqL.of (b8' _ _ hep he), hat, D, H9, rfl, dp, ?_⟩
        exact ⟨_, o5, _, _, _, rfl, r1, r2, r3, r4, r5⟩
    · obtain ⟨o4, o5, o6, l, t, rfl, hs3, b3, eD, els, tsh⟩ := y
      rw [List.take_length] at els
      refine fun D2 hD2 => ?_
      have hD2p : D2 ≠ p := fun z => src_ne hs3 (z ▸ hD2)
      have hD2c : D2 ≠ c := fun z => src_cne hs3 (z ▸ hD2)
      have hD2D : D2 ≠ D := fun z => by rw [z, eD] at hD2; cases hD2
      have hD2H : H D2 = none := by
        cases hh : H D2 with
        | none => rfl
        | some o => rw [b3 _ _ hD2p hh] at hD2; cases hD2
      have s4 := same_new (o := .dK []) hD2
      have eE4 : upd Hx D2 (.dK []) D2 = some (.dK (kvS [])) := upd_same
      generalize upd Hx D2 (.dK []) = H4 at s4 eE4 ⊢
      have hs4 := src_up hs3 s4
      have b4 : But p H H4 := b3.trans (But.of s4)
      refine ⟨_, rfl, _, rfl, c, p, e, ks, rfl, hs4, hep, b4 _ _ hep he, hl, fun H5 r ms hs5 b5 n5 e5 pm => ?_⟩
      have hrp : r ≠ p := fun z => src_ne hs4 (z ▸ n5)
      have eD5 := b5 _ _ hDp (s4 _ _ eD)
      have eE5 := b5 _ _ hD2p eE4
      have ts5 := tsh.tn ((Tn.of s4).trans (src_tn hs4 b5))
      have b45 := b4.trans b5
      have hml : (ms.map V.str).length = ms.length := List.length_map _
      have mnd : ms.Nodup := pm.nodup_iff.mpr hnd
      refine ⟨r, rfl, ⟨_, SqL.of e5⟩, ?_⟩
      refine for_it (walk_list (K := K) (a := r) (xs := ms.map V.str)) (fun i σ Hz => ∃ (o8 : Option V) (l2 : SV), σ = [some (.ref p), some (.ref e), some (.int (way : Int)), some (.ref D), o4, o5, o6, some (.ref D2), o8] ∧ Src c Hz p ∧ But p H Hz ∧ Hz D = some (.dK (kvS l)) ∧ Hz D2 = some (.dK (kvS l2)) ∧ Hz r = some (.lst (ms.map V.str)) ∧ l2.map (·.1) = ms.take i ∧ TsH Hz l t ∧ TsH Hz l2 t) ⟨none, [], rfl, hs5, b45, eD5, eE5, e5, rfl, ts5, fun q hq => nomatch hq⟩ (fun i σ Hz _ y => ?_) (fun i x σ Hz He hi y e0 => ?_) (fun σ Hz y => ?_)
      · obtain ⟨_, _, _, _, _, _, _, e, _⟩ := y
        exact SqL.of e
      · obtain ⟨rfl, ex⟩ := e0
        obtain ⟨o8, l2, rfl, hs6, b6, eD6, eE6, e6, el2, ts6, ts62⟩ := y
        rw [hml] at hi
        have hx : ms[i]? = some ms[i] := List.getElem?_eq_getElem hi
        rw [List.getElem?_map, hx] at ex
        cases ex
        have htk : ms.take (i + 1) = ms.take i ++ [ms[i]] := by rw [List.take_add_one, hx]; rfl
        have hnew : ms[i] ∉ l2.map (·.1) := by
          rw [el2]
          exact take_new mnd hx
        have hxl : ms[i] ∈ l.map (·.1) := by rw [els]; exact pm.mem_iff.mp (List.getElem_mem hi)
        have hl2 : l2.length ≤ 20 := by
          have := congrArg List.length el2
          rw [List.length_map, List.length_take] at this
          have := pm.length_eq
          omega
        generalize ms[i] = x at *
        obtain ⟨⟨x', v⟩, hpm, hpx⟩ := List.mem_map.mp hxl
        have hpx : x' = x := hpx
        subst hpx
        have hg : getS l x' = some v := getS_of (by rw [els]; exact hnd) hpm
        have tn : Tn He (upd He D2 (.dK (putK (kvS l2) (.inr x') v))) := Tn.put fun xs z => by rw [eE6] at z; cases z
        refine ⟨_, rfl, _, rfl, D, v, rfl, ?_, _, rfl, _, rfl, D2, _, rfl, DPut.k (k := .inr x') eE6 (by rw [kvS_len]; exact Nat.lt_of_le_of_lt hl2 (by decide)), ?_⟩
        · rw [← hg, ← kvS_val]
          exact DGet.k (k := .inr x') eD6
        refine ⟨_, l2 ++ [(x', v)], rfl, src_put hs6 hD2p hD2c, but_new b6 hD2H, by rw [upd_ne (Ne.symm hD2D)]; exact eD6, by rw [upd_same, kvS_put _ hnew], ?_, by rw [List.map_append, el2, htk]; rfl, ts6.tn tn, fun z hz => ?_⟩
        · rw [upd_ne fun z : r = D2 => by rw [z, eE6] at e6; cases e6]
          exact e6
        · rcases List.mem_append.mp hz with hz | hz
          · exact (ts62.tn tn) z hz
          · rw [List.mem_singleton.mp hz]
            exact (ts6.tn tn) _ hpm
      · obtain ⟨o8, l2, rfl, hs6, b6, eD6, eE6, e6, el2, ts6, ts62⟩ := y
        rw [hml, List.take_length] at el2
        exact ⟨_, rfl, q Hz D2 l2 t hs6 b6 hD2H eE6 (by rw [el2]; exact pm) ts62⟩
end
end R1

namespace R1
open PySem PySem.Spec PyProof.Rows L2 RK
local macro_rules | `(tactic| walk_at "sq") => `(tactic| first
  | exact SqL.of upd_same | exact upd_same | exact SqL.of (by assumption) | exact SqL.of (by rw [upd_ne (by assumption)]; assumption) | assumption)
local macro_rules | `(tactic| walk_at "sd") => `(tactic| first
  | assumption | omega | (refine Or.inl ⟨?_, ?_⟩ <;> omega) | (show _ ∧ _; constructor <;> omega) | (show _ ≠ _; simp; omega) | (exact Or.inl ⟨by decide, by decide⟩) | (exact Or.inr ⟨by decide, by decide⟩) | (show _ < _; decide) | (show _ ≤ _; decide))
local macro_rules | `(tactic| walk_at "at") => `(tactic| first | rfl | (refine atI_intV ?_ ?_ <;> omega) | assumption)
local macro_rules | `(tactic| walk_at "s1") => `(tactic| first
  | refine ⟨_, rfl, ?_⟩ | refine ⟨_, _, rfl, rfl, ?_⟩ | refine ⟨rfl, ?_⟩
  | refine ⟨_, _, _, _, rfl, rfl, by walk_at "sq", by walk_at "at", ?_⟩
  | refine Or.inl ⟨_, rfl, ?_⟩
  | refine ⟨_, _, rfl, Or.inl (by walk_at "sq"), ?_⟩
  | refine And.intro (by walk_at "sd") ?_)
local macro_rules | `(tactic| walk_at "s") => `(tactic| repeat walk_at "s1")

def trD : Tr → PyData
  | .num n => .tuple [.str (Str.ofString "number"), .int n]
  | .one w => .tuple [.str w]
  | .two w x => .tuple [.str w, .str x]
  | .un op t => .tuple [.str op, trD t]
  | .bin op a b => .tuple [.str op, trD a, trD b]
theorem dx_tr {K : PySem.W.Frag} {H : Hp} : ∀ {t : Tr} {v : V}, TrK H v t → Dx K H noS v (trD t)
  | .num _, _, ⟨p, a, b⟩ => by subst a; exact .tup (XT.of b fun z => z.elim) (.cons (.str _) (.cons (.int _) .nil))
  | .one _, _, ⟨p, a, b⟩ => by subst a; exact .tup (XT.of b fun z => z.elim) (.cons (.str _) .nil)
  | .two _ _, _, ⟨p, a, b⟩ => by subst a; exact .tup (XT.of b fun z => z.elim) (.cons (.str _) (.cons (.str _) .nil))
  | .un _ _, _, ⟨p, u, a, b, c⟩ => by subst a; exact .tup (XT.of b fun z => z.elim) (.cons (.str _) (.cons (dx_tr c) .nil))
  | .bin _ _ _, _, ⟨p, u1, u2, a, b, c, d⟩ => by subst a; exact .tup (XT.of b fun z => z.elim) (.cons (.str _) (.cons (dx_tr c) (.cons (dx_tr d) .nil)))
theorem tr_lay : ∀ {t : Tr}, Wf t → (trD t).canLay0 = true
  | .num n, _ => by
    show ((PyData.str (Str.ofString "number")).canLay0 && ((PyData.int n).canLay0 && true)) = true
    rw [so_lay (so_dec (by decide +kernel))]
    rfl
  | .one w, h => by
    show ((PyData.str w).canLay0 && true) = true
    rw [so_lay (so_w1 h)]
    rfl
  | .two w x, h => by
    show ((PyData.str w).canLay0 && ((PyData.str x).canLay0 && true)) = true
    rw [so_lay (so_w2 h.1), so_lay h.2]
    rfl
  | .un op t, h => by
    show ((PyData.str op).canLay0 && ((trD t).canLay0 && true)) = true
    rw [so_lay (so_un h.1), tr_lay h.2]
    rfl
  | .bin op a b, h => by
    show ((PyData.str op).canLay0 && ((trD a).canLay0 && ((trD b).canLay0 && true))) = true
    rw [so_lay (so_bin h.1), tr_lay h.2.1, tr_lay h.2.2]
    rfl
theorem tr_dep : ∀ (t : Tr), (trD t).depth ≤ dep t + 2
  | .num n => by show max _ (max _ 0) + 1 ≤ _; simp [PyData.depth, PyData.depthAll, dep, trD]
  | .one w => by simp [PyData.depth, PyData.depthAll, dep, trD]
  | .two w x => by simp [PyData.depth, PyData.depthAll, dep, trD]
  | .un op t => by
    have := tr_dep t
    simp only [PyData.depth, PyData.depthAll, dep, trD]
    omega
  | .bin op a b => by
    have h1 := tr_dep a
    have h2 := tr_dep b
    simp only [PyData.depth, PyData.depthAll, dep, trD]
    omega
theorem tr_wd : ∀ (t : Tr), wdB (trD t) = true
  | .num n => rfl
  | .one w => rfl
  | .two w x => rfl
  | .un op t => by
    show (true && (true && (wdB (trD t) && true))) = true
    rw [tr_wd t]
    rfl
  | .bin op a b => by
    show (true && (true && (wdB (trD a) && (wdB (trD b) && true)))) = true
    rw [tr_wd a, tr_wd b]
    rfl
theorem dx_trS {K : PySem.W.Frag} {H : Hp} {S : ASet} (h : ∀ q xs, H q = some (.tup xs) → ¬ S q) : ∀ {t : Tr} {v : V}, TrK H v t → Dx K H S v (trD t)
  | .num _, _, ⟨p, a, b⟩ => by subst a; exact .tup (XT.of b (h _ _ b)) (.cons (.str _) (.cons (.int _) .nil))
  | .one _, _, ⟨p, a, b⟩ => by subst a; exact .tup (XT.of b (h _ _ b)) (.cons (.str _) .nil)
  | .two _ _, _, ⟨p, a, b⟩ => by subst a; exact .tup (XT.of b (h _ _ b)) (.cons (.str _) (.cons (.str _) .nil))
  | .un _ _, _, ⟨p, u, a, b, c⟩ => by subst a; exact .tup (XT.of b (h _ _ b)) (.cons (.str _) (.cons (dx_trS h c) .nil))
  | .bin _ _ _, _, ⟨p, u1, u2, a, b, c, d⟩ => by subst a; exact .tup (XT.of b (h _ _ b)) (.cons (.str _) (.cons (dx_trS h c) (.cons (dx_trS h d) .nil)))
theorem lc_dataY {K : PySem.W.Frag} {S : ASet} {J : It} {n : Nat} {G : Hp → Prop} {Y : Nat → Hp → V → Hp → Prop} (w : Walk J n G Y) {te : TE} {σ : L2.St} {H1 : Hp} {D : Addr} {Qd : Hp → Prop} {k : Nat} (f : Nat → PyData) (hS : ∀ a, S a → H1 a ≠ none) (hD : H1 D = none) (hG : ∀ H, Same H1 H → G H) (hn : n ≤ 1000000)
    (hY : ∀ i H x H', i < n → Y i H x H' → H' = H)
    (hs : ∀ i x H, i < n → Same H1 H → (∃ acc, H D = some (.lst acc)) → Y i H x H → ∀ Q : VK, (∀ v H3, Same H H3 → Dx K H3 (inS S D) v (f i) → Q v H3) → te ((σ.set k none).set k (some x)) H Q)
    (hd : ∀ H, Same H1 H → Dx K H S (.ref D) (.list ((List.range n).map f)) → Qd H) :
    ∃ W : Nat → Nat → Hp → Prop, (∃ m, W 0 m (upd H1 D (.lst []))) ∧ ∀ i m H, W i m H →
      (J.stop i H ∧ Qd H) ∨ (J.go i H ∧ ∃ Nx : Hp → Prop, (∀ H', Nx H' → ∃ m', m' < m ∧ W (i + 1) m' H') ∧ ∀ x H', J.yld i H x H' → gName k x (wipe σ [k]) H' fun σ2 H2 => wipe σ2 [k] = wipe σ [k] ∧ tYes σ2 H2 fun b H3 =>
        if b = true then te σ2 H3 fun y H4 => ∃ acc, H4 D = some (.lst acc) ∧ acc.length < sizeLine ∧ Nx (upd H4 D (.lst (acc ++ [y]))) else Nx H3) := by
  have hnS : ¬ S D := fun z => hS D z hD
  refine lc_it w (fun i H => Same H1 H ∧ ∃ acc, H D = some (.lst acc) ∧ DxAll K H (inS S D) acc ((List.range i).map f)) ⟨same_new hD, [], upd_same, .nil⟩ (fun i H _ h => hG H h.1) (fun i x H H' hi hp y => ?_) fun H h => ?_
  · obtain ⟨sm, acc, e, da⟩ := hp
    obtain rfl := hY i H x H' hi y
    refine ⟨?_, ?_⟩
    · show ((σ.set k none).set k (some x)).set k none = σ.set k none
      rw [List.set_set, List.set_set]
    show te ((σ.set k none).set k (some x)) H' _
    refine hs i x H' hi sm ⟨_, e⟩ y _ fun v H3 s3 dv => ?_
    have hl : acc.length = i := by rw [dxAll_len da, List.length_map, List.length_range]
    refine ⟨acc, s3 _ _ e, ?_, same_mut (sm.trans s3) hD, acc ++ [v], upd_same, ?_⟩
    · rw [hl]
      exact Nat.lt_of_lt_of_le (Nat.lt_of_lt_of_le hi hn) (by decide)
    · rw [List.range_succ, List.map_append]
      have o : Out (inS S D) H3 (upd H3 D (.lst (acc ++ [v]))) := (Out.refl _ _).put (.inr rfl)
      exact dxAll_app (DxAll.up o (DxAll.up (Out.of s3) da)) (.cons (Dx.up o dv) .nil)
  · obtain ⟨sm, acc, e, da⟩ := h
    exact hd H sm (.lst (XL.of e hnS) (DxAll.less (fun a z => .inl z) da))
def kD : Key → PyData
  | .inl i => .int i
  | .inr s => .str s
def vD : V → PyData
  | .int i => .int i
  | _ => .none
def prD (kvs : List (List Key × V)) (i : Nat) : PyData := match kvs[i]? with
  | some kv => .tuple [.tuple (kv.1.map kD), vD ((valV kvs kv.1).getD .non)]
  | none => .none
def prsD (kvs : List (List Key × V)) : PyData := .list ((List.range kvs.length).map (prD kvs))
theorem dx_keys {K : PySem.W.Frag} {H : Hp} {S : ASet} : ∀ k : List Key, DxAll K H S (k.map kV) (k.map kD)
  | [] => .nil
  | .inl i :: r => .cons (.int i) (dx_keys r)
  | .inr s :: r => .cons (.str s) (dx_keys r)
theorem layAll_of : ∀ {ds : List PyData}, (∀ d ∈ ds, d.canLay0 = true) → PyData.canLayAll0 ds = true
  | [], _ => rfl
  | x :: r, h => by
    show (x.canLay0 && PyData.canLayAll0 r) = true
    rw [h x List.mem_cons_self, layAll_of fun d hd => h d (List.mem_cons_of_mem _ hd)]
    rfl
theorem depAll_of {n : Nat} : ∀ {ds : List PyData}, (∀ d ∈ ds, d.depth ≤ n) → PyData.depthAll ds ≤ n
  | [], _ => Nat.zero_le _
  | x :: r, h => Nat.max_le.mpr ⟨h x List.mem_cons_self, depAll_of fun d hd => h d (List.mem_cons_of_mem _ hd)⟩
def KvOk (kvs : List (List Key × V)) : Prop := kvs.length ≤ 1000 ∧ FOk kvs ∧ ∀ kv ∈ kvs, kv.1.length ≤ 10 ∧ ∀ k ∈ kv.1, LayK k
theorem vd_ok (v : V) : (vD v).canLay0 = true ∧ (vD v).depth ≤ 1 ∧ wdB (vD v) = true := by
  cases v <;> exact ⟨rfl, by simp [vD, PyData.depth], rfl⟩
theorem pr_ok {kvs : List (List Key × V)} (h : KvOk kvs) (i : Nat) : (prD kvs i).canLay0 = true ∧ (prD kvs i).depth ≤ 4 ∧ wdB (prD kvs i) = true := by
  unfold prD
  cases hk : kvs[i]? with
  | none => exact ⟨rfl, by simp [PyData.depth], rfl⟩
  | some kv =>
    obtain ⟨h1, h2⟩ := h.2.2 kv (List.mem_of_getElem? hk)
    obtain ⟨v1, v2, v3⟩ := vd_ok ((valV kvs kv.1).getD .non)
    have kl : ∀ d ∈ kv.1.map kD, d.canLay0 = true ∧ d.depth ≤ 1 ∧ wdB d = true := fun d hd => by
      obtain ⟨k, hk1, rfl⟩ := List.mem_map.mp hd
      have := h2 k hk1
      cases k with
      | inl j => exact ⟨rfl, by simp [kD, PyData.depth], rfl⟩
      | inr s => exact ⟨so_lay this, by simp [kD, PyData.depth], rfl⟩
    refine ⟨?_, ?_, ?_⟩
    · show (PyData.canLayAll0 (kv.1.map kD) && ((vD ((valV kvs kv.1).getD .non)).canLay0 && true)) = true
      rw [layAll_of fun d hd => (kl d hd).1, v1]
      rfl
    · have := depAll_of fun d hd => (kl d hd).2.1
      simp only [PyData.depth, PyData.depthAll]
      omega
    · show (decide (2 ≤ 100000) && (((decide ((kv.1.map kD).length ≤ 100000)) && wdA (kv.1.map kD)) && (wdB (vD ((valV kvs kv.1).getD .non)) && true))) = true
      rw [wdA_all fun d hd => (kl d hd).2.2, v3, List.length_map, decide_eq_true (Nat.le_trans h1 (show 10 ≤ 100000 by decide))]
      rfl
theorem prs_ok {kvs : List (List Key × V)} (h : KvOk kvs) : (prsD kvs).canLay0 = true ∧ (prsD kvs).depth ≤ 5 ∧ wdB (prsD kvs) = true := by
  have kl : ∀ d ∈ (List.range kvs.length).map (prD kvs), d.canLay0 = true ∧ d.depth ≤ 4 ∧ wdB d = true := fun d hd => by
    obtain ⟨i, _, rfl⟩ := List.mem_map.mp hd
    exact pr_ok h i
  refine ⟨layAll_of fun d hd => (kl d hd).1, ?_, ?_⟩
  · have := depAll_of fun d hd => (kl d hd).2.1
    unfold prsD
    simp only [PyData.depth]
    omega
  · show (decide (((List.range kvs.length).map (prD kvs)).length ≤ 100000) && wdA ((List.range kvs.length).map (prD kvs))) = true
    rw [wdA_all fun d hd => (kl d hd).2.2, List.length_map, List.length_range, decide_eq_true (Nat.le_trans h.1 (show 1000 ≤ 100000 by decide))]
    rfl
theorem valV_mem {kvs : List (List Key × V)} {i : Nat} {k : List Key} {v : V} (h : kvs[i]? = some (k, v)) : ∃ u, valV kvs k = some u := by
  unfold valV
  cases hf : kvs.find? fun kv => decide (kv.1 = k) with
  | some kv => exact ⟨kv.2, rfl⟩
  | none =>
    have := List.find?_eq_none.mp hf (k, v) (List.mem_of_getElem? h)
    simp at this
abbrev onlyA (f : Addr) : ASet := fun a => a = f
theorem pairs_in {K : PySem.W.Frag} {H : Hp} {f : Addr} {od : Obj} {kvs : List (List Key × V)} {σ : L2.St} {Q : VK} {a k : Nat} (h1 : σ[a]? = some (some (.ref f))) (h2 : k < σ.length) (hak : k ≠ a) (hf : H f = some (.frz od (.dT kvs))) (hk : KvOk kvs)
    (q : ∀ D H', Same H H' → H D = none → Dx K H' (onlyA f) (.ref D) (prsD kvs) → Q (.ref D) H') : tLc (iKeys (tVar a)) (gName k) tYes (tTup (tCons (tVar k) (tCons (tDGet (tVar a) (tVar k)) tNil))) [k] σ H Q := by
  refine ⟨_, h1, f, od, rfl, .inr ⟨kvs, hf, fun D hD => ?_⟩⟩
  refine lc_dataY (K := K) (S := onlyA f) walk_keysT (prD kvs) (fun a e => by rw [e, hf]; exact fun z => nomatch z) hD (fun H s => s _ _ hf) (Nat.le_trans hk.1 (by decide)) (fun i H x H' _ y => y.1) (fun i x H3 hi sm hD3 y Q3 q3 => ?_) (fun H3 sm d => q D H3 sm hD d)
  obtain ⟨_, kk, v, qa, hkv, rfl, hq⟩ := y
  have hs2 : ((σ.set k none).set k (some (.ref qa)))[k]? = some (some (.ref qa)) := by
    rw [List.getElem?_set_self (by rw [List.length_set]; exact h2)]
  have hs1 : ((σ.set k none).set k (some (.ref qa)))[a]? = some (some (.ref f)) := by
    rw [List.getElem?_set_ne hak, List.getElem?_set_ne hak]
    exact h1
  obtain ⟨u, hu⟩ := valV_mem hkv
  refine ⟨_, hs2, _, hs1, _, hs2, f, u, rfl, .inr ⟨kvs, kk, qa, .inr ⟨_, sm _ _ hf⟩, rfl, hq, hu.symm⟩, lenOk (n := 2) rfl (by decide), fun p np => ?_⟩
  have s4 := same_new (o := .tup [.ref qa, u]) np
  have hqf : qa ≠ f := fun z => by
    rw [z, sm _ _ hf] at hq
    cases hq
  obtain ⟨acc, hDl⟩ := hD3
  have hqD : qa ≠ D := fun z => by
    rw [z, hDl] at hq
    cases hq
  · have hpf : p ≠ f := fun z => by
      rw [z, sm _ _ hf] at np
      cases np
    have hpD : p ≠ D := fun z => by
      rw [z, hDl] at np
      cases np
    refine q3 (.ref p) _ s4 ?_
    have e : prD kvs i = .tuple [.tuple (kk.map kD), vD u] := by
      unfold prD
      rw [hkv]
      show PyData.tuple [.tuple (kk.map kD), vD ((valV kvs kk).getD .non)] = _
      rw [hu]
      rfl
    rw [e]
    refine .tup (XT.of upd_same ?_) (.cons (.tup (XT.of (s4 _ _ hq) ?_) (dx_keys kk)) (.cons ?_ .nil))
    · intro z
      rcases z with z | z
      · exact hpf z
      · exact hpD z
    · intro z
      rcases z with z | z
      · exact hqf z
      · exact hqD z
    · rcases hk.2.1 kk u hu with e | ⟨j, e⟩
      · rw [e]
        exact .non
      · rw [e]
        exact .int j
theorem pairs_lock {K : PySem.W.Frag} {H : Hp} {f : Addr} {kvs : List (List Key × V)} {σ : L2.St} {Q : VK} {a k : Nat} (h1 : σ[a]? = some (some (.ref f))) (h2 : k < σ.length) (hak : k ≠ a) (hf : H f = some (.dT kvs)) (hk : KvOk kvs)
    (q : ∀ D H', Same H H' → Dx K H' (onlyA f) (.ref D) (prsD kvs) → Q (.ref D) H') : tLockE (tLc (iKeys (tVar a)) (gName k) tYes (tTup (tCons (tVar k) (tCons (tDGet (tVar a) (tVar k)) tNil))) [k]) σ H Q :=
  ⟨f, .dT kvs, hf, trivial, fun od => pairs_in h1 h2 hak upd_same hk fun D H' s nD d => ⟨s _ _ upd_same, q D _ (same_lock hf s) (Dx.up (S := onlyA f) (Out.put (Out.refl (onlyA f) H') (show onlyA f f from rfl)) d)⟩⟩
theorem pairs_lockS {K : PySem.W.Frag} {H : Hp} {f : Addr} {kvs : List (List Key × V)} {σ : L2.St} {D : Ends} {a k m : Nat} (h1 : σ[a]? = some (some (.ref f))) (h2 : k < σ.length) (hak : k ≠ a) (hf : H f = some (.dT kvs)) (hk : KvOk kvs)
    (q : ∀ a H', Same H H' → Dx K H' (onlyA f) (.ref a) (prsD kvs) → D.nx (σ.set m (some (.ref a))) H') : tLock (tAsg (tLc (iKeys (tVar a)) (gName k) tYes (tTup (tCons (tVar k) (tCons (tDGet (tVar a) (tVar k)) tNil))) [k]) (gName m)) D σ H :=
  ⟨f, .dT kvs, hf, trivial, fun od => pairs_in h1 h2 hak upd_same hk fun a H' s nD d => ⟨s _ _ upd_same, q a _ (same_lock hf s) (Dx.up (S := onlyA f) (Out.put (Out.refl (onlyA f) H') (show onlyA f f from rfl)) d)⟩⟩
/-! the lets, as pairs -/
def ltP (l : SV) (t : Str → Tr) (i : Nat) : PyData := match l[i]? with
  | some p => .tuple [.str p.1, trD (t p.1)]
  | none => .none
def ltD (l : SV) (t : Str → Tr) : PyData := .list ((List.range l.length).map (ltP l t))
theorem lts_ok {l : SV} {t : Str → Tr} (h : ∀ x ∈ l.map (·.1), LT (t x) ∧ dep (t x) ≤ 12 ∧ SO x) (hl : l.length ≤ 60) : (ltD l t).canLay0 = true ∧ (ltD l t).depth ≤ 16 ∧ wdB (ltD l t) = true := by
  have kl : ∀ d ∈ (List.range l.length).map (ltP l t), d.canLay0 = true ∧ d.depth ≤ 15 ∧ wdB d = true := fun d hd => by
    obtain ⟨i, _, rfl⟩ := List.mem_map.mp hd
    unfold ltP
    cases hi : l[i]? with
    | none => exact ⟨rfl, by simp [PyData.depth], rfl⟩
    | some p =>
      obtain ⟨h1, h2, h3⟩ := h p.1 (List.mem_map.mpr ⟨p, List.mem_of_getElem? hi, rfl⟩)
      refine ⟨?_, ?_, ?_⟩
      · show ((PyData.str p.1).canLay0 && ((trD (t p.1)).canLay0 && true)) = true
        rw [so_lay h3, tr_lay h1.wf]
        rfl
      · have := tr_dep (t p.1)
        simp only [PyData.depth, PyData.depthAll]
        omega
      · show (true && (true && (wdB (trD (t p.1)) && true))) = true
        rw [tr_wd]
        rfl
  refine ⟨layAll_of fun d hd => (kl d hd).1, ?_, ?_⟩
  · have := depAll_of fun d hd => (kl d hd).2.1
    unfold ltD
    simp only [PyData.depth]
    omega
  · show (decide (((List.range l.length).map (ltP l t)).length ≤ 100000) && wdA ((List.range l.length).map (ltP l t))) = true
    rw [wdA_all fun d hd => (kl d hd).2.2, List.length_map, List.length_range, decide_eq_true (Nat.le_trans hl (show 60 ≤ 100000 by decide))]
    rfl
theorem lets_in_ {K : PySem.W.Frag} {H : Hp} {f : Addr} {od : Obj} {l : SV} {t : Str → Tr} {σ : L2.St} {Q : VK} {a k : Nat} (h1 : σ[a]? = some (some (.ref f))) (h2 : k < σ.length) (hak : k ≠ a) (hf : H f = some (.frz od (.dK (kvS l)))) (hn : (l.map (·.1)).Nodup) (hl : l.length ≤ 60) (hv : ∀ p ∈ l, TrK H p.2 (t p.1))
    (q : ∀ D H', Same H H' → H D = none → Dx K H' (onlyA f) (.ref D) (ltD l t) → Q (.ref D) H') : tLc (iKeys (tVar a)) (gName k) tYes (tTup (tCons (tVar k) (tCons (tDGet (tVar a) (tVar k)) tNil))) [k] σ H Q := by
  refine ⟨_, h1, f, od, rfl, .inl ⟨kvS l, hf, fun D hD => ?_⟩⟩
  refine lc_dataY (K := K) (S := onlyA f) (walk_keys (d := f) (o := od) (kvs := kvS l)) (ltP l t) (fun a e => by rw [e, hf]; exact fun z => nomatch z) hD (fun H s => s _ _ hf) (by rw [kvS_len]; omega) (fun i H x H' _ y => y.1) (fun i x H3 hi sm hD3 y Q3 q3 => ?_) (fun H3 sm d => q D H3 sm hD (by rw [kvS_len] at d; exact d))
  obtain ⟨_, k0, v0, ek, rfl⟩ := y
  rw [kvS_len] at hi
  unfold kvS at ek
  rw [List.getElem?_map, List.getElem?_eq_getElem hi] at ek
  cases ek
  have hi' : l[i]? = some l[i] := List.getElem?_eq_getElem hi
  have hmem := List.getElem_mem hi
  generalize l[i] = pr at *
  obtain ⟨x, v⟩ := pr
  have hs2 : ((σ.set k none).set k (some (.str x)))[k]? = some (some (.str x)) := by
    rw [List.getElem?_set_self (by rw [List.length_set]; exact h2)]
  have hs1 : ((σ.set k none).set k (some (.str x)))[a]? = some (some (.ref f)) := by
    rw [List.getElem?_set_ne hak, List.getElem?_set_ne hak]
    exact h1
  have hg := getS_of hn hmem
  refine ⟨_, hs2, _, hs1, _, hs2, f, v, rfl, ?_, lenOk (n := 2) rfl (by decide), fun p np => ?_⟩
  · rw [← hg, ← kvS_val]
    exact .inl ⟨_, .inr x, .inr ⟨od, sm _ _ hf⟩, rfl, rfl⟩
  have s4 := same_new (o := .tup [.str x, v]) np
  obtain ⟨acc, hDl⟩ := hD3
  have hpf : p ≠ f := fun z => by
    rw [z, sm _ _ hf] at np
    cases np
  have hpD : p ≠ D := fun z => by
    rw [z, hDl] at np
    cases np
  refine q3 (.ref p) _ s4 ?_
  have e : ltP l t i = .tuple [.str x, trD (t x)] := by
    unfold ltP
    rw [hi']
  rw [e]
  have hvt : TrK (upd H3 p (.tup [.str x, v])) v (t x) := ((hv _ hmem).ups sm).ups s4
  have hff := s4 _ _ (sm _ _ hf)
  have hDD := s4 _ _ hDl
  refine .tup (XT.of upd_same ?_) (.cons (.str x) (.cons (dx_trS (fun q xs e z => ?_) hvt) .nil))
  · intro z
    rcases z with z | z
    · exact hpf z
    · exact hpD z
  · rcases z with z | z
    · rw [show q = f from z, hff] at e; cases e
    · rw [show q = D from z, hDD] at e; cases e
end R1

namespace R1
open PySem PySem.Spec PyProof.Rows L2 RK
local macro_rules | `(tactic| walk_at "sq") => `(tactic| first
  | exact SqL.of upd_same | exact upd_same | exact SqL.of (by assumption) | exact SqL.of (by rw [upd_ne (by assumption)]; assumption) | assumption)
local macro_rules | `(tactic| walk_at "sd") => `(tactic| first
  | assumption | omega | (refine Or.inl ⟨?_, ?_⟩ <;> omega) | (show _ ∧ _; constructor <;> omega) | (show _ ≠ _; simp; omega) | (exact Or.inl ⟨by decide, by decide⟩) | (exact Or.inr ⟨by decide, by decide⟩) | (show _ < _; decide) | (show _ ≤ _; decide))
local macro_rules | `(tactic| walk_at "at") => `(tactic| first | rfl | (refine atI_intV ?_ ?_ <;> omega) | assumption)
local macro_rules | `(tactic| walk_at "s1") => `(tactic| first
  | refine ⟨_, rfl, ?_⟩ | refine ⟨_, _, rfl, rfl, ?_⟩ | refine ⟨rfl, ?_⟩
  | refine ⟨_, _, _, _, rfl, rfl, by walk_at "sq", by walk_at "at", ?_⟩
  | refine Or.inl ⟨_, rfl, ?_⟩
  | refine ⟨_, _, rfl, Or.inl (by walk_at "sq"), ?_⟩
  | refine And.intro (by walk_at "sd") ?_)
local macro_rules | `(tactic| walk_at "s") => `(tactic| repeat walk_at "s1")

theorem lets_up {K : PySem.W.Frag} {H : Hp} {f : Addr} {od : Obj} {l : SV} {t : Str → Tr} (hf : H f = some (.dK (kvS l))) (hv : ∀ p ∈ l, TrK H p.2 (t p.1)) : ∀ p ∈ l, TrK (upd H f (.frz od (.dK (kvS l)))) p.2 (t p.1) := fun p hp => (hv p hp).up fun q xs e => by
  rw [upd_ne (fun z : q = f => by rw [z, hf] at e; cases e)]
  exact e
theorem lets_lock {K : PySem.W.Frag} {H : Hp} {f : Addr} {l : SV} {t : Str → Tr} {σ : L2.St} {Q : VK} {a k : Nat} (h1 : σ[a]? = some (some (.ref f))) (h2 : k < σ.length) (hak : k ≠ a) (hl : LtH H f l t)
    (q : ∀ D H', Same H H' → Dx K H' (onlyA f) (.ref D) (ltD l t) → Q (.ref D) H') : tLockE (tLc (iKeys (tVar a)) (gName k) tYes (tTup (tCons (tVar k) (tCons (tDGet (tVar a) (tVar k)) tNil))) [k]) σ H Q :=
  ⟨f, _, hl.dd, trivial, fun od => lets_in_ h1 h2 hak upd_same hl.nd hl.few (lets_up (K := K) hl.dd hl.val) fun D H' s nD d => ⟨s _ _ upd_same, q D _ (same_lock hl.dd s) (Dx.up (S := onlyA f) (Out.put (Out.refl (onlyA f) H') (show onlyA f f from rfl)) d)⟩⟩
theorem lets_lockS {K : PySem.W.Frag} {H : Hp} {f : Addr} {l : SV} {t : Str → Tr} {σ : L2.St} {D : Ends} {a k m : Nat} (h1 : σ[a]? = some (some (.ref f))) (h2 : k < σ.length) (hak : k ≠ a) (hl : LtH H f l t)
    (q : ∀ a H', Same H H' → Dx K H' (onlyA f) (.ref a) (ltD l t) → D.nx (σ.set m (some (.ref a))) H') : tLock (tAsg (tLc (iKeys (tVar a)) (gName k) tYes (tTup (tCons (tVar k) (tCons (tDGet (tVar a) (tVar k)) tNil))) [k]) (gName m)) D σ H :=
  ⟨f, _, hl.dd, trivial, fun od => lets_in_ h1 h2 hak upd_same hl.nd hl.few (lets_up (K := K) hl.dd hl.val) fun a H' s nD d => ⟨s _ _ upd_same, q a _ (same_lock hl.dd s) (Dx.up (S := onlyA f) (Out.put (Out.refl (onlyA f) H') (show onlyA f f from rfl)) d)⟩⟩
/-- a ring, or none, as data -/
def oD : Option (List Str) → PyData
  | none => .none
  | some p => tS p
theorem dx_sD {K : PySem.W.Frag} {H : Hp} {S : ASet} : ∀ p : List Str, DxAll K H S (p.map V.str) (sD p)
  | [] => .nil
  | _ :: p => .cons (.str _) (dx_sD p)
theorem dx_rg {K : PySem.W.Frag} {H : Hp} {v : V} : ∀ {o : Option (List Str)}, RgO H v o → Dx K H noS v (oD o)
  | none, h => by
    have h : v = .non := h
    rw [h]
    exact .non
  | some p, ⟨a, e1, e2⟩ => by
    rw [e1]
    exact .tup (XT.of e2 fun z => z.elim) (dx_sD p)
theorem best_ok {g : Str → List Str} {ks : List Str} (hd : ∀ x y, y ∈ g x → x ∈ ks) (hso : ∀ x ∈ ks, SO x) (hl : ks.length ≤ 60) : ∀ {o : Option (List Str)}, Best g ks o → (oD o).canLay0 = true ∧ (oD o).depth ≤ 1 ∧ wdB (oD o) = true
  | none, _ => ⟨rfl, by simp [oD, PyData.depth], rfl⟩
  | some p, ⟨⟨f, hf, r⟩, b⟩ => by
    obtain ⟨w', r', nd⟩ := ring_short _ p (Nat.le_refl _) r
    have h1 := memLenS w' ks nd (ring_dom hd r')
    have h2 : p.length ≤ w'.length := by
      rcases b f hf w' r' with e | e | e
      · rw [e]; exact Nat.le_refl _
      · omega
      · omega
    have dom := ring_dom hd r
    refine ⟨layAll_of fun d hd => ?_, ?_, ?_⟩
    · obtain ⟨x, hx, rfl⟩ := List.mem_map.mp hd
      exact so_lay (hso x (dom x hx))
    · show PyData.depthAll (sD p) + 1 ≤ 1
      have := depAll_of (n := 0) (ds := sD p) fun y hy => by
        obtain ⟨k, _, rfl⟩ := List.mem_map.mp hy
        exact Nat.le_refl 0
      omega
    · show (decide ((sD p).length ≤ 100000) && wdA (sD p)) = true
      rw [wdA_all fun d hd => by obtain ⟨x, _, rfl⟩ := List.mem_map.mp hd; rfl]
      unfold sD
      rw [List.length_map, decide_eq_true (Nat.le_trans h2 (Nat.le_trans h1 (Nat.le_trans hl (show 60 ≤ 100000 by decide))))]
      rfl
theorem best_none {g : Str → List Str} {ks : List Str} (hd : ∀ x y, y ∈ g x → x ∈ ks) (b : Best g ks none) : ∀ f w, ¬ Ring g f w := fun f w r => b f (ring_dom hd r f (by obtain ⟨s, e, _⟩ := r; rw [e]; exact List.mem_cons_self)) w r
def spAsked : Sp := fun vs H Q _ => ∃ (d f : Addr) (l : SV) (t : Str → Tr) (kv : List (List Key × V)), vs = [.ref d, .ref f] ∧ LtH H d l t ∧ (∀ x ∈ l.map (·.1), numOk (t x) ∧ SO x) ∧ H f = some (.dT kv) ∧ SmF kv ∧ KvOk kv ∧ (kv.map (·.1)).Nodup ∧ kv.length ≤ 100 ∧ ∀ H', Same H H' → Q (.bl true) H'
section
variable {P : Program} {w : World} {K : PySem.W.Frag} {mg : Str → Option Value} {base : Heap} {A : Ads}
theorem ok_law_asked (T : Txt K mg A) : FnOk P w K mg base CX0 60 A.a_law_asked A.d_law_asked ["_law_lets_here", "_law_facts"] spAsked := by
  refine T.F_law_asked.ok sc_law_asked (fun vs H Q E h => ?_) (fun cdv B outer s H vs Q E hr h => ?_)
  · obtain ⟨d, f, l, t, kv, rfl, _⟩ := h
    rfl
  · obtain ⟨d, f, l, t, kv, rfl, lt, hns, hf, smf, hk, kvn, kvl, q⟩ := h
    refine ⟨_, (pss_cons (ps_lock (ps_setLc (i := 3) (own := [("_law_name", 2)]) rfl sc_law_asked.nd rfl rfl (sw_true rfl rfl rfl (by decide +kernel)) (pi_keys (pv 0)) (blkOk_by (own := [("_law_name", 2)]) (N := N_law_asked) (sc := defScope s_law_asked) (by decide +kernel)) (fun _ _ _ _ _ => pg_name (i := 2) sc_law_asked.nd rfl (Or.inl rfl)) (fun _ _ _ _ _ => pts_nil) (fun _ _ _ _ _ => by exact (pe_tup (pa_cons (pv 2) (pa_cons (pe_dget (hu_of hr) (pv 0) (pv 2) (fun _ _ => rfl)) pa_nil))))))
    (pss_cons (ps_lock (ps_setLc (i := 5) (own := [("_law_key", 4)]) rfl sc_law_asked.nd rfl rfl (sw_true rfl rfl rfl (by decide +kernel)) (pi_keys (pv 1)) (blkOk_by (own := [("_law_key", 4)]) (N := N_law_asked) (sc := defScope s_law_asked) (by decide +kernel)) (fun _ _ _ _ _ => pg_name (i := 4) sc_law_asked.nd rfl (Or.inl rfl)) (fun _ _ _ _ _ => pts_nil) (fun _ _ _ _ _ => by exact (pe_tup (pa_cons (pv 4) (pa_cons (pe_dget (hu_of hr) (pv 1) (pv 4) (fun _ _ => rfl)) pa_nil))))))
    (pss_cons (ps_set (i := 6) sc_law_asked.nd rfl (.inl rfl) (pe_call (ok_law_ring T) (hr.mono (by omega)) rfl T.g_law_ring T.F_law_ring.kp T.b_law_ring .nil pass0 (pa_cons (pv 0) pa_nil)))
    (pss_cons (ps_if (PW.pt (pw_or (pt_cmpR (op_neD hr.units) (pe_call (ok_plain T 30) (hr.mono (by omega)) rfl T.g_law_plain T.F_law_plain.kp T.b_law_plain .nil pass0 (pa_cons (pe_call (ok_least_ring T) (hr.mono (by omega)) rfl T.g_least_ring T.F_least_ring.kp T.b_least_ring .nil pass0 (pa_cons (pv 0) pa_nil)) pa_nil)) (pe_call (ok_plain T 30) (hr.mono (by omega)) rfl T.g_law_plain T.F_law_plain.kp T.b_law_plain .nil pass0 (pa_cons (pv 6) pa_nil)) (nomark _)) (pw_or1 (pt_cmpR (op_neD hr.units) (pe_call (ok_plain T 30) (hr.mono (by omega)) rfl T.g_law_plain T.F_law_plain.kp T.b_law_plain .nil pass0 (pa_cons (pe_call (ok_least_ring T) (hr.mono (by omega)) rfl T.g_least_ring T.F_least_ring.kp T.b_least_ring .nil pass0 (pa_cons (pv 0) pa_nil)) pa_nil)) (pe_call (ok_plain T 30) (hr.mono (by omega)) rfl T.g_law_plain T.F_law_plain.kp T.b_law_plain .nil pass0 (pa_cons (pv 6) pa_nil)) (nomark _))))) (pss_one (ps_ret pe_bl)) pss_nil)
    (pss_cons (ps_if (pt_cmpR op_isN (pv 6) pe_non (nomark _)) (pss_cons (ps_set (i := 7) sc_law_asked.nd rfl (.inl rfl) (pe_call (ok_law_values T) (hr.mono (by omega)) rfl T.g_law_values T.F_law_values.kp T.b_law_values .nil pass0 (pa_cons (pv 0) (pa_cons (pv 1) pa_nil))))
    (pss_cons (ps_set (i := 8) sc_law_asked.nd rfl (.inl rfl) (pe_call (ok_let_values T) (hr.mono (by omega)) rfl T.g_let_values T.F_let_values.kp T.b_let_values .nil pass0 (pa_cons (pv 0) (pa_cons (pv 1) pa_nil))))
    (pss_cons (ps_if (pt_not (pt_val (pe_call (ok_law_same T) (hr.mono (by omega)) rfl T.g_law_same T.F_law_same.kp T.b_law_same .nil pass0 (pa_cons (pv 8) (pa_cons (pv 7) pa_nil))))) (pss_one (ps_ret pe_bl)) pss_nil)
    (pss_cons (ps_dput (hu_of hr) (pv 8) pe_str pe_int rfl)
    (pss_one (ps_if (pt_not (pt_val (pe_call (ok_law_same T) (hr.mono (by omega)) rfl T.g_law_same T.F_law_same.kp T.b_law_same .nil pass0 (pa_cons (pe_call (ok_let_values T) (hr.mono (by omega)) rfl T.g_let_values T.F_let_values.kp T.b_let_values .nil pass0 (pa_cons (pv 0) (pa_cons (pv 1) pa_nil))) (pa_cons (pv 7) pa_nil))))) (pss_one (ps_ret pe_bl)) pss_nil)))))) pss_nil)
    (pss_cons (ps_if (pt_cmpR (op_neD hr.units) (pe_call (ok_plain T 30) (hr.mono (by omega)) rfl T.g_law_plain T.F_law_plain.kp T.b_law_plain .nil pass0 (pa_cons (pv 5) pa_nil)) (pe_call (ok_plain T 30) (hr.mono (by omega)) rfl T.g_law_plain T.F_law_plain.kp T.b_law_plain .nil pass0 (pa_cons (pe_lock (pe_lc (own := [("_law_key", 4)]) rfl sc_law_asked.nd (pi_keys (pv 1)) (blkOk_by (own := [("_law_key", 4)]) (N := N_law_asked) (sc := defScope s_law_asked) (by decide +kernel)) (fun _ _ _ _ _ => pg_name (i := 4) sc_law_asked.nd rfl (Or.inl rfl)) (fun _ _ _ _ _ => pts_nil) (fun _ _ _ _ _ => by exact (pe_tup (pa_cons (pv 4) (pa_cons (pe_dget (hu_of hr) (pv 1) (pv 4) (fun _ _ => rfl)) pa_nil)))))) pa_nil)) (nomark _)) (pss_one (ps_ret pe_bl)) pss_nil)
    (pss_one (ps_ret (pe_cmpR (op_eqD hr.units) (pe_call (ok_plain T 30) (hr.mono (by omega)) rfl T.g_law_plain T.F_law_plain.kp T.b_law_plain .nil pass0 (pa_cons (pe_lock (pe_lc (own := [("_law_name", 2)]) rfl sc_law_asked.nd (pi_keys (pv 0)) (blkOk_by (own := [("_law_name", 2)]) (N := N_law_asked) (sc := defScope s_law_asked) (by decide +kernel)) (fun _ _ _ _ _ => pg_name (i := 2) sc_law_asked.nd rfl (Or.inl rfl)) (fun _ _ _ _ _ => pts_nil) (fun _ _ _ _ _ => by exact (pe_tup (pa_cons (pv 2) (pa_cons (pe_dget (hu_of hr) (pv 0) (pv 2) (fun _ _ => rfl)) pa_nil)))))) pa_nil)) (pe_call (ok_plain T 30) (hr.mono (by omega)) rfl T.g_law_plain T.F_law_plain.kp T.b_law_plain .nil pass0 (pa_cons (pv 3) pa_nil)) (nomark _)))))))))), ?_⟩
    refine lets_lockS (K := K) (a := 0) (k := 2) (m := 3) rfl (show 2 < 9 by decide) (by decide) lt fun D1 H1 s1 d1 => ?_
    have lt1 := lt.up s1
    refine pairs_lockS (K := K) (a := 1) (k := 4) (m := 5) rfl (show 4 < 9 by decide) (by decide) (s1 _ _ hf) hk fun D2 H2 s2 d2 => ?_
    have s02 := s1.trans s2
    have d1 := Dx.up (Out.of s2) d1
    have lt2 := lt.up s02
    have hf2 := s02 _ _ hf
    have gdom : ∀ x y, y ∈ gU (l.map (·.1)) t x → x ∈ l.map (·.1) := fun x y h => gU_dom h
    have hkl : (l.map (·.1)).length ≤ 60 := by rw [List.length_map]; exact lt.few
    refine ⟨_, rfl, d, l, t, rfl, lt2, fun H3 v o s3 bo hv => ?_⟩
    obtain ⟨r1, r2, r3⟩ := best_ok gdom (fun x hx => (hns x hx).2) hkl bo
    have rsh := plD_shaped r1 (Nat.le_trans r2 (by decide))
    have sNow := s02.trans s3
    have s2N := s3
    refine ⟨_, rfl, d, l, t, rfl, lt.up sNow, fun H4 v4 o4 s4 bo4 hv4 => ?_⟩
    rw [best_uniq bo4 bo] at hv4
    refine ⟨v4, oD o, noS, rfl, fun _ z => z.elim, dx_rg hv4, Nat.le_trans r2 (by decide), r3, fun H5 v5 s5 d5 => ?_⟩
    refine ⟨_, rfl, v, oD o, noS, rfl, fun _ z => z.elim, dx_rg (hv.up (s4.trans s5)), Nat.le_trans r2 (by decide), r3, fun H6 v6 s6 d6 => ?_⟩
    refine ⟨_, _, (Dx.up (Out.of s6) d5).dp, d6.dp, rsh, rsh, ?_⟩
    rw [SeqAt.eqv_refl _ (plD_lay _ r1)]
    refine ⟨_, rfl, ifF rfl ?_⟩
    have sQ := s4.trans (s5.trans s6)
    have sNow := sNow.trans sQ
    have hv := hv.up sQ
    have s2N := s2N.trans sQ
    refine ⟨_, rfl, d, l, t, rfl, lt.up sNow, fun H4 v4 o4 s4 bo4 hv4 => ?_⟩
    rw [best_uniq bo4 bo] at hv4
    refine ⟨v4, oD o, noS, rfl, fun _ z => z.elim, dx_rg hv4, Nat.le_trans r2 (by decide), r3, fun H5 v5 s5 d5 => ?_⟩
    refine ⟨_, rfl, v, oD o, noS, rfl, fun _ z => z.elim, dx_rg (hv.up (s4.trans s5)), Nat.le_trans r2 (by decide), r3, fun H6 v6 s6 d6 => ?_⟩
    refine ⟨_, _, (Dx.up (Out.of s6) d5).dp, d6.dp, rsh, rsh, ?_⟩
    rw [SeqAt.eqv_refl _ (plD_lay _ r1)]
    refine ⟨_, rfl, ifF rfl ?_⟩
    have sQ := s4.trans (s5.trans s6)
    have sNow := sNow.trans sQ
    have hv := hv.up sQ
    have s2N := s2N.trans sQ
    cases o with
    | some p =>
      obtain ⟨a, rfl, _⟩ := hv
      refine ⟨_, rfl, rfl, _, rfl, ifF rfl ?_⟩
      obtain ⟨p1, p2, p3⟩ := prs_ok hk
      have psh := plD_shaped p1 (Nat.le_trans p2 (by decide))
      have hfN := sNow _ _ hf
      refine ⟨_, rfl, .ref D2, _, onlyA f, rfl, fun a e => ?_, Dx.up (Out.of s2N) d2, Nat.le_trans p2 (by decide), p3, fun H7 v7 s7 d7 => ?_⟩
      · rw [e, hfN]
        exact fun z => nomatch z
      refine pairs_lock (K := K) (a := 1) (k := 4) rfl (show 4 < 9 by decide) (by decide) (s7 _ _ hfN) hk fun D8 H8 s8 d8 => ?_
      refine ⟨.ref D8, _, onlyA f, rfl, fun a e => ?_, d8, Nat.le_trans p2 (by decide), p3, fun H9 v9 s9 d9 => ?_⟩
      · rw [e, s8 _ _ (s7 _ _ hfN)]
        exact fun z => nomatch z
      refine ⟨_, _, (Dx.up (Out.of (s8.trans s9)) d7).dp, d9.dp, psh, psh, ?_⟩
      rw [SeqAt.eqv_refl _ (plD_lay _ p1)]
      refine ⟨_, rfl, ifF rfl ?_⟩
      have s79 := s7.trans (s8.trans s9)
      have ltN := lt.up (sNow.trans s79)
      obtain ⟨l1, l2, l3⟩ := lts_ok (fun x hx => ⟨(lt.ok x hx).1, (lt.ok x hx).2.1, (hns x hx).2⟩) lt.few
      have lsh := plD_shaped l1 (Nat.le_trans l2 (by decide))
      refine lets_lock (K := K) (a := 0) (k := 2) rfl (show 2 < 9 by decide) (by decide) ltN fun DA HA sA dA => ?_
      refine ⟨.ref DA, _, onlyA d, rfl, fun a e => ?_, dA, Nat.le_trans l2 (by decide), l3, fun HB vB sB dB => ?_⟩
      · rw [e, sA _ _ ltN.dd]
        exact fun z => nomatch z
      refine ⟨_, rfl, .ref D1, _, onlyA d, rfl, fun a e => ?_, Dx.up (Out.of (s2N.trans (s79.trans (sA.trans sB)))) d1, Nat.le_trans l2 (by decide), l3, fun HC vC sC dC => ?_⟩
      · rw [e, (sA.trans sB) _ _ ltN.dd]
        exact fun z => nomatch z
      refine ⟨_, _, (Dx.up (Out.of sC) dB).dp, dC.dp, lsh, lsh, ?_⟩
      rw [SeqAt.eqv_refl _ (plD_lay _ l1)]
      exact q _ (sNow.trans (s79.trans (sA.trans (sB.trans sC))))
    | none =>
      have hv : v = .non := hv
      subst hv
      refine ⟨_, rfl, rfl, _, rfl, ifT rfl ?_⟩
      have nor := best_none gdom bo
      have knd := lt.nd
      refine ⟨_, rfl, _, rfl, d, f, l, t, kv, rfl, lt.up sNow, (fun x hx => (hns x hx).1), sNow _ _ hf, smf, nor, fun Ha Vd fs sa na ea fi hall => ?_⟩
      refine ⟨_, rfl, _, rfl, d, f, l, t, kv, rfl, lt.up (sNow.trans sa), (sNow.trans sa) _ _ hf, smf.1, kvn, kvl, nor, fun Hb Tb r sb nb eb tb => ?_⟩
      have hVT : Tb ≠ Vd := fun z => by rw [z, ea] at nb; cases nb
      have same : ∀ r', Told (l.map (·.1)) t (lk kv kHome) (fun y => lk kv (kLet y)) r' → ∀ x ∈ l.map (·.1), r' x = getO fs x := fun r' hr => told_uniq nor hr (fi.told hall)
      have fm : ∀ x, x ∈ fs.map (·.1) ↔ x ∈ l.map (·.1) := fun x => ⟨fi.sub x, hall x⟩
      refine ⟨_, rfl, _, rfl, Tb, Vd, l.map (·.1), r, fs, rfl, hVT, hkl, knd, eb, sb _ _ ea, fi.nd, fm, same r tb, fun Hc sc => ?_⟩
      refine ⟨_, rfl, ifF rfl ?_⟩
      have hTH : H2 Tb = none := (s2N.trans sa).free nb
      have hTH0 : H Tb = none := (sNow.trans sa).free nb
      refine ⟨_, rfl, Tb, _, rfl, DPut.k (k := .inr (Str.ofString "other")) (sc _ _ eb) (by rw [kvS_len]; unfold onV; rw [List.length_map]; exact Nat.lt_of_le_of_lt hkl (by decide)), ?_⟩
      have sNd : Same H (upd Hc Tb (.dK (putK (kvS (onV (l.map (·.1)) r)) (.inr (Str.ofString "other")) (.int 1)))) := same_mut (sNow.trans (sa.trans (sb.trans sc))) hTH0
      have s2d : Same H2 (upd Hc Tb (.dK (putK (kvS (onV (l.map (·.1)) r)) (.inr (Str.ofString "other")) (.int 1)))) := same_mut (s2N.trans (sa.trans (sb.trans sc))) hTH
      have eVd : upd Hc Tb (.dK (putK (kvS (onV (l.map (·.1)) r)) (.inr (Str.ofString "other")) (.int 1))) Vd = some (.dK (kvS (opV fs))) := by rw [upd_ne (Ne.symm hVT)]; exact (sb.trans sc) _ _ ea
      generalize upd Hc Tb (.dK (putK (kvS (onV (l.map (·.1)) r)) (.inr (Str.ofString "other")) (.int 1))) = Hd at sNd s2d eVd ⊢
      refine ⟨_, rfl, _, rfl, d, f, l, t, kv, rfl, lt.up sNd, sNd _ _ hf, smf.1, kvn, kvl, nor, fun He T2 r2 se ne ee te => ?_⟩
      have hVT2 : T2 ≠ Vd := fun z => by rw [z, eVd] at ne; cases ne
      refine ⟨_, rfl, T2, Vd, l.map (·.1), r2, fs, rfl, hVT2, hkl, knd, ee, se _ _ eVd, fi.nd, fm, same r2 te, fun Hg sg => ?_⟩
      refine ⟨_, rfl, ifF rfl ?_⟩
      have sNow := sNd.trans (se.trans sg)
      have s2N := s2d.trans (se.trans sg)
      obtain ⟨p1, p2, p3⟩ := prs_ok hk
      have psh := plD_shaped p1 (Nat.le_trans p2 (by decide))
      have hfN := sNow _ _ hf
      refine ⟨_, rfl, .ref D2, _, onlyA f, rfl, fun a e => ?_, Dx.up (Out.of s2N) d2, Nat.le_trans p2 (by decide), p3, fun H7 v7 s7 d7 => ?_⟩
      · rw [e, hfN]
        exact fun z => nomatch z
      refine pairs_lock (K := K) (a := 1) (k := 4) rfl (show 4 < 9 by decide) (by decide) (s7 _ _ hfN) hk fun D8 H8 s8 d8 => ?_
      refine ⟨.ref D8, _, onlyA f, rfl, fun a e => ?_, d8, Nat.le_trans p2 (by decide), p3, fun H9 v9 s9 d9 => ?_⟩
      · rw [e, s8 _ _ (s7 _ _ hfN)]
        exact fun z => nomatch z
      refine ⟨_, _, (Dx.up (Out.of (s8.trans s9)) d7).dp, d9.dp, psh, psh, ?_⟩
      rw [SeqAt.eqv_refl _ (plD_lay _ p1)]
      refine ⟨_, rfl, ifF rfl ?_⟩
      have s79 := s7.trans (s8.trans s9)
      have ltN := lt.up (sNow.trans s79)
      obtain ⟨l1, l2, l3⟩ := lts_ok (fun x hx => ⟨(lt.ok x hx).1, (lt.ok x hx).2.1, (hns x hx).2⟩) lt.few
      have lsh := plD_shaped l1 (Nat.le_trans l2 (by decide))
      refine lets_lock (K := K) (a := 0) (k := 2) rfl (show 2 < 9 by decide) (by decide) ltN fun DA HA sA dA => ?_
      refine ⟨.ref DA, _, onlyA d, rfl, fun a e => ?_, dA, Nat.le_trans l2 (by decide), l3, fun HB vB sB dB => ?_⟩
      · rw [e, sA _ _ ltN.dd]
        exact fun z => nomatch z
      refine ⟨_, rfl, .ref D1, _, onlyA d, rfl, fun a e => ?_, Dx.up (Out.of (s2N.trans (s79.trans (sA.trans sB)))) d1, Nat.le_trans l2 (by decide), l3, fun HC vC sC dC => ?_⟩
      · rw [e, (sA.trans sB) _ _ ltN.dd]
        exact fun z => nomatch z
      refine ⟨_, _, (Dx.up (Out.of sC) dB).dp, dC.dp, lsh, lsh, ?_⟩
      rw [SeqAt.eqv_refl _ (plD_lay _ l1)]
      exact q _ (sNow.trans (s79.trans (sA.trans (sB.trans sC))))
end
end R1

set_option maxHeartbeats 20000000
namespace R1
open PySem PySem.Spec PyProof.Rows L2 RK
local macro_rules | `(tactic| walk_at "sq") => `(tactic| first
  | exact SqL.of upd_same | exact upd_same | exact SqL.of (by assumption) | exact SqL.of (by rw [upd_ne (by assumption)]; assumption) | assumption)
local macro_rules | `(tactic| walk_at "sd") => `(tactic| first
  | assumption | omega | (refine Or.inl ⟨?_, ?_⟩ <;> omega) | (show _ ∧ _; constructor <;> omega) | (show _ ≠ _; simp; omega) | (exact Or.inl ⟨by decide, by decide⟩) | (exact Or.inr ⟨by decide, by decide⟩) | (show _ < _; decide) | (show _ ≤ _; decide))
local macro_rules | `(tactic| walk_at "at") => `(tactic| first | rfl | (refine atI_intV ?_ ?_ <;> omega) | assumption)
local macro_rules | `(tactic| walk_at "s1") => `(tactic| first
  | refine ⟨_, rfl, ?_⟩ | refine ⟨_, _, rfl, rfl, ?_⟩ | refine ⟨rfl, ?_⟩
  | refine ⟨_, _, _, _, rfl, rfl, by walk_at "sq", by walk_at "at", ?_⟩
  | refine Or.inl ⟨_, rfl, ?_⟩
  | refine ⟨_, _, rfl, Or.inl (by walk_at "sq"), ?_⟩
  | refine And.intro (by walk_at "sd") ?_)
local macro_rules | `(tactic| walk_at "s") => `(tactic| repeat walk_at "s1")

section
variable {X : Cx} {x : Str} {c : Value} {body suite : List Stmt} {b₀ : Stmt} {np pos pos' : Pos} {tb : WX → TS} {ts : Addr → Value → Option Addr → TS}
theorem takes_no : L2.Takes X (fun _ _ _ _ => False) := fun u s' ⟨a, B, sI, pins, σ, H, cls, d, e, I, nb, up, sky, na, os, ag, w⟩ => w.elim
theorem ps_try_onlyN (hs : X.stack = X.env :: X.outer) (hf : X.env.frame = some X.env.locals) (hc : Names X x c)
    (hb : ∀ (W : WX) (pn : List (Addr × Obj)) (xe : Value → Shared → Prop), L2.Takes (X.tr pn xe) W → PassesOwn (model X.prog X.w) X.A X.env xe → PSs (X.tr pn xe) body (tb W))
    (hsu : ∀ (a : Addr) (oe : Obj) (cls : Value) (d : Option Addr) (pn : List (Addr × Obj)), Zc cls d oe → (∃ vs, oe.data = .fields vs) → PSs (X.suite a ((a, oe) :: pn)) (b₀ :: suite) (ts a cls d)) :
    PS X (.Try body [.ExceptHandler (some (.Name x np)) none (b₀ :: suite) pos'] [] [] pos) (fun D σ H => tb (wOnly X.K c ts (fun _ _ _ _ => False) D) D σ H) := ps_try_only hs hf hc takes_no hb hsu
end
theorem src_but {H H' : Hp} {c p p2 : Addr} (h : Src c H p) (b : But p2 H H') (h1 : p ≠ p2) (h2 : c ≠ p2) : Src c H' p := by
  obtain ⟨cs, pl, dg, ct, mx, e1, e2, h3⟩ := h
  exact ⟨cs, pl, dg, ct, mx, b _ _ h1 e1, b _ _ h2 e2, h3⟩
theorem nx_mk {N : L2.St → Hp → Prop} {r : VK} {b c : L2.St → Hp → Prop} {σ : L2.St} {H : Hp} (h : N σ H) : ({ nx := N, rt := r, bk := b, ct := c } : Ends).nx σ H := h
theorem seq_st {t v : TS} {D : Ends} {σ : L2.St} {H : Hp} (I : L2.St → Hp → Prop) (ht : ∀ N : L2.St → Hp → Prop, (∀ σ' H', I σ' H' → N σ' H') → t { D with nx := N } σ H) (h : ∀ σ' H', I σ' H' → v D σ' H') : tSeq t v D σ H := ht _ h
theorem but_fresh {H H1 H2 : Hp} {p p2 : Addr} (b : But p H H1) (b2 : But p2 H1 H2) (h : H p2 = none) : But p H H2 := fun q o n e => b2 _ _ (fun z => by rw [z, h] at e; cases e) (b _ _ n e)
def two2 : Str := Str.ofString "2"
theorem two_inj {a b : Str} (h : a ++ two2 = b ++ two2) : a = b := by
  have := congrArg (fun s : Str => s.cps.toList) h
  simp only [cps_app] at this
  exact str_ext' (List.append_cancel_right this)
theorem do_so {s : Str} (h : DO s) : SO s := fun c hc => by
  have all : ∀ c ∈ LTR ++ DIG, c < 0x110000 := by decide +kernel
  exact all c (h c hc)
theorem putK_mem {kvs : List (List Key × V)} {k : List Key} {v : V} {kv : List Key × V} (h : kv ∈ putK kvs k v) : kv.1 = k ∨ ∃ kv' ∈ kvs, kv.1 = kv'.1 := by
  unfold putK at h
  split at h
  · obtain ⟨a, ha, e⟩ := List.mem_map.mp h
    split at e
    · rename_i e2
      left
      rw [← e]
      exact e2
    · right
      exact ⟨a, ha, by rw [← e]⟩
  · rcases List.mem_append.mp h with z | z
    · exact .inr ⟨kv, z, rfl⟩
    · left
      rw [List.mem_singleton.mp z]
theorem kv_put {kvs : List (List Key × V)} {k : List Key} {v : V} (h : KvOk kvs) (hl : kvs.length ≤ 500) (hk : k.length ≤ 10 ∧ ∀ x ∈ k, LayK x) (hv : v = .non ∨ ∃ i, v = .int i) : KvOk (putK kvs k v) := by
  refine ⟨Nat.le_trans (length_putK _ _ _) (by omega), fun j u e => ?_, fun kv hm => ?_⟩
  · rw [valV_put] at e
    split at e
    · rw [← Option.some.inj e]
      exact hv
    · exact h.2.1 j u e
  · rcases putK_mem hm with z | ⟨kv', h1, h2⟩
    · rw [z]
      exact hk
    · rw [h2]
      exact h.2.2 _ h1
theorem putT_nd {kv : List (List Key × V)} {k : List Key} {v : V} (n : (kv.map (·.1)).Nodup) : ((putK kv k v).map (·.1)).Nodup := by
  unfold putK
  split
  · rw [List.map_map]
    have : (kv.map ((fun p : List Key × V => p.1) ∘ fun q => if q.1 = k then (q.1, v) else q)) = kv.map (·.1) := List.map_congr_left fun q _ => by
      show (if q.1 = k then (q.1, v) else q).1 = q.1
      split <;> rfl
    rw [this]
    exact n
  · rename_i h
    rw [List.map_append]
    refine List.nodup_append.mpr ⟨n, List.pairwise_singleton _ _, fun a ha b hb e => h ?_⟩
    rw [List.map_singleton, List.mem_singleton] at hb
    obtain ⟨q, hq, e2⟩ := List.mem_map.mp ha
    exact List.any_eq_true.mpr ⟨q, hq, decide_eq_true (by rw [e2, e, hb])⟩
/-- facts: a dict fit for asking -/
structure KwOk (kv : List (List Key × V)) (n : Nat) : Prop where
  sm : SmF kv
  ok : KvOk kv
  nd : (kv.map (·.1)).Nodup
  len : kv.length ≤ n
theorem KwOk.nil : KwOk [] 0 := ⟨⟨fun k v h => (by cases h), fun k i h => (by cases h)⟩, ⟨by decide, fun k v h => (by cases h), fun kv h => (by cases h)⟩, List.nodup_nil, Nat.le_refl 0⟩
theorem KwOk.put {kv : List (List Key × V)} {n : Nat} (h : KwOk kv n) (hn : n ≤ 100) {k : List Key} {o : Option Int} (hk : k.length ≤ 10 ∧ ∀ x ∈ k, LayK x) (ho : SmO o) : KwOk (putK kv k (optI o)) (n + 1) := by
  have hv : optI o = .non ∨ ∃ i, optI o = .int i := by
    cases o
    · exact .inl rfl
    · exact .inr ⟨_, rfl⟩
  have k2 := kv_put h.ok (by have := h.len; omega) hk hv
  refine ⟨⟨k2.2.1, fun j => ?_⟩, k2, putT_nd h.nd, Nat.le_trans (length_putK _ _ _) (by have := h.len; omega)⟩
  rw [lk_put]
  split
  · exact ho
  · exact h.sm.2 j
theorem KwOk.up {kv : List (List Key × V)} {n m : Nat} (h : KwOk kv n) (l : n ≤ m) : KwOk kv m := ⟨h.sm, h.ok, h.nd, Nat.le_trans h.len l⟩
theorem home_ok : kHome.length ≤ 10 ∧ ∀ x ∈ kHome, LayK x := ⟨(show 1 ≤ 10 by decide), fun x hx => by rw [List.mem_singleton.mp hx]; exact so_dec (by decide +kernel)⟩
theorem nolet_ok : (kLet (Str.ofString "nolet")).length ≤ 10 ∧ ∀ x ∈ kLet (Str.ofString "nolet"), LayK x := ⟨(show 2 ≤ 10 by decide), fun x hx => by
  rcases List.mem_cons.mp hx with e | e
  · rw [e]; exact so_dec (by decide +kernel)
  · rw [List.mem_singleton.mp e]; exact so_dec (by decide +kernel)⟩
def FV : List V := [.non, .int 0, .int 1, .int 5, .int (-7), .int 1000000000]
theorem fv_at {k : Nat} (h : k < 6) : ∃ o : Option Int, FV[k]? = some (optI o) ∧ SmO o := by
  match k, h with
  | 0, _ => exact ⟨none, rfl, fun i z => nomatch z⟩
  | 1, _ => exact ⟨some 0, rfl, fun i z => by cases z; exact ⟨by decide, by decide⟩⟩
  | 2, _ => exact ⟨some 1, rfl, fun i z => by cases z; exact ⟨by decide, by decide⟩⟩
  | 3, _ => exact ⟨some 5, rfl, fun i z => by cases z; exact ⟨by decide, by decide⟩⟩
  | 4, _ => exact ⟨some (-7), rfl, fun i z => by cases z; exact ⟨by decide, by decide⟩⟩
  | 5, _ => exact ⟨some 1000000000, rfl, fun i z => by cases z; exact ⟨by decide, by decide⟩⟩
  | n + 6, h => exact absurd h (by omega)
theorem LtH.frame {H H' : Hp} {d : Addr} {l : SV} {t : Str → Tr} (h : LtH H d l t) (e : H' d = some (.dK (kvS l))) (tn : Tn H H') : LtH H' d l t :=
  ⟨e, h.nd, fun p hp => (h.val p hp).up tn, h.ok, h.few⟩
theorem LtH.put {H : Hp} {d : Addr} {l : SV} {t : Str → Tr} {x : Str} {v : V} {m : Int} (h : LtH H d l t) (hx : x ∈ l.map (·.1)) (hv : TrK H v (.num m)) : LtH (upd H d (.dK (putK (kvS l) (.inr x) v))) d (putA l x v) (fun y => if y = x then .num m else t y) := by
  have tn : Tn H (upd H d (.dK (putK (kvS l) (.inr x) v))) := Tn.put fun xs z => by rw [h.dd] at z; cases z
  have nm : (putA l x v).map (·.1) = l.map (·.1) := by rw [putA_names, if_pos hx]
  refine ⟨by rw [upd_same, kvS_putA], putA_nd h.nd, fun q hq => ?_, fun y hy => ?_, ?_⟩
  · rcases putA_mem.mp hq with e | ⟨e1, e2⟩
    · subst e
      show TrK _ v (if x = x then .num m else t x)
      rw [if_pos rfl]
      exact hv.up tn
    · show TrK _ q.2 (if q.1 = x then .num m else t q.1)
      rw [if_neg e2]
      exact (h.val q e1).up tn
  · rw [nm] at hy
    show LT (if y = x then .num m else t y) ∧ dep (if y = x then .num m else t y) ≤ 12 ∧ (namT (if y = x then .num m else t y)).length ≤ 100
    by_cases c : y = x
    · rw [if_pos c]
      exact ⟨True.intro, Nat.zero_le _, Nat.zero_le _⟩
    · rw [if_neg c]
      exact h.ok y hy
  · have := congrArg List.length nm
    rw [List.length_map, List.length_map] at this
    rw [this]
    exact h.few
section
variable {P : Program} {w : World} {K : PySem.W.Frag} {mg : Str → Option Value} {base : Heap} {A : Ads}
def spLaw (K : PySem.W.Frag) : Sp := fun vs H Q _ => ∃ (a : Addr) (ns : List Int), vs = [.ref a] ∧ SqL K H a (ns.map V.int) ∧ ns.length ≤ 63 ∧ ∀ H', Q (.bl true) H'
theorem ok_law (T : Txt K mg A) : FnOk P w K mg base CX0 80 A.a_law A.d_law ["_law_script"] (spLaw K) := by
    refine T.F_law.ok sc_law (fun vs H Q E h => ?_) (fun cdv B outer s H vs Q E hr h => ?_)
    · obtain ⟨a, ns, rfl, _⟩ := h
      rfl
    · obtain ⟨a, ns, rfl, ha, hl, q⟩ := h
      refine ⟨_, (pss_cons (ps_set (i := 1) sc_law.nd rfl (.inl rfl) (pe_call (ok_law_source T) (hr.mono (by omega)) rfl T.g_law_source T.F_law_source.kp T.b_law_source .nil pass0 (pa_cons (pv 0) pa_nil)))
    (pss_cons (ps_set (i := 2) sc_law.nd rfl (.inl rfl) (pe_call (ok_law_draw T) (hr.mono (by omega)) rfl T.g_law_draw T.F_law_draw.kp T.b_law_draw .nil pass0 (pa_cons (pv 1) (pa_cons pe_int pa_nil))))
    (pss_cons (ps_if (pt_cmpR op_eq (pe_call (ok_law_draw T) (hr.mono (by omega)) rfl T.g_law_draw T.F_law_draw.kp T.b_law_draw .nil pass0 (pa_cons (pv 1) (pa_cons pe_int pa_nil))) pe_int (nomark _)) (pss_one (ps_set (i := 2) sc_law.nd rfl (.inl rfl) (pe_op op_add pe_int (pe_op op_mod (pe_callTy call_int1 (by rfl) T.n_int (by decide +kernel) (pa_cons (pv 2) pa_nil)) pe_int)))) pss_nil)
    (pss_cons (ps_setLc (i := 4) (own := [("_law_name", 3)]) rfl sc_law.nd rfl rfl (sw_true rfl rfl rfl (by decide +kernel)) (pi_list (pe_call (ok_law_names T) (hr.mono (by omega)) rfl T.g_law_names T.F_law_names.kp T.b_law_names .nil pass0 (pa_cons (pe_call (ok_law_source T) (hr.mono (by omega)) rfl T.g_law_source T.F_law_source.kp T.b_law_source .nil pass0 (pa_cons (pe_op op_cat (pe_slice sl_list (pv 0) (po_some pe_int) po_none) (pe_slice sl_list (pv 0) po_none (po_some pe_int))) pa_nil)) (pa_cons (pv 2) pa_nil)))) (blkOk_by (own := [("_law_name", 3)]) (N := N_law) (sc := defScope s_law) (by decide +kernel)) (fun _ _ _ _ _ => pg_name (i := 3) sc_law.nd rfl (Or.inl rfl)) (fun _ _ _ _ _ => pts_nil) (fun _ _ _ _ _ => by exact (pe_op op_add_str (pv 3) pe_str)))
    (pss_cons (ps_set (i := 5) sc_law.nd rfl (.inl rfl) (pe_call (ok_law_lets T) (hr.mono (by omega)) rfl T.g_law_lets T.F_law_lets.kp T.b_law_lets .nil pass0 (pa_cons (pv 1) (pa_cons (pe_call (ok_law_mixed T) (hr.mono (by omega)) rfl T.g_law_mixed T.F_law_mixed.kp T.b_law_mixed .nil pass0 (pa_cons (pv 1) (pa_cons (pv 4) pa_nil))) pa_nil))))
    (pss_cons (ps_set (i := 6) sc_law.nd rfl (.inl rfl) pe_dnewT)
    (pss_cons (ps_if (pt_cmpR op_gt (pe_call (ok_law_draw T) (hr.mono (by omega)) rfl T.g_law_draw T.F_law_draw.kp T.b_law_draw .nil pass0 (pa_cons (pv 1) (pa_cons pe_int pa_nil))) pe_int (nomark _)) (pss_one (ps_dput (hu_of hr) (pv 6) (pe_tup (pa_cons pe_str pa_nil)) (pe_ix ix_tup (pe_tup (pa_cons pe_non (pa_cons pe_int (pa_cons pe_int (pa_cons pe_int (pa_cons (pe_un un_neg pe_int) (pa_cons pe_int pa_nil))))))) (pe_call (ok_law_draw T) (hr.mono (by omega)) rfl T.g_law_draw T.F_law_draw.kp T.b_law_draw .nil pass0 (pa_cons (pv 1) (pa_cons pe_int pa_nil))) (fun _ _ => rfl)) rfl)) pss_nil)
    (pss_cons (ps_if (pt_cmpR op_eq (pe_call (ok_law_draw T) (hr.mono (by omega)) rfl T.g_law_draw T.F_law_draw.kp T.b_law_draw .nil pass0 (pa_cons (pv 1) (pa_cons pe_int pa_nil))) pe_int (nomark _)) (pss_one (ps_dput (hu_of hr) (pv 6) (pe_tup (pa_cons pe_str (pa_cons pe_str pa_nil))) pe_int rfl)) pss_nil)
    (pss_cons (ps_set (i := 7) sc_law.nd rfl (.inl rfl) pe_dnewK)
    (pss_cons (ps_for PassesOwn.never rfl (pi_list (pe_revL (pe_callTy (show CallR _ (.type "list") rListD from call_list_dK rfl) (by rfl) T.n_list (by decide +kernel) (pa_cons (pv 5) pa_nil)))) (pg_name (i := 3) sc_law.nd rfl (.inl rfl))
      (pss_one (ps_dput (hu_of hr) (pv 7) (pv 3) (pe_dget (hu_of hr) (pv 5) (pv 3) (fun _ _ => rfl)) rfl)))
    (pss_cons (ps_set (i := 8) sc_law.nd rfl (.inl rfl) pe_dnewK)
    (pss_cons (ps_lock (ps_for PassesOwn.never rfl (pi_keys (pv 5)) (pg_name (i := 3) sc_law.nd rfl (.inl rfl))
      (pss_one (ps_dput (hu_of hr) (pv 8) (pv 3) (pe_dget (hu_of hr) (pv 5) (pv 3) (fun _ _ => rfl)) rfl))))
    (pss_cons (ps_set (i := 9) sc_law.nd rfl (.inl rfl) (pe_call (ok_law_ring T) (hr.mono (by omega)) rfl T.g_law_ring T.F_law_ring.kp T.b_law_ring .nil pass0 (pa_cons (pv 5) pa_nil)))
    (pss_cons (ps_if (pt_cmpR op_notN (pv 9) pe_non (nomark _)) (pss_one (ps_dput (hu_of hr) (pv 8) (pe_ix ix_seq (pv 9) pe_int (fun _ _ => rfl)) (pe_tup (pa_cons pe_str (pa_cons pe_int pa_nil))) rfl)) (pss_one (ps_if (pt_cmpR op_gt (pv 2) pe_int (nomark _)) (pss_one (ps_dput (hu_of hr) (pv 8) (pe_ix ix_list (pv 4) (pe_call (ok_law_draw T) (hr.mono (by omega)) rfl T.g_law_draw T.F_law_draw.kp T.b_law_draw .nil pass0 (pa_cons (pv 1) (pa_cons (pv 2) pa_nil))) (fun _ _ => rfl)) (pe_tup (pa_cons pe_str (pa_cons pe_int pa_nil))) rfl)) pss_nil)))
    (pss_one (ps_try_onlyN rfl rfl ⟨rfl, by decide, .inl T.g_RomError⟩ (fun W pn xe tk _ => (pss_cons (ps_if (PW.pt (pw_or (pt_not (pt_val (pe_call (ok_law_asked T) (hr.mono (by omega)) rfl T.g_law_asked T.F_law_asked.kp T.b_law_asked .nil pass0 (pa_cons (pv 5) (pa_cons (pv 6) pa_nil))))) (pw_or (pt_not (pt_val (pe_call (ok_law_asked T) (hr.mono (by omega)) rfl T.g_law_asked T.F_law_asked.kp T.b_law_asked .nil pass0 (pa_cons (pv 7) (pa_cons (pv 6) pa_nil))))) (pw_or1 (pt_not (pt_val (pe_call (ok_law_asked T) (hr.mono (by omega)) rfl T.g_law_asked T.F_law_asked.kp T.b_law_asked .nil pass0 (pa_cons (pv 8) (pa_cons (pv 6) pa_nil))))))))) (pss_one (ps_ret pe_bl)) pss_nil)
    (pss_one (ps_ret (pe_and (pe_call (ok_law_asked T) (hr.mono (by omega)) rfl T.g_law_asked T.F_law_asked.kp T.b_law_asked .nil pass0 (pa_cons (pv 5) (pa_cons pe_dnewT pa_nil))) (pe_one (pe_call (ok_law_asked T) (hr.mono (by omega)) rfl T.g_law_asked T.F_law_asked.kp T.b_law_asked .nil pass0 (pa_cons (pv 5) (pa_cons (pv 6) pa_nil)))))))))
      (fun a o cls d ps hz hf => (pss_one (ps_ret pe_bl))))))))))))))))))), ?_⟩
      refine ⟨_, rfl, a, ns, rfl, ha, hl, fun H1 c p s1 nc0 np0 hs1 => ?_⟩
      refine ⟨_, rfl, c, p, 9, rfl, hs1, by decide, by decide, fun H2 n0 ln0 hs2 b2 => ?_⟩
      have bb2 : But p H H2 := (But.of s1).trans b2
      have hap : ∀ {H' : Hp}, But p H H' → SqL K H' a (ns.map V.int) := fun {H'} b => by
        rcases ha with (h | ⟨o, h⟩) | h
        · exact .inl (.inl (b _ _ (fun z => by rw [z, np0] at h; cases h) h))
        · exact .inl (.inr ⟨o, b _ _ (fun z => by rw [z, np0] at h; cases h) h⟩)
        · exact .inr h
      dsimp (config := { proj := false }) only [gName]
      refine nx_mk ?_
      refine seq_st (fun σ' H' => ∃ n : Nat, n ≤ 16 ∧ σ' = [some (.ref a), some (.ref p), some (.int (n : Int)), none, none, none, none, none, none, none] ∧ Src c H' p ∧ But p H H') (fun N hN => ?_) (fun σ' H3 hI => ?_)
      · refine ⟨_, rfl, c, p, 4, rfl, hs2, by decide, by decide, fun H3 k lk hs3 b3 => ?_⟩
        refine ⟨rfl, _, rfl, ?_⟩
        refine ifB (fun c1 => ?_) (fun c1 => ?_)
        · refine ⟨_, rfl, .inl ⟨_, rfl, _, _, rfl, rfl, (show (0 : Int) < 8 by decide), _, _, rfl, rfl, ?_⟩⟩
          exact hN _ _ ⟨9 + n0 % 8, by omega, rfl, hs3, bb2.trans b3⟩
        · exact hN _ _ ⟨n0, by omega, rfl, hs3, bb2.trans b3⟩
      obtain ⟨n, hn, rfl, hs3, b3⟩ := hI
      clear hs2 bb2 b2 hs1 s1
      have hil : (ns.map V.int).length = ns.length := List.length_map _
      unfold tNoPart
      refine ⟨_, rfl, 1, rfl, a, _, rfl, hap b3, fun l1 hl1 => ?_⟩
      rw [show cutV (ns.map V.int) (some 1) none = (ns.drop 1).map V.int from by rw [List.map_drop]; exact cutV_lo (xs := ns.map V.int) 1]
      have s4 := same_new (o := .lst ((ns.drop 1).map V.int)) hl1
      have e4 : upd H3 l1 (.lst ((ns.drop 1).map V.int)) l1 = some (.lst ((ns.drop 1).map V.int)) := upd_same
      generalize upd H3 l1 (.lst ((ns.drop 1).map V.int)) = H4 at s4 e4 ⊢
      refine ⟨_, rfl, 1, rfl, a, _, rfl, sqL_up (hap b3) s4, fun l2 hl2 => ?_⟩
      rw [show cutV (ns.map V.int) none (some 1) = (ns.take 1).map V.int from by rw [List.map_take]; exact cutV_hi (xs := ns.map V.int) 1]
      have s5 := same_new (o := .lst ((ns.take 1).map V.int)) hl2
      have e5 : upd H4 l2 (.lst ((ns.take 1).map V.int)) l2 = some (.lst ((ns.take 1).map V.int)) := upd_same
      generalize upd H4 l2 (.lst ((ns.take 1).map V.int)) = H5 at s5 e5 ⊢
      have hlen : (ns.drop 1 ++ ns.take 1).length ≤ 63 := by rw [List.length_append, List.length_drop, List.length_take]; omega
      refine ⟨l1, l2, _, _, rfl, rfl, s5 _ _ e4, e5, Nat.le_trans (show _ ≤ 63 by rw [← List.length_append, ← List.map_append, List.length_map]; exact hlen) (by decide), fun l3 hl3 => ?_⟩
      have s6 := same_new (o := .lst ((ns.drop 1).map V.int ++ (ns.take 1).map V.int)) hl3
      have e6 : upd H5 l3 (.lst ((ns.drop 1).map V.int ++ (ns.take 1).map V.int)) l3 = some (.lst ((ns.drop 1 ++ ns.take 1).map V.int)) := by rw [upd_same, List.map_append]
      generalize upd H5 l3 (.lst ((ns.drop 1).map V.int ++ (ns.take 1).map V.int)) = H6 at s6 e6 ⊢
      have s36 := s4.trans (s5.trans s6)
      have hs6 := src_up hs3 s36
      refine ⟨l3, ns.drop 1 ++ ns.take 1, rfl, SqL.of e6, hlen, fun H7 c' p' s7 nc' np' hs7' => ?_⟩
      have hs7 := src_up hs6 s7
      have b7 : But p H H7 := b3.trans (But.of (s36.trans s7))
      have hp'p : p ≠ p' := fun z => src_ne hs6 (z ▸ np')
      have hp'c : c ≠ p' := fun z => src_cne hs6 (z ▸ np')
      have hp'H : H p' = none := by
        cases hh : H p' with
        | none => rfl
        | some o => rw [(b3.trans (But.of s36)) _ _ (Ne.symm hp'p) hh] at np'; cases np'
      refine ⟨_, rfl, c', p', n, rfl, hs7', by omega, fun H8 l8 hs8' b8 nl8 hss => ?_⟩
      obtain ⟨ss, el8, hsl, hnm, hsn⟩ := hss
      have hs8 := src_but hs7 b8 hp'p hp'c
      have bb8 : But p H H8 := but_fresh b7 b8 hp'H
      have hssl : (ss.map V.str).length = ss.length := List.length_map _
      refine ⟨l8, rfl, ⟨_, SqL.of el8⟩, fun D hD => ?_⟩
      refine lc_inv (walk_list (K := K) (a := l8) (xs := ss.map V.str)) (fun j v => (ss.map V.str)[j]? = some v) (fun j ac Hy => Same H8 Hy ∧ ac = ((ss.take j).map fun s => s ++ two2).map V.str) (by omega) ⟨same_new hD, rfl⟩ (fun j ac Hy h => SqL.of (h.1 _ _ el8)) (fun j Hy v Hy' hj y => y) (fun j v ac Hy hj hacl pv eDy hv Q2 q2 => ?_) (fun ac Hy hacl pv eDy => ?_)
      · obtain ⟨sy, rfl⟩ := pv
        rw [hssl] at hj
        have hx : ss[j]? = some ss[j] := List.getElem?_eq_getElem hj
        rw [List.getElem?_map, hx] at hv
        cases hv
        have htk : ss.take (j + 1) = ss.take j ++ [ss[j]] := by rw [List.take_add_one, hx]; rfl
        have hxn := hnm _ (List.getElem_mem hj)
        generalize ss[j] = x at *
        refine ⟨_, rfl, x, _, rfl, rfl, Nat.le_trans (show _ ≤ 10 by have := hxn.hi; rw [show (Str.ofString "2").length = 1 from by decide +kernel]; omega) (by decide), ?_⟩
        exact q2 _ Hy eDy ⟨same_mut sy hD, by rw [htk, List.map_append, List.map_append]; rfl⟩
      obtain ⟨sy, rfl⟩ := pv
      rw [hssl, List.take_length] at eDy
      obtain ⟨ks, hks⟩ : ∃ ks : List Str, ks = ss.map fun s => s ++ two2 := ⟨_, rfl⟩
      rw [← hks] at eDy
      have hkl : ks.length = n := by rw [hks, List.length_map, hsl]
      have hknd : ks.Nodup := by
        rw [hks]
        refine List.pairwise_map.mpr (hsn.imp fun h e => h (two_inj e))
      have hkso : ∀ x ∈ ks, SO x := fun x hx => by
        rw [hks] at hx
        obtain ⟨s, hs, rfl⟩ := List.mem_map.mp hx
        exact so_app (do_so (hnm s hs).al) (so_dec (by decide +kernel))
      have hDp : D ≠ p := fun z => src_ne hs8 (z ▸ hD)
      have hs9 := src_up hs8 sy
      have b9 : But p H Hy := bb8.trans (But.of sy)
      have hDc0 : ∀ {q0 : Addr} {H0 : Hp}, H0 q0 = none → Src c H0 p → q0 ≠ p ∧ q0 ≠ c := fun h0 h1 => ⟨fun z => src_ne h1 (z ▸ h0), fun z => src_cne h1 (z ▸ h0)⟩
      have frH : ∀ {q0 : Addr} {H0 : Hp}, H0 q0 = none → But p H H0 → q0 ≠ p → H q0 = none := fun {q0 H0} h0 b h1 => by
        cases hh : H q0 with
        | none => rfl
        | some o => rw [b _ _ h1 hh] at h0; cases h0
      clear hs8' b8 hs8 bb8 hs7' hs7 b7 hs6 s36 s6 s5 s4 e4 e5 e6 el8 s7
      refine ⟨_, rfl, _, rfl, _, rfl, c, p, D, ks, rfl, hs9, hDp, eDy, by omega, fun H10 r ms hs10 b10 nr er pm => ?_⟩
      have hrp : r ≠ p := fun z => src_ne hs9 (z ▸ nr)
      have mnd : ms.Nodup := pm.nodup_iff.mpr hknd
      have hmso : ∀ x ∈ ms, SO x := fun x hx => hkso x (pm.mem_iff.mp hx)
      have hml := pm.length_eq
      refine ⟨c, p, r, ms, rfl, hs10, hrp, er, by omega, hmso, mnd, fun H11 Ld l t hs11 b11 nL eL pmL ts => ?_⟩
      have b1011 := b10.trans b11
      have bN := b9.trans b1011
      have eDN := b1011 _ _ hDp eDy
      have pmk := pmL.trans pm
      have lnd : (l.map (·.1)).Nodup := pmk.nodup_iff.mpr hknd
      have lmem : ∀ x, x ∈ l.map (·.1) ↔ x ∈ ks := fun x => pmk.mem_iff
      have hll : l.length = n := by
        have := pmk.length_eq
        rw [List.length_map] at this
        omega
      have lso : ∀ x ∈ l.map (·.1), SO x := fun x hx => hkso x ((lmem x).mp hx)
      have ltH : LtH H11 Ld l t := ⟨eL, lnd, fun q hq => (ts q hq).1, fun x hx => by
        obtain ⟨q, hq, rfl⟩ := List.mem_map.mp hx
        obtain ⟨t1, t2, t3, t4⟩ := (ts q hq).2
        exact ⟨t1, by omega, by omega⟩, by omega⟩
      have nok : ∀ x ∈ l.map (·.1), numOk (t x) ∧ SO x := fun x hx => ⟨by
        obtain ⟨q, hq, rfl⟩ := List.mem_map.mp hx
        exact (ts q hq).2.2.1, lso x hx⟩
      have hLp := (hDc0 nL hs10).1
      clear hs10 b10 b11 hs9 b9 b1011 er
      refine fun Fa nF => ?_
      have hFp := (hDc0 nF hs11).1
      have hFc := (hDc0 nF hs11).2
      have hFH := frH nF bN hFp
      have hFL : Fa ≠ Ld := fun z => by rw [z, eL] at nF; cases nF
      have hFD : Fa ≠ D := fun z => by rw [z, eDN] at nF; cases nF
      have s12 := same_new (o := .dT []) nF
      have eF12 : upd H11 Fa (.dT []) Fa = some (.dT []) := upd_same
      generalize upd H11 Fa (.dT []) = H12 at s12 eF12 ⊢
      have hs12 := src_up hs11 s12
      have b12 := bN.trans (But.of s12)
      have lt12 := ltH.up s12
      have eD12 := s12 _ _ eDN
      dsimp (config := { proj := false }) only [gName]
      refine nx_mk ?_
      refine seq_st (fun σ' H' => ∃ kv : List (List Key × V), σ' = [some (.ref a), some (.ref p), some (.int (n : Int)), none, some (.ref D), some (.ref Ld), some (.ref Fa), none, none, none] ∧ Src c H' p ∧ But p H H' ∧ H' Fa = some (.dT kv) ∧ LtH H' Ld l t ∧ H' D = some (.lst (ks.map V.str)) ∧ KwOk kv 1) (fun N hN => ?_) (fun σ' H13 hI => ?_)
      · refine ⟨_, rfl, c, p, 5, rfl, hs12, by decide, by decide, fun H14 k lk hs14 b14 => ?_⟩
        have tn14 := src_tn hs12 b14
        have lt14 : LtH H14 Ld l t := ⟨b14 _ _ hLp lt12.dd, lt12.nd, fun q hq => (lt12.val q hq).up tn14, lt12.ok, lt12.few⟩
        have eF14 := b14 _ _ hFp eF12
        have eD14 := b14 _ _ hDp eD12
        have b14 := b12.trans b14
        refine ⟨_, _, rfl, rfl, _, rfl, ?_⟩
        refine ifB (fun c1 => ?_) (fun c1 => ?_)
        · refine ⟨_, rfl, lenOk (n := 6) rfl (by decide), fun ot hot => ?_⟩
          have s15 := same_new (o := .tup FV) hot
          have e15 : upd H14 ot (.tup FV) ot = some (.tup FV) := upd_same
          unfold FV at s15 e15
          generalize upd H14 ot _ = H15 at s15 e15 ⊢
          have hs15 := src_up hs14 s15
          refine ⟨_, rfl, c, p, 6, rfl, hs15, by decide, by decide, fun H16 k2 lk2 hs16 b16 => ?_⟩
          obtain ⟨o, ho1, ho2⟩ := fv_at (k := k2) (by omega)
          have tn16 := src_tn hs15 b16
          refine ⟨ot, _, _, _, rfl, rfl, SqT.of (tn16 _ _ e15), atI_nat ho1, ?_⟩
          have lt16 : LtH H16 Ld l t := ⟨b16 _ _ hLp (s15 _ _ lt14.dd), lt14.nd, fun q hq => ((lt14.val q hq).ups s15).up tn16, lt14.ok, lt14.few⟩
          have eF16 := b16 _ _ hFp (s15 _ _ eF14)
          have eD16 := b16 _ _ hDp (s15 _ _ eD14)
          have bb16 := b14.trans ((But.of s15).trans b16)
          refine ⟨_, rfl, lenOk (n := 1) rfl (by decide), fun qa hqa => ?_⟩
          have s17 := same_new (o := .tup [V.str (Str.ofString "home")]) hqa
          have e17 : upd H16 qa (.tup [V.str (Str.ofString "home")]) qa = some (.tup [V.str (Str.ofString "home")]) := upd_same
          generalize upd H16 qa (.tup [V.str (Str.ofString "home")]) = H17 at s17 e17 ⊢
          have eF17 := s17 _ _ eF16
          refine ⟨Fa, _, rfl, DPut.t (k := kHome) eF17 e17 (by decide), ?_⟩
          have tn18 : Tn H17 (upd H17 Fa (.dT (putK [] kHome (optI o)))) := Tn.put fun xs z => by rw [eF17] at z; cases z
          refine hN _ _ ⟨putK [] kHome (optI o), rfl, src_put (src_up hs16 s17) hFp hFc, but_new (bb16.trans (But.of s17)) hFH, upd_same, ⟨by rw [upd_ne (Ne.symm hFL)]; exact s17 _ _ lt16.dd, lt16.nd, fun q hq => ((lt16.val q hq).ups s17).up tn18, lt16.ok, lt16.few⟩, by rw [upd_ne (Ne.symm hFD)]; exact s17 _ _ eD16, KwOk.nil.put (by decide) home_ok ho2⟩
        · exact hN _ _ ⟨[], rfl, hs14, b14, eF14, lt14, eD14, KwOk.nil.up (Nat.zero_le _)⟩
      obtain ⟨kv, rfl, hs13, b13, eF13, lt13, eD13, kw⟩ := hI
      refine seq_st (fun σ' H' => ∃ kv : List (List Key × V), σ' = [some (.ref a), some (.ref p), some (.int (n : Int)), none, some (.ref D), some (.ref Ld), some (.ref Fa), none, none, none] ∧ Src c H' p ∧ But p H H' ∧ H' Fa = some (.dT kv) ∧ LtH H' Ld l t ∧ H' D = some (.lst (ks.map V.str)) ∧ KwOk kv 2) (fun N hN => ?_) (fun σ' H20 hI => ?_)
      · refine ⟨_, rfl, c, p, 3, rfl, hs13, by decide, by decide, fun H16 k lk hs16 b16 => ?_⟩
        have tn16 := src_tn hs13 b16
        have lt16 : LtH H16 Ld l t := ⟨b16 _ _ hLp lt13.dd, lt13.nd, fun q hq => (lt13.val q hq).up tn16, lt13.ok, lt13.few⟩
        have eF16 := b16 _ _ hFp eF13
        have eD16 := b16 _ _ hDp eD13
        have bb16 := b13.trans b16
        refine ⟨rfl, _, rfl, ?_⟩
        refine ifB (fun c1 => ?_) (fun c1 => ?_)
        · refine ⟨_, rfl, lenOk (n := 2) rfl (by decide), fun qa hqa => ?_⟩
          have s17 := same_new (o := .tup [V.str (Str.ofString "let"), V.str (Str.ofString "nolet")]) hqa
          have e17 : upd H16 qa (.tup [V.str (Str.ofString "let"), V.str (Str.ofString "nolet")]) qa = some (.tup [V.str (Str.ofString "let"), V.str (Str.ofString "nolet")]) := upd_same
          generalize upd H16 qa (.tup [V.str (Str.ofString "let"), V.str (Str.ofString "nolet")]) = H17 at s17 e17 ⊢
          have eF17 := s17 _ _ eF16
          refine ⟨Fa, _, rfl, DPut.t (k := kLet (Str.ofString "nolet")) eF17 e17 (Nat.lt_of_le_of_lt kw.len (by decide)), ?_⟩
          have tn18 : Tn H17 (upd H17 Fa (.dT (putK kv (kLet (Str.ofString "nolet")) (optI (some 2))))) := Tn.put fun xs z => by rw [eF17] at z; cases z
          refine hN _ _ ⟨putK kv (kLet (Str.ofString "nolet")) (optI (some 2)), rfl, src_put (src_up hs16 s17) hFp hFc, but_new (bb16.trans (But.of s17)) hFH, upd_same, ⟨by rw [upd_ne (Ne.symm hFL)]; exact s17 _ _ lt16.dd, lt16.nd, fun q hq => ((lt16.val q hq).ups s17).up tn18, lt16.ok, lt16.few⟩, by rw [upd_ne (Ne.symm hFD)]; exact s17 _ _ eD16, kw.put (by decide) nolet_ok fun i z => by cases z; exact ⟨by decide, by decide⟩⟩
        · exact hN _ _ ⟨kv, rfl, hs16, bb16, eF16, lt16, eD16, kw.up (by decide)⟩
      obtain ⟨kv2, rfl, hs20, b20, eF20, lt20, eD20, kw2⟩ := hI
      refine fun Ta nT => ?_
      have hTp := (hDc0 nT hs20).1
      have hTc := (hDc0 nT hs20).2
      have hTH := frH nT b20 hTp
      have hTL : Ta ≠ Ld := fun z => by rw [z, lt20.dd] at nT; cases nT
      have hTF : Ta ≠ Fa := fun z => by rw [z, eF20] at nT; cases nT
      have hTD : Ta ≠ D := fun z => by rw [z, eD20] at nT; cases nT
      have s21 := same_new (o := .dK []) nT
      have eT21 : upd H20 Ta (.dK []) Ta = some (.dK (kvS [])) := upd_same
      generalize upd H20 Ta (.dK []) = H21 at s21 eT21 ⊢
      refine ⟨_, rfl, Ld, _, rfl, s21 _ _ lt20.dd, fun r0 nr0 => ?_⟩
      generalize hH22 : upd H21 r0 _ = H22
      have s22 : Same H21 H22 := hH22 ▸ same_new nr0
      have e22 : H22 r0 = some (.lst ((l.map (·.1)).map V.str)) := by
        rw [← hH22, upd_same]
        unfold kvS
        rw [List.map_map, List.map_map]
        rfl
      clear hH22
      refine ⟨r0, _, rfl, SqL.of e22, fun r1 nr1 => ?_⟩
      generalize hH23 : upd H22 r1 _ = H23
      have s23 : Same H22 H23 := hH23 ▸ same_new nr1
      have e23 : H23 r1 = some (.lst ((l.map (·.1)).reverse.map V.str)) := by
        rw [← hH23, upd_same, List.map_reverse]
      clear hH23
      obtain ⟨rv, hrv⟩ : ∃ rv : List Str, rv = (l.map (·.1)).reverse := ⟨_, rfl⟩
      rw [← hrv] at e23
      have rvm : ∀ x, x ∈ rv ↔ x ∈ l.map (·.1) := fun x => by rw [hrv]; exact List.mem_reverse
      have rvn : rv.Nodup := by rw [hrv]; exact List.pairwise_reverse.mpr (lnd.imp fun h => Ne.symm h)
      have rvl : (rv.map V.str).length = n := by rw [List.length_map, hrv, List.length_reverse, List.length_map]; exact hll
      have rvl2 : rv.length = n := by rw [List.length_map] at rvl; exact rvl
      have hr1T : r1 ≠ Ta := fun z => by rw [z, s22 _ _ eT21] at nr1; cases nr1
      have s223 := s21.trans (s22.trans s23)
      have eT23 := (s22.trans s23) _ _ eT21
      refine ⟨r1, rfl, ⟨_, SqL.of e23⟩, ?_⟩
      refine for_it (walk_list (K := K) (a := r1) (xs := rv.map V.str)) (fun i σ Hz => ∃ (o3 : Option V) (l2 : SV), σ = [some (.ref a), some (.ref p), some (.int (n : Int)), o3, some (.ref D), some (.ref Ld), some (.ref Fa), some (.ref Ta), none, none] ∧ Same H20 Hz ∧ Hz Ta = some (.dK (kvS l2)) ∧ Hz r1 = some (.lst (rv.map V.str)) ∧ l2.map (·.1) = rv.take i ∧ ∀ q ∈ l2, q ∈ l) ⟨none, [], rfl, s223, eT23, e23, rfl, fun q hq => nomatch hq⟩ (fun i σ Hz _ y => ?_) (fun i x σ Hz He hi y e0 => ?_) (fun σ H24 y => ?_)
      · obtain ⟨_, _, _, _, _, e, _⟩ := y
        exact SqL.of e
      · obtain ⟨rfl, ex⟩ := e0
        obtain ⟨o3, l2, rfl, sz, eT, er, el2, hin⟩ := y
        rw [rvl] at hi
        have hx : rv[i]? = some rv[i] := List.getElem?_eq_getElem (by omega)
        rw [List.getElem?_map, hx] at ex
        cases ex
        have htk : rv.take (i + 1) = rv.take i ++ [rv[i]] := by rw [List.take_add_one, hx]; rfl
        have hnew : rv[i] ∉ l2.map (·.1) := by
          rw [el2]
          exact take_new rvn hx
        have hxl : rv[i] ∈ l.map (·.1) := (rvm _).mp (List.getElem_mem _)
        have hl2 : l2.length ≤ 20 := by
          have := congrArg List.length el2
          rw [List.length_map, List.length_take] at this
          omega
        generalize rv[i] = x at *
        obtain ⟨⟨x', v⟩, hpm, hpx⟩ := List.mem_map.mp hxl
        have hpx : x' = x := hpx
        subst hpx
        have hg : getS l x' = some v := getS_of lnd hpm
        refine ⟨_, rfl, _, rfl, Ld, v, rfl, ?_, _, rfl, _, rfl, Ta, _, rfl, DPut.k (k := .inr x') eT (by rw [kvS_len]; exact Nat.lt_of_le_of_lt hl2 (by decide)), ?_⟩
        · rw [← hg, ← kvS_val]
          exact DGet.k (k := .inr x') (sz _ _ lt20.dd)
        refine ⟨_, l2 ++ [(x', v)], rfl, same_mut sz nT, by rw [upd_same, kvS_put _ hnew], by rw [upd_ne hr1T]; exact er, by rw [List.map_append, el2, htk]; rfl, fun z hz => ?_⟩
        rcases List.mem_append.mp hz with hz | hz
        · exact hin z hz
        · rw [List.mem_singleton.mp hz]
          exact hpm
      obtain ⟨o3, lT, rfl, s24, eT24, _, el2, hin⟩ := y
      rw [rvl, ← rvl2, List.take_length] at el2
      have ltT24 : LtH H24 Ta lT t := ⟨eT24, by rw [el2]; exact rvn, fun q hq => (lt20.val q (hin q hq)).ups s24, fun x hx => lt20.ok x ((rvm x).mp (by rw [← el2]; exact hx)), by
        have := congrArg List.length el2
        rw [List.length_map] at this
        omega⟩
      have lt24 := lt20.up s24
      have eF24 := s24 _ _ eF20
      have eD24 := s24 _ _ eD20
      have hs24 := src_up hs20 s24
      have b24 := b20.trans (But.of s24)
      have lTmem : ∀ x, x ∈ lT.map (·.1) ↔ x ∈ l.map (·.1) := fun x => by rw [el2]; exact rvm x
      clear eT24 el2 hin e23 e22 s223 eT23 eT21 s21 s22 s23 s24 lt20 eF20 eD20 hs20 b20 hr1T nr1 nr0
      refine fun Oa nO => ?_
      have hOp := (hDc0 nO hs24).1
      have hOc := (hDc0 nO hs24).2
      have hOH := frH nO b24 hOp
      have hOL : Oa ≠ Ld := fun z => by rw [z, lt24.dd] at nO; cases nO
      have hOF : Oa ≠ Fa := fun z => by rw [z, eF24] at nO; cases nO
      have hOD : Oa ≠ D := fun z => by rw [z, eD24] at nO; cases nO
      have hOT : Oa ≠ Ta := fun z => by rw [z, ltT24.dd] at nO; cases nO
      have ed1 : upd H24 Oa (.dK []) Ld = some (.dK (kvS l)) := same_new nO _ _ lt24.dd
      have eO1 : upd H24 Oa (.dK []) Oa = some (.dK (kvS [])) := upd_same
      have sfr : ∀ od, Same (upd H24 Ld (.frz od (.dK (kvS l)))) (upd (upd H24 Oa (.dK [])) Ld (.frz od (.dK (kvS l)))) := fun od => same_frz_new nO
      generalize upd H24 Oa (.dK []) = H1' at ed1 eO1 sfr ⊢
      refine ⟨Ld, _, ed1, trivial, fun od => ?_⟩
      have hOf : upd H24 Ld (.frz od (.dK (kvS l))) Oa = none := by rw [upd_ne hOL]; exact nO
      have eOf : upd H1' Ld (.frz od (.dK (kvS l))) Oa = some (.dK (kvS [])) := by rw [upd_ne hOL]; exact eO1
      have edF : upd H24 Ld (.frz od (.dK (kvS l))) Ld = some (.frz od (.dK (kvS l))) := upd_same
      have sF := sfr od
      have back : ∀ {H' : Hp}, Same (upd H24 Ld (.frz od (.dK (kvS l)))) H' → Same H24 (upd H' Ld (.dK (kvS l))) := fun s => same_lock lt24.dd s
      have edf := sF _ _ edF
      generalize upd H1' Ld (.frz od (.dK (kvS l))) = Hf at sF eOf edf ⊢
      generalize upd H24 Ld (.frz od (.dK (kvS l))) = HF at hOf edF back sF
      refine ⟨_, rfl, Ld, od, rfl, .inl ⟨_, edf, ?_⟩⟩
      refine for_it (walk_keys (d := Ld) (o := od) (kvs := kvS l)) (fun i σ Hc => ∃ (o3 : Option V), σ = [some (.ref a), some (.ref p), some (.int (n : Int)), o3, some (.ref D), some (.ref Ld), some (.ref Fa), some (.ref Ta), some (.ref Oa), none] ∧ Same HF Hc ∧ Hc Oa = some (.dK (kvS (l.take i)))) ⟨_, rfl, sF, eOf⟩ (fun i σ Hc _ y => ?_) (fun i x σ Hc He hi y e => ?_) (fun σ Hc y => ?_)
      · obtain ⟨_, _, s1, _⟩ := y
        exact s1 _ _ edF
      · obtain ⟨rfl, k0, v0, ek, rfl⟩ := e
        obtain ⟨o3, rfl, s2, eO⟩ := y
        rw [kvS_len] at hi
        unfold kvS at ek
        rw [List.getElem?_map, List.getElem?_eq_getElem hi] at ek
        cases ek
        have hmem := List.getElem_mem hi
        have hlg : l[i]? = some l[i] := List.getElem?_eq_getElem hi
        have htk : l.take (i + 1) = l.take i ++ [l[i]] := by rw [List.take_add_one, hlg]; rfl
        have hnew : l[i].1 ∉ (l.take i).map (·.1) := by
          rw [List.map_take]
          exact take_new lnd (by rw [List.getElem?_map, hlg]; rfl)
        have hli : (l.take i).length ≤ 20 := by rw [List.length_take]; omega
        generalize l[i] = pr at *
        obtain ⟨x, v⟩ := pr
        have hgx : getS l x = some v := getS_of lnd hmem
        have ed2 := s2 _ _ edF
        refine ⟨_, rfl, _, rfl, Ld, v, rfl, ?_, _, rfl, _, rfl, Oa, _, rfl, DPut.k (k := .inr x) eO (by rw [kvS_len]; exact Nat.lt_of_le_of_lt hli (by decide)), ?_⟩
        · rw [← hgx, ← kvS_val]
          exact .inl ⟨_, .inr x, .inr ⟨od, ed2⟩, rfl, rfl⟩
        exact ⟨_, rfl, same_mut s2 hOf, by rw [upd_same, kvS_put _ hnew, htk]⟩
      obtain ⟨o3', rfl, s2, eO⟩ := y
      rw [kvS_len, List.take_length] at eO
      have ed3 := s2 _ _ edF
      refine ⟨ed3, ?_⟩
      have s26 := back s2
      have eO26 : upd Hc Ld (.dK (kvS l)) Oa = some (.dK (kvS l)) := by rw [upd_ne hOL]; exact eO
      generalize upd Hc Ld (.dK (kvS l)) = H26 at s26 eO26 ⊢
      have lt26 := lt24.up s26
      have ltT26 := ltT24.up s26
      have ltO26 : LtH H26 Oa l t := ⟨eO26, lnd, lt26.val, lt26.ok, lt26.few⟩
      have eF26 := s26 _ _ eF24
      have eD26 := s26 _ _ eD24
      have hs26 := src_up hs24 s26
      have b26 := b24.trans (But.of s26)
      clear s26 eO26 eO ed3 s2 back hOf edF sF eOf edf ed1 eO1 sfr lt24 ltT24 eF24 eD24 hs24 b24
      refine ⟨_, rfl, Ld, l, t, rfl, lt26, fun H27 v o s27 bo hv => ?_⟩
      have lt27 := lt26.up s27
      have ltT27 := ltT26.up s27
      have ltO27 := ltO26.up s27
      have eF27 := s27 _ _ eF26
      have eD27 := s27 _ _ eD26
      have hs27 := src_up hs26 s27
      clear s27 lt26 ltT26 ltO26 eF26 eD26 hs26
      have hll2 : (kvS l).length < 400 := by rw [kvS_len]; omega
      have nput : ∀ (x : Str) (v : V) (m : Int), Sm m → x ∈ l.map (·.1) → ∀ y ∈ (putA l x v).map (·.1), numOk (if y = x then .num m else t y) ∧ SO y := fun x v m hm hx y hy => by
        rw [putA_names, if_pos hx] at hy
        by_cases c : y = x
        · rw [if_pos c]
          exact ⟨hm, (nok y hy).2⟩
        · rw [if_neg c]
          exact nok y hy
      dsimp (config := { proj := false }) only [gName]
      refine nx_mk ?_
      refine seq_st (fun σ' H' => ∃ (lo : SV) (t' : Str → Tr), σ' = [some (.ref a), some (.ref p), some (.int (n : Int)), o3', some (.ref D), some (.ref Ld), some (.ref Fa), some (.ref Ta), some (.ref Oa), some v] ∧ LtH H' Ld l t ∧ LtH H' Ta lT t ∧ LtH H' Oa lo t' ∧ H' Fa = some (.dT kv2) ∧ ∀ x ∈ lo.map (·.1), numOk (t' x) ∧ SO x) (fun N hN => ?_) (fun σ' H30 hI => ?_)
      · cases o with
        | some pth =>
          obtain ⟨q0, rfl, eq0⟩ := hv
          obtain ⟨⟨f, hf, r1, rfl, _⟩, _⟩ := bo
          refine ⟨_, rfl, rfl, _, rfl, ?_⟩
          refine ifT rfl ?_
          refine ⟨lenOk (n := 2) rfl (by decide), fun qa hqa => ?_⟩
          have s28 := same_new (o := .tup [V.str (Str.ofString "number"), V.int 3]) hqa
          have e28 : upd H27 qa (.tup [V.str (Str.ofString "number"), V.int 3]) qa = some (.tup [V.str (Str.ofString "number"), V.int 3]) := upd_same
          generalize upd H27 qa (.tup [V.str (Str.ofString "number"), V.int 3]) = H28 at s28 e28 ⊢
          have ltO28 := ltO27.up s28
          refine ⟨_, rfl, _, rfl, .inr (.inl ⟨q0, _, 0, _, rfl, rfl, SqT.of (s28 _ _ eq0), atI_nat (j := 0) rfl, Oa, _, rfl, DPut.k (k := .inr f) ltO28.dd (Nat.lt_trans hll2 (by decide)), ?_⟩)⟩
          have tn : Tn H28 (upd H28 Oa (.dK (putK (kvS l) (.inr f) (.ref qa)))) := Tn.put fun xs z => by rw [ltO28.dd] at z; cases z
          refine hN _ _ ⟨putA l f (.ref qa), _, rfl, (lt27.up s28).frame (by rw [upd_ne (Ne.symm hOL)]; exact s28 _ _ lt27.dd) tn, (ltT27.up s28).frame (by rw [upd_ne (Ne.symm hOT)]; exact s28 _ _ ltT27.dd) tn, ltO28.put (m := 3) hf ⟨qa, rfl, e28⟩, by rw [upd_ne (Ne.symm hOF)]; exact s28 _ _ eF27, nput f _ 3 ⟨by decide, by decide⟩ hf⟩
        | none =>
          have hv : v = .non := hv
          subst hv
          refine ⟨_, rfl, rfl, _, rfl, ?_⟩
          refine ifF rfl ?_
          refine ⟨_, rfl, _, _, rfl, rfl, _, rfl, ?_⟩
          refine ifB (fun c1 => ?_) (fun c1 => ?_)
          · have c1 : (0 : Int) < (n : Int) := of_decide_eq_true c1
            refine ⟨lenOk (n := 2) rfl (by decide), fun qa hqa => ?_⟩
            have hqp := (hDc0 hqa hs27).1
            have s28 := same_new (o := .tup [V.str (Str.ofString "number"), V.int 4]) hqa
            have e28 : upd H27 qa (.tup [V.str (Str.ofString "number"), V.int 4]) qa = some (.tup [V.str (Str.ofString "number"), V.int 4]) := upd_same
            generalize upd H27 qa (.tup [V.str (Str.ofString "number"), V.int 4]) = H28 at s28 e28 ⊢
            have hs28 := src_up hs27 s28
            refine ⟨_, rfl, _, rfl, _, rfl, _, rfl, c, p, n, rfl, hs28, by omega, by omega, fun H29 k lk hs29 b29 => ?_⟩
            have tn29 := src_tn hs28 b29
            have hxk : ks[k]? = some ks[k] := List.getElem?_eq_getElem (by omega)
            have hxm : ks[k] ∈ l.map (·.1) := (lmem _).mpr (List.getElem_mem _)
            generalize ks[k] = x at hxk hxm
            have lt29 : LtH H29 Ld l t := (lt27.up s28).frame (b29 _ _ hLp (s28 _ _ lt27.dd)) tn29
            have ltT29 : LtH H29 Ta lT t := (ltT27.up s28).frame (b29 _ _ hTp (s28 _ _ ltT27.dd)) tn29
            have ltO29 : LtH H29 Oa l t := (ltO27.up s28).frame (b29 _ _ hOp (s28 _ _ ltO27.dd)) tn29
            refine ⟨D, _, _, _, rfl, rfl, SqL.of (b29 _ _ hDp (s28 _ _ eD27)), atI_nat (j := k) (by rw [List.getElem?_map, hxk]; rfl), Oa, _, rfl, DPut.k (k := .inr x) ltO29.dd (Nat.lt_trans hll2 (by decide)), ?_⟩
            have tn : Tn H29 (upd H29 Oa (.dK (putK (kvS l) (.inr x) (.ref qa)))) := Tn.put fun xs z => by rw [ltO29.dd] at z; cases z
            refine hN _ _ ⟨putA l x (.ref qa), _, rfl, lt29.frame (by rw [upd_ne (Ne.symm hOL)]; exact lt29.dd) tn, ltT29.frame (by rw [upd_ne (Ne.symm hOT)]; exact ltT29.dd) tn, ltO29.put (m := 4) hxm ⟨qa, rfl, b29 _ _ hqp e28⟩, by rw [upd_ne (Ne.symm hOF)]; exact b29 _ _ hFp (s28 _ _ eF27), nput x _ 4 ⟨by decide, by decide⟩ hxm⟩
          · exact hN _ _ ⟨l, t, rfl, lt27, ltT27, ltO27, eF27, nok⟩
      obtain ⟨lo, t', rfl, lt30, ltT30, ltO30, eF30, nok'⟩ := hI
      have nokT : ∀ x ∈ lT.map (·.1), numOk (t x) ∧ SO x := fun x hx => nok x ((lTmem x).mp hx)
      have kl : kv2.length ≤ 100 := Nat.le_trans kw2.len (by decide)
      refine ⟨_, rfl, _, rfl, Ld, Fa, l, t, kv2, rfl, lt30, nok, eF30, kw2.sm, kw2.ok, kw2.nd, kl, fun H31 s31 => ?_⟩
      refine ⟨_, rfl, ?_⟩
      refine ifF rfl ?_
      refine ⟨_, rfl, _, rfl, Ta, Fa, lT, t, kv2, rfl, ltT30.up s31, nokT, s31 _ _ eF30, kw2.sm, kw2.ok, kw2.nd, kl, fun H32 s32 => ?_⟩
      have s302 := s31.trans s32
      refine ⟨_, rfl, ?_⟩
      refine ifF rfl ?_
      refine ⟨_, rfl, _, rfl, Oa, Fa, lo, t', kv2, rfl, ltO30.up s302, nok', s302 _ _ eF30, kw2.sm, kw2.ok, kw2.nd, kl, fun H33 s33 => ?_⟩
      have s303 := s302.trans s33
      refine ⟨_, rfl, ?_⟩
      refine ifF rfl ?_
      refine ⟨_, rfl, fun Ea nE => ?_⟩
      have s34 := same_new (o := .dT []) nE
      have eE : upd H33 Ea (.dT []) Ea = some (.dT []) := upd_same
      generalize upd H33 Ea (.dT []) = H34 at s34 eE ⊢
      have s304 := s303.trans s34
      refine ⟨Ld, Ea, l, t, [], rfl, lt30.up s304, nok, eE, KwOk.nil.sm, KwOk.nil.ok, KwOk.nil.nd, Nat.zero_le _, fun H35 s35 => ?_⟩
      have s305 := s304.trans s35
      refine ⟨_, rfl, ?_⟩
      refine ifT rfl ?_
      exact ⟨_, rfl, _, rfl, Ld, Fa, l, t, kv2, rfl, lt30.up s305, nok, s305 _ _ eF30, kw2.sm, kw2.ok, kw2.nd, kl, fun H36 s36 => q _⟩
end
/-! ### what the top has left; the end -/
theorem all_mk {l : PySem.W.OpenLaw} {w : World} {K : PySem.W.Frag} {h : Heap} {mg : Str → Option Value} {fa f1 f2 f3 f4 f5 f6 f7 f8 f9 f10 f11 f12 f13 f14 f15 f16 f17 f18 f19 f20 f21 f22 f23 f24 f25 f26 f27 f28 C_RomError t_FACTS t_COMPARISONS : Addr} (X : K.In h) (G : h.Ns mainGlobals mg) (hfa : mg "law" = some (.ref fa))
    {t_MOST : Tok}
    {od1 an1 od2 an2 od3 an3 od4 an4 od5 an5 od6 an6 od7 an7 od8 an8 od9 an9 od10 an10 od11 an11 od12 an12 od13 an13 od14 an14 od15 an15 od16 an16 od17 an17 od18 an18 od19 an19 od20 an20 od21 an21 od22 an22 od23 an23 od24 an24 od25 an25 od26 an26 od27 an27 od28 an28 : Option Addr} {sl1 sl2 sl3 sl4 sl5 sl6 sl7 sl8 sl9 sl10 sl11 sl12 sl13 sl14 sl15 sl16 sl17 sl18 sl19 sl20 sl21 sl22 sl23 sl24 sl25 sl26 sl27 sl28 sl_FACTS sl_COMPARISONS : Array (Option Value)} {oc1 kV1 dc1 pm1 cd1 ct1 oc2 kV2 dc2 pm2 cd2 ct2 oc3 kV3 dc3 pm3 cd3 ct3 oc4 kV4 dc4 pm4 cd4 ct4 oc5 kV5 dc5 pm5 cd5 ct5 oc6 kV6 dc6 pm6 cd6 ct6 oc7 kV7 dc7 pm7 cd7 ct7 oc8 kV8 dc8 pm8 cd8 ct8 oc9 kV9 dc9 pm9 cd9 ct9 oc10 kV10 dc10 pm10 cd10 ct10 oc11 kV11 dc11 pm11 cd11 ct11 oc12 kV12 dc12 pm12 cd12 ct12 oc13 kV13 dc13 pm13 cd13 ct13 oc14 kV14 dc14 pm14 cd14 ct14 oc15 kV15 dc15 pm15 cd15 ct15 oc16 kV16 dc16 pm16 cd16 ct16 oc17 kV17 dc17 pm17 cd17 ct17 oc18 kV18 dc18 pm18 cd18 ct18 oc19 kV19 dc19 pm19 cd19 ct19 oc20 kV20 dc20 pm20 cd20 ct20 oc21 kV21 dc21 pm21 cd21 ct21 oc22 kV22 dc22 pm22 cd22 ct22 oc23 kV23 dc23 pm23 cd23 ct23 oc24 kV24 dc24 pm24 cd24 ct24 oc25 kV25 dc25 pm25 cd25 ct25 oc26 kV26 dc26 pm26 cd26 ct26 oc27 kV27 dc27 pm27 cd27 ct27 oc28 kV28 dc28 pm28 cd28 ct28 : Value}
    {its_FACTS : Array Value} {n_FACTS : Nat}
    {its_COMPARISONS : Array Value} {n_COMPARISONS : Nat}
    (a1 : PySem.W.nsIn K mainGlobals "ascending" = some (some (.ref f1)))
    (l1 : K.lookup f1 = some ⟨oc1, od1, .func (PySem.W.fnOf "ascending" "ascending" (defArgs s_ascending) (defBody s_ascending) (defScope s_ascending) .none kV1 dc1 pm1 an1 cd1 ct1), sl1⟩)
    (c1 : PySem.W.codeIn K cd1 "ascending" = true)
    (k1 : PySem.W.keepIn K (.ref f1) = true)
    (a2 : PySem.W.nsIn K mainGlobals "names_in" = some (some (.ref f2)))
    (l2 : K.lookup f2 = some ⟨oc2, od2, .func (PySem.W.fnOf "names_in" "names_in" (defArgs s_names_in) (defBody s_names_in) (defScope s_names_in) .none kV2 dc2 pm2 an2 cd2 ct2), sl2⟩)
    (c2 : PySem.W.codeIn K cd2 "names_in" = true)
    (k2 : PySem.W.keepIn K (.ref f2) = true)
    (a3 : PySem.W.nsIn K mainGlobals "within" = some (some (.ref f3)))
    (l3 : K.lookup f3 = some ⟨oc3, od3, .func (PySem.W.fnOf "within" "within" (defArgs s_within) (defBody s_within) (defScope s_within) .none kV3 dc3 pm3 an3 cd3 ct3), sl3⟩)
    (c3 : PySem.W.codeIn K cd3 "within" = true)
    (k3 : PySem.W.keepIn K (.ref f3) = true)
    (a4 : PySem.W.nsIn K mainGlobals "value" = some (some (.ref f4)))
    (l4 : K.lookup f4 = some ⟨oc4, od4, .func (PySem.W.fnOf "value" "value" (defArgs s_value) (defBody s_value) (defScope s_value) .none kV4 dc4 pm4 an4 cd4 ct4), sl4⟩)
    (c4 : PySem.W.codeIn K cd4 "value" = true)
    (k4 : PySem.W.keepIn K (.ref f4) = true)
    (a5 : PySem.W.nsIn K mainGlobals "truth" = some (some (.ref f5)))
    (l5 : K.lookup f5 = some ⟨oc5, od5, .func (PySem.W.fnOf "truth" "truth" (defArgs s_truth) (defBody s_truth) (defScope s_truth) .none kV5 dc5 pm5 an5 cd5 ct5), sl5⟩)
    (c5 : PySem.W.codeIn K cd5 "truth" = true)
    (k5 : PySem.W.keepIn K (.ref f5) = true)
    (a6 : PySem.W.nsIn K mainGlobals "result" = some (some (.ref f6)))
    (l6 : K.lookup f6 = some ⟨oc6, od6, .func (PySem.W.fnOf "result" "result" (defArgs s_result) (defBody s_result) (defScope s_result) .none kV6 dc6 pm6 an6 cd6 ct6), sl6⟩)
    (c6 : PySem.W.codeIn K cd6 "result" = true)
    (k6 : PySem.W.keepIn K (.ref f6) = true)
    (a7 : PySem.W.nsIn K mainGlobals "compared" = some (some (.ref f7)))
    (l7 : K.lookup f7 = some ⟨oc7, od7, .func (PySem.W.fnOf "compared" "compared" (defArgs s_compared) (defBody s_compared) (defScope s_compared) .none kV7 dc7 pm7 an7 cd7 ct7), sl7⟩)
    (c7 : PySem.W.codeIn K cd7 "compared" = true)
    (k7 : PySem.W.keepIn K (.ref f7) = true)
    (a8 : PySem.W.nsIn K mainGlobals "lets_in" = some (some (.ref f8)))
    (l8 : K.lookup f8 = some ⟨oc8, od8, .func (PySem.W.fnOf "lets_in" "lets_in" (defArgs s_lets_in) (defBody s_lets_in) (defScope s_lets_in) .none kV8 dc8 pm8 an8 cd8 ct8), sl8⟩)
    (c8 : PySem.W.codeIn K cd8 "lets_in" = true)
    (k8 : PySem.W.keepIn K (.ref f8) = true)
    (a9 : PySem.W.nsIn K mainGlobals "let_values" = some (some (.ref f9)))
    (l9 : K.lookup f9 = some ⟨oc9, od9, .func (PySem.W.fnOf "let_values" "let_values" (defArgs s_let_values) (defBody s_let_values) (defScope s_let_values) .none kV9 dc9 pm9 an9 cd9 ct9), sl9⟩)
    (c9 : PySem.W.codeIn K cd9 "let_values" = true)
    (k9 : PySem.W.keepIn K (.ref f9) = true)
    (a10 : PySem.W.nsIn K mainGlobals "least_ring" = some (some (.ref f10)))
    (l10 : K.lookup f10 = some ⟨oc10, od10, .func (PySem.W.fnOf "least_ring" "least_ring" (defArgs s_least_ring) (defBody s_least_ring) (defScope s_least_ring) .none kV10 dc10 pm10 an10 cd10 ct10), sl10⟩)
    (c10 : PySem.W.codeIn K cd10 "least_ring" = true)
    (k10 : PySem.W.keepIn K (.ref f10) = true)
    (a11 : PySem.W.nsIn K mainGlobals "ring_from" = some (some (.ref f11)))
    (l11 : K.lookup f11 = some ⟨oc11, od11, .func (PySem.W.fnOf "ring_from" "ring_from" (defArgs s_ring_from) (defBody s_ring_from) (defScope s_ring_from) .none kV11 dc11 pm11 an11 cd11 ct11), sl11⟩)
    (c11 : PySem.W.codeIn K cd11 "ring_from" = true)
    (k11 : PySem.W.keepIn K (.ref f11) = true)
    (a12 : PySem.W.nsIn K mainGlobals "_law_source" = some (some (.ref f12)))
    (l12 : K.lookup f12 = some ⟨oc12, od12, .func (PySem.W.fnOf "_law_source" "_law_source" (defArgs s_law_source) (defBody s_law_source) (defScope s_law_source) .none kV12 dc12 pm12 an12 cd12 ct12), sl12⟩)
    (c12 : PySem.W.codeIn K cd12 "_law_source" = true)
    (k12 : PySem.W.keepIn K (.ref f12) = true)
    (a13 : PySem.W.nsIn K mainGlobals "_law_draw" = some (some (.ref f13)))
    (l13 : K.lookup f13 = some ⟨oc13, od13, .func (PySem.W.fnOf "_law_draw" "_law_draw" (defArgs s_law_draw) (defBody s_law_draw) (defScope s_law_draw) .none kV13 dc13 pm13 an13 cd13 ct13), sl13⟩)
    (c13 : PySem.W.codeIn K cd13 "_law_draw" = true)
    (k13 : PySem.W.keepIn K (.ref f13) = true)
    (a14 : PySem.W.nsIn K mainGlobals "_law_names" = some (some (.ref f14)))
    (l14 : K.lookup f14 = some ⟨oc14, od14, .func (PySem.W.fnOf "_law_names" "_law_names" (defArgs s_law_names) (defBody s_law_names) (defScope s_law_names) .none kV14 dc14 pm14 an14 cd14 ct14), sl14⟩)
    (c14 : PySem.W.codeIn K cd14 "_law_names" = true)
    (k14 : PySem.W.keepIn K (.ref f14) = true)
    (a15 : PySem.W.nsIn K mainGlobals "_law_plain" = some (some (.ref f15)))
    (l15 : K.lookup f15 = some ⟨oc15, od15, .func (PySem.W.fnOf "_law_plain" "_law_plain" (defArgs s_law_plain) (defBody s_law_plain) (defScope s_law_plain) .none kV15 dc15 pm15 an15 cd15 ct15), sl15⟩)
    (c15 : PySem.W.codeIn K cd15 "_law_plain" = true)
    (k15 : PySem.W.keepIn K (.ref f15) = true)
    (a16 : PySem.W.nsIn K mainGlobals "_law_mixed" = some (some (.ref f16)))
    (l16 : K.lookup f16 = some ⟨oc16, od16, .func (PySem.W.fnOf "_law_mixed" "_law_mixed" (defArgs s_law_mixed) (defBody s_law_mixed) (defScope s_law_mixed) .none kV16 dc16 pm16 an16 cd16 ct16), sl16⟩)
    (c16 : PySem.W.codeIn K cd16 "_law_mixed" = true)
    (k16 : PySem.W.keepIn K (.ref f16) = true)
    (a17 : PySem.W.nsIn K mainGlobals "_law_leaf" = some (some (.ref f17)))
    (l17 : K.lookup f17 = some ⟨oc17, od17, .func (PySem.W.fnOf "_law_leaf" "_law_leaf" (defArgs s_law_leaf) (defBody s_law_leaf) (defScope s_law_leaf) .none kV17 dc17 pm17 an17 cd17 ct17), sl17⟩)
    (c17 : PySem.W.codeIn K cd17 "_law_leaf" = true)
    (k17 : PySem.W.keepIn K (.ref f17) = true)
    (a18 : PySem.W.nsIn K mainGlobals "_law_tree" = some (some (.ref f18)))
    (l18 : K.lookup f18 = some ⟨oc18, od18, .func (PySem.W.fnOf "_law_tree" "_law_tree" (defArgs s_law_tree) (defBody s_law_tree) (defScope s_law_tree) .none kV18 dc18 pm18 an18 cd18 ct18), sl18⟩)
    (c18 : PySem.W.codeIn K cd18 "_law_tree" = true)
    (k18 : PySem.W.keepIn K (.ref f18) = true)
    (a19 : PySem.W.nsIn K mainGlobals "_law_lets" = some (some (.ref f19)))
    (l19 : K.lookup f19 = some ⟨oc19, od19, .func (PySem.W.fnOf "_law_lets" "_law_lets" (defArgs s_law_lets) (defBody s_law_lets) (defScope s_law_lets) .none kV19 dc19 pm19 an19 cd19 ct19), sl19⟩)
    (c19 : PySem.W.codeIn K cd19 "_law_lets" = true)
    (k19 : PySem.W.keepIn K (.ref f19) = true)
    (a20 : PySem.W.nsIn K mainGlobals "_law_uses" = some (some (.ref f20)))
    (l20 : K.lookup f20 = some ⟨oc20, od20, .func (PySem.W.fnOf "_law_uses" "_law_uses" (defArgs s_law_uses) (defBody s_law_uses) (defScope s_law_uses) .none kV20 dc20 pm20 an20 cd20 ct20), sl20⟩)
    (c20 : PySem.W.codeIn K cd20 "_law_uses" = true)
    (k20 : PySem.W.keepIn K (.ref f20) = true)
    (a21 : PySem.W.nsIn K mainGlobals "_law_back" = some (some (.ref f21)))
    (l21 : K.lookup f21 = some ⟨oc21, od21, .func (PySem.W.fnOf "_law_back" "_law_back" (defArgs s_law_back) (defBody s_law_back) (defScope s_law_back) .none kV21 dc21 pm21 an21 cd21 ct21), sl21⟩)
    (c21 : PySem.W.codeIn K cd21 "_law_back" = true)
    (k21 : PySem.W.keepIn K (.ref f21) = true)
    (a22 : PySem.W.nsIn K mainGlobals "_law_ring" = some (some (.ref f22)))
    (l22 : K.lookup f22 = some ⟨oc22, od22, .func (PySem.W.fnOf "_law_ring" "_law_ring" (defArgs s_law_ring) (defBody s_law_ring) (defScope s_law_ring) .none kV22 dc22 pm22 an22 cd22 ct22), sl22⟩)
    (c22 : PySem.W.codeIn K cd22 "_law_ring" = true)
    (k22 : PySem.W.keepIn K (.ref f22) = true)
    (a23 : PySem.W.nsIn K mainGlobals "_law_pair" = some (some (.ref f23)))
    (l23 : K.lookup f23 = some ⟨oc23, od23, .func (PySem.W.fnOf "_law_pair" "_law_pair" (defArgs s_law_pair) (defBody s_law_pair) (defScope s_law_pair) .none kV23 dc23 pm23 an23 cd23 ct23), sl23⟩)
    (c23 : PySem.W.codeIn K cd23 "_law_pair" = true)
    (k23 : PySem.W.keepIn K (.ref f23) = true)
    (a24 : PySem.W.nsIn K mainGlobals "_law_value" = some (some (.ref f24)))
    (l24 : K.lookup f24 = some ⟨oc24, od24, .func (PySem.W.fnOf "_law_value" "_law_value" (defArgs s_law_value) (defBody s_law_value) (defScope s_law_value) .none kV24 dc24 pm24 an24 cd24 ct24), sl24⟩)
    (c24 : PySem.W.codeIn K cd24 "_law_value" = true)
    (k24 : PySem.W.keepIn K (.ref f24) = true)
    (a25 : PySem.W.nsIn K mainGlobals "_law_values" = some (some (.ref f25)))
    (l25 : K.lookup f25 = some ⟨oc25, od25, .func (PySem.W.fnOf "_law_values" "_law_values" (defArgs s_law_values) (defBody s_law_values) (defScope s_law_values) .none kV25 dc25 pm25 an25 cd25 ct25), sl25⟩)
    (c25 : PySem.W.codeIn K cd25 "_law_values" = true)
    (k25 : PySem.W.keepIn K (.ref f25) = true)
    (a26 : PySem.W.nsIn K mainGlobals "_law_same" = some (some (.ref f26)))
    (l26 : K.lookup f26 = some ⟨oc26, od26, .func (PySem.W.fnOf "_law_same" "_law_same" (defArgs s_law_same) (defBody s_law_same) (defScope s_law_same) .none kV26 dc26 pm26 an26 cd26 ct26), sl26⟩)
    (c26 : PySem.W.codeIn K cd26 "_law_same" = true)
    (k26 : PySem.W.keepIn K (.ref f26) = true)
    (a27 : PySem.W.nsIn K mainGlobals "_law_asked" = some (some (.ref f27)))
    (l27 : K.lookup f27 = some ⟨oc27, od27, .func (PySem.W.fnOf "_law_asked" "_law_asked" (defArgs s_law_asked) (defBody s_law_asked) (defScope s_law_asked) .none kV27 dc27 pm27 an27 cd27 ct27), sl27⟩)
    (c27 : PySem.W.codeIn K cd27 "_law_asked" = true)
    (k27 : PySem.W.keepIn K (.ref f27) = true)
    (a28 : PySem.W.nsIn K mainGlobals "law" = some (some (.ref f28)))
    (l28 : K.lookup f28 = some ⟨oc28, od28, .func (PySem.W.fnOf "law" "law" (defArgs s_law) (defBody s_law) (defScope s_law) .none kV28 dc28 pm28 an28 cd28 ct28), sl28⟩)
    (c28 : PySem.W.codeIn K cd28 "law" = true)
    (k28 : PySem.W.keepIn K (.ref f28) = true)
    (gc_RomError : PySem.W.nsIn K mainGlobals "RomError" = some (some (.ref C_RomError)))
    (gc_FACTS : PySem.W.nsIn K mainGlobals "FACTS" = some (some (.ref t_FACTS)))
    (q_FACTS : K.lookup t_FACTS = some ⟨.type "tuple", none, .seq its_FACTS n_FACTS, sl_FACTS⟩)
    (qv_FACTS : Vals [.str (Str.ofString "start"), .str (Str.ofString "end"), .str (Str.ofString "size"), .str (Str.ofString "load"), .str (Str.ofString "base"), .str (Str.ofString "len"), .str (Str.ofString "used"), .str (Str.ofString "room"), .str (Str.ofString "at"), .str (Str.ofString "exported"), .str (Str.ofString "takes"), .str (Str.ofString "leaves"), .str (Str.ofString "kept")] its_FACTS.toList)
    (gc_COMPARISONS : PySem.W.nsIn K mainGlobals "COMPARISONS" = some (some (.ref t_COMPARISONS)))
    (q_COMPARISONS : K.lookup t_COMPARISONS = some ⟨.type "tuple", none, .seq its_COMPARISONS n_COMPARISONS, sl_COMPARISONS⟩)
    (qv_COMPARISONS : Vals [.str (Str.ofString "<"), .str (Str.ofString "<="), .str (Str.ofString "="), .str (Str.ofString "<>"), .str (Str.ofString ">"), .str (Str.ofString ">=")] its_COMPARISONS.toList)
    (gc_MOST : PySem.W.nsIn K mainGlobals "MOST" = some (some (.int 1000000000 t_MOST)))
    (z_abs : PySem.W.nsIn K mainGlobals "abs" = some none)
    (z_all : PySem.W.nsIn K mainGlobals "all" = some none)
    (z_any : PySem.W.nsIn K mainGlobals "any" = some none)
    (z_bool : PySem.W.nsIn K mainGlobals "bool" = some none)
    (z_dict : PySem.W.nsIn K mainGlobals "dict" = some none)
    (z_int : PySem.W.nsIn K mainGlobals "int" = some none)
    (z_isinstance : PySem.W.nsIn K mainGlobals "isinstance" = some none)
    (z_len : PySem.W.nsIn K mainGlobals "len" = some none)
    (z_list : PySem.W.nsIn K mainGlobals "list" = some none)
    (z_min : PySem.W.nsIn K mainGlobals "min" = some none)
    (z_range : PySem.W.nsIn K mainGlobals "range" = some none)
    (z_set : PySem.W.nsIn K mainGlobals "set" = some none)
    (z_sorted : PySem.W.nsIn K mainGlobals "sorted" = some none)
    (z_str : PySem.W.nsIn K mainGlobals "str" = some none)
    (z_tuple : PySem.W.nsIn K mainGlobals "tuple" = some none) :
    ∃ fd : FuncData, (∀ (s : Shared) (v : Value), BindsTo s fd ⟨[v], []⟩ [("_law_script", v)]) ∧ ∀ base : Heap, K.In base → base.Ns mainGlobals mg → FnOk l.prog w K mg base CX0 80 fa fd ["_law_script"] (spLaw K) := by
  have e : f28 = fa := Value.ref.inj (Option.some.inj ((PySem.W.mg_of X G a28).symm.trans hfa))
  subst e
  have T : Txt K mg ⟨f1, (PySem.W.fnOf "ascending" "ascending" (defArgs s_ascending) (defBody s_ascending) (defScope s_ascending) .none kV1 dc1 pm1 an1 cd1 ct1), f2, (PySem.W.fnOf "names_in" "names_in" (defArgs s_names_in) (defBody s_names_in) (defScope s_names_in) .none kV2 dc2 pm2 an2 cd2 ct2), f3, (PySem.W.fnOf "within" "within" (defArgs s_within) (defBody s_within) (defScope s_within) .none kV3 dc3 pm3 an3 cd3 ct3), f4, (PySem.W.fnOf "value" "value" (defArgs s_value) (defBody s_value) (defScope s_value) .none kV4 dc4 pm4 an4 cd4 ct4), f5, (PySem.W.fnOf "truth" "truth" (defArgs s_truth) (defBody s_truth) (defScope s_truth) .none kV5 dc5 pm5 an5 cd5 ct5), f6, (PySem.W.fnOf "result" "result" (defArgs s_result) (defBody s_result) (defScope s_result) .none kV6 dc6 pm6 an6 cd6 ct6), f7, (PySem.W.fnOf "compared" "compared" (defArgs s_compared) (defBody s_compared) (defScope s_compared) .none kV7 dc7 pm7 an7 cd7 ct7), f8, (PySem.W.fnOf "lets_in" "lets_in" (defArgs s_lets_in) (defBody s_lets_in) (defScope s_lets_in) .none kV8 dc8 pm8 an8 cd8 ct8), f9, (PySem.W.fnOf "let_values" "let_values" (defArgs s_let_values) (defBody s_let_values) (defScope s_let_values) .none kV9 dc9 pm9 an9 cd9 ct9), f10, (PySem.W.fnOf "least_ring" "least_ring" (defArgs s_least_ring) (defBody s_least_ring) (defScope s_least_ring) .none kV10 dc10 pm10 an10 cd10 ct10), f11, (PySem.W.fnOf "ring_from" "ring_from" (defArgs s_ring_from) (defBody s_ring_from) (defScope s_ring_from) .none kV11 dc11 pm11 an11 cd11 ct11), f12, (PySem.W.fnOf "_law_source" "_law_source" (defArgs s_law_source) (defBody s_law_source) (defScope s_law_source) .none kV12 dc12 pm12 an12 cd12 ct12), f13, (PySem.W.fnOf "_law_draw" "_law_draw" (defArgs s_law_draw) (defBody s_law_draw) (defScope s_law_draw) .none kV13 dc13 pm13 an13 cd13 ct13), f14, (PySem.W.fnOf "_law_names" "_law_names" (defArgs s_law_names) (defBody s_law_names) (defScope s_law_names) .none kV14 dc14 pm14 an14 cd14 ct14), f15, (PySem.W.fnOf "_law_plain" "_law_plain" (defArgs s_law_plain) (defBody s_law_plain) (defScope s_law_plain) .none kV15 dc15 pm15 an15 cd15 ct15), f16, (PySem.W.fnOf "_law_mixed" "_law_mixed" (defArgs s_law_mixed) (defBody s_law_mixed) (defScope s_law_mixed) .none kV16 dc16 pm16 an16 cd16 ct16), f17, (PySem.W.fnOf "_law_leaf" "_law_leaf" (defArgs s_law_leaf) (defBody s_law_leaf) (defScope s_law_leaf) .none kV17 dc17 pm17 an17 cd17 ct17), f18, (PySem.W.fnOf "_law_tree" "_law_tree" (defArgs s_law_tree) (defBody s_law_tree) (defScope s_law_tree) .none kV18 dc18 pm18 an18 cd18 ct18), f19, (PySem.W.fnOf "_law_lets" "_law_lets" (defArgs s_law_lets) (defBody s_law_lets) (defScope s_law_lets) .none kV19 dc19 pm19 an19 cd19 ct19), f20, (PySem.W.fnOf "_law_uses" "_law_uses" (defArgs s_law_uses) (defBody s_law_uses) (defScope s_law_uses) .none kV20 dc20 pm20 an20 cd20 ct20), f21, (PySem.W.fnOf "_law_back" "_law_back" (defArgs s_law_back) (defBody s_law_back) (defScope s_law_back) .none kV21 dc21 pm21 an21 cd21 ct21), f22, (PySem.W.fnOf "_law_ring" "_law_ring" (defArgs s_law_ring) (defBody s_law_ring) (defScope s_law_ring) .none kV22 dc22 pm22 an22 cd22 ct22), f23, (PySem.W.fnOf "_law_pair" "_law_pair" (defArgs s_law_pair) (defBody s_law_pair) (defScope s_law_pair) .none kV23 dc23 pm23 an23 cd23 ct23), f24, (PySem.W.fnOf "_law_value" "_law_value" (defArgs s_law_value) (defBody s_law_value) (defScope s_law_value) .none kV24 dc24 pm24 an24 cd24 ct24), f25, (PySem.W.fnOf "_law_values" "_law_values" (defArgs s_law_values) (defBody s_law_values) (defScope s_law_values) .none kV25 dc25 pm25 an25 cd25 ct25), f26, (PySem.W.fnOf "_law_same" "_law_same" (defArgs s_law_same) (defBody s_law_same) (defScope s_law_same) .none kV26 dc26 pm26 an26 cd26 ct26), f27, (PySem.W.fnOf "_law_asked" "_law_asked" (defArgs s_law_asked) (defBody s_law_asked) (defScope s_law_asked) .none kV27 dc27 pm27 an27 cd27 ct27), f28, (PySem.W.fnOf "law" "law" (defArgs s_law) (defBody s_law) (defScope s_law) .none kV28 dc28 pm28 an28 cd28 ct28), C_RomError, t_FACTS, t_COMPARISONS, t_MOST⟩ :=
    { F_ascending := fun_mk (st := s_ascending) l1 c1 k1,
      g_ascending := PySem.W.mg_of X G a1,
      b_ascending := (fun_mk (st := s_ascending) l1 c1 k1).binds (ps := ["rows"]) fun _ _ _ _ _ _ us hl => match us, hl with | [_], _ => rfl,
      F_names_in := fun_mk (st := s_names_in) l2 c2 k2,
      g_names_in := PySem.W.mg_of X G a2,
      b_names_in := (fun_mk (st := s_names_in) l2 c2 k2).binds (ps := ["tree"]) fun _ _ _ _ _ _ us hl => match us, hl with | [_], _ => rfl,
      F_within := fun_mk (st := s_within) l3 c3 k3,
      g_within := PySem.W.mg_of X G a3,
      b_within := (fun_mk (st := s_within) l3 c3 k3).binds (ps := ["number"]) fun _ _ _ _ _ _ us hl => match us, hl with | [_], _ => rfl,
      F_value := fun_mk (st := s_value) l4 c4 k4,
      g_value := PySem.W.mg_of X G a4,
      b_value := (fun_mk (st := s_value) l4 c4 k4).binds (ps := ["tree", "facts"]) fun _ _ _ _ _ _ us hl => match us, hl with | [_, _], _ => rfl,
      F_truth := fun_mk (st := s_truth) l5 c5 k5,
      g_truth := PySem.W.mg_of X G a5,
      b_truth := (fun_mk (st := s_truth) l5 c5 k5).binds (ps := ["thing"]) fun _ _ _ _ _ _ us hl => match us, hl with | [_], _ => rfl,
      F_result := fun_mk (st := s_result) l6 c6 k6,
      g_result := PySem.W.mg_of X G a6,
      b_result := (fun_mk (st := s_result) l6 c6 k6).binds (ps := ["op", "left", "right"]) fun _ _ _ _ _ _ us hl => match us, hl with | [_, _, _], _ => rfl,
      F_compared := fun_mk (st := s_compared) l7 c7 k7,
      g_compared := PySem.W.mg_of X G a7,
      b_compared := (fun_mk (st := s_compared) l7 c7 k7).binds (ps := ["op", "left", "right"]) fun _ _ _ _ _ _ us hl => match us, hl with | [_, _, _], _ => rfl,
      F_lets_in := fun_mk (st := s_lets_in) l8 c8 k8,
      g_lets_in := PySem.W.mg_of X G a8,
      b_lets_in := (fun_mk (st := s_lets_in) l8 c8 k8).binds (ps := ["tree"]) fun _ _ _ _ _ _ us hl => match us, hl with | [_], _ => rfl,
      F_let_values := fun_mk (st := s_let_values) l9 c9 k9,
      g_let_values := PySem.W.mg_of X G a9,
      b_let_values := (fun_mk (st := s_let_values) l9 c9 k9).binds (ps := ["lets", "facts"]) fun _ _ _ _ _ _ us hl => match us, hl with | [_, _], _ => rfl,
      F_least_ring := fun_mk (st := s_least_ring) l10 c10 k10,
      g_least_ring := PySem.W.mg_of X G a10,
      b_least_ring := (fun_mk (st := s_least_ring) l10 c10 k10).binds (ps := ["lets"]) fun _ _ _ _ _ _ us hl => match us, hl with | [_], _ => rfl,
      F_ring_from := fun_mk (st := s_ring_from) l11 c11 k11,
      g_ring_from := PySem.W.mg_of X G a11,
      b_ring_from := (fun_mk (st := s_ring_from) l11 c11 k11).binds (ps := ["start", "after"]) fun _ _ _ _ _ _ us hl => match us, hl with | [_, _], _ => rfl,
      F_law_source := fun_mk (st := s_law_source) l12 c12 k12,
      g_law_source := PySem.W.mg_of X G a12,
      b_law_source := (fun_mk (st := s_law_source) l12 c12 k12).binds (ps := ["_law_script"]) fun _ _ _ _ _ _ us hl => match us, hl with | [_], _ => rfl,
      F_law_draw := fun_mk (st := s_law_draw) l13 c13 k13,
      g_law_draw := PySem.W.mg_of X G a13,
      b_law_draw := (fun_mk (st := s_law_draw) l13 c13 k13).binds (ps := ["_law_source_here", "_law_below"]) fun _ _ _ _ _ _ us hl => match us, hl with | [_, _], _ => rfl,
      F_law_names := fun_mk (st := s_law_names) l14 c14 k14,
      g_law_names := PySem.W.mg_of X G a14,
      b_law_names := (fun_mk (st := s_law_names) l14 c14 k14).binds (ps := ["_law_source_here", "_law_count"]) fun _ _ _ _ _ _ us hl => match us, hl with | [_, _], _ => rfl,
      F_law_plain := fun_mk (st := s_law_plain) l15 c15 k15,
      g_law_plain := PySem.W.mg_of X G a15,
      b_law_plain := (fun_mk (st := s_law_plain) l15 c15 k15).binds (ps := ["_law_thing"]) fun _ _ _ _ _ _ us hl => match us, hl with | [_], _ => rfl,
      F_law_mixed := fun_mk (st := s_law_mixed) l16 c16 k16,
      g_law_mixed := PySem.W.mg_of X G a16,
      b_law_mixed := (fun_mk (st := s_law_mixed) l16 c16 k16).binds (ps := ["_law_source_here", "_law_row"]) fun _ _ _ _ _ _ us hl => match us, hl with | [_, _], _ => rfl,
      F_law_leaf := fun_mk (st := s_law_leaf) l17 c17 k17,
      g_law_leaf := PySem.W.mg_of X G a17,
      b_law_leaf := (fun_mk (st := s_law_leaf) l17 c17 k17).binds (ps := ["_law_source_here", "_law_lets_here"]) fun _ _ _ _ _ _ us hl => match us, hl with | [_, _], _ => rfl,
      F_law_tree := fun_mk (st := s_law_tree) l18 c18 k18,
      g_law_tree := PySem.W.mg_of X G a18,
      b_law_tree := (fun_mk (st := s_law_tree) l18 c18 k18).binds (ps := ["_law_source_here", "_law_lets_here", "_law_must"]) fun _ _ _ _ _ _ us hl => match us, hl with | [_, _, _], _ => rfl,
      F_law_lets := fun_mk (st := s_law_lets) l19 c19 k19,
      g_law_lets := PySem.W.mg_of X G a19,
      b_law_lets := (fun_mk (st := s_law_lets) l19 c19 k19).binds (ps := ["_law_source_here", "_law_names_here"]) fun _ _ _ _ _ _ us hl => match us, hl with | [_, _], _ => rfl,
      F_law_uses := fun_mk (st := s_law_uses) l20 c20 k20,
      g_law_uses := PySem.W.mg_of X G a20,
      b_law_uses := (fun_mk (st := s_law_uses) l20 c20 k20).binds (ps := ["_law_tree_here", "_law_lets_here"]) fun _ _ _ _ _ _ us hl => match us, hl with | [_, _], _ => rfl,
      F_law_back := fun_mk (st := s_law_back) l21 c21 k21,
      g_law_back := PySem.W.mg_of X G a21,
      b_law_back := (fun_mk (st := s_law_back) l21 c21 k21).binds (ps := ["_law_uses_here", "_law_first"]) fun _ _ _ _ _ _ us hl => match us, hl with | [_, _], _ => rfl,
      F_law_ring := fun_mk (st := s_law_ring) l22 c22 k22,
      g_law_ring := PySem.W.mg_of X G a22,
      b_law_ring := (fun_mk (st := s_law_ring) l22 c22 k22).binds (ps := ["_law_lets_here"]) fun _ _ _ _ _ _ us hl => match us, hl with | [_], _ => rfl,
      F_law_pair := fun_mk (st := s_law_pair) l23 c23 k23,
      g_law_pair := PySem.W.mg_of X G a23,
      b_law_pair := (fun_mk (st := s_law_pair) l23 c23 k23).binds (ps := ["_law_op", "_law_first", "_law_second"]) fun _ _ _ _ _ _ us hl => match us, hl with | [_, _, _], _ => rfl,
      F_law_value := fun_mk (st := s_law_value) l24 c24 k24,
      g_law_value := PySem.W.mg_of X G a24,
      b_law_value := (fun_mk (st := s_law_value) l24 c24 k24).binds (ps := ["_law_tree_here", "_law_facts", "_law_values_here"]) fun _ _ _ _ _ _ us hl => match us, hl with | [_, _, _], _ => rfl,
      F_law_values := fun_mk (st := s_law_values) l25 c25 k25,
      g_law_values := PySem.W.mg_of X G a25,
      b_law_values := (fun_mk (st := s_law_values) l25 c25 k25).binds (ps := ["_law_lets_here", "_law_facts"]) fun _ _ _ _ _ _ us hl => match us, hl with | [_, _], _ => rfl,
      F_law_same := fun_mk (st := s_law_same) l26 c26 k26,
      g_law_same := PySem.W.mg_of X G a26,
      b_law_same := (fun_mk (st := s_law_same) l26 c26 k26).binds (ps := ["_law_told", "_law_due"]) fun _ _ _ _ _ _ us hl => match us, hl with | [_, _], _ => rfl,
      F_law_asked := fun_mk (st := s_law_asked) l27 c27 k27,
      g_law_asked := PySem.W.mg_of X G a27,
      b_law_asked := (fun_mk (st := s_law_asked) l27 c27 k27).binds (ps := ["_law_lets_here", "_law_facts"]) fun _ _ _ _ _ _ us hl => match us, hl with | [_, _], _ => rfl,
      F_law := fun_mk (st := s_law) l28 c28 k28,
      g_law := PySem.W.mg_of X G a28,
      b_law := (fun_mk (st := s_law) l28 c28 k28).binds (ps := ["_law_script"]) fun _ _ _ _ _ _ us hl => match us, hl with | [_], _ => rfl,
      g_RomError := PySem.W.mg_of X G gc_RomError,
      g_FACTS := PySem.W.mg_of X G gc_FACTS,
      g_COMPARISONS := PySem.W.mg_of X G gc_COMPARISONS,
      g_MOST := PySem.W.mg_of X G gc_MOST,
      q_FACTS := .inr ⟨_, _, _, q_FACTS, rfl, rfl, by rw [← Array.length_toList, ← Vals.length qv_FACTS]; exact lenOk (n := 13) rfl (by decide), qv_FACTS⟩,
      y_FACTS := ⟨_, q_FACTS, rfl, rfl⟩,
      q_COMPARISONS := .inr ⟨_, _, _, q_COMPARISONS, rfl, rfl, by rw [← Array.length_toList, ← Vals.length qv_COMPARISONS]; exact lenOk (n := 6) rfl (by decide), qv_COMPARISONS⟩,
      y_COMPARISONS := ⟨_, q_COMPARISONS, rfl, rfl⟩,
      n_abs := PySem.W.mg_none_of X G z_abs,
      n_all := PySem.W.mg_none_of X G z_all,
      n_any := PySem.W.mg_none_of X G z_any,
      n_bool := PySem.W.mg_none_of X G z_bool,
      n_dict := PySem.W.mg_none_of X G z_dict,
      n_int := PySem.W.mg_none_of X G z_int,
      n_isinstance := PySem.W.mg_none_of X G z_isinstance,
      n_len := PySem.W.mg_none_of X G z_len,
      n_list := PySem.W.mg_none_of X G z_list,
      n_min := PySem.W.mg_none_of X G z_min,
      n_range := PySem.W.mg_none_of X G z_range,
      n_set := PySem.W.mg_none_of X G z_set,
      n_sorted := PySem.W.mg_none_of X G z_sorted,
      n_str := PySem.W.mg_none_of X G z_str,
      n_tuple := PySem.W.mg_none_of X G z_tuple }
  exact ⟨(PySem.W.fnOf "law" "law" (defArgs s_law) (defBody s_law) (defScope s_law) .none kV28 dc28 pm28 an28 cd28 ct28), fun s v => .of_eq rfl, fun base _ _ => ok_law T⟩
end R1
open PySem PySem.W PyProof.Rows
set_option maxHeartbeats 0 in
theorem PySem.Challenge.cw_romwright_k28_lets_and_rings_holds : PySem.Challenge.rw_romwright_k28_lets_and_rings.Holds := by
  w_on; o_law; k_head; (case hw => w_witness2)
  k_fill
  refine L2.walk_of (l := PySem.Challenge.rw_romwright_k28_lets_and_rings) (n := 63) (k := 80) (x := "_law_script") (CX := fun _ => L2.CX0) (sp := fun w => R1.spLaw _) rfl (by decide) rfl ⟨rfl, by decide, by decide⟩ (fun w h Y => PySem.W.kIn_of Y) ?F (fun _ _ a ns hl _ hS => ⟨a, ns, rfl, hS, hl, fun _ => rfl⟩) (fun _ _ _ _ _ h => h)
  case F =>
    intro w mg fa h KX G hmg
    refine' R1.all_mk KX G hmg ?a1 ?l1 ?c1 ?k1 ?a2 ?l2 ?c2 ?k2 ?a3 ?l3 ?c3 ?k3 ?a4 ?l4 ?c4 ?k4 ?a5 ?l5 ?c5 ?k5 ?a6 ?l6 ?c6 ?k6 ?a7 ?l7 ?c7 ?k7 ?a8 ?l8 ?c8 ?k8 ?a9 ?l9 ?c9 ?k9 ?a10 ?l10 ?c10 ?k10 ?a11 ?l11 ?c11 ?k11 ?a12 ?l12 ?c12 ?k12 ?a13 ?l13 ?c13 ?k13 ?a14 ?l14 ?c14 ?k14 ?a15 ?l15 ?c15 ?k15 ?a16 ?l16 ?c16 ?k16 ?a17 ?l17 ?c17 ?k17 ?a18 ?l18 ?c18 ?k18 ?a19 ?l19 ?c19 ?k19 ?a20 ?l20 ?c20 ?k20 ?a21 ?l21 ?c21 ?k21 ?a22 ?l22 ?c22 ?k22 ?a23 ?l23 ?c23 ?k23 ?a24 ?l24 ?c24 ?k24 ?a25 ?l25 ?c25 ?k25 ?a26 ?l26 ?c26 ?k26 ?a27 ?l27 ?c27 ?k27 ?a28 ?l28 ?c28 ?k28 ?gc_RomError ?gc_FACTS ?q_FACTS ?qv_FACTS ?gc_COMPARISONS ?q_COMPARISONS ?qv_COMPARISONS ?gc_MOST ?z_abs ?z_all ?z_any ?z_bool ?z_dict ?z_int ?z_isinstance ?z_len ?z_list ?z_min ?z_range ?z_set ?z_sorted ?z_str ?z_tuple
    (case a1 => k_is)
    (case a2 => k_is)
    (case a3 => k_is)
    (case a4 => k_is)
    (case a5 => k_is)
    (case a6 => k_is)
    (case a7 => k_is)
    (case a8 => k_is)
    (case a9 => k_is)
    (case a10 => k_is)
    (case a11 => k_is)
    (case a12 => k_is)
    (case a13 => k_is)
    (case a14 => k_is)
    (case a15 => k_is)
    (case a16 => k_is)
    (case a17 => k_is)
    (case a18 => k_is)
    (case a19 => k_is)
    (case a20 => k_is)
    (case a21 => k_is)
    (case a22 => k_is)
    (case a23 => k_is)
    (case a24 => k_is)
    (case a25 => k_is)
    (case a26 => k_is)
    (case a27 => k_is)
    (case a28 => k_is)
    (case gc_RomError => k_is)
    (case gc_FACTS => k_is)
    (case gc_COMPARISONS => k_is)
    (case gc_MOST => k_is)
    (case l1 => k_is)
    (case c1 => k_is)
    (case k1 => k_is)
    (case l2 => k_is)
    (case c2 => k_is)
    (case k2 => k_is)
    (case l3 => k_is)
    (case c3 => k_is)
    (case k3 => k_is)
    (case l4 => k_is)
    (case c4 => k_is)
    (case k4 => k_is)
    (case l5 => k_is)
    (case c5 => k_is)
    (case k5 => k_is)
    (case l6 => k_is)
    (case c6 => k_is)
    (case k6 => k_is)
    (case l7 => k_is)
    (case c7 => k_is)
    (case k7 => k_is)
    (case l8 => k_is)
    (case c8 => k_is)
    (case k8 => k_is)
    (case l9 => k_is)
    (case c9 => k_is)
    (case k9 => k_is)
    (case l10 => k_is)
    (case c10 => k_is)
    (case k10 => k_is)
    (case l11 => k_is)
    (case c11 => k_is)
    (case k11 => k_is)
    (case l12 => k_is)
    (case c12 => k_is)
    (case k12 => k_is)
    (case l13 => k_is)
    (case c13 => k_is)
    (case k13 => k_is)
    (case l14 => k_is)
    (case c14 => k_is)
    (case k14 => k_is)
    (case l15 => k_is)
    (case c15 => k_is)
    (case k15 => k_is)
    (case l16 => k_is)
    (case c16 => k_is)
    (case k16 => k_is)
    (case l17 => k_is)
    (case c17 => k_is)
    (case k17 => k_is)
    (case l18 => k_is)
    (case c18 => k_is)
    (case k18 => k_is)
    (case l19 => k_is)
    (case c19 => k_is)
    (case k19 => k_is)
    (case l20 => k_is)
    (case c20 => k_is)
    (case k20 => k_is)
    (case l21 => k_is)
    (case c21 => k_is)
    (case k21 => k_is)
    (case l22 => k_is)
    (case c22 => k_is)
    (case k22 => k_is)
    (case l23 => k_is)
    (case c23 => k_is)
    (case k23 => k_is)
    (case l24 => k_is)
    (case c24 => k_is)
    (case k24 => k_is)
    (case l25 => k_is)
    (case c25 => k_is)
    (case k25 => k_is)
    (case l26 => k_is)
    (case c26 => k_is)
    (case k26 => k_is)
    (case l27 => k_is)
    (case c27 => k_is)
    (case k27 => k_is)
    (case l28 => k_is)
    (case c28 => k_is)
    (case k28 => k_is)
    (case q_FACTS => k_is)
    (case qv_FACTS => repeat (first | exact .nil | refine .cons (by first | exact ⟨_, rfl⟩ | rfl) ?_))
    (case q_COMPARISONS => k_is)
    (case qv_COMPARISONS => repeat (first | exact .nil | refine .cons (by first | exact ⟨_, rfl⟩ | rfl) ?_))
    (case z_abs => k_is)
    (case z_all => k_is)
    (case z_any => k_is)
    (case z_bool => k_is)
    (case z_dict => k_is)
    (case z_int => k_is)
    (case z_isinstance => k_is)
    (case z_len => k_is)
    (case z_list => k_is)
    (case z_min => k_is)
    (case z_range => k_is)
    (case z_set => k_is)
    (case z_sorted => k_is)
    (case z_str => k_is)
    (case z_tuple => k_is)

