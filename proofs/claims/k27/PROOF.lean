import PyProof.Rows.All
import Wide.All
import OpenK.AllK
import Wide.FinOn
import HandS.ForMost
import HandS.Wide
import HandS.Walk
import HandS.IsInst
import HandS.TupAny
import HandS.StrMore
import HandS.Replace
import HandS.Style
import HandS.Evl
import HandS.ForExc
import HandS.ExcInit
import HandS.ExcField
import HandS.ExcIs
import KE.KExcIs
import HandS.HotCalls
import HandS.ExcInitHot
import KE.KxField
import HandS.FStr
import HandS.Iter
import PyProof.Rows.ChunkEnd
import HandS.Star
import HandS.Strs
import HandS.WideBits
import PySem.Challenge.RW_romwright_k27_value_of_trees
import HandS.TryOnly
import HandS.Conv
set_option Elab.async false
set_option linter.all false
set_option maxRecDepth 100000
set_option maxHeartbeats 4000000
namespace RK
open PySem PySem.Spec PyProof.Rows L2
/-! ### heaps -/
/-- all but what stands at p is as it was -/
def But (p : Addr) (H H' : Hp) : Prop := ∀ b o, b ≠ p → H b = some o → H' b = some o
theorem But.refl (p : Addr) (H : Hp) : But p H H := fun _ _ _ h => h
theorem But.upd {p : Addr} {H H' : Hp} {o : HO} (h : But p H H') : But p H (upd H' p o) := fun b u n e => by
  rw [upd_ne n]
  exact h b u n e
theorem But.trans {p : Addr} {H H1 H2 : Hp} (a : But p H H1) (b : But p H1 H2) : But p H H2 := fun c o n h => b c o n (a c o n h)
theorem but_new {p D : Addr} {H H' : Hp} {o : HO} (h : But p H H') (n : H D = none) : But p H (upd H' D o) := fun b u nb e => by
  rw [upd_ne (ne_of_none e n)]
  exact h b u nb e
theorem But.of {p : Addr} {H H' : Hp} (h : Same H H') : But p H H' := fun b o _ e => h b o e
theorem same_new {H : Hp} {p : Addr} {o : HO} (h : H p = none) : Same H (upd H p o) := fun b x e => by
  rw [upd_ne (ne_of_none e h)]
  exact e
theorem sqT_up {K : PySem.W.Frag} {H H' : Hp} {a : Addr} {xs : List V} (h : SqT K H a xs) (e : Same H H') : SqT K H' a xs := by
  rcases h with (h | ⟨o, h⟩) | h
  · exact .inl (.inl (e _ _ h))
  · exact .inl (.inr ⟨o, e _ _ h⟩)
  · exact .inr h
theorem sqL_up {K : PySem.W.Frag} {H H' : Hp} {a : Addr} {xs : List V} (h : SqL K H a xs) (e : Same H H') : SqL K H' a xs := e.seq h
/-- a new object that H did not know changes -/
theorem same_mut {H H' : Hp} {p : Addr} {o : HO} (e : Same H H') (h : H p = none) : Same H (upd H' p o) := fun a u ha => by
  rw [upd_ne (ne_of_none ha h)]
  exact e a u ha
/-- the heap without p -/
def hid (H : Hp) (p : Addr) : Hp := fun b => if b = p then none else H b
theorem hid_same {H : Hp} {p : Addr} : Same (hid H p) H := fun b o e => by
  unfold hid at e
  split at e
  · cases e
  · exact e
theorem hid_at {H : Hp} {p b : Addr} {o : HO} (h : H b = some o) (n : b ≠ p) : hid H p b = some o := by
  unfold hid
  rw [if_neg n]
  exact h
theorem hid_but {H H' : Hp} {p : Addr} (h : But p H H') : Same (hid H p) (hid H' p) := fun b o e => by
  unfold hid at e ⊢
  split at e
  · cases e
  · rename_i n
    rw [if_neg n]
    exact h b o n e
mutual
theorem dpUp {K : PySem.W.Frag} {H H' : Hp} (e : Same H H') : ∀ {v : V} {d : PyData}, Dp K H v d → Dp K H' v d
  | _, _, .non => .non
  | _, _, .bl b => .bl b
  | _, _, .int i => .int i
  | _, _, .str x => .str x
  | _, _, .lst h t => .lst (sqL_up h e) (dpAllUp e t)
  | _, _, .tup h t => .tup (sqT_up h e) (dpAllUp e t)
theorem dpAllUp {K : PySem.W.Frag} {H H' : Hp} (e : Same H H') : ∀ {vs : List V} {ds : List PyData}, DpAll K H vs ds → DpAll K H' vs ds
  | _, _, .nil => .nil
  | _, _, .cons h t => .cons (dpUp e h) (dpAllUp e t)
end
/-! ### data of any depth, none of whose changeable objects lies in S -/
abbrev ASet := Addr → Prop
def noS : ASet := fun _ => False
def inS (S : ASet) (a : Addr) : ASet := fun b => S b ∨ b = a
/-- at a: a list | a tuple that is not in S -/
def XL (K : PySem.W.Frag) (H : Hp) (S : ASet) (a : Addr) (xs : List V) : Prop := (¬ S a ∧ Rd H a (.lst xs)) ∨ SqL K (fun _ => none) a xs
def XT (K : PySem.W.Frag) (H : Hp) (S : ASet) (a : Addr) (xs : List V) : Prop := (¬ S a ∧ Rd H a (.tup xs)) ∨ SqT K (fun _ => none) a xs
/-- what stood outside of S stands -/
def Out (S : ASet) (H H' : Hp) : Prop := ∀ b o, ¬ S b → H b = some o → H' b = some o
theorem Out.of {S : ASet} {H H' : Hp} (h : Same H H') : Out S H H' := fun b o _ e => h b o e
theorem Out.refl (S : ASet) (H : Hp) : Out S H H := fun _ _ _ h => h
theorem Out.trans {S : ASet} {H H1 H2 : Hp} (a : Out S H H1) (b : Out S H1 H2) : Out S H H2 := fun c o n h => b c o n (a c o n h)
theorem Out.mono {S S' : ASet} {H H' : Hp} (h : Out S H H') (k : ∀ a, S a → S' a) : Out S' H H' := fun b o n e => h b o (fun z => n (k b z)) e
theorem Out.put {S : ASet} {H H' : Hp} {a : Addr} {o : HO} (h : Out S H H') (ha : S a) : Out S H (upd H' a o) := fun b u n e => by
  rw [upd_ne fun z => n (by rw [z]; exact ha)]
  exact h b u n e
section
variable {K : PySem.W.Frag} {H H' : Hp} {S S' : ASet} {v x : V} {a p : Addr} {xs : List V} {d : PyData} {ds : List PyData}
theorem XL.sq (h : XL K H S a xs) : SqL K H a xs := by
  rcases h with ⟨_, h⟩ | (h | ⟨_, h⟩) | h
  · exact .inl h
  · cases h
  · cases h
  · exact .inr h
theorem XT.sq (h : XT K H S a xs) : SqT K H a xs := by
  rcases h with ⟨_, h⟩ | (h | ⟨_, h⟩) | h
  · exact .inl h
  · cases h
  · cases h
  · exact .inr h
theorem XL.of (h : H a = some (.lst xs)) (n : ¬ S a) : XL K H S a xs := .inl ⟨n, .inl h⟩
theorem XT.of (h : H a = some (.tup xs)) (n : ¬ S a) : XT K H S a xs := .inl ⟨n, .inl h⟩
theorem XL.up (h : XL K H S a xs) (e : Out S H H') : XL K H' S a xs := by
  rcases h with ⟨n, h | ⟨o, h⟩⟩ | h
  · exact .inl ⟨n, .inl (e _ _ n h)⟩
  · exact .inl ⟨n, .inr ⟨o, e _ _ n h⟩⟩
  · exact .inr h
theorem XT.up (h : XT K H S a xs) (e : Out S H H') : XT K H' S a xs := by
  rcases h with ⟨n, h | ⟨o, h⟩⟩ | h
  · exact .inl ⟨n, .inl (e _ _ n h)⟩
  · exact .inl ⟨n, .inr ⟨o, e _ _ n h⟩⟩
  · exact .inr h
/-- a further address that is not in the heap is kept out -/
theorem XL.add (h : XL K H S a xs) (hp : H p = none) : XL K H (inS S p) a xs := by
  rcases h with ⟨n, h⟩ | h
  · refine .inl ⟨fun z => ?_, h⟩
    rcases z with z | z
    · exact n z
    · subst z
      rcases h with h | ⟨o, h⟩ <;> rw [hp] at h <;> cases h
  · exact .inr h
theorem XT.add (h : XT K H S a xs) (hp : H p = none) : XT K H (inS S p) a xs := by
  rcases h with ⟨n, h⟩ | h
  · refine .inl ⟨fun z => ?_, h⟩
    rcases z with z | z
    · exact n z
    · subst z
      rcases h with h | ⟨o, h⟩ <;> rw [hp] at h <;> cases h
  · exact .inr h
theorem XL.less (h : XL K H S a xs) (k : ∀ a, S' a → S a) : XL K H S' a xs := by
  rcases h with ⟨n, h⟩ | h
  · exact .inl ⟨fun z => n (k _ z), h⟩
  · exact .inr h
theorem XT.less (h : XT K H S a xs) (k : ∀ a, S' a → S a) : XT K H S' a xs := by
  rcases h with ⟨n, h⟩ | h
  · exact .inl ⟨fun z => n (k _ z), h⟩
  · exact .inr h
mutual
inductive Dx (K : PySem.W.Frag) (H : Hp) (S : ASet) : V → PyData → Prop
  | non : Dx K H S .non .none
  | bl (b : Bool) : Dx K H S (.bl b) (.bool b)
  | int (i : Int) : Dx K H S (.int i) (.int i)
  | str (x : Str) : Dx K H S (.str x) (.str x)
  | lst {a : Addr} {xs : List V} {ds : List PyData} : XL K H S a xs → DxAll K H S xs ds → Dx K H S (.ref a) (.list ds)
  | tup {a : Addr} {xs : List V} {ds : List PyData} : XT K H S a xs → DxAll K H S xs ds → Dx K H S (.ref a) (.tuple ds)
inductive DxAll (K : PySem.W.Frag) (H : Hp) (S : ASet) : List V → List PyData → Prop
  | nil : DxAll K H S [] []
  | cons {v : V} {vs : List V} {d : PyData} {ds : List PyData} : Dx K H S v d → DxAll K H S vs ds → DxAll K H S (v :: vs) (d :: ds)
end
mutual
theorem Dx.up (e : Out S H H') : ∀ {v : V} {d : PyData}, Dx K H S v d → Dx K H' S v d
  | _, _, .non => .non
  | _, _, .bl b => .bl b
  | _, _, .int i => .int i
  | _, _, .str x => .str x
  | _, _, .lst h t => .lst (h.up e) (DxAll.up e t)
  | _, _, .tup h t => .tup (h.up e) (DxAll.up e t)
theorem DxAll.up (e : Out S H H') : ∀ {vs : List V} {ds : List PyData}, DxAll K H S vs ds → DxAll K H' S vs ds
  | _, _, .nil => .nil
  | _, _, .cons h t => .cons (Dx.up e h) (DxAll.up e t)
end
mutual
theorem Dx.add (hp : H p = none) : ∀ {v : V} {d : PyData}, Dx K H S v d → Dx K H (inS S p) v d
  | _, _, .non => .non
  | _, _, .bl b => .bl b
  | _, _, .int i => .int i
  | _, _, .str x => .str x
  | _, _, .lst h t => .lst (h.add hp) (DxAll.add hp t)
  | _, _, .tup h t => .tup (h.add hp) (DxAll.add hp t)
theorem DxAll.add (hp : H p = none) : ∀ {vs : List V} {ds : List PyData}, DxAll K H S vs ds → DxAll K H (inS S p) vs ds
  | _, _, .nil => .nil
  | _, _, .cons h t => .cons (Dx.add hp h) (DxAll.add hp t)
end
mutual
theorem Dx.less (k : ∀ a, S' a → S a) : ∀ {v : V} {d : PyData}, Dx K H S v d → Dx K H S' v d
  | _, _, .non => .non
  | _, _, .bl b => .bl b
  | _, _, .int i => .int i
  | _, _, .str x => .str x
  | _, _, .lst h t => .lst (h.less k) (DxAll.less k t)
  | _, _, .tup h t => .tup (h.less k) (DxAll.less k t)
theorem DxAll.less (k : ∀ a, S' a → S a) : ∀ {vs : List V} {ds : List PyData}, DxAll K H S vs ds → DxAll K H S' vs ds
  | _, _, .nil => .nil
  | _, _, .cons h t => .cons (Dx.less k h) (DxAll.less k t)
end
mutual
theorem Dx.dp : ∀ {v : V} {d : PyData}, Dx K H S v d → Dp K H v d
  | _, _, .non => .non
  | _, _, .bl b => .bl b
  | _, _, .int i => .int i
  | _, _, .str x => .str x
  | _, _, .lst h t => .lst h.sq (DxAll.dp t)
  | _, _, .tup h t => .tup h.sq (DxAll.dp t)
theorem DxAll.dp : ∀ {vs : List V} {ds : List PyData}, DxAll K H S vs ds → DpAll K H vs ds
  | _, _, .nil => .nil
  | _, _, .cons h t => .cons (Dx.dp h) (DxAll.dp t)
end
theorem dxAll_get : ∀ {vs : List V} {ds : List PyData} {i : Nat} {x : V}, DxAll K H S vs ds → vs[i]? = some x → ∃ d, ds[i]? = some d ∧ Dx K H S x d
  | _, _, _, _, .nil, e => by simp at e
  | _, _, 0, _, .cons h _, e => by
    simp at e
    subst e
    exact ⟨_, rfl, h⟩
  | _, _, i + 1, x, .cons _ t, e => by
    obtain ⟨d, h1, h2⟩ := dxAll_get (i := i) (x := x) t (by simpa using e)
    exact ⟨d, by simpa using h1, h2⟩
theorem Dx.of_get {vs : List V} {ds : List PyData} {i : Nat} (h : DxAll K H S vs ds) (e : vs[i]? = some x) (e2 : ds[i]? = some d) : Dx K H S x d := by
  obtain ⟨d', h1, h2⟩ := dxAll_get h e
  rw [e2] at h1
  rw [Option.some.inj h1]
  exact h2
theorem dxAll_len : ∀ {vs : List V} {ds : List PyData}, DxAll K H S vs ds → vs.length = ds.length
  | _, _, .nil => rfl
  | _, _, .cons _ t => by
    rw [List.length_cons, List.length_cons, dxAll_len t]
theorem dxAll_app : ∀ {vs ws : List V} {ds es : List PyData}, DxAll K H S vs ds → DxAll K H S ws es → DxAll K H S (vs ++ ws) (ds ++ es)
  | _, _, _, _, .nil, h => h
  | _, _, _, _, .cons a t, h => .cons a (dxAll_app t h)
theorem dxAll_ints : ∀ ns : List Int, DxAll K H S (ns.map V.int) (ns.map PyData.int)
  | [] => .nil
  | n :: r => .cons (.int n) (dxAll_ints r)
theorem dxAll_strs : ∀ ns : List Str, DxAll K H S (ns.map V.str) (ns.map PyData.str)
  | [] => .nil
  | n :: r => .cons (.str n) (dxAll_strs r)
theorem dxAll_ints_inv : ∀ {vs : List V} {ns : List Int}, DxAll K H S vs (ns.map PyData.int) → vs = ns.map V.int
  | _, [], .nil => rfl
  | _, n :: r, .cons h t => by
    cases h
    rw [dxAll_ints_inv t]
    rfl
end
section
variable {K : PySem.W.Frag} {H H' : Hp} {v x : V} {a p : Addr} {xs : List V} {d : PyData} {ds : List PyData}
/-! ### isinstance -/
def tn : PyData → String
  | .none => "NoneType"
  | .bool _ => "bool"
  | .int _ => "int"
  | .str _ => "str"
  | .list _ => "list"
  | .tuple _ => "tuple"
  | .dict _ => "dict"
def isB (a c : String) : Bool := a == c || (a == "bool" && c == "int")
theorem kitT : ∀ a ∈ (["NoneType", "bool", "int", "str", "list", "tuple"] : List String), ∀ c ∈ (["int", "bool", "str", "list", "tuple"] : List String), kitB a c = some (isB a c) := by decide +kernel
theorem dp_tn (h : Dp K H v d) : tn d ∈ (["NoneType", "bool", "int", "str", "list", "tuple"] : List String) := by
  cases h <;> simp [tn]
theorem dp_ty (h : Dp K H v d) : TyX K H v (.type (tn d)) := by
  cases h with
  | non => exact .base .non
  | bl b => exact .base (.bl b)
  | int i => exact .base (.int i)
  | str x => exact .base (.str x)
  | lst h _ =>
    rcases h with (h | ⟨o, h⟩) | ⟨o, its, n, hk, hc, _⟩
    · exact .base (.lst h)
    · exact .base (.frz h)
    · exact .kList hk hc
  | tup h _ =>
    rcases h with (h | ⟨o, h⟩) | ⟨o, its, n, hk, hc, _⟩
    · exact .base (.tup h)
    · exact .fTuple h
    · exact .kTuple hk hc
theorem r_isi {c : String} {Q : VK} (h : Dp K H v d) (hc : c ∈ (["int", "bool", "str", "list", "tuple"] : List String)) (q : Q (.bl (isB (tn d) c)) H) : rIsi K [v, .ty c] H Q :=
  ⟨v, .ty c, _, _, _, rfl, .ty c, dp_ty h, kit_ty (kitT _ (dp_tn h) c hc), q⟩
theorem kit_any {t : String} (ht : t ∈ (["NoneType", "bool", "int", "str", "list", "tuple"] : List String)) : ∀ cs : List String, (∀ c ∈ cs, c ∈ (["int", "bool", "str", "list", "tuple"] : List String)) →
    PySem.W.kitAny K (.type t) (cs.map Value.type) = some (cs.any (isB t))
  | [], _ => rfl
  | c :: r, h => by
    have h1 : PySem.W.kitOne K (.type t) (.type c) = some (isB t c) := kit_ty (kitT t ht c (h c List.mem_cons_self))
    have h2 := kit_any ht r fun x hx => h x (List.mem_cons_of_mem _ hx)
    show PySem.W.kitAny K (.type t) (.type c :: r.map Value.type) = some (isB t c || r.any (isB t))
    refine kitAny_cons h1 (fun e => ?_) (fun e => ?_)
    · rw [e, Bool.false_or]
      exact h2
    · rw [e, Bool.true_or]
theorem paired_ty : ∀ cs : List String, Paired ClsV (cs.map V.ty) (cs.map Value.type)
  | [] => .nil
  | c :: r => .cons (.ty c) (paired_ty r)
theorem r_isiT {cs : List String} {Q : VK} (h : Dp K H v d) (hp : H p = some (.tup (cs.map V.ty))) (hc : ∀ c ∈ cs, c ∈ (["int", "bool", "str", "list", "tuple"] : List String)) (q : Q (.bl (cs.any (isB (tn d)))) H) : rIsiT K [v, .ref p] H Q :=
  ⟨v, p, _, _, _, _, rfl, hp, paired_ty cs, dp_ty h, kit_any (dp_tn h) cs hc, q⟩
end
theorem ifT {c : Bool} {A B : Prop} (h : c = true) (a : A) : if c = true then A else B := by
  rw [if_pos h]
  exact a
theorem ifF {c : Bool} {A B : Prop} (h : c = false) (b : B) : if c = true then A else B := by
  rw [h, if_neg Bool.false_ne_true]
  exact b
theorem ifB {c : Bool} {A B : Prop} (ht : c = true → A) (hf : c = false → B) : if c = true then A else B := by
  cases c with
  | true => exact ifT rfl (ht rfl)
  | false => exact ifF rfl (hf rfl)
theorem lenOk {α : Type} {xs : List α} {n : Nat} (h : xs.length = n) (hn : n ≤ 100000) : xs.length ≤ sizeLine := by
  rw [h]
  exact Nat.le_trans hn (by decide)
theorem range_getD {α β : Type} (g : α → β) (z : α) : ∀ l : List α, (List.range l.length).map (fun i => g (l.getD i z)) = l.map g := fun l => by
  apply List.ext_getElem?
  intro i
  by_cases h : i < l.length
  · rw [List.getElem?_map, List.getElem?_range h, List.getElem?_map, List.getElem?_eq_getElem h]
    simp [List.getD_eq_getElem?_getD, List.getElem?_eq_getElem h]
  · rw [List.getElem?_eq_none (by simp; omega), List.getElem?_eq_none (by simp; omega)]
theorem depth_get : ∀ {ds : List PyData} {i : Nat} {d : PyData}, ds[i]? = some d → d.depth ≤ PyData.depthAll ds
  | [], _, _, h => by simp at h
  | x :: r, 0, d, h => by
    simp at h
    subst h
    exact Nat.le_max_left _ _
  | x :: r, i + 1, d, h => Nat.le_trans (depth_get (ds := r) (i := i) (by simpa using h)) (Nat.le_max_right _ _)
/-! no list or tuple in it is very long -/
mutual
def wdB : PyData → Bool
  | .list xs => decide (xs.length ≤ 100000) && wdA xs
  | .tuple xs => decide (xs.length ≤ 100000) && wdA xs
  | .none => true
  | .bool _ => true
  | .int _ => true
  | .str _ => true
  | .dict _ => true
def wdA : List PyData → Bool
  | [] => true
  | x :: r => wdB x && wdA r
end
theorem wdA_get : ∀ {ds : List PyData} {i : Nat} {d : PyData}, wdA ds = true → ds[i]? = some d → wdB d = true
  | [], _, _, _, h => by simp at h
  | x :: r, 0, d, w, h => by
    simp at h
    subst h
    exact (Bool.and_eq_true_iff.mp w).1
  | x :: r, i + 1, d, w, h => wdA_get (ds := r) (i := i) (Bool.and_eq_true_iff.mp w).2 (by simpa using h)
theorem wdA_all : ∀ {ds : List PyData}, (∀ d ∈ ds, wdB d = true) → wdA ds = true
  | [], _ => rfl
  | x :: r, h => Bool.and_eq_true_iff.mpr ⟨h x List.mem_cons_self, wdA_all fun d hd => h d (List.mem_cons_of_mem _ hd)⟩
/-! ### rules whose reading has a name -/
def rTupOf (K : PySem.W.Frag) : List V → Hp → VK → Prop := fun xs H Q => ∃ p ys, xs = [.ref p] ∧ ((SqL K H p ys ∧ ∀ l, H l = none → Q (.ref l) (upd H l (.tup ys))) ∨ (SqT K H p ys ∧ Q (.ref p) H))
section
variable {X : Cx}
theorem tuple_of : CallR X (.type "tuple") (rTupOf X.K) := call_tuple_of
theorem len_seq : CallR X (.builtin "len") (Evl.rLenS X.K) := call_len_seq
theorem list_of : CallR X (.type "list") (Evl.rListS X.K) := call_list_of
end
/-! ### what a walk goes over, lists or tuples -/
theorem PI_or {X : Cx} {tg l : Expr} {w1 w2 : TI} (h1 : PI X tg l w1) (h2 : PI X tg l w2) : PI X tg l (fun σ H R => w1 σ H R ∨ w2 σ H R) :=
  ⟨fun pins s σ H R I h => h.elim (h1.run pins s σ H R I) (h2.run pins s σ H R I)⟩
/-! ### comprehensions without tests whose elements have a value each; the target is the name at k -/
section
variable {J : It} {n : Nat} {G : Hp → Prop} {Y : Nat → Hp → V → Hp → Prop}
theorem lc_vals (w : Walk J n G Y) {te : TE} {σ : L2.St} {H1 : Hp} {D : Addr} {Qd : Hp → Prop} {k : Nat} (I : Nat → V → Prop) (f : Nat → V) (hD : H1 D = none) (hG : ∀ H, Same H1 H → G H) (hn : n ≤ 1000000)
    (hY : ∀ i H x H', i < n → Y i H x H' → H' = H ∧ I i x)
    (hs : ∀ i x H, i < n → Same H1 H → I i x → ∀ Q : VK, (∀ H3, Same H H3 → Q (f i) H3) → te ((σ.set k none).set k (some x)) H Q) (hd : ∀ H, Same H1 H → H D = some (.lst ((List.range n).map f)) → Qd H) :
    ∃ W : Nat → Nat → Hp → Prop, (∃ m, W 0 m (upd H1 D (.lst []))) ∧ ∀ i m H, W i m H →
      (J.stop i H ∧ Qd H) ∨ (J.go i H ∧ ∃ Nx : Hp → Prop, (∀ H', Nx H' → ∃ m', m' < m ∧ W (i + 1) m' H') ∧ ∀ x H', J.yld i H x H' → gName k x (wipe σ [k]) H' fun σ2 H2 => wipe σ2 [k] = wipe σ [k] ∧ tYes σ2 H2 fun b H3 =>
        if b = true then te σ2 H3 fun y H4 => ∃ acc, H4 D = some (.lst acc) ∧ acc.length < sizeLine ∧ Nx (upd H4 D (.lst (acc ++ [y]))) else Nx H3) := by
  refine lc_it w (fun i H => Same H1 H ∧ H D = some (.lst ((List.range i).map f))) ⟨same_new hD, upd_same⟩ (fun i H _ h => hG H h.1) (fun i x H H' hi hp y => ?_) fun H h => hd H h.1 h.2
  obtain ⟨sm, e⟩ := hp
  obtain ⟨rfl, hx⟩ := hY i H x H' hi y
  refine ⟨?_, ?_⟩
  · show ((σ.set k none).set k (some x)).set k none = σ.set k none
    rw [List.set_set, List.set_set]
  show te ((σ.set k none).set k (some x)) H' _
  refine hs i x H' hi sm hx _ fun H3 s3 => ?_
  have e3 : H3 D = some (.lst ((List.range i).map f)) := s3 _ _ e
  refine ⟨_, e3, ?_, same_mut (sm.trans s3) hD, ?_⟩
  · rw [List.length_map, List.length_range]
    exact Nat.lt_of_lt_of_le (Nat.lt_of_lt_of_le hi hn) (by decide)
  · rw [upd_same, List.range_succ, List.map_append]
    rfl
/-- a comprehension whose elements may change what stands; Pv speaks of the turn, the list so far and the heap -/
theorem lc_inv (w : Walk J n G Y) {te : TE} {σ : L2.St} {H1 : Hp} {D : Addr} {Qd : Hp → Prop} {k : Nat} (I : Nat → V → Prop) (Pv : Nat → List V → Hp → Prop) (hn : n ≤ 1000000) (h0 : Pv 0 [] (upd H1 D (.lst [])))
    (hG : ∀ i acc H, Pv i acc H → G H) (hY : ∀ i H x H', i < n → Y i H x H' → H' = H ∧ I i x)
    (hs : ∀ i x acc H, i < n → acc.length = i → Pv i acc H → H D = some (.lst acc) → I i x → ∀ Q : VK, (∀ v H3, H3 D = some (.lst acc) → Pv (i + 1) (acc ++ [v]) (upd H3 D (.lst (acc ++ [v]))) → Q v H3) → te ((σ.set k none).set k (some x)) H Q)
    (hd : ∀ acc H, acc.length = n → Pv n acc H → H D = some (.lst acc) → Qd H) :
    ∃ W : Nat → Nat → Hp → Prop, (∃ m, W 0 m (upd H1 D (.lst []))) ∧ ∀ i m H, W i m H →
      (J.stop i H ∧ Qd H) ∨ (J.go i H ∧ ∃ Nx : Hp → Prop, (∀ H', Nx H' → ∃ m', m' < m ∧ W (i + 1) m' H') ∧ ∀ x H', J.yld i H x H' → gName k x (wipe σ [k]) H' fun σ2 H2 => wipe σ2 [k] = wipe σ [k] ∧ tYes σ2 H2 fun b H3 =>
        if b = true then te σ2 H3 fun y H4 => ∃ acc, H4 D = some (.lst acc) ∧ acc.length < sizeLine ∧ Nx (upd H4 D (.lst (acc ++ [y]))) else Nx H3) := by
  refine lc_it w (fun i H => ∃ acc, acc.length = i ∧ H D = some (.lst acc) ∧ Pv i acc H) ⟨[], rfl, upd_same, h0⟩ (fun i H _ h => ?_) (fun i x H H' hi hp y => ?_) fun H h => ?_
  · obtain ⟨acc, _, _, p⟩ := h
    exact hG i acc H p
  · obtain ⟨acc, hl, e, p⟩ := hp
    obtain ⟨rfl, hx⟩ := hY i H x H' hi y
    refine ⟨?_, ?_⟩
    · show ((σ.set k none).set k (some x)).set k none = σ.set k none
      rw [List.set_set, List.set_set]
    show te ((σ.set k none).set k (some x)) H' _
    refine hs i x acc H' hi hl p e hx _ fun v H3 e3 p3 => ⟨acc, e3, ?_, acc ++ [v], ?_, upd_same, p3⟩
    · rw [hl]
      exact Nat.lt_of_lt_of_le (Nat.lt_of_lt_of_le hi hn) (by decide)
    · rw [List.length_append, hl]
      rfl
  · obtain ⟨acc, hl, e, p⟩ := h
    exact hd acc H hl p e
theorem lc_data {K : PySem.W.Frag} {S : ASet} (w : Walk J n G Y) {te : TE} {σ : L2.St} {H1 : Hp} {D : Addr} {Qd : Hp → Prop} {k : Nat} (I : Nat → V → Prop) (f : Nat → PyData) (hS : ∀ a, S a → H1 a ≠ none) (hD : H1 D = none) (hG : ∀ H, Same H1 H → G H) (hn : n ≤ 1000000)
    (hY : ∀ i H x H', i < n → Y i H x H' → H' = H ∧ I i x)
    (hs : ∀ i x H, i < n → Same H1 H → H D ≠ none → I i x → ∀ Q : VK, (∀ v H3, Same H H3 → Dx K H3 (inS S D) v (f i) → Q v H3) → te ((σ.set k none).set k (some x)) H Q)
    (hd : ∀ H, Same H1 H → Dx K H S (.ref D) (.list ((List.range n).map f)) → Qd H) :
    ∃ W : Nat → Nat → Hp → Prop, (∃ m, W 0 m (upd H1 D (.lst []))) ∧ ∀ i m H, W i m H →
      (J.stop i H ∧ Qd H) ∨ (J.go i H ∧ ∃ Nx : Hp → Prop, (∀ H', Nx H' → ∃ m', m' < m ∧ W (i + 1) m' H') ∧ ∀ x H', J.yld i H x H' → gName k x (wipe σ [k]) H' fun σ2 H2 => wipe σ2 [k] = wipe σ [k] ∧ tYes σ2 H2 fun b H3 =>
        if b = true then te σ2 H3 fun y H4 => ∃ acc, H4 D = some (.lst acc) ∧ acc.length < sizeLine ∧ Nx (upd H4 D (.lst (acc ++ [y]))) else Nx H3) := by
  have hnS : ¬ S D := fun z => hS D z hD
  refine lc_it w (fun i H => Same H1 H ∧ ∃ acc, H D = some (.lst acc) ∧ DxAll K H (inS S D) acc ((List.range i).map f)) ⟨same_new hD, [], upd_same, .nil⟩ (fun i H _ h => hG H h.1) (fun i x H H' hi hp y => ?_) fun H h => ?_
  · obtain ⟨sm, acc, e, da⟩ := hp
    obtain ⟨rfl, hx⟩ := hY i H x H' hi y
    refine ⟨?_, ?_⟩
    · show ((σ.set k none).set k (some x)).set k none = σ.set k none
      rw [List.set_set, List.set_set]
    show te ((σ.set k none).set k (some x)) H' _
    refine hs i x H' hi sm (by rw [e]; exact fun z => nomatch z) hx _ fun v H3 s3 dv => ?_
    have hl : acc.length = i := by rw [dxAll_len da, List.length_map, List.length_range]
    refine ⟨acc, s3 _ _ e, ?_, same_mut (sm.trans s3) hD, acc ++ [v], upd_same, ?_⟩
    · rw [hl]
      exact Nat.lt_of_lt_of_le (Nat.lt_of_lt_of_le hi hn) (by decide)
    · rw [List.range_succ, List.map_append]
      have o : Out (inS S D) H3 (upd H3 D (.lst (acc ++ [v]))) := (Out.refl _ _).put (.inr rfl)
      exact dxAll_app (DxAll.up o (DxAll.up (Out.of s3) da)) (.cons (Dx.up o dv) .nil)
  · obtain ⟨sm, acc, e, da⟩ := h
    exact hd H sm (.lst (XL.of e hnS) (DxAll.less (fun a z => .inl z) da))
end
end RK

namespace RK
open PySem PySem.Spec PyProof.Rows L2 PySem.Builtin.Str
/-! ### texts as lists of code points -/
def sO (l : List Nat) : Str := ⟨l.toArray⟩
theorem sO_eta (x : Str) : sO x.cps.toList = x := rfl
theorem sO_list (l : List Nat) : (sO l).cps.toList = l := rfl
theorem sO_len (l : List Nat) : (sO l).length = l.length := rfl
theorem sO_inj {a b : List Nat} (h : sO a = sO b) : a = b := by
  have := congrArg (fun s : Str => s.cps.toList) h
  exact this
theorem sO_app (a b : List Nat) : sO a ++ sO b = sO (a ++ b) := by
  show (⟨a.toArray ++ b.toArray⟩ : Str) = ⟨(a ++ b).toArray⟩
  rw [List.append_toArray]
theorem sO_at {l : List Nat} {i : Nat} {c : Nat} (h : l[i]? = some c) : atI (sO l).cps.toList (i : Int) = some c := atI_nat h
theorem join_fold (l : List Str) : ∀ (acc : Array Nat), (l.foldl (fun acc p => acc ++ (sO []).cps ++ p.cps) acc) = (acc.toList ++ (l.map fun s => s.cps.toList).flatten).toArray := by
  induction l with
  | nil => intro acc; simp
  | cons p r ih =>
    intro acc
    rw [List.foldl_cons, ih]
    simp [sO]
theorem join_nil (l : List Str) : Txt.join (sO []) l = sO (l.map fun s => s.cps.toList).flatten := by
  cases l with
  | nil => rfl
  | cons p r =>
    show (⟨(r.foldl (fun acc p => acc ++ (sO []).cps ++ p.cps) p.cps)⟩ : Str) = _
    rw [join_fold]
    simp [sO]
theorem strip_take (goes : Nat → Bool) : ∀ l : List Nat, l.take (l.length - (l.reverse.takeWhile goes).length) = (l.reverse.dropWhile goes).reverse := fun l => by
  have h : l.reverse = l.reverse.takeWhile goes ++ l.reverse.dropWhile goes := (List.takeWhile_append_dropWhile).symm
  have h2 : l = (l.reverse.dropWhile goes).reverse ++ (l.reverse.takeWhile goes).reverse := by
    rw [← List.reverse_append, List.takeWhile_append_dropWhile, List.reverse_reverse]
  have h3 : l.length = (l.reverse.dropWhile goes).length + (l.reverse.takeWhile goes).length := by
    have := congrArg List.length h2
    rw [List.length_append, List.length_reverse, List.length_reverse] at this
    exact this
  have h4 : l.length - (l.reverse.takeWhile goes).length = (l.reverse.dropWhile goes).reverse.length := by
    rw [List.length_reverse]
    omega
  rw [h4]
  conv => lhs; arg 2; rw [h2]
  rw [List.take_left]
theorem rstrip_sO (l : List Nat) : Txt.rstrip (sO l) = sO (l.reverse.dropWhile Unicode.isSpace).reverse := by
  have hi : stripHi Unicode.isSpace true (sO l) 0 = l.length - (l.reverse.takeWhile Unicode.isSpace).length := rfl
  show (if (stripSame Unicode.isSpace false true (sO l)) = true then sO l else stripped Unicode.isSpace false true (sO l)) = _
  have e : stripped Unicode.isSpace false true (sO l) = sO (l.reverse.dropWhile Unicode.isSpace).reverse := by
    show (⟨l.toArray.extract 0 (l.length - (l.reverse.takeWhile Unicode.isSpace).length)⟩ : Str) = _
    rw [List.extract_toArray, List.extract_eq_take_drop, List.drop_zero, Nat.sub_zero, strip_take]
    rfl
  split
  · rename_i h
    have h1 : (l.length - (l.reverse.takeWhile Unicode.isSpace).length == l.length) = true := (Bool.and_eq_true_iff.mp h).2
    have h2 : l.length - (l.reverse.takeWhile Unicode.isSpace).length = l.length := by simpa using h1
    have h3 := strip_take Unicode.isSpace l
    rw [h2, List.take_length] at h3
    rw [← h3]
  · exact e
theorem ljust_sO (l : List Nat) (n : Nat) (h : l.length ≤ n) : Txt.ljust (sO l) (n : Int) = sO (l ++ List.replicate (n - l.length) 32) := by
  show (if (n : Int) ≤ (l.length : Nat) then sO l else padded (sO l) 0 ((n : Int).toNat - l.length) 32) = _
  split
  · rename_i h2
    have : n - l.length = 0 := by omega
    rw [this]
    simp [sO]
  · show (⟨Array.replicate 0 32 ++ l.toArray ++ Array.replicate ((n : Int).toNat - l.length) 32⟩ : Str) = _
    rw [Int.toNat_natCast]
    simp [sO]
/-- parts of a text -/
theorem cut_lo (l : List Nat) (k : Nat) : cutS (sO l) (some (k : Int)) none = sO (l.drop k) := by
  show (⟨((l.drop (HT.sIx l.length 0 (some (k : Int)))).take (HT.sIx l.length l.length none - HT.sIx l.length 0 (some (k : Int)))).toArray⟩ : Str) = _
  rw [HT.sIx_nat, HT.sIx_none]
  have e : (l.drop (min k l.length)).take (l.length - min k l.length) = l.drop k := by
    rw [List.take_of_length_le (by rw [List.length_drop]; omega)]
    by_cases h : k ≤ l.length
    · rw [Nat.min_eq_left h]
    · rw [Nat.min_eq_right (by omega), List.drop_length, List.drop_of_length_le (by omega)]
  rw [e]
  rfl
theorem cut_hi (l : List Nat) (k : Nat) : cutS (sO l) none (some (k : Int)) = sO (l.take k) := by
  show (⟨((l.drop (HT.sIx l.length 0 none)).take (HT.sIx l.length l.length (some (k : Int)) - HT.sIx l.length 0 none)).toArray⟩ : Str) = _
  rw [HT.sIx_nat, HT.sIx_none, List.drop_zero, Nat.sub_zero]
  have e : l.take (min k l.length) = l.take k := by
    by_cases h : k ≤ l.length
    · rw [Nat.min_eq_left h]
    · rw [Nat.min_eq_right (by omega), List.take_length, List.take_of_length_le (by omega)]
  rw [e]
  rfl
theorem rep_fold (a : Array Nat) : ∀ (n : Nat) (acc : Array Nat), (List.replicate n a).foldl (· ++ ·) acc = (acc.toList ++ (List.replicate n a.toList).flatten).toArray
  | 0, acc => by simp
  | n + 1, acc => by
    rw [List.replicate_succ, List.foldl_cons, rep_fold a n, List.replicate_succ]
    simp
section
variable {X : Cx}
/-- a text times a small number -/
theorem op_rep_str : OpR X (binaryOp .Mult) (fun x y H Q => ∃ (l : List Nat) (n : Nat), x = .str (sO l) ∧ y = .int (n : Int) ∧ l.length ≤ 1000 ∧ n ≤ 1000 ∧ Q (.str (sO (List.replicate n l).flatten)) H) := by
  intro pins s σ H x y v u Q I rx ry h
  obtain ⟨l, n, rfl, rfl, hl, hn, q⟩ := h
  obtain ⟨t, rfl⟩ := rx
  obtain ⟨t2, rfl⟩ := ry
  have big : l.length * n ≤ 1000000 := Nat.mul_le_mul hl hn
  refine P.mul_str ?_ (fun _ _ => ?_) (fun _ _ => ?_) ?_
  · rw [decide_eq_false (show ¬ (n : Int) < -(2 ^ 63) by omega), decide_eq_false (show ¬ (n : Int) ≥ 2 ^ 63 by omega)]
    rfl
  · show ¬ ((l.length : Nat) : Int) > (2 ^ 63 - 1) / (n : Int)
    have h1 : (0 : Int) < n := by omega
    have h2 : (1000 : Int) ≤ (2 ^ 63 - 1) / (n : Int) := (Int.le_ediv_iff_mul_le h1).mpr (by omega)
    omega
  · show tooLong (l.length * (n : Int).toNat) = false
    rw [Int.toNat_natCast]
    exact decide_eq_false (by show ¬ _; have : (1000000 : Nat) ≤ sizeLine := by decide
                              omega)
  · have fin : ∀ (z : Str) tk tok, z = sO (List.replicate n l).flatten → EP X pins σ Q (Value.str z tok) { s with toks := tk } := fun z tk tok e => by subst e; exact ⟨.str _, H, I.tok _, ⟨_, rfl⟩, q⟩
    have hsz : ∀ z : Str, z = sO (List.replicate n l).flatten → z.length ≤ sizeLine := fun z e => by
      rw [e, sO_len]
      have e2 : (List.replicate n l).flatten.length = n * l.length := by simp
      rw [e2, Nat.mul_comm]
      exact Nat.le_trans big (by decide)
    split
    · have : n = 0 := by omega
      subst this
      exact ⟨by decide, fin _ _ _ rfl⟩
    · split
      · rename_i h2
        rcases Bool.or_eq_true_iff.mp h2 with h3 | h3
        · have h4 : (n : Int) = 1 := by simpa using h3
          have h5 : n = 1 := by omega
          subst h5
          refine fin _ s.toks _ ?_
          simp
        · have h4 : l.length = 0 := (eq_of_beq h3 : (sO l).length = 0)
          have h5 : l = [] := List.eq_nil_of_length_eq_zero h4
          subst h5
          refine fin _ s.toks _ ?_
          have : (List.replicate n ([] : List Nat)).flatten = [] := by simp
          rw [this]
      · have e : (⟨(List.replicate (n : Int).toNat (sO l).cps).foldl (· ++ ·) #[]⟩ : Str) = sO (List.replicate n l).flatten := by
          rw [rep_fold, Int.toNat_natCast]
          simp [sO]
        exact ⟨hsz _ e, fin _ _ _ e⟩
end
end RK

namespace RK
open PySem PySem.Spec PyProof.Rows L2 PySem.Builtin.Str
/-! ### names and the words that pack them -/
def sg (k : Nat) : Nat := if k = 0 then 32 else if k ≤ 26 then 96 + k else 21 + k
abbrev LTR : List Nat := (Str.ofString "abcdefghijklmnopqrstuvwxyz").cps.toList
abbrev SGN : List Nat := (Str.ofString " abcdefghijklmnopqrstuvwxyz0123456789").cps.toList
theorem SGN_eq : SGN = (List.range 37).map sg := by decide +kernel
theorem LTR_eq : LTR = (List.range 26).map fun k => sg (k + 1) := by decide +kernel
def isN (l : List Nat) : Bool := (decide (1 ≤ l.length) && decide (l.length ≤ 9) && decide (l.headD 0 ∈ LTR)) && l.all fun c => decide (c ∈ SGN) && !decide (c = 32)
theorem dec_blank (c : Nat) : decide (V.str (sO [c]) = V.str (Str.ofString " ")) = decide (c = 32) := by
  have e : Str.ofString " " = sO [32] := by decide +kernel
  rw [e, decide_eq_decide]
  constructor
  · intro h
    have := sO_inj (V.str.inj h)
    exact (List.cons.inj this).1
  · intro h
    rw [h]
/-- the codes of a name -/
structure Nk (ks : List Nat) : Prop where
  pos : 1 ≤ ks.length
  le : ks.length ≤ 9
  head : 1 ≤ ks.headD 0 ∧ ks.headD 0 ≤ 26
  all : ∀ k ∈ ks, 1 ≤ k ∧ k ≤ 36
theorem sg_mem {k : Nat} (h : k ≤ 36) : sg k ∈ SGN := by
  rw [SGN_eq]
  exact List.mem_map.mpr ⟨k, List.mem_range.mpr (by omega), rfl⟩
theorem sg_ne {k : Nat} (h : 1 ≤ k) : sg k ≠ 32 := by
  unfold sg
  split
  · omega
  · split <;> omega
theorem sg_inj {a b : Nat} (ha : a ≤ 36) (hb : b ≤ 36) (h : sg a = sg b) : a = b := by
  unfold sg at h
  split at h <;> split at h <;> (try split at h) <;> (try split at h) <;> omega
theorem sg_lt {k : Nat} (h : k ≤ 36) : sg k ∈ LTR ↔ 1 ≤ k ∧ k ≤ 26 := by
  rw [LTR_eq, List.mem_map]
  constructor
  · rintro ⟨j, hj, e⟩
    have hj := List.mem_range.mp hj
    have := sg_inj (by omega) h e
    omega
  · rintro ⟨h1, h2⟩
    exact ⟨k - 1, List.mem_range.mpr (by omega), by rw [Nat.sub_add_cancel h1]⟩
theorem isN_codes {ks : List Nat} (h36 : ∀ k ∈ ks, k ≤ 36) : isN (ks.map sg) = (decide (1 ≤ ks.length) && decide (ks.length ≤ 9) && decide (1 ≤ ks.headD 0 ∧ ks.headD 0 ≤ 26) && ks.all fun k => decide (1 ≤ k)) := by
  unfold isN
  rw [List.length_map]
  have e1 : decide ((ks.map sg).headD 0 ∈ LTR) = decide (1 ≤ ks.headD 0 ∧ ks.headD 0 ≤ 26) := by
    cases ks with
    | nil => decide +kernel
    | cons k r =>
      show decide (sg k ∈ LTR) = decide (1 ≤ k ∧ k ≤ 26)
      rw [decide_eq_decide]
      exact sg_lt (h36 k List.mem_cons_self)
  have e2 : ((ks.map sg).all fun c => decide (c ∈ SGN) && !decide (c = 32)) = ks.all fun k => decide (1 ≤ k) := by
    rw [List.all_map]
    apply Bool.eq_iff_iff.mpr
    rw [List.all_eq_true, List.all_eq_true]
    constructor
    · intro h k hk
      have := h k hk
      apply decide_eq_true
      rcases Nat.eq_zero_or_pos k with z | z
      · subst z
        exact absurd this (by decide +kernel)
      · exact z
    · intro h k hk
      have hk1 : 1 ≤ k := of_decide_eq_true (h k hk)
      show (decide (sg k ∈ SGN) && !decide (sg k = 32)) = true
      rw [decide_eq_true (sg_mem (h36 k hk)), decide_eq_false (sg_ne hk1)]
      rfl
  rw [e1, e2]
theorem isN_of {ks : List Nat} (h : Nk ks) : isN (ks.map sg) = true := by
  rw [isN_codes fun k hk => (h.all k hk).2, decide_eq_true h.pos, decide_eq_true h.le, decide_eq_true h.head]
  rw [List.all_eq_true.mpr fun k hk => decide_eq_true (h.all k hk).1]
  rfl
theorem isN_long {l : List Nat} (h : 10 ≤ l.length) : isN l = false := by
  unfold isN
  rw [decide_eq_false (show ¬ l.length ≤ 9 by omega), Bool.and_false]
  rfl
theorem isN_head {l : List Nat} (h : l.headD 0 ∉ LTR) : isN l = false := by
  unfold isN
  rw [decide_eq_false h, Bool.and_false]
  rfl
theorem isN_mem {l : List Nat} {c : Nat} (h : c ∈ l) (hc : (decide (c ∈ SGN) && !decide (c = 32)) = false) : isN l = false := by
  unfold isN
  rw [show (l.all fun c => decide (c ∈ SGN) && !decide (c = 32)) = false from ?_, Bool.and_false]
  apply Bool.eq_false_iff.mpr
  intro z
  have := List.all_eq_true.mp z c h
  rw [hc] at this
  cases this
/-! words -/
def cds (w : Nat) : List Nat := [w / 1600, w / 40 % 40, w % 40]
def rtrim (ks : List Nat) : List Nat := (ks.reverse.dropWhile (· == 0)).reverse
theorem rtrim_app (l : List Nat) (x : Nat) : rtrim (l ++ [x]) = if x = 0 then rtrim l else l ++ [x] := by
  unfold rtrim
  rw [List.reverse_append]
  show ((x :: l.reverse).dropWhile (· == 0)).reverse = _
  rw [List.dropWhile_cons]
  by_cases h : x = 0
  · rw [if_pos h, if_pos (by rw [h]; rfl)]
  · rw [if_neg h, if_neg (by simpa using h)]
    simp
theorem rtrim_pre (l : List Nat) : rtrim l = l.take (rtrim l).length := by
  have h : l.reverse = l.reverse.takeWhile (· == 0) ++ l.reverse.dropWhile (· == 0) := (List.takeWhile_append_dropWhile).symm
  have h2 : l = rtrim l ++ (l.reverse.takeWhile (· == 0)).reverse := by
    unfold rtrim
    rw [← List.reverse_append, List.takeWhile_append_dropWhile, List.reverse_reverse]
  conv => rhs; arg 2; rw [h2]
  rw [List.take_left]
theorem rtrim_big {l : List Nat} {x : Nat} (h : x ∈ l) (hx : x ≠ 0) : x ∈ rtrim l := by
  have h2 : l = rtrim l ++ (l.reverse.takeWhile (· == 0)).reverse := by
    unfold rtrim
    rw [← List.reverse_append, List.takeWhile_append_dropWhile, List.reverse_reverse]
  rw [h2] at h
  rcases List.mem_append.mp h with h | h
  · exact h
  · have := List.mem_reverse.mp h
    have h3 : ∀ (r : List Nat), x ∈ r.takeWhile (· == 0) → x = 0 := fun r => by
      induction r with
      | nil => intro z; cases z
      | cons y r ih =>
        rw [List.takeWhile_cons]
        split
        · rename_i hy
          intro z
          rcases List.mem_cons.mp z with z | z
          · rw [z]; simpa using hy
          · exact ih z
        · intro z; cases z
    exact absurd (h3 _ this) hx
theorem rtrim_sub {l : List Nat} {x : Nat} (h : x ∈ rtrim l) : x ∈ l := by
  rw [rtrim_pre] at h
  exact List.mem_of_mem_take h
theorem rtrim_len (l : List Nat) : (rtrim l).length ≤ l.length := by
  rw [rtrim_pre, List.length_take]
  omega
theorem rtrim_head {l : List Nat} (h : rtrim l ≠ []) : (rtrim l).headD 0 = l.headD 0 := by
  rw [rtrim_pre] at h ⊢
  cases l with
  | nil => simp at h
  | cons x r =>
    cases e : (rtrim (x :: r)).length with
    | zero => rw [e] at h; exact absurd rfl h
    | succ n => rfl
/-- the program's way -/
def wn (ks : List Nat) : Option (List Nat) := if ks.any (fun k => decide (37 ≤ k)) then none else if isN ((rtrim ks).map sg) then some ((rtrim ks).map sg) else none
/-- the law's way -/
def un (ks : List Nat) : Option (List Nat) := if (rtrim ks).all (fun k => decide (1 ≤ k ∧ k ≤ 36)) && (decide ((rtrim ks).length ≠ 0) && decide (ks.headD 0 ≤ 26)) then some ((rtrim ks).map sg) else none
theorem wn_un (ks : List Nat) (h9 : ks.length ≤ 9) : wn ks = un ks := by
  unfold wn un
  by_cases hb : ks.any (fun k => decide (37 ≤ k)) = true
  · rw [if_pos hb]
    obtain ⟨k, hk, hk2⟩ := List.any_eq_true.mp hb
    have hk3 : 37 ≤ k := of_decide_eq_true hk2
    have : (rtrim ks).all (fun k => decide (1 ≤ k ∧ k ≤ 36)) = false := by
      apply Bool.eq_false_iff.mpr
      intro z
      have := of_decide_eq_true (List.all_eq_true.mp z k (rtrim_big hk (by omega)))
      omega
    rw [this]
    rfl
  · rw [if_neg hb]
    have h36 : ∀ k ∈ ks, k ≤ 36 := fun k hk => by
      apply Decidable.byContradiction
      intro z
      exact hb (List.any_eq_true.mpr ⟨k, hk, decide_eq_true (by omega)⟩)
    have h36' : ∀ k ∈ rtrim ks, k ≤ 36 := fun k hk => h36 k (rtrim_sub hk)
    have hl := rtrim_len ks
    have e : isN ((rtrim ks).map sg) = ((rtrim ks).all (fun k => decide (1 ≤ k ∧ k ≤ 36)) && (decide ((rtrim ks).length ≠ 0) && decide (ks.headD 0 ≤ 26))) := by
      rw [isN_codes h36']
      apply Bool.eq_iff_iff.mpr
      simp only [Bool.and_eq_true, decide_eq_true_eq, List.all_eq_true]
      constructor
      · rintro ⟨⟨⟨h1, _⟩, h3, h4⟩, h5⟩
        have hne : rtrim ks ≠ [] := fun z => by rw [z] at h1; exact absurd h1 (by decide)
        rw [rtrim_head hne] at h3 h4
        exact ⟨fun k hk => ⟨h5 k hk, h36' k hk⟩, by omega, h4⟩
      · rintro ⟨h1, h2, h3⟩
        have hne : rtrim ks ≠ [] := fun z => by rw [z] at h2; exact h2 rfl
        refine ⟨⟨⟨by omega, by omega⟩, ?_⟩, fun k hk => (h1 k hk).1⟩
        have hm : (rtrim ks).headD 0 ∈ rtrim ks := by
          cases hr : rtrim ks with
          | nil => exact absurd hr hne
          | cons x r => exact List.mem_cons_self
        have := h1 _ hm
        rw [rtrim_head hne] at this ⊢
        exact ⟨this.1, h3⟩
    rw [e]
def pad (ks : List Nat) : List Nat := ks ++ List.replicate (9 - ks.length) 0
theorem pad_len {ks : List Nat} (h : ks.length ≤ 9) : (pad ks).length = 9 := by
  unfold pad
  rw [List.length_append, List.length_replicate]
  omega
def pk1 (cs : List Nat) (k : Nat) : Nat := (cs.getD k 0 * 40 + cs.getD (k + 1) 0) * 40 + cs.getD (k + 2) 0
def pk3 (cs : List Nat) : List Nat := [pk1 cs 0, pk1 cs 3, pk1 cs 6]
theorem cds_pk1 {cs : List Nat} {k : Nat} (h : ∀ x ∈ cs, x ≤ 39) : cds (pk1 cs k) = [cs.getD k 0, cs.getD (k + 1) 0, cs.getD (k + 2) 0] := by
  have g : ∀ i, cs.getD i 0 ≤ 39 := fun i => by
    rw [List.getD_eq_getElem?_getD]
    cases e : cs[i]? with
    | none => exact Nat.zero_le _
    | some x => exact h x (List.mem_of_getElem? e)
  have a := g k
  have b := g (k + 1)
  have c := g (k + 2)
  unfold cds pk1
  congr 1
  · omega
  · congr 1
    · omega
    · congr 1
      omega
theorem cds_pk3 {cs : List Nat} (h : ∀ x ∈ cs, x ≤ 39) (h9 : cs.length = 9) : (pk3 cs).flatMap cds = cs := by
  match cs, h9 with
  | [a, b, c, d, e, f, g, i, j], _ =>
    show cds _ ++ (cds _ ++ (cds _ ++ [])) = _
    rw [cds_pk1 h, cds_pk1 h, cds_pk1 h]
    rfl
theorem rtrim_pad {ks : List Nat} (h : Nk ks) : rtrim (pad ks) = ks := by
  unfold pad
  generalize 9 - ks.length = n
  induction n with
  | zero =>
    rw [List.replicate_zero, List.append_nil]
    cases e : ks.reverse with
    | nil =>
      have := congrArg List.reverse e
      rw [List.reverse_reverse] at this
      rw [this]
      rfl
    | cons x r =>
      have e2 : ks = r.reverse ++ [x] := by
        have := congrArg List.reverse e
        rw [List.reverse_reverse, List.reverse_cons] at this
        exact this
      rw [e2, rtrim_app, if_neg]
      have := h.all x (by rw [e2]; simp)
      omega
  | succ n ih =>
    rw [List.replicate_succ', ← List.append_assoc, rtrim_app, if_pos rfl]
    exact ih
theorem pad_le {ks : List Nat} (h : Nk ks) : ∀ x ∈ pad ks, x ≤ 39 := fun x hx => by
  unfold pad at hx
  rcases List.mem_append.mp hx with hx | hx
  · have := h.all x hx
    omega
  · have := List.eq_of_mem_replicate hx
    omega
theorem wn_pad {ks : List Nat} (h : Nk ks) : wn (pad ks) = some (ks.map sg) := by
  unfold wn
  rw [rtrim_pad h, isN_of h, if_neg, if_pos rfl]
  intro z
  obtain ⟨k, hk, hk2⟩ := List.any_eq_true.mp z
  have hk3 : 37 ≤ k := of_decide_eq_true hk2
  unfold pad at hk
  rcases List.mem_append.mp hk with hx | hx
  · have := h.all k hx
    omega
  · have := List.eq_of_mem_replicate hx
    omega
/-- signs found in the tables -/
theorem find_sg : ∀ k : _root_.Fin 37, Txt.find (Str.ofString " abcdefghijklmnopqrstuvwxyz0123456789") (sO [sg k.val]) = (k.val : Int) := by decide +kernel
theorem occ_sg : ∀ k : _root_.Fin 37, occurrences (Str.ofString " abcdefghijklmnopqrstuvwxyz0123456789") (sO [sg k.val]) 0 (Str.ofString " abcdefghijklmnopqrstuvwxyz0123456789").length 1 = [k.val] := by decide +kernel
theorem space_sg : ∀ k : _root_.Fin 37, Unicode.isSpace (sg k.val) = (k.val == 0) := by decide +kernel
theorem rstrip_sg {ks : List Nat} (h : ∀ k ∈ ks, k ≤ 36) : Txt.rstrip (sO (ks.map sg)) = sO ((rtrim ks).map sg) := by
  rw [rstrip_sO]
  unfold rtrim
  rw [← List.map_reverse]
  have e : ∀ r : List Nat, (∀ k ∈ r, k ≤ 36) → (r.map sg).dropWhile Unicode.isSpace = (r.dropWhile (· == 0)).map sg := fun r => by
    induction r with
    | nil => intro _; rfl
    | cons x r ih =>
      intro hr
      rw [List.map_cons, List.dropWhile_cons, List.dropWhile_cons]
      have hx : Unicode.isSpace (sg x) = (x == 0) := space_sg ⟨x, by have := hr x List.mem_cons_self; omega⟩
      rw [hx]
      split
      · exact ih fun k hk => hr k (List.mem_cons_of_mem _ hk)
      · rfl
  rw [e _ fun k hk => h k (List.mem_reverse.mp hk), ← List.map_reverse]
/-! lists of small numbers as they stand in the program -/
def intV (l : List Nat) : List V := l.map fun (n : Nat) => V.int (n : Int)
theorem atI_intV {cs : List Nat} {k : Int} (h0 : 0 ≤ k) (h1 : k < (cs.length : Int)) : atI (intV cs) k = some (.int ((cs.getD k.toNat 0 : Nat) : Int)) := by
  obtain ⟨j, rfl⟩ : ∃ j : Nat, k = (j : Int) := ⟨k.toNat, by omega⟩
  have hj : j < cs.length := by omega
  refine atI_nat ?_
  unfold intV
  rw [List.getElem?_map, List.getElem?_eq_getElem hj, Int.toNat_natCast, List.getD_eq_getElem?_getD, List.getElem?_eq_getElem hj]
  rfl
theorem intV_map {α : Type} (g : α → Nat) (l : List α) : intV (l.map g) = l.map fun x => V.int ((g x : Nat) : Int) := by
  unfold intV
  rw [List.map_map]
  rfl
theorem intV_ints (l : List Nat) : intV l = (l.map fun (n : Nat) => (n : Int)).map V.int := by
  unfold intV
  rw [List.map_map]
  rfl
theorem intV_range (cs : List Nat) : (List.range cs.length).map (fun i => V.int ((cs.getD i 0 : Nat) : Int)) = intV cs := range_getD (fun n : Nat => V.int (n : Int)) 0 cs
theorem ljust_pad {ks : List Nat} (h : ks.length ≤ 9) : Txt.ljust (sO (ks.map sg)) 9 = sO ((pad ks).map sg) := by
  have e := ljust_sO (ks.map sg) 9 (by rw [List.length_map]; exact h)
  rw [List.length_map] at e
  unfold pad
  rw [List.map_append, List.map_replicate]
  exact e
/-! numbers as data -/
def intsD (l : List Nat) : PyData := .tuple ((l.map fun (n : Nat) => (n : Int)).map PyData.int)
theorem lay_ints : ∀ l : List Int, PyData.canLayAll0 (l.map PyData.int) = true
  | [] => rfl
  | _ :: r => lay_ints r
theorem lay_intsD (l : List Nat) : (intsD l).canLay0 = true := lay_ints _
theorem dep_ints : ∀ l : List Int, PyData.depthAll (l.map PyData.int) = 0
  | [] => rfl
  | x :: r => by
    show max 0 (PyData.depthAll (r.map PyData.int)) = 0
    rw [dep_ints r]
    rfl
theorem dep_intsD (l : List Nat) : (intsD l).depth ≤ 1 := by
  show PyData.depthAll _ + 1 ≤ 1
  rw [dep_ints]
  exact Nat.le_refl 1
theorem wd_ints : ∀ l : List Int, wdA (l.map PyData.int) = true
  | [] => rfl
  | _ :: r => wd_ints r
theorem wd_intsD {l : List Nat} (h : l.length ≤ 100000) : wdB (intsD l) = true := by
  show (decide (_ ≤ 100000) && wdA _) = true
  rw [wd_ints, List.length_map, List.length_map, decide_eq_true h]
  rfl
theorem dx_intsD {K : PySem.W.Frag} {H : Hp} {p : Addr} {l : List Nat} (h : H p = some (.tup (intV l))) : Dx K H noS (.ref p) (intsD l) := by
  rw [intV_ints] at h
  exact .tup (XT.of h fun z => z.elim) (dxAll_ints _)
/-! parts of a tuple -/
theorem cutV_lo {xs : List V} (k : Nat) : cutV xs (some (k : Int)) none = xs.drop k := by
  show (xs.drop (HT.sIx xs.length 0 (some (k : Int)))).take (HT.sIx xs.length xs.length none - HT.sIx xs.length 0 (some (k : Int))) = _
  rw [HT.sIx_nat, HT.sIx_none, List.take_of_length_le (by rw [List.length_drop]; omega)]
  by_cases h : k ≤ xs.length
  · rw [Nat.min_eq_left h]
  · rw [Nat.min_eq_right (by omega), List.drop_length, List.drop_of_length_le (by omega)]
theorem cutV_hi {xs : List V} (k : Nat) : cutV xs none (some (k : Int)) = xs.take k := by
  show (xs.drop (HT.sIx xs.length 0 none)).take (HT.sIx xs.length xs.length (some (k : Int)) - HT.sIx xs.length 0 none) = _
  rw [HT.sIx_nat, HT.sIx_none, List.drop_zero, Nat.sub_zero]
  by_cases h : k ≤ xs.length
  · rw [Nat.min_eq_left h]
  · rw [Nat.min_eq_right (by omega), List.take_length, List.take_of_length_le (by omega)]
theorem slA_of {K : PySem.W.Frag} {H : Hp} {a : Addr} {xs : List V} {lo hi : Option Int} {Q : VK} (h : SqT K H a xs) (q : ∀ p H', Same H H' → SqT K H' p (cutV xs lo hi) → Q (.ref p) H') : rSlA K (.ref a) lo hi H Q := by
  refine ⟨a, xs, rfl, h, fun e => q a H (Same.refl _) ?_, fun _ p hp => q p _ (same_new hp) (SqT.of upd_same)⟩
  have : cutV xs lo hi = xs := by
    show (xs.drop (HT.sIx xs.length 0 lo)).take (HT.sIx xs.length xs.length hi - HT.sIx xs.length 0 lo) = _
    rw [e.1, e.2, List.drop_zero, Nat.sub_zero, List.take_length]
  rw [this]
  exact h
end RK

namespace RK
open PySem PySem.Spec PyProof.Rows L2
/-! ### an own error that keeps one thing, and a try whose first clause names it -/
/-- what the first clause wishes: the error is its own -/
def wHit (K : PySem.W.Frag) (c : Value) (i : Nat) (ts : Addr → Value → Option Addr → TS) (D : Ends) : WX := fun cls d σ H => PySem.W.exmOne K cls c = some true ∧
  ∀ a, H a = none → ts a cls d ⟨fun σ' H' => D.nx (σ'.set i none) H', D.rt, fun σ' H' => D.bk (σ'.set i none) H', fun σ' H' => D.ct (σ'.set i none) H'⟩ (σ.set i (some (.ref a))) H
section
variable {X : Cx} {x n : Str} {c : Value} {i : Nat} {body suite : List Stmt} {hds : List ExceptHandler} {b₀ : Stmt} {np pos pos' : Pos} {tb : WX → TS} {ts : Addr → Value → Option Addr → TS} {pins : List (Addr × Obj)}
/-- what the body leaves, seen from outside the try -/
theorem flow_out {D : Ends} {xe : Value → Shared → Prop} (ok : X.Ok) {f : Flow} {s1 : Shared} (h : SP (X.tr (X.pn ++ pins) xe) [] D f s1) : SP X pins D f s1 := by
  cases f with
  | ret u => exact let ⟨v, σ', H', J, r, q⟩ := h; ⟨v, σ', H', J.ofTry ok, r, q⟩
  | next => exact let ⟨σ', H', J, q⟩ := h; ⟨σ', H', J.ofTry ok, q⟩
  | brk => exact let ⟨σ', H', J, q⟩ := h; ⟨σ', H', J.ofTry ok, q⟩
  | cont => exact let ⟨σ', H', J, q⟩ := h; ⟨σ', H', J.ofTry ok, q⟩
/-- an error that flies stands in no frame -/
theorem no_frame {B h : Heap} {l : List Env} {a : Addr} {o : Obj} {vs : Array Value} (ff : h.FunFrames B l) (e : h.get? a = some o) (hd : o.data = .fields vs) : a ∉ frs l := fun hm => by
  obtain ⟨_, o2, e2, no⟩ := ff.mem hm
  have : o2 = o := Option.some.inj (e2.symm.trans e)
  exact no vs (this ▸ hd)
/-- the first clause's test -/
theorem names_it {a : Addr} {o : Obj} {σ : L2.St} {H : Hp} {s : Shared} {Q : Value → Shared → Prop} {E : Value → Shared → Prop} (hc : Names X x c) (S : Inv (X.suite a ((a, o) :: (X.pn ++ pins))) [] σ H s) (q : Q c s) :
    wpAny (model X.prog X.w) (X.A.mark (some (.ref a))) (eval (.Name x np) X.env) Q E s := by
  rcases hc with ⟨hg, hd, h | ⟨h1, h2, h3⟩⟩
  · exact ld_glob (X := Cx.suite X a ((a, o) :: (X.pn ++ pins))) S hg h q hd
  · exact ld_blt (X := Cx.suite X a ((a, o) :: (X.pn ++ pins))) S hg h1 h2 q h3 hd
end

/-! ### an own error class C: __init__(self, f): self.f = f -/
/-- what __init__ does of a fresh error -/
def spKeep (f : Str) (C : Addr) : Sp := fun vs H Q _ => ∃ (a : Addr) (v : V), vs = [.ref a, v] ∧ H a = some (exo a C none) ∧ ∀ dx, H dx = none → dx ≠ a → Q .non (upd (upd H dx (exd dx [(f, v)])) a (exo a C (some dx)))
structure ErrC (K : PySem.W.Frag) (mg : Str → Option Value) (x f : Str) (C fI : Addr) (fd : FuncData) : Prop where
  g : mg x = some (.ref C)
  ox : OexC K C
  no : PySem.W.findIn K (.ref C) f = some none
  iC : PySem.W.findIn K (.ref C) "__init__" = some (some (.ref fI))
  tI : PySem.W.typeIn K (.ref fI) = some (.type "function")
  b : Binds K fd ["self", f] []
  xf : XfC K C
  ex : ExcC K C
  te : PySem.W.exmOne K (.ref C) (.ref C) = some true
section
variable {X : Cx} {x f : Str} {C fI : Addr} {fd : FuncData} {k : Nat} {e : Expr} {es : List Expr} {ta : TA} {p pos : Pos}
/-- C(e), to be raised -/
theorem pmk_err (T : ErrC X.K X.mg x f C fI fd) (F1 : FnOk X.prog X.w X.K X.mg X.base CX0 k fI fd ["self", f] (spKeep f C)) (hr : Room (k + 1) X.A) (ha : PA X (e :: es) ta) (hg : Gl X x := by rfl) (hdb : (x == ("__debug__" : Str)) = false := by decide)
    (he : starEach (e :: es) X.env = (false, eval e X.env) :: starEach es X.env := by rfl) (hpl : (backTo pos (starEach es X.env)).any (·.1) = false := by rfl) : PMk X (.Call (.Name x p) (e :: es) [] pos) (tMkO C (spKeep f C) [] ta) :=
  pmk_oex T.ox T.iC T.tI F1 hr T.b .nil (fun _ _ _ _ _ _ _ z => z.elim) hg T.g ha hdb he hpl
/-- the end of its reading -/
theorem keep_end {H1 : Hp} {v : V} {Q : XK} (q : ∀ d H2, Same H1 H2 → H1 d = none → H2 d = some (.xd [(f, v)]) → Q (.ref C) (some d) H2) : ([v] : List V).length ≤ 1000 ∧ ∀ a, H1 a = none → spKeep f C (.ref a :: ([v] ++ [])) (upd H1 a (exo a C none))
    (fun v H2 => v = .non ∧ ∃ (d : Addr) (fs : List (Str × V)), H2 a = some (exo a C (some d)) ∧ H2 d = some (exd d fs) ∧ H1 d = none ∧ Q (.ref C) (some d) (upd (del H2 a) d (.xd fs))) (fun _ _ _ => False) := by
  refine ⟨by show 1 ≤ 1000; decide, fun a na => ⟨a, v, rfl, upd_same, fun dx nd ne => ⟨rfl, dx, [(f, v)], upd_same, ?_, ?_, ?_⟩⟩⟩
  · rw [upd_ne ne, upd_same]
  · rw [upd_ne ne] at nd
    exact nd
  · rw [upd_ne ne] at nd
    refine q dx _ (fun b o eb => ?_) nd upd_same
    have b1 : b ≠ dx := ne_of_none eb nd
    have b2 : b ≠ a := ne_of_none eb na
    rw [upd_ne b1, del_ne b2, upd_ne b2, upd_ne b1, upd_ne b2]
    exact eb
/-- isinstance(e, c), e the error in hand whose own dict is dd -/
def rIsEx (K : PySem.W.Frag) (D a dd : Addr) : List V → Hp → VK → Prop := fun xs H Q => ∃ (c : V) (cv : Value) (b : Bool) (fs : List (Str × V)), xs = [.ref a, c] ∧ (∀ u, RelV c u → u = cv) ∧ PySem.W.kitOne K (.ref D) cv = some b ∧ H dd = some (.xd fs) ∧ Q (.bl b) H
theorem call_isEx {a D : Addr} {o : Obj} {cls : Value} {d : Option Addr} {ps : List (Addr × Obj)} (T : ExcC X.K D) (hz : Zc cls d o) (hf : ∃ vs, o.data = .fields vs) :
    CallR (X.suite a ((a, o) :: ps)) (.builtin "isinstance") (fun xs H Q => ∃ dd, cls = .ref D ∧ d = some dd ∧ rIsEx X.K D a dd xs H Q) := by
  intro pins s σ H xs us Q I r h
  obtain ⟨dd, rfl, rfl, c, cv, b, fs, rfl, hcv, hk, hd, q⟩ := h
  obtain ⟨u1, u2, rfl, r1, r2⟩ := vals2 r
  obtain rfl := hcv u2 r2
  cases r1
  obtain ⟨ga, _⟩ := I.pin (a, o) (List.mem_append_left _ List.mem_cons_self)
  obtain ⟨vs, ef⟩ := hf
  obtain ⟨mA, hns, _⟩ := (show ObjOk X.prog X.w H s.heap dd (.xd fs) from I.hok dd _ hd)
  obtain ⟨od, ho, _⟩ := lookIn_ns hns
  have J : PySem.W.InstAt s.heap a o D (some od) := ⟨ga, hz.1, by unfold PySem.W.notCls; rw [ef], by rw [hz.2]; exact ho⟩
  have hc : (PySem.W.clsIn X.K D).isSome = true := by
    have := T.hd
    unfold PySem.W.hasDictIn at this
    cases e : PySem.W.clsIn X.K D with
    | none => rw [e] at this; cases this
    | some => rfl
  exact PySem.W.kia_one (PySem.W.kitx_exc hc T.hg T.hk T.hs T.ha T.hn T.ht T.hm) I.kIn J hk (fun z => nomatch z) fun tk => ⟨.bl b, H, I.kept (t' := tk) fun _ _ z => z, rfl, q⟩
end
end RK

namespace RK
open PySem PySem.Spec PyProof.Rows L2 HotX
/-! ### the end of a walk over a list or a tuple while an error is handled -/
section
variable {prog : Program} {w : World} {A : Around} {E : Value → Shared → Prop} {s : Shared}
theorem next_list_hot {it l x1 : Addr} {i : Nat} {items : Array Value} {Q : Option Value → Shared → Prop} (hot : HotAt A x1 s.heap) (ne : x1 ≠ it) (hit : s.heap.IsListIter it l i) (hl : s.heap.IsList l items) (hx : items[i]? = none)
    (hQ : ∀ h', (∀ b o, b ≠ it → s.heap.get? b = some o → h'.get? b = some o) → Q none { s with heap := h' }) : wpAny (model prog w) A (pyNext (.ref it)) Q E s := by
  obtain ⟨hh, o1, vs1, h1, d1, c1⟩ := hot
  obtain ⟨oi, gi, ci, di⟩ := id hit
  obtain ⟨ol, gl, _, nl, dl⟩ := hl
  unfold pyNext
  refine wpAny_bind (wpAny_attempt (wpAny_callSpecial?_slot (name := "__next__") hit.typeIs slot_listiter_next (wpAny_call_entry slot_listiter_next hit.typeIs entry_listiter_next ?_ (args_listiter_next _))))
  refine wpAny_bind (m := field (.ref it) 0) (wpAny_field gi di (x := .ref l) rfl ?_)
  refine (if_neg (Bool.false_ne_true : ¬ ((Value.ref l == Value.none) = true))).symm ▸ ?_
  refine wpAny_bind (m := field (.ref it) 1) (wpAny_field gi di (x := .int i 0) rfl (wpAny_bind (m := seqItems? (.ref l)) (wpAny_seqItems gl dl ?_)))
  simp only [Int.toNat_natCast, hx]
  refine wpAny_bind (wpAny_rule (wpAny_bind (wpAny_setField gi di (by simp) (wpAny_bind (m := newExc (.type "StopIteration") []) ?_))))
  simp only [newExc, newTuple]
  refine wpAny_bind (wpAny_newObj_type (wpAny_bind (m := firstArgMember _ _) (wpAny_of_eq (a := Value.none) (by first | rfl | (simp only [firstArgMember]; rfl)) (wpAny_newObj_type ?_ (by size_fits)))) (by size_fits))
  have k0 : ∀ b o, b ≠ it → s.heap.get? b = some o → (s.heap.update it (Obj.mapFields (·.setIfInBounds 0 Value.none))).get? b = some o := fun b o n e => by
    rw [Heap.get?_update_other _ _ (Ne.symm n)]; exact e
  have u1 := Heap.get?_push_of_some { cls := .type "tuple", data := .seq #[] } (k0 _ _ ne h1)
  refine raiseNew_hot ⟨hh, o1, vs1, Heap.get?_push_of_some _ u1, d1, c1⟩ (Nat.ne_of_lt (Heap.lt_size u1)) (Heap.get?_push_size _ rfl) rfl (by first | (simp; done) | (simp; omega)) (wpAny_bind (wpAny_isInstance (T := "StopIteration") (b := true) ⟨_, Heap.get?_update_self _ (Heap.get?_push_size _ rfl) rfl, rfl⟩ isSubtype_stop (wpAny_pure (hQ _ fun b o n e => ?_))))
  have u2 := Heap.get?_push_of_some { cls := .type "tuple", data := .seq #[] } (k0 _ _ n e)
  rw [Heap.get?_update_other _ _ (Nat.ne_of_gt (Heap.lt_size u2))]; exact Heap.get?_push_of_some _ u2
theorem next_tuple_hot {it l x1 : Addr} {i : Nat} {items : Array Value} {Q : Option Value → Shared → Prop} (hot : HotAt A x1 s.heap) (ne : x1 ≠ it) (hit : s.heap.IsTupleIter it l i) (hl : s.heap.IsTuple l items) (hx : items[i]? = none)
    (hQ : ∀ h', (∀ b o, b ≠ it → s.heap.get? b = some o → h'.get? b = some o) → Q none { s with heap := h' }) : wpAny (model prog w) A (pyNext (.ref it)) Q E s := by
  obtain ⟨hh, o1, vs1, h1, d1, c1⟩ := hot
  obtain ⟨oi, gi, ci, di⟩ := id hit
  obtain ⟨ol, gl, _, nl, dl⟩ := hl
  unfold pyNext
  refine wpAny_bind (wpAny_attempt (wpAny_callSpecial?_slot (name := "__next__") hit.typeIs F.slot_tuple_iterator_next (wpAny_call_entry F.slot_tuple_iterator_next hit.typeIs F.entry_tuple_iterator_next ?_ (F.args_tuple_iterator_next_1 _))))
  refine wpAny_bind (m := field (.ref it) 0) (wpAny_field gi di (x := .ref l) rfl ?_)
  refine (if_neg (Bool.false_ne_true : ¬ ((Value.ref l == Value.none) = true))).symm ▸ ?_
  refine wpAny_bind (m := field (.ref it) 1) (wpAny_field gi di (x := .int i 0) rfl (wpAny_bind (m := seqItems? (.ref l)) (wpAny_seqItems gl dl ?_)))
  simp only [Int.toNat_natCast, hx]
  refine wpAny_bind (wpAny_rule (wpAny_bind (wpAny_setField gi di (by simp) (wpAny_bind (m := newExc (.type "StopIteration") []) ?_))))
  simp only [newExc, newTuple]
  refine wpAny_bind (wpAny_newObj_type (wpAny_bind (m := firstArgMember _ _) (wpAny_of_eq (a := Value.none) (by first | rfl | (simp only [firstArgMember]; rfl)) (wpAny_newObj_type ?_ (by size_fits)))) (by size_fits))
  have k0 : ∀ b o, b ≠ it → s.heap.get? b = some o → (s.heap.update it (Obj.mapFields (·.setIfInBounds 0 Value.none))).get? b = some o := fun b o n e => by
    rw [Heap.get?_update_other _ _ (Ne.symm n)]; exact e
  have u1 := Heap.get?_push_of_some { cls := .type "tuple", data := .seq #[] } (k0 _ _ ne h1)
  refine raiseNew_hot ⟨hh, o1, vs1, Heap.get?_push_of_some _ u1, d1, c1⟩ (Nat.ne_of_lt (Heap.lt_size u1)) (Heap.get?_push_size _ rfl) rfl (by first | (simp; done) | (simp; omega)) (wpAny_bind (wpAny_isInstance (T := "StopIteration") (b := true) ⟨_, Heap.get?_update_self _ (Heap.get?_push_size _ rfl) rfl, rfl⟩ isSubtype_stop (wpAny_pure (hQ _ fun b o n e => ?_))))
  have u2 := Heap.get?_push_of_some { cls := .type "tuple", data := .seq #[] } (k0 _ _ n e)
  rw [Heap.get?_update_other _ _ (Nat.ne_of_gt (Heap.lt_size u2))]; exact Heap.get?_push_of_some _ u2
end
/-! ### walks over lists and tuples there -/
section
variable {P : Program} {w : World} {K : PySem.W.Frag} {tg : Expr} (a it : Addr)
theorem turn_listH : L2H.TurnH P w K tg (Itl K a) [it] it (fun i h => h.IsListIter it a i) := by
  have T : Turn P w K tg (Itl K a) [it] it (fun i h => h.IsListIter it a i) := turn_list a it
  refine ⟨T.mem, T.obj, T.keep, ?_, ?_, T.self⟩
  · rintro X rfl rfl rfl - i pins s σ H E I hf st ⟨xs, x, hq, hx⟩
    obtain ⟨its, rv, pl, _⟩ := I.list hq
    obtain ⟨u, hu, ru⟩ := rv.get hx
    obtain ⟨g0, g1, g2, g3, g4, g5⟩ := hf it T.mem
    refine wpAny_pyNext_list_item st pl.isList (x := u) (by simpa using hu) fun h2 st2 sb => ⟨u, rfl, ?_⟩
    obtain ⟨o, eo, co, dd⟩ := id st2
    refine go_of (s := { s with heap := h2 }) eo co dd (by decide) ⟨x, H, I.turned (t' := s.toks) (fun b ob hb e => (sb.2 b hb).trans e) g0 g1 g3 g4 g5, ru, ⟨rfl, fun ys hy => ?_⟩, st2, fun b hb => (hf b hb).1⟩
    rw [I.list_inj hy hq, hx]
  · rintro X rfl rfl rfl hc i pins s σ H E I hf st ⟨xs, hq, hx⟩
    obtain ⟨its, rv, pl, _⟩ := I.list hq
    obtain ⟨g0, g1, g2, g3, g4, g5⟩ := hf it T.mem
    obtain ⟨p, ⟨hh, vs1, d1, c1⟩, hp⟩ := hc
    have P1 := I.pin p (List.mem_append_left _ hp)
    have hl := rv.length
    exact next_list_hot ⟨hh, p.2, vs1, P1.1, d1, c1⟩ (g5 p (List.mem_append_left _ hp)) st pl.isList (by simp; omega) fun h2 eb => ⟨rfl, I.turned (t' := s.toks) (fun b ob hb e => eb b ob hb e) g0 g1 g3 g4 g5⟩
theorem turn_tupleH : L2H.TurnH P w K tg (Itt K a) [it] it (fun i h => h.IsTupleIter it a i) := by
  have T : Turn P w K tg (Itt K a) [it] it (fun i h => h.IsTupleIter it a i) := turn_tuple a it
  refine ⟨T.mem, T.obj, T.keep, ?_, ?_, T.self⟩
  · rintro X rfl rfl rfl - i pins s σ H E I hf st ⟨xs, x, hq, hx⟩
    obtain ⟨its, rv, pl, _⟩ := I.tuple hq
    obtain ⟨u, hu, ru⟩ := rv.get hx
    obtain ⟨g0, g1, g2, g3, g4, g5⟩ := hf it T.mem
    refine wpAny_pyNext_tuple_item st (show s.heap.IsTuple a its.toArray from pl) (x := u) (by simpa using hu) fun h2 st2 sb => ⟨u, rfl, ?_⟩
    obtain ⟨o, eo, co, dd⟩ := id st2
    refine go_of (s := { s with heap := h2 }) eo co dd (by decide) ⟨x, H, I.turned (t' := s.toks) (fun b ob hb e => (sb.2 b hb).trans e) g0 g1 g3 g4 g5, ru, ⟨rfl, fun ys hy => ?_⟩, st2, fun b hb => (hf b hb).1⟩
    rw [I.tuple_inj hy hq, hx]
  · rintro X rfl rfl rfl hc i pins s σ H E I hf st ⟨xs, hq, hx⟩
    obtain ⟨its, rv, pl, _⟩ := I.tuple hq
    obtain ⟨g0, g1, g2, g3, g4, g5⟩ := hf it T.mem
    obtain ⟨p, ⟨hh, vs1, d1, c1⟩, hp⟩ := hc
    have P1 := I.pin p (List.mem_append_left _ hp)
    have hl := rv.length
    exact next_tuple_hot ⟨hh, p.2, vs1, P1.1, d1, c1⟩ (g5 p (List.mem_append_left _ hp)) st (show s.heap.IsTuple a its.toArray from pl) (by simp; omega) fun h2 eb => ⟨rfl, I.turned (t' := s.toks) (fun b ob hb e => eb b ob hb e) g0 g1 g3 g4 g5⟩
end
section
variable {X : Cx} {tg l : Expr} {tl : TE}
theorem pi_listH (hl : PE X l tl) : L2H.PIH X tg l (iList X.K tl) := by
  refine ⟨fun pins s σ H R I h => thn (hl.run pins s σ H _ I h) fun v s1 ⟨x, H1, I1, r1, a, ex, ⟨xs, hq⟩, q⟩ => ?_⟩
  subst ex; cases r1
  obtain ⟨its, rv, pl, _⟩ := I1.list hq
  refine wpAny_pyIter_list pl.isList ⟨s1.heap.objs.size, [s1.heap.objs.size], _, _, H1, rfl, I1.kept (t' := s1.toks) fun b o e => Heap.get?_push_of_some _ e, turn_listH a _, ⟨_, Heap.get?_push_size _ rfl, rfl, rfl⟩, fun b hb => ?_, q⟩
  rw [List.mem_singleton.mp hb]
  exact I1.fpOk (Nat.le_refl _) (I1.hok.fresh (Nat.le_refl _))
theorem pi_tupH (hl : PE X l tl) : L2H.PIH X tg l (iTup X.K tl) := by
  refine ⟨fun pins s σ H R I h => thn (hl.run pins s σ H _ I h) fun v s1 ⟨x, H1, I1, r1, a, ex, ⟨xs, hq⟩, q⟩ => ?_⟩
  subst ex; cases r1
  obtain ⟨its, rv, pl, _⟩ := I1.tuple hq
  refine wpAny_pyIter_tuple (show s1.heap.IsTuple a its.toArray from pl) ⟨s1.heap.objs.size, [s1.heap.objs.size], _, _, H1, rfl, I1.kept (t' := s1.toks) fun b o e => Heap.get?_push_of_some _ e, turn_tupleH a _, ⟨_, Heap.get?_push_size _ rfl, rfl, rfl⟩, fun b hb => ?_, q⟩
  rw [List.mem_singleton.mp hb]
  exact I1.fpOk (Nat.le_refl _) (I1.hok.fresh (Nat.le_refl _))
theorem PIH_or {w1 w2 : TI} (h1 : L2H.PIH X tg l w1) (h2 : L2H.PIH X tg l w2) : L2H.PIH X tg l (fun σ H R => w1 σ H R ∨ w2 σ H R) :=
  ⟨fun pins s σ H R I h => h.elim (h1.run pins s σ H R I) (h2.run pins s σ H R I)⟩
end
/-! ### list comprehensions there: the block keeps the error that is handled among its pins -/
abbrev blkH (X : Cx) (s : Shared) (H : Hp) (scope : Scope) (ce : Env) (fp : List Addr) (p : Addr × Obj) : Cx := { X.blk s H scope ce fp with pn := [p] }
section
variable {X : Cx} {pins : List (Addr × Obj)} {s : Shared} {σ : L2.St} {H : Hp} {Q : VK} {elt tg iter : Expr} {ifs : List Expr} {scope : Scope} {own : List (Str × Nat)} {pos pos2 : Pos} {wi : TI} {g : TG} {tt : TT} {te : TE}
theorem okH {s3 : Shared} {ce : Env} {fp : List Addr} {p : Addr × Obj} (nc : X.calm = false) (ok : (X.blk s3 H scope ce fp).Ok) : (blkH X s3 H scope ce fp p).Ok :=
  ⟨ok.mod, ok.kind, ok.glob, ok.blt, ok.above, ok.inj, ok.has, ok.cab, fun z => absurd (nc.symm.trans z) Bool.false_ne_true, ok.frames, ok.stk, ok.exf, ok.bs, ok.bsz, ok.noex, ok.exfs, ok.funs, ok.frf⟩
theorem comp_hot {Qf : Value → Shared → Prop} (nc : X.calm = false) {p : Addr × Obj} (hot : L2H.Hot1 X.A p) (hp : p ∈ X.pn) (hN : X.N.Nodup) (I : Inv X pins σ H s) (hi : L2H.PIH X tg iter wi) (ok : BlkOk X.N X.env.scope scope own)
    (hg : ∀ s H C cl fp, PG (blkH X s H scope (compEnvC scope cl C X.env) fp p) tg g) (ht : ∀ s H C cl fp, PTs (blkH X s H scope (compEnvC scope cl C X.env) fp p) ifs tt)
    (he : ∀ s H C cl fp, PE (blkH X s H scope (compEnvC scope cl C X.env) fp p) elt te) (hs : ∀ x, foldedSetIterable iter X.env x = pure x) (h : tLc wi g tt te (own.map (·.2)) σ H Q)
    (hR : ∀ D C s' m H', Inv X pins σ H' s' → Q (.ref D) H' → s'.heap.Ns C m → FpOk X pins H' C → compPost (model X.prog X.w) X.A X.xe none Qf (.ref D) C (.ok .next) s') :
    wpAny (model X.prog X.w) X.A (comprehension (.ListComp elt [⟨tg, iter, ifs, 0⟩] scope pos) scope X.env pos2 (newList []) false (eval iter X.env) none) Qf X.xe s := by
  have free : ∀ y ∈ scope.names, y.2 = .free → ∃ c, X.env.cells.lookup y.1 = some c := fun y hy e => I.ok.has _ (ok.free y hy e)
  refine wpAny_comprehension_free (use := none) rfl hs (closure_ok free) ok.kind (fun y hy e => (ok.uniq y hy).trans (congrArg some e)) (thn (hi.run pins s σ H _ I h) fun _ t1 hx => thn hx fun _ t2 ⟨it, fp, tn, J, H2, ei, I2, T, st2, f2, q⟩ => ?_)
  subst ei
  refine wpAny_newObj_type (newEnv_comp ?_) (Nat.zero_le _)
  have nD : H2 t2.heap.objs.size = none := I2.hok.fresh (Nat.le_refl _)
  obtain ⟨W, ⟨m0, w0⟩, turn⟩ := q _ nD
  generalize eD : t2.heap.objs.size = D at nD w0 turn ⊢
  generalize e3 : ({ t2 with heap := t2.heap.push { cls := .type "list", data := .seq ([] : List Value).toArray } } : Shared) = t3
  have hp3 : t3.heap = t2.heap.push { cls := .type "list", data := .seq ([] : List Value).toArray } := by rw [← e3]
  have I3 : Inv X pins σ (upd H2 D (.lst [])) t3 := by
    rw [← e3]
    exact I2.laid (t' := t2.toks) (fun b o e => Heap.get?_push_of_some _ e) (Nat.le_of_eq eD) ⟨Nat.zero_le _, [], 0, .nil, by rw [← eD]; exact Heap.get?_push_size _ rfl⟩
  have f3 : ∀ b ∈ fp, FpOk X pins (upd H2 D (.lst [])) b ∧ b < t3.heap.objs.size := fun b hb => by
    obtain ⟨o, eo, _⟩ := T.obj _ _ st2 b hb
    have lt : b < D := by rw [← eD]; exact Heap.lt_size eo
    exact ⟨⟨(upd_ne (Nat.ne_of_lt lt)).trans (f2 b hb).1, (f2 b hb).2⟩, by rw [hp3, Heap.size_push, eD]; exact Nat.lt_succ_of_lt lt⟩
  have I4 := block_start I3 ok hN f3
  have P3 := I3.pin p (List.mem_append_left _ hp)
  have pS : p.1 ∉ frs X.stack := fun hm => (List.mem_cons.mp (I3.stkSub p.1 hm)).elim P3.2.2.1 P3.2.2.2.1
  have pg := hg t3 (upd H2 D (.lst [])) t3.heap.objs.size (cellsFrom (t3.heap.objs.size + 1) scope.names (cloFrom X.env.cells scope.names [])) fp
  have pt := ht t3 (upd H2 D (.lst [])) t3.heap.objs.size (cellsFrom (t3.heap.objs.size + 1) scope.names (cloFrom X.env.cells scope.names [])) fp
  have pe := he t3 (upd H2 D (.lst [])) t3.heap.objs.size (cellsFrom (t3.heap.objs.size + 1) scope.names (cloFrom X.env.cells scope.names [])) fp
  show codeAny _ _ (.compStart _ 0 (.ref it) (.ref D) (compEnvC scope (cellsFrom (t3.heap.objs.size + 1) scope.names (cloFrom X.env.cells scope.names [])) t3.heap.objs.size X.env)) (compPost _ X.A X.xe none Qf (.ref D) t3.heap.objs.size) { t3 with heap := pushCells (t3.heap.push { cls := .type "dict", data := .dict #[] }) scope.names }
  have nfp : ∀ b ∈ fp, (upd H2 D (.lst [])) b = none := fun b hb => (f3 b hb).1.1
  generalize hce : compEnvC scope (cellsFrom (t3.heap.objs.size + 1) scope.names (cloFrom X.env.cells scope.names [])) t3.heap.objs.size X.env = ce at I4 pg pt pe ⊢
  have cL : ce.locals = t3.heap.objs.size := by rw [← hce]; rfl
  generalize hH3 : upd H2 D (.lst []) = H3 at I3 I4 P3 pg pt pe w0 nfp f3
  generalize hs4 : ({ t3 with heap := pushCells (t3.heap.push { cls := .type "dict", data := .dict #[] }) scope.names } : Shared) = t4 at I4 ⊢
  have k4 : ∀ b o, t3.heap.get? b = some o → t4.heap.get? b = some o := fun b o e => by rw [← hs4]; exact pushCells_keeps _ _ _ _ (Heap.get?_push_of_some _ e)
  have k3 : ∀ b o, t2.heap.get? b = some o → t4.heap.get? b = some o := fun b o e => k4 b o (by rw [hp3]; exact Heap.get?_push_of_some _ e)
  have st4 : tn 0 t4.heap := T.keep _ _ _ st2 fun b _ o e => k3 b o e
  have J4 : Inv (blkH X t3 H3 scope ce fp p) [] (wipe σ (own.map (·.2))) H3 t4 := ⟨okH nc I4.ok, I4.os, I4.bare, I4.base, I4.loc, I4.cell, I4.free, I4.freeC, fun r hr => by
    have er : r = p := by simpa using hr
    subst er
    exact ⟨k4 _ _ P3.1, P3.2.1, by rw [show (blkH X t3 H3 scope ce fp r).env.locals = t3.heap.objs.size from cL]; exact Nat.ne_of_lt (Heap.lt_size P3.1), pS, P3.2.2.2.2⟩, I4.hok, I4.len⟩
  have hc : L2H.HotC (blkH X t3 H3 scope ce fp p) := ⟨p, hot, List.mem_cons_self⟩
  have stat : ∀ {σ' : L2.St} {H' : Hp} {s' : Shared}, Inv (blkH X t3 H3 scope ce fp p) [] σ' H' s' → (∀ b ∈ fp, H' b = none) → ∀ b ∈ fp, FpOk (blkH X t3 H3 scope ce fp p) [] H' b := fun I' hn b hb =>
    ⟨hn b hb, (I'.ok.exf b hb).1, I'.ok.exfs b hb, .inl hb, (I'.ok.exf b hb).2, fun r hr => by
      have er : r = p := by simpa using hr
      rw [er]
      exact (f2 b hb).2.2.2.2.2 p (List.mem_append_left _ hp)⟩
  have loop : codeAny (model X.prog X.w) X.A (.compLoop (.ListComp elt [⟨tg, iter, ifs, 0⟩] scope pos) 0 (.ref it) (.ref D) ce) (compPost (model X.prog X.w) X.A X.xe none Qf (.ref D) t3.heap.objs.size) t4 := by
    refine compLoop_any (fun n s' => ∃ i H', Inv (blkH X t3 H3 scope ce fp p) [] (wipe σ (own.map (·.2))) H' s' ∧ tn i s'.heap ∧ (∀ b ∈ fp, H' b = none) ∧ W i n H') (fun n t5 ⟨i, H5, I5, st5, n5, w5⟩ => ?_) m0 ⟨0, H3, J4, st4, nfp, w0⟩
    rcases turn i n H5 w5 with ⟨stop, qq⟩ | ⟨go, Nx, hNx, step⟩
    · refine thnF (T.done (blkH X t3 H3 scope ce fp p) rfl rfl rfl hc i [] t5 _ H5 (fun _ _ => False) I5 (stat I5 n5) st5 stop) fun r t6 ⟨er, I6⟩ => ?_
      subst er
      have I7 : Inv X pins σ H5 t6 := I3.call' (ch := fp) I6.os I6.base I6.hok I6.bare fun b hb => ⟨(f3 b hb).1.2.2.2.1, (f3 b hb).1.2.1, (f3 b hb).1.2.2.2.2.1, (f3 b hb).1.2.2.2.2.2⟩
      have nC : H5 t3.heap.objs.size = none := cL ▸ (I6.free : H5 ce.locals = none)
      obtain ⟨m, hn, _⟩ := I6.loc
      exact hR D _ t6 m H5 I7 qq (cL ▸ (hn : t6.heap.Ns ce.locals m)) (I3.fpOk (Nat.le_refl _) nC)
    · refine thnF (T.item (blkH X t3 H3 scope ce fp p) rfl rfl rfl hc i [] t5 _ H5 (fun _ _ => False) I5 (stat I5 n5) st5 go) fun r t6 ⟨u, er, h6⟩ => ?_
      subst er
      refine thnF h6 fun _ t7 ⟨x, H7, I7, r7, y7, st7, n7⟩ => thnF (pg.run _ t7 _ H7 x u _ (I7.pinned (stat I7 n7) (T.obj _ _ st7)) r7 (step x H7 y7)) fun _ t8 ⟨σ8, H8, I8, hw8, q8⟩ => thnF (pt.run _ t8 σ8 H8 _ I8 q8) fun b t9 ⟨H9, I9, q9⟩ => ?_
      have back : ∀ {s' : Shared} {H' : Hp}, Inv (blkH X t3 H3 scope ce fp p) ([] ++ pinsAt fp t7.heap) σ8 H' s' → Nx H' → ∃ m, m < n ∧ ∃ i H', Inv (blkH X t3 H3 scope ce fp p) [] (wipe σ (own.map (·.2))) H' s' ∧ tn i s'.heap ∧ (∀ b ∈ fp, H' b = none) ∧ W i m H' := fun {s' H'} I' nx => by
        obtain ⟨m', lt, w'⟩ := hNx H' nx
        have at_ : ∀ b ∈ fp, ∀ o, t7.heap.get? b = some o → s'.heap.get? b = some o ∧ H' b = none := fun b hb o e => ⟨(I'.pin (b, o) (.tail _ (mem_pinsAt hb e))).1, (I'.pin (b, o) (.tail _ (mem_pinsAt hb e))).2.1⟩
        refine ⟨m', lt, i + 1, H', (I'.unpinned (pins := [])).weak (by rw [← hw8, wipe_length]) (fun j v e => (wipe_some (hw8 ▸ e)).1), T.keep _ _ _ st7 fun b hb o e => (at_ b hb o e).1, fun b hb => ?_, w'⟩
        exact let ⟨o, e, _⟩ := T.obj _ _ st7 b hb; (at_ b hb o e).2
      cases b with
      | false => exact back I9 q9
      | true => exact thnF (pe.run _ t9 σ8 H9 _ I9 q9) fun z t10 ⟨yv, H10, I10, r10, acc, d10, z10, nx⟩ => app_ok (X := blkH X t3 H3 scope ce fp p) I10 d10 z10 r10 fun t11 I11 => back I11 nx
  exact codeAny_compStart_list loop (T.self X.A 0 _ _ _ st4 loop)
theorem pe_lcH (nc : X.calm = false) {p : Addr × Obj} (hot : L2H.Hot1 X.A p) (hp : p ∈ X.pn) (hN : X.N.Nodup) (hi : L2H.PIH X tg iter wi) (ok : BlkOk X.N X.env.scope scope own)
    (hg : ∀ s H C cl fp, PG (blkH X s H scope (compEnvC scope cl C X.env) fp p) tg g) (ht : ∀ s H C cl fp, PTs (blkH X s H scope (compEnvC scope cl C X.env) fp p) ifs tt)
    (he : ∀ s H C cl fp, PE (blkH X s H scope (compEnvC scope cl C X.env) fp p) elt te) (hs : ∀ x, foldedSetIterable iter X.env x = pure x := by intro _; rfl) : PE X (.ListComp elt [⟨tg, iter, ifs, 0⟩] scope pos) (tLc wi g tt te (own.map (·.2))) := by
  refine ⟨fun pins s σ H Q I h => ?_⟩
  rw [eval_ListComp]
  exact comp_hot nc hot hp hN I hi ok hg ht he hs h fun D C s2 m H2 I2 q hn f => ⟨m, hn, fun h2 sb => ⟨.ref D, H2, I2.turned (t' := s2.toks) (fun b o hb e => (sb.2 b hb).trans e) f.1 f.2.1 f.2.2.2.1 f.2.2.2.2.1 f.2.2.2.2.2, rfl, q⟩⟩
end
/-! ### errors raised where nothing is handled, their context None -/
section
variable {X : Cx} {x f : Str} {C fI : Addr} {fd : FuncData} {k : Nat} {e : Expr} {ta : TA} {p pos : Pos}
theorem pmk_errN (T : ErrC X.K X.mg x f C fI fd) (F1 : FnOk X.prog X.w X.K X.mg X.base CX0 k fI fd ["self", f] (spKeep f C)) (hr : Room (k + 1) X.A) (ha : PA X [e] ta) (hg : Gl X x := by rfl) (hdb : (x == ("__debug__" : Str)) = false := by decide)
    (he : starEach [e] X.env = (false, eval e X.env) :: starEach [] X.env := by rfl) (hpl : (backTo pos (starEach [] X.env)).any (·.1) = false := by rfl) : L2N.PMk X (.Call (.Name x p) [e] [] pos) (tMkO C (spKeep f C) [] ta) := by
  intro pins s σ H Q I h
  obtain ⟨nm, q, N, bs, bm, sn, sub, ab, col, dd, k0, k1, k2, k3, k5, lkC, vbm⟩ := T.ox.cls
  refine wpAny_Call_Name_kw (ld_glob I hg T.g (PySem.W.callWith_K (h₀ := X.base) I.ok.mod.kin T.ox.kC (thn (ha.run pos pins s σ H _ I h) fun us s1 ⟨vs, H1, I1, r1, lv, q1⟩ => ⟨I1.kIn, ?_⟩) he hpl) hdb)
  obtain ⟨hp, g, dr, tk, os⟩ := s1
  generalize ea : hp.objs.size + 1 = a
  have ge : hp.objs.size ≤ a := by omega
  have hq := q1 a (I1.hok.fresh ge)
  have kk : ∀ b o, hp.get? b = some o → ((hp.push (PySem.W.kdv_tup us)).push (PySem.HandSPX.excO C hp.objs.size)).get? b = some o := fun b o z => Heap.get?_push_of_some _ (Heap.get?_push_of_some _ z)
  have ga : ((hp.push (PySem.W.kdv_tup us)).push (PySem.HandSPX.excO C hp.objs.size)).get? a = some (PySem.HandSPX.excO C hp.objs.size) := by rw [← ea]; heap_get
  have I2 : Inv X pins σ (upd H1 a (exo a C none)) ⟨(hp.push (PySem.W.kdv_tup us)).push (PySem.HandSPX.excO C hp.objs.size), g, dr, tk, os⟩ := I1.laid (t' := tk) (o := exo a C none) kk ge (exo_ok ga)
  have r2 : Vals (V.ref a :: (vs ++ [])) (Value.ref a :: (us ++ [])) := .cons rfl (r1.append .nil)
  have lu : us.length ≤ sizeLine := by
    have := Paired.length r1; have : (1000 : Nat) ≤ sizeLine := by decide
    omega
  have ll : (Value.ref a :: us ++ []).length = (["self", f] : List Str).length := (r2.length).symm.trans (F1.len _ _ _ _ hq)
  have bb := T.b ⟨(hp.push (PySem.W.kdv_tup us)).push (PySem.HandSPX.excO C hp.objs.size), g, dr, tk, os⟩ (Value.ref a :: us) I2.kIn ll
  subst ea
  refine wpAny_call (PySem.HandSPX.call_own F.excBase_ValueError (fun Y => PySem.HandSPX.refsVE_contains Y bm vbm) (I1.kIn _ _ lkC) (PySem.W.looks_findIn I1.kIn T.iC) (fun self => PySem.W.bind_fn I1.kIn self T.tI) lu
    (codeAny_mono (F1.run _ X.stack _ _ ⟨Value.ref _ :: us, []⟩ _ _ _ (fun _ _ _ => False) (hr.make C us []) (I2.env0.make C us []) bb r2 hq) fun r s2 z => ?_))
  match r, z with
  | .error _, z => exact False.elim z
  | .ok .next, z => exact False.elim z
  | .ok .brk, z => exact False.elim z
  | .ok .cont, z => exact False.elim z
  | .ok (.ret u), ⟨v, H2, os2, bare2, un2, hok2, rv, ev, d, fs, e1, e2, e3, q2⟩ =>
    subst ev
    obtain ⟨h2, g2, d2, t2, os3⟩ := s2
    obtain ⟨t0, G, J, kG, gn, go, na⟩ := mk_end0 (d2 := d2) (t2 := t2) I1 ge kk un2 hok2 os2 bare2 e1 e2 e3
    exact ⟨rv, _, _, _, ⟨G, g2, d2, t2, os3⟩, _, .ref C, some d, rfl, J, kG, gn, go, ⟨rfl, rfl, fun vs z => by cases z; rfl⟩, rfl, rfl, na, rfl, bare2, raises_own T.ox.exC T.ox.tyC, q2⟩
/-- a def that may raise so -/
theorem Fun.okN {P : Program} {w : World} {K : PySem.W.Frag} {mg : Str → Option Value} {base : Heap} {x qual : Str} {st : Stmt} {f : Addr} {fd : FuncData} {N ps : List Str} {k : Nat} {sp : Sp} (F : Fun K x qual st f fd) (S : FnScope N ps (defScope st))
    (len : ∀ vs H Q E, sp vs H Q E → vs.length = ps.length) (body : ∀ (cdv : Value) (A : Around) (outer : List Env) (s : Shared) (H : Hp) (vs : List V) (Q : VK) (E : XK), Room k (A.deeper (envOfC qual (defScope st) s.heap.objs.size f cdv)) → sp vs H Q E →
      ∃ t, PSs (cxOf (L2N.CX P w) P w K mg base N qual (defScope st) f cdv A outer s H E) (defBody st) t ∧ t { nx := fun _ H' => Q .non H', rt := Q } (start N vs) H) : FnOk P w K mg base (L2N.CX P w) (k + 1) f fd ps sp := by
  obtain ⟨oc, od, kV, doc, pm, an, cdv, ct, osl, rfl, lk, hcd⟩ := F.ex
  exact fn_of lk hcd S len fun A outer s H vs Q E hr z => body cdv A outer s H vs Q E hr z
/-- a def called while an error is handled -/
theorem Fun.okH {P : Program} {w : World} {K : PySem.W.Frag} {mg : Str → Option Value} {base : Heap} {x qual : Str} {st : Stmt} {f : Addr} {fd : FuncData} {N ps : List Str} {k : Nat} {sp : Sp} (F : Fun K x qual st f fd) (S : FnScope N ps (defScope st))
    (len : ∀ vs H Q E, sp vs H Q E → vs.length = ps.length) (body : ∀ (cdv : Value) (A : Around) (outer : List Env) (s : Shared) (H : Hp) (vs : List V) (Q : VK) (E : XK) (p : Addr × Obj), L2H.Hot1 A p → L2H.RoomH k (A.deeper (envOfC qual (defScope st) s.heap.objs.size f cdv)) → sp vs H Q E →
      ∃ t, PSs (L2H.cxH CX0 P w K mg base N qual (defScope st) f cdv A outer s H E p).nox (defBody st) t ∧ t { nx := fun _ H' => Q .non H', rt := Q } (start N vs) H) : L2H.FnH P w K mg base CX0 (k + 1) f fd ps sp := by
  obtain ⟨oc, od, kV, doc, pm, an, cdv, ct, osl, rfl, lk, hcd⟩ := F.ex
  refine L2H.fn_ofH lk hcd S len fun A outer s H vs Q E p hot hr z => ?_
  obtain ⟨t, h1, h2⟩ := body cdv A outer s H vs Q E p hot hr z
  exact ⟨t, h1.nox, h2⟩
end
section
variable {X : Cx} {x n : Str} {c : Value} {i : Nat} {body suite : List Stmt} {hds : List ExceptHandler} {b₀ : Stmt} {np pos pos' : Pos} {tb : WX → TS} {ts : Addr → Value → Option Addr → TS} {pins : List (Addr × Obj)}
theorem ps_try_hitN (st : X.stack = X.env :: X.outer) (fr : X.env.frame = some X.env.locals) (ndN : X.N.Nodup) (ni : X.N[i]? = some n) (nl : X.env.kindOf n = some .local) (nc : Names X x c)
    (hB : ∀ (W : WX) (ps : List (Addr × Obj)) (xe : Value → Shared → Prop), L2N.Takes (X.tr ps xe) W → PassesOwn (model X.prog X.w) X.A X.env xe → PSs (X.tr ps xe) body (tb W))
    (hS : ∀ (a : Addr) (o : Obj) (cls : Value) (d : Option Addr) (ps : List (Addr × Obj)), L2N.Zn cls d o → (∃ vs, o.data = .fields vs) → PSs (X.suite a ((a, o) :: ps)) (b₀ :: suite) (ts a cls d)) :
    PS X (.Try body (.ExceptHandler (some (.Name x np)) (some n) (b₀ :: suite) pos' :: hds) [] [] pos) (fun D σ H => tb (wHit X.K c i ts D) D σ H) := by
  refine ⟨fun pins s σ H D I h => wpAny_Try_except ?_⟩
  have fr2 : X.A.frames = some (X.env :: X.outer) := I.ok.frames.trans (congrArg some st)
  refine wpAny_mono ((hB _ (X.pn ++ pins) (fun e s₁ => wpAny (model X.prog X.w) X.A (noteFrame e X.env) (fun _ s₂ => wpAny (model X.prog X.w) X.A (setFlight e none) (fun _ s₃ => wpAny (model X.prog X.w) X.A
    (handleBy e X.env (.ExceptHandler (some (.Name x np)) (some n) (b₀ :: suite) pos' :: hds)) (SP X pins D) X.xe s₃) X.xe s₂) X.xe s₁) (fun u t xx => ?_) PassesOwn.looking).run [] s σ H D (I.toTry _) h) (fun f t q => ?_) (fun _ _ z => z)
  case refine_2 =>
    have q' := flow_out (pins := pins) I.ok q
    cases f with
    | next => exact wpAny_execs_nil q'
    | _ => exact q'
  obtain ⟨a, B, t0, ps, σ1, H1, cls, d, eu, J0, nB, u1, sk, na, eo, bare, hit, go⟩ := xx
  subst eu
  have J := J0.ofTry I.ok
  rw [show (X.tr (X.pn ++ pins) _).stack = X.env :: X.outer from st] at sk
  refine L2N.Sky.land L2N.Zn.steady fr2 fr sk fun h3 f3 u3 => ?_
  have J3 : Inv X pins σ1 H1 { t with heap := h3 } := J.landed nB f3.1 (u1.trans u3) eo bare
  obtain ⟨o3, v3, g3, z3, d3⟩ := f3.there
  have out := no_frame f3.2.2.1 g3 d3
  have aL : a ≠ X.env.locals := fun e => out (List.mem_filterMap.mpr ⟨X.env, .head _, by rw [e]; exact fr⟩)
  have aF : a ∉ X.fs := fun m => out (by rw [show frs (X.env :: X.outer) = X.env.locals :: frs X.outer from List.filterMap_cons_some fr]; exact .tail _ m)
  refine wpAny_handleBy_cons (codeAny_handlers_test (names_it nc (J3.suite g3 d3 na aL aF) ?_)) (by intro z; cases z)
  refine (PySem.W.exm_one (M := model X.prog X.w) J3.kIn (fun _ _ _ _ k z => wpAny_typeOf_ref (k _ _ g3) (by rw [z3.1]; exact z)) hit).here ?_
  refine codeAny_handlers_suite_as (HandSPX.lands_againZ f3 fun h4 f4 u4 => ?_)
  have J4 : Inv X pins σ1 H1 { t with heap := h4 } := J.landed nB f4.1 ((u1.trans u3).trans u4) eo bare
  obtain ⟨o4, v4, g4, z4, d4⟩ := f4.there
  refine store_ok (X := Cx.suite X a ((a, o4) :: (X.pn ++ pins))) (v := .ref a) (J4.suite g4 d4 na aL aF) ndN ni (.inl nl) rfl (fun t5 S5 => ?_) (.inr nl)
  refine wpAny_mono ((hS a o4 cls d (X.pn ++ pins) z4 ⟨_, d4⟩).run [] t5 _ H1 _ S5 (go a na)) (fun f t6 q => ?_) (fun _ _ z => z.elim)
  cases f with
  | ret u => exact let ⟨v6, σ6, H6, S6, r6, q6⟩ := q; gone_ok (S6.unsuite I.ok) ndN ni nl fun t7 J7 => ⟨v6, _, H6, J7, r6, q6⟩
  | next => exact let ⟨σ6, H6, S6, q6⟩ := q; gone_ok (S6.unsuite I.ok) ndN ni nl fun t7 J7 => ⟨_, H6, J7, q6⟩
  | brk => exact let ⟨σ6, H6, S6, q6⟩ := q; gone_ok (S6.unsuite I.ok) ndN ni nl fun t7 J7 => ⟨_, H6, J7, q6⟩
  | cont => exact let ⟨σ6, H6, S6, q6⟩ := q; gone_ok (S6.unsuite I.ok) ndN ni nl fun t7 J7 => ⟨_, H6, J7, q6⟩
/-- the suite's context bears the error -/
theorem hot_suite {a : Addr} {o : Obj} {cls : Value} {d : Option Addr} {ps : List (Addr × Obj)} (z : L2N.Zn cls d o) (h : ∃ vs, o.data = .fields vs) : L2H.HotC (X.suite a ((a, o) :: ps)) :=
  let ⟨vs, e⟩ := h
  ⟨(a, o), ⟨rfl, vs, e, z.2.2 vs e⟩, List.mem_cons_self⟩
theorem passN : Passes (L2N.CX X.prog X.w) X E0 := fun _ _ _ _ _ _ _ h => let ⟨_, _, _, _, _, _, _, _, _, _, _, _, z⟩ := h; z.elim
/-- nothing leaves a suite -/
theorem pass_at0 {σ : L2.St} : PassesAt CX0 X σ (fun _ _ _ => False) := fun _ _ _ _ _ _ h => h.elim
end
theorem unitsH {k : Nat} {A : Around} (r : L2H.RoomH k A) : A.units + 64 < cLine := by
  have := r.un
  omega
end RK

namespace RK
open PySem PySem.Spec PyProof.Rows L2 PySem.Builtin.Str
/-! ### {n:04x} of a word -/
def hx (k : Nat) : Nat := if k < 10 then 48 + k else 87 + k
def hexd (n : Nat) : List Nat := [hx (n / 4096), hx (n / 256 % 16), hx (n / 16 % 16), hx (n % 16)]
theorem hx_char : ∀ k : _root_.Fin 16, (Nat.digitChar k.val).toNat = hx k.val := by decide +kernel
theorem tod16 {n : Nat} (h : n < 65536) : (Nat.toDigits 16 n).length ≤ 4 ∧ List.replicate (4 - (Nat.toDigits 16 n).length) 48 ++ (Nat.toDigits 16 n).map Char.toNat = hexd n := by
  have hc : ∀ k, k < 16 → (Nat.digitChar k).toNat = hx k := fun k hk => hx_char ⟨k, hk⟩
  have z : hx 0 = 48 := rfl
  have base : ∀ k, k < 16 → Nat.toDigits 16 k = [Nat.digitChar k] := fun k hk => Nat.toDigits_of_lt_base hk
  have step : ∀ k, 16 ≤ k → Nat.toDigits 16 k = Nat.toDigits 16 (k / 16) ++ [Nat.digitChar (k % 16)] := fun k hk => Nat.toDigits_of_base_le (by decide) hk
  unfold hexd
  by_cases h1 : n < 16
  · rw [base n h1, show n / 4096 = 0 by omega, show n / 256 % 16 = 0 by omega, show n / 16 % 16 = 0 by omega, show n % 16 = n by omega]
    refine ⟨show 1 ≤ 4 by decide, ?_⟩
    show List.replicate 3 48 ++ [(Nat.digitChar n).toNat] = _
    rw [hc n h1]
    rfl
  rw [step n (by omega)]
  by_cases h2 : n / 16 < 16
  · rw [base (n / 16) h2, show n / 4096 = 0 by omega, show n / 256 % 16 = 0 by omega, show n / 16 % 16 = n / 16 by omega]
    refine ⟨show 2 ≤ 4 by decide, ?_⟩
    show List.replicate 2 48 ++ [(Nat.digitChar (n / 16)).toNat, (Nat.digitChar (n % 16)).toNat] = _
    rw [hc _ h2, hc _ (Nat.mod_lt _ (by decide))]
    rfl
  rw [step (n / 16) (by omega)]
  by_cases h3 : n / 16 / 16 < 16
  · rw [base (n / 16 / 16) h3, show n / 4096 = 0 by omega, show n / 256 % 16 = n / 16 / 16 by omega]
    refine ⟨show 3 ≤ 4 by decide, ?_⟩
    show List.replicate 1 48 ++ [(Nat.digitChar (n / 16 / 16)).toNat, (Nat.digitChar (n / 16 % 16)).toNat, (Nat.digitChar (n % 16)).toNat] = _
    rw [hc _ h3, hc _ (Nat.mod_lt _ (by decide)), hc _ (Nat.mod_lt _ (by decide))]
    rfl
  rw [step (n / 16 / 16) (by omega), base (n / 16 / 16 / 16) (by omega), show n / 4096 = n / 16 / 16 / 16 by omega, show n / 256 = n / 16 / 16 by omega]
  refine ⟨show 4 ≤ 4 by decide, ?_⟩
  show List.replicate 0 48 ++ [(Nat.digitChar (n / 16 / 16 / 16)).toNat, (Nat.digitChar (n / 16 / 16 % 16)).toNat, (Nat.digitChar (n / 16 % 16)).toNat, (Nat.digitChar (n % 16)).toNat] = _
  rw [hc _ (by omega), hc _ (Nat.mod_lt _ (by decide)), hc _ (Nat.mod_lt _ (by decide)), hc _ (Nat.mod_lt _ (by decide))]
  rfl
section
variable {X : Cx}
open Builtin PySem.W Builtin.Float
abbrev sp4 : Str := ⟨#[48, 52, 120]⟩
theorem ret_text2 {M : Model} {A : Around} {E : Value → Shared → Prop} {s : Shared} {X T : PySem.Str} {Q : Fin → Shared → Prop} (e : X = T) (hL : T.length ≤ sizeLine) (h : ∀ t k, Q (.done (.ret (.str T t))) { s with toks := k }) : wpAny M A (retStr X) Q E s := by
  subst e
  exact KXf.ret_text rfl hL h
def f4 : Builtin.Float.FormatSpec := { fill := 48, align := 61, width := some 4, type := some 120 }
theorem fmt4_meets {n : Nat} (h : n < 65536) (t u : Tok) : Meets («int.__format__» ⟨[.int (n : Int) t, .str sp4 u], []⟩) (fun _ R s => ∀ t' k, R (.ok (.ret (.str (sO (hexd n)) t'))) { s with toks := k }) := by
  apply KPc.meets_of
  intro prog w A s Q E hq
  unfold Builtin.«int.__format__»
  refine wpAny_bind (wpAny_of_eq (a := (_, _)) rfl ?_)
  refine wpAny_bind (wpAny_of_eq (a := _) rfl ?_)
  refine wpAny_ite (KPc.ite_no Bool.false_ne_true ?_)
  refine wpAny_bind (wpAny_typeNameOf (T := "str") (typeIs_str _ _ _) (by decide) fun _ => ?_)
  refine wpAny_bind (wpAny_of_eq (a := some _) rfl ?_)
  refine wpAny_ite (KPc.ite_no (by decide) ?_)
  refine wpAny_ite (KPc.ite_no (by decide) ?_)
  refine wpAny_bind (wpAny_typeNameOfCut_int ?_)
  have hp : parseFormatSpec sp4.cps.toList "int" 62 = .ok f4 := rfl
  have hty : f4.type.getD (if (sp4.cps.back? == some 0) = true then 0 else 100) = 120 := rfl
  have h1 : f4.precision = none := rfl
  have h2 : f4.noNeg0 = false := rfl
  have h3 : f4.alt = false := rfl
  have h4 : f4.width = some 4 := rfl
  have h5 : f4.grouping = none := rfl
  have h6 : f4.sign = none := rfl
  have h7 : f4.fill = 48 := rfl
  have h8 : f4.align = 61 := rfl
  obtain ⟨f, hf⟩ : ∃ f, f = f4 := ⟨_, rfl⟩
  rw [← hf] at hp hty h1 h2 h3 h4
  simp only [hp, hty]
  rw [if_pos (by decide)]
  show wpAny _ _ (if _ then _ else _) _ _ _
  rw [if_neg (by simp [h1])]
  show wpAny _ _ (if _ then _ else _) _ _ _
  rw [if_neg (by simp [h2])]
  show wpAny _ _ (if _ then _ else _) _ _ _
  rw [if_neg (by decide)]
  show wpAny _ _ (if _ then _ else _) _ _ _
  rw [if_neg (by decide)]
  show wpAny _ _ (if _ then _ else _) _ _ _
  rw [if_neg (by simp [h4])]
  refine ret_text2 (T := sO (hexd n)) ?_ ?_ hq
  case refine_1 =>
    obtain ⟨hl, ht⟩ := tod16 h
    simp only [h3, Bool.false_eq_true, if_false, Int.natAbs_natCast, decide_eq_false (by omega : ¬ (n : Int) < 0), show ((120 : Nat) == 88) = false by decide, show ((16 : Nat) == 10) = false by decide]
    generalize Nat.toDigits 16 n = ds at hl ht
    subst hf
    conv => lhs; whnf
    simp only [h4, h5, h6, h7, h8, List.length_nil, Bool.false_eq_true, if_false, beq_self_eq_true, Bool.and_self, if_true]
    have e4 : ((4 : Nat) : Int) - (((0 : Nat) : Int) + ((0 : Nat) : Int) + ((0 : Nat) : Int)) = 4 := by decide
    rw [e4]
    clear h1 h2 h3 h4 h5 h6 h7 h8 hty hp hq
    cases ds with
    | nil =>
      show _ = sO (hexd n)
      rw [← ht]
      rfl
    | cons c r =>
      have hm : ((c :: r).map Char.toNat).length = (c :: r).length := List.length_map ..
      show (⟨(([] ++ [] ++ [] ++ List.replicate (4 - ((List.replicate (4 - ((c :: r).map Char.toNat).length) 48 ++ (c :: r).map Char.toNat).length : Int)).toNat 48 ++ (List.replicate (4 - ((c :: r).map Char.toNat).length) 48 ++ (c :: r).map Char.toNat)) ++ [] ++ []).toArray⟩ : Str) = _
      rw [hm, ht]
      rfl
  case refine_2 => exact Nat.le_trans (show 4 ≤ 100 by decide) (by decide)
/-- {e:04x} of a word -/
def tF4 (te : TE) : TE := fun σ H Q => te σ H fun x H1 => ∃ n : Nat, x = .int (n : Int) ∧ n < 65536 ∧ Q (.str (sO (hexd n))) H1
theorem pe_fmt4 {e spec : Expr} {te : TE} {pos : Pos} (he : PE X e te) (hs : PE X spec (tC (.str (Str.ofString "04x")))) : PE X (.FormattedValue e (-1) (some spec) pos) (tF4 te) := by
  refine ⟨fun pins s σ H Q I h => ?_⟩
  refine wpAny_FormattedValue_spec (thn (he.run pins s σ H _ I h) fun v s1 ⟨x, H1, I1, r1, q⟩ => ?_)
  obtain ⟨n, rfl, hn, q⟩ := q
  obtain ⟨t, rfl⟩ := r1
  refine thn (hs.run pins s1 σ H1 (fun x H2 => x = .str (Str.ofString "04x") ∧ Q (.str (sO (hexd n))) H2) I1 ⟨rfl, q⟩) fun u s2 ⟨y, H2, I2, r2, ey, q2⟩ => ?_
  subst ey
  obtain ⟨t2, rfl⟩ := r2
  refine ⟨_, _, rfl, KXf.field_int (spec' := sp4) (by decide +kernel) rfl (by decide) (fun u => fmt4_meets hn _ u) fun t' k => ⟨.str _, H2, I2.tok _, ⟨_, rfl⟩, q2⟩⟩
end
/-! digits -/
abbrev HXD : List Nat := (Str.ofString "0123456789abcdef").cps.toList
/-- a digit's value -/
def dv (c : Nat) : Nat := if c ≤ 57 then c - 48 else c - 87
theorem HXD_eq : HXD = (List.range 16).map hx := by decide +kernel
theorem hx_mem {k : Nat} (h : k < 16) : hx k ∈ HXD := by
  rw [HXD_eq]
  exact List.mem_map.mpr ⟨k, List.mem_range.mpr h, rfl⟩
theorem hxd_of {c : Nat} (h : c ∈ HXD) : ∃ k, k < 16 ∧ c = hx k := by
  rw [HXD_eq] at h
  obtain ⟨k, h1, h2⟩ := List.mem_map.mp h
  exact ⟨k, List.mem_range.mp h1, h2.symm⟩
theorem hx_dv : ∀ k : _root_.Fin 16, dv (hx k.val) = k.val := by decide +kernel
theorem hx_find : ∀ k : _root_.Fin 16, Txt.find (Str.ofString "0123456789abcdef") (sO [hx k.val]) = (k.val : Int) := by decide +kernel
theorem hx_occ : ∀ k : _root_.Fin 16, occurrences (Str.ofString "0123456789abcdef") (sO [hx k.val]) 0 (Str.ofString "0123456789abcdef").length 1 = [k.val] := by decide +kernel
theorem hx_at : ∀ k : _root_.Fin 16, (Str.ofString "0123456789abcdef").cps.toList[k.val]? = some (hx k.val) := by decide +kernel
theorem find_dv {c : Nat} (h : c ∈ HXD) : Txt.find (Str.ofString "0123456789abcdef") (sO [c]) = (dv c : Int) := by
  obtain ⟨k, hk, rfl⟩ := hxd_of h
  rw [hx_find ⟨k, hk⟩, hx_dv ⟨k, hk⟩]
theorem occ_dv {c : Nat} (h : c ∈ HXD) : occurrences (Str.ofString "0123456789abcdef") (sO [c]) 0 (Str.ofString "0123456789abcdef").length 1 = [dv c] := by
  obtain ⟨k, hk, rfl⟩ := hxd_of h
  rw [hx_occ ⟨k, hk⟩, hx_dv ⟨k, hk⟩]
/-- the first place that is no digit | the length, if it is no multiple of four -/
def fbad (l : List Nat) : Option Nat := match l.findIdx? (fun c => !decide (c ∈ HXD)) with
  | some i => some i
  | none => if l.length % 4 = 0 then none else some l.length
theorem fbad_at {l : List Nat} {i : Nat} (hi : i < l.length) (h : l.getD i 0 ∉ HXD) (hp : ∀ j, j < i → l.getD j 0 ∈ HXD) : fbad l = some i := by
  have e : l.findIdx? (fun c => !decide (c ∈ HXD)) = some i := by
    rw [List.findIdx?_eq_some_iff_getElem]
    refine ⟨hi, ?_, fun j hj => ?_⟩
    · rw [List.getD_eq_getElem?_getD, List.getElem?_eq_getElem hi] at h
      have h2 : l[i] ∉ HXD := h
      rw [decide_eq_false h2]
      rfl
    · have := hp j hj
      rw [List.getD_eq_getElem?_getD, List.getElem?_eq_getElem (by omega)] at this
      have h2 : l[j] ∈ HXD := this
      rw [decide_eq_true h2]
      decide
  unfold fbad
  rw [e]
theorem fbad_all {l : List Nat} (h : ∀ j, j < l.length → l.getD j 0 ∈ HXD) : fbad l = if l.length % 4 = 0 then none else some l.length := by
  have e : l.findIdx? (fun c => !decide (c ∈ HXD)) = none := by
    rw [List.findIdx?_eq_none_iff]
    intro c hc
    obtain ⟨j, hj, rfl⟩ := List.mem_iff_getElem.mp hc
    have := h j hj
    rw [List.getD_eq_getElem?_getD, List.getElem?_eq_getElem hj] at this
    have h2 : l[j] ∈ HXD := this
    rw [decide_eq_true h2]
    rfl
  unfold fbad
  rw [e]
theorem fbad_none {l : List Nat} (h : fbad l = none) : (∀ c ∈ l, c ∈ HXD) ∧ l.length % 4 = 0 := by
  unfold fbad at h
  cases e : l.findIdx? (fun c => !decide (c ∈ HXD)) with
  | some i => rw [e] at h; cases h
  | none =>
    rw [e] at h
    have h2 : (if l.length % 4 = 0 then none else some l.length) = none := h
    refine ⟨fun c hc => ?_, ?_⟩
    · have := List.findIdx?_eq_none_iff.mp e c hc
      apply Decidable.byContradiction
      intro z
      rw [decide_eq_false z] at this
      cases this
    · apply Decidable.byContradiction
      intro z
      rw [if_neg z] at h2
      cases h2
def val4 (l : List Nat) : Nat := l.foldl (fun a c => a * 16 + dv c) 0
theorem val4_app (l : List Nat) (c : Nat) : val4 (l ++ [c]) = val4 l * 16 + dv c := by
  unfold val4
  rw [List.foldl_append]
  rfl
/-- the words of a text of digits -/
def rdw (l : List Nat) : List Nat := (List.range (l.length / 4)).map fun k => val4 ((l.drop (4 * k)).take 4)
theorem val4_hexd {w : Nat} (h : w ≤ 65535) : val4 (hexd w) = w := by
  have e : ∀ k, k < 16 → dv (hx k) = k := fun k hk => hx_dv ⟨k, hk⟩
  show (((0 * 16 + dv (hx (w / 4096))) * 16 + dv (hx (w / 256 % 16))) * 16 + dv (hx (w / 16 % 16))) * 16 + dv (hx (w % 16)) = w
  rw [e _ (by omega), e _ (by omega), e _ (by omega), e _ (by omega)]
  omega
theorem flat_hexd (ws : List Nat) : (ws.flatMap hexd).length = 4 * ws.length := by
  induction ws with
  | nil => rfl
  | cons x r ih =>
    rw [List.flatMap_cons, List.length_append, ih, List.length_cons]
    show 4 + _ = _
    omega
theorem rdw_flat {ws : List Nat} (h : ∀ w ∈ ws, w ≤ 65535) : rdw (ws.flatMap hexd) = ws := by
  unfold rdw
  rw [flat_hexd, show 4 * ws.length / 4 = ws.length by omega]
  apply List.ext_getElem?
  intro i
  by_cases hi : i < ws.length
  · rw [List.getElem?_map, List.getElem?_range hi]
    have e : ∀ (ws : List Nat) (i : Nat), i < ws.length → ((ws.flatMap hexd).drop (4 * i)).take 4 = hexd (ws.getD i 0) := fun ws => by
      induction ws with
      | nil => intro i hi; exact absurd hi (Nat.not_lt_zero _)
      | cons x r ih =>
        intro i hi
        cases i with
        | zero => rfl
        | succ i =>
          rw [List.flatMap_cons, show 4 * (i + 1) = 4 * i + 4 by omega]
          have := ih i (by simpa using hi)
          show ((hexd x ++ _).drop (4 * i + 4)).take 4 = _
          rw [show 4 * i + 4 = (hexd x).length + 4 * i from by show _ = 4 + 4 * i; omega, List.drop_length_add_append]
          exact this
    show some (val4 _) = _
    rw [e ws i hi, List.getD_eq_getElem?_getD, List.getElem?_eq_getElem hi]
    exact congrArg some (val4_hexd (h _ (List.getElem_mem hi)))
  · rw [List.getElem?_eq_none (by simp; omega), List.getElem?_eq_none (by omega)]
theorem fbad_flat {ws : List Nat} (hw : ∀ w ∈ ws, w ≤ 65535) : fbad (ws.flatMap hexd) = none := by
  have hm : ∀ c ∈ ws.flatMap hexd, c ∈ HXD := fun c hc => by
    obtain ⟨w, h1, h⟩ := List.mem_flatMap.mp hc
    have := hw w h1
    unfold hexd at h
    rcases List.mem_cons.mp h with z | h
    · rw [z]; exact hx_mem (by omega)
    rcases List.mem_cons.mp h with z | h
    · rw [z]; exact hx_mem (by omega)
    rcases List.mem_cons.mp h with z | h
    · rw [z]; exact hx_mem (by omega)
    rw [List.mem_singleton.mp h]
    exact hx_mem (by omega)
  rw [fbad_all fun j hj => by rw [List.getD_eq_getElem?_getD, List.getElem?_eq_getElem hj]; exact hm _ (List.getElem_mem hj), flat_hexd, if_pos (by omega)]
theorem cut_mid (l : List Nat) (a b : Nat) (h : a ≤ b) : cutS (sO l) (some (a : Int)) (some (b : Int)) = sO ((l.drop a).take (b - a)) := by
  show (⟨((l.drop (HT.sIx l.length 0 (some (a : Int)))).take (HT.sIx l.length l.length (some (b : Int)) - HT.sIx l.length 0 (some (a : Int)))).toArray⟩ : Str) = _
  rw [HT.sIx_nat, HT.sIx_nat]
  have e : (l.drop (min a l.length)).take (min b l.length - min a l.length) = (l.drop a).take (b - a) := by
    by_cases h1 : a ≤ l.length
    · rw [Nat.min_eq_left h1]
      by_cases h2 : b ≤ l.length
      · rw [Nat.min_eq_left h2]
      · rw [Nat.min_eq_right (by omega), List.take_of_length_le (by rw [List.length_drop]; omega), List.take_of_length_le (by rw [List.length_drop]; omega)]
    · have h3 : min a l.length = l.length := by omega
      rw [h3, List.drop_length, List.drop_of_length_le (by omega)]
      simp
  rw [e]
  rfl
end RK

namespace RK
open PySem PySem.Spec PyProof.Rows L2 PySem.Builtin.Str
/-! ### enumerate(text) -/
def Itse (x : Str) : It := ⟨fun i _ => i < x.cps.size, fun i H v H' => ∃ T c, v = .ref T ∧ H T = none ∧ H' = upd H T (.tup [.int (i : Nat), .str ⟨#[c]⟩]) ∧ x.cps[i]? = some c, fun i _ => x.cps.size ≤ i⟩
theorem draws_str {prog : Program} {w : World} {A : Around} (hh : A.handled = none) (it : Addr) (x : Str) (t : Tok) :
    Draws prog w A it [it] x.cps.size (fun i v => ∃ c u, x.cps[i]? = some c ∧ v = .str ⟨#[c]⟩ u) (fun i h => h.IsStrIter it (strIterType x) x t i) := by
  unfold strIterType
  cases x.cps.all (· < 128)
  · exact Draws.strWide hh it x t
  · exact Draws.strAscii hh it x t
theorem turn_enumS {P : Program} {w : World} {K : PySem.W.Frag} {elts : List Expr} {kk : Nat} {tpos : Pos} (x : Str) (t : Tok) (e it : Addr) :
    Turn P w K (.Tuple elts kk tpos) (Itse x) [e, it] e (fun i h => (∃ old, IsEnum h e it ((i : Nat) : Int) old) ∧ h.IsStrIter it (strIterType x) x t i ∧ e ≠ it ∧ i ≤ x.cps.size) where
  mem := by simp
  obj := fun i h st b hb => by
    obtain ⟨⟨old, he⟩, ⟨o, ho, hc, hd⟩, _⟩ := st
    have e' : b = e ∨ b = it := by simpa using hb
    rcases e' with z | z
    · rw [z]; exact ⟨_, he, fun v q => nomatch q⟩
    · rw [z]; exact ⟨o, ho, fun v q => by rw [hd] at q; cases q⟩
  keep := fun i h h' st k => let ⟨⟨old, he⟩, ⟨o, ho, r⟩, hne, hle⟩ := st; ⟨⟨old, k e (by simp) _ he⟩, ⟨o, k it (by simp) o ho, r⟩, hne, hle⟩
  item := by
    intro X hP hw hK hc i pins s σ H E I hf st hg
    subst hP hw hK
    obtain ⟨⟨old, he⟩, hit, hne, hle⟩ := st
    have hel : e < s.heap.objs.size := Heap.lt_size he
    have hil : it < s.heap.objs.size := by obtain ⟨_, q, _⟩ := hit; exact Heap.lt_size q
    have D := draws_str (A := X.A.in1) (prog := X.prog) (w := X.w) (show X.A.in1.handled = none from I.ok.hd hc) it x t
    refine wpAny_pyNext_enum_itemD D he hit hg hne (by simpa using hne) fun u h' tk hu ho hit' hT hsz hk => ?_
    obtain ⟨c, tc, hcx, rfl⟩ := hu
    refine ⟨_, rfl, wpAny_letOwnedTupleGo_enum (s := { s with heap := h', toks := tk + 1 }) ho fun h'' he' sb => ?_⟩
    have hT2 : h''.get? s.heap.objs.size = some { cls := .type "tuple", data := .seq #[.int i tk, .str ⟨#[c]⟩ tc] } := (sb.2 _ (Nat.ne_of_gt hel)).trans hT
    have new : ObjOk X.prog X.w (upd H s.heap.objs.size (.tup [.int (i : Nat), .str ⟨#[c]⟩])) h'' s.heap.objs.size (.tup [.int (i : Nat), .str ⟨#[c]⟩]) :=
      ⟨by show 2 ≤ sizeLine; decide, [.int i tk, .str ⟨#[c]⟩ tc], .cons ⟨_, rfl⟩ (.cons ⟨_, rfl⟩ .nil), ⟨_, hT2, rfl, _, rfl⟩⟩
    have I1 : Inv X pins σ (upd H s.heap.objs.size (.tup [.int (i : Nat), .str ⟨#[c]⟩])) { s with heap := h'', toks := tk + 1 } :=
      I.turnedNew (ch := [e, it]) (fun b ob hb q => (sb.2 b (fun z => hb (by simp [z]))).trans (hk b ob (fun z => hb (by simp [z])) (fun z => hb (by simp [z])) q)) hf (Nat.le_refl _) new
    refine ⟨.ref s.heap.objs.size, _, I1, rfl, ⟨_, c, rfl, I.hok.fresh (Nat.le_refl _), rfl, hcx⟩, ⟨⟨.str ⟨#[c]⟩ tc, ?_⟩, ?_, hne, hg⟩, fun b hb => ?_⟩
    · have e1 : ((i + 1 : Nat) : Int) = (i : Int) + 1 := by omega
      rw [e1]; exact he'
    · obtain ⟨o, ho2, r⟩ := hit'
      exact ⟨o, (sb.2 it (Ne.symm hne)).trans ho2, r⟩
    · have hb' : b < s.heap.objs.size := by
        have e' : b = e ∨ b = it := by simpa using hb
        rcases e' with z | z
        · rw [z]; exact hel
        · rw [z]; exact hil
      rw [upd_ne (Nat.ne_of_lt hb')]
      exact (hf b hb).1
  done := by
    intro X hP hw hK hc i pins s σ H E I hf st hg
    subst hP hw hK
    obtain ⟨⟨old, he⟩, hit, hne, hle⟩ := st
    obtain ⟨f0, f1, f2, f3, f4, f5⟩ := hf it (by simp)
    have ei : i = x.cps.size := Nat.le_antisymm hle hg
    have D := draws_str (A := X.A.in1) (prog := X.prog) (w := X.w) (show X.A.in1.handled = none from I.ok.hd hc) it x t
    subst ei
    exact wpAny_pyNext_enum_endD D he hit fun h' eb => ⟨rfl, I.turned (t' := s.toks) (fun b o hb q => eb b o hb q) f0 f1 f3 f4 f5⟩
  self := fun A i s Q E st h => let ⟨⟨_, he⟩, _⟩ := st; wpAny_pyIter_enum he h
/-- the text at each turn, each sign in a new pair -/
def iEnS (ta : TA) : TI := fun σ H R => ta σ H fun vs H1 => ∃ x, vs = [.str x] ∧ R (Itse x) H1
theorem pi_enumS {X : Cx} {e : Expr} {ta : TA} {p pos tpos : Pos} {elts : List Expr} {kk : Nat} (hg : Gl X "enumerate") (hm : X.mg "enumerate" = none) (ha : PA X [e] ta) (hs : starEach [e] X.env = [(false, eval e X.env)] := by rfl) :
    PI X (.Tuple elts kk tpos) (.Call (.Name "enumerate" p) [e] [] pos) (iEnS ta) := by
  refine ⟨fun pins s σ H R I h => ?_⟩
  refine Call_ (ld_blt I hg hm boot_enumerate (PyProof.Rows.callWith_type1 (thn (ha.run pos pins s σ H _ I h) fun us s1 ⟨vs, H1, I1, r1, q1⟩ => ?_) hs rfl))
  obtain ⟨x, ex, q⟩ := q1
  subst ex
  cases r1 with
  | cons r rr =>
    cases rr
    obtain ⟨t, rfl⟩ := r
    refine call_enumerate_str fun h' he hit hsz hk => wpAny_pyIter_enum he ?_
    have I2 : Inv X pins σ H1 { s1 with heap := h' } := I1.kept (t' := s1.toks) hk
    refine ⟨s1.heap.objs.size + 1, [s1.heap.objs.size + 1, s1.heap.objs.size], _, _, H1, rfl, I2, turn_enumS x t (s1.heap.objs.size + 1) s1.heap.objs.size, ⟨⟨.none, he⟩, hit, Nat.succ_ne_self _, Nat.zero_le _⟩, fun b hb => ?_, q⟩
    have e' : b = s1.heap.objs.size + 1 ∨ b = s1.heap.objs.size := by simpa using hb
    have hge : s1.heap.objs.size ≤ b := by
      rcases e' with z | z
      · rw [z]; omega
      · rw [z]; omega
    exact I1.fpOk hge (I1.hok.fresh hge)
theorem walk_enumS {x : Str} : Walk (Itse x) x.cps.size (fun _ => True) (fun i H v H' => ∃ T c, v = .ref T ∧ H T = none ∧ H' = upd H T (.tup [.int (i : Nat), .str ⟨#[c]⟩]) ∧ x.cps[i]? = some c) :=
  ⟨fun i H hi _ => hi, fun H _ => Nat.le_refl _, fun i H v H' _ _ y => y⟩
theorem rg4 {n : Nat} (h : n ≤ 10000) (hm : n % 4 = 0) : RgC 0 (n : Int) 4 (n / 4) := by
  have e : Builtin.Range.rangeSize 0 (n : Int) 4 = ((n / 4 : Nat) : Int) := by
    rw [rangeSize_pos (by decide) (by omega)]
    omega
  have fl : ∀ i : Int, -100000 ≤ i → i ≤ 100000 → Builtin.Range.rangeFitsLong i = true := fun i h1 h2 => by
    unfold Builtin.Range.rangeFitsLong
    rw [decide_eq_true (show -(2 ^ 63) ≤ i by omega), decide_eq_true (show i < 2 ^ 63 by omega)]
    rfl
  refine ⟨by decide, by decide, ?_, e⟩
  unfold Builtin.Range.small
  rw [e, fl 0 (by decide) (by decide), fl (n : Int) (by omega) (by omega), fl 4 (by decide) (by decide), fl _ (by omega) (by omega)]
  rw [if_pos (by decide), fl _ (by omega) (by omega), Bool.or_true]
  rfl
end RK

namespace RK
open PySem PySem.Spec PyProof.Rows L2 StX
/-! ### defs with *rest that may raise where nothing is handled -/
theorem cxUpN {P : Program} {w : World} : CXUp (L2N.CX P w) := by
  rintro outer s H s2 H2 E e s' un kp ho ⟨a, B, H', cls, d, ea, fl, hok, ub, na, os, ag, he⟩
  refine ⟨a, B, H', cls, d, ea, fl, hok, ⟨fun b o q n hb => ub.keep b o (kp b o q) (un.free b o q n (by simp)) hb, fun b o q hb => ub.slot b o (kp b o q) hb, fun b o q n => ub.free b o (kp b o q) (un.free b o q n (by simp)),
    fun b o q hb => ub.there b o (kp b o q) hb, fun b xs q => ub.tups b xs (un.tups b xs q), fun b o xs q => ub.frzs b o xs (un.frzs b o xs q), fun b ps q => ?_⟩, na, os.trans ho, ag, he⟩
  obtain ⟨m1, e1⟩ := un.tbls b ps q
  obtain ⟨m2, e2⟩ := ub.tbls b _ e1
  exact ⟨m1 ++ m2, by rw [e2, Array.append_assoc]⟩
section
variable {X : Cx} {CX : CXT} {k : Nat} {f : Addr} {sp : Sp} {x : Str} {e : Expr} {es : List Expr} {t : TA} {p pos : Pos} {E : L2.St → XK}
theorem run_fnRS {pins : List (Addr × Obj)} {σ : L2.St} {H : Hp} {s : Shared} {Q : VK} {us : List Value} {vs : List V} (F : FnR X.prog X.w X.K X.mg X.base CX k f sp) (hr : Room k X.A) (hx : PassesAt CX X σ (E σ))
    (I : Inv X pins σ H s) (r : Vals vs us) (h : sp vs H Q (E σ)) : wpAny (model X.prog X.w) X.A (call (.ref f) us) (EP X pins σ Q) X.xe s := by
  refine wpAny_call (codeAny_mono (F X.A X.stack s H us vs Q (E σ) hr I.env0 r h) fun r s' hq => ?_)
  cases r with
  | error e => exact hx pins H s e s' I hq
  | ok fl =>
    cases fl with
    | ret u => exact I.after hq
    | next => exact False.elim hq
    | brk => exact False.elim hq
    | cont => exact False.elim hq
theorem pe_callRS (F : FnR X.prog X.w X.K X.mg X.base CX k f sp) (hr : Room k X.A) (hg : Gl X x) (hm : X.mg x = some (.ref f)) (hk : PySem.W.keepIn X.K (.ref f) = true) (hx : ∀ σ, PassesAt CX X σ (E σ))
    (ha : PA X (e :: es) t) (hdb : (x == ("__debug__" : Str)) = false := by decide) (he : starEach (e :: es) X.env = (false, eval e X.env) :: starEach es X.env := by rfl) (hpl : (backTo pos (starEach es X.env)).any (·.1) = false := by rfl) :
    PE X (.Call (.Name x p) (e :: es) [] pos) (tCallS sp E t) := by
  refine ⟨fun pins s σ H Q I h => ?_⟩
  refine wpAny_Call_Name_kw (ld_glob I hg hm ?_ hdb)
  refine PySem.W.callWith_K (h₀ := X.base) I.ok.mod.kin hk (thn (ha.run pos pins s σ H _ I h) fun us s1 ⟨vs, H1, I1, r, q⟩ => ⟨I1.kIn, ?_⟩) he hpl
  exact run_fnRS F hr (hx σ) I1 r q
theorem passAtN {σ : L2.St} : PassesAt (L2N.CX X.prog X.w) X σ (fun _ _ _ => False) := fun _ _ _ _ _ _ h => let ⟨_, _, _, _, _, _, _, _, _, _, _, _, z⟩ := h; z.elim
end
/-- a def with *rest: its promise speaks of the bound names, the call's of all that is handed on -/
def spStar (n : Nat) (sp : Sp) : Sp := fun vs H Q E => ∃ ws rest, vs = ws ++ rest ∧ ws.length = n ∧ rest.length ≤ sizeLine ∧ ∀ p, H p = none → sp (ws ++ [V.ref p]) (upd H p (.tup rest)) Q E
theorem Fun.starN {P : Program} {w : World} {K : PySem.W.Frag} {mg : Str → Option Value} {base : Heap} {x qual pv : Str} {st : Stmt} {f : Addr} {fd : FuncData} {N ps : List Str} {k : Nat} {sp : Sp} (F : Fun K x qual st f fd) (S : FnScope N (ps ++ [pv]) (defScope st))
    (hb : ∀ us rest : List Value, us.length = ps.length → bindArgs fd ⟨us ++ rest, []⟩ = (newTuple rest >>= fun t => pure (ps.zip us ++ [(pv, t)])))
    (body : ∀ (cdv : Value) (A : Around) (outer : List Env) (s : Shared) (H : Hp) (vs : List V) (Q : VK) (E : XK), Room k (A.deeper (envOfC qual (defScope st) s.heap.objs.size f cdv)) → sp vs H Q E →
      ∃ t, PSs (cxOf (L2N.CX P w) P w K mg base N qual (defScope st) f cdv A outer s H E) (defBody st) t ∧ t { nx := fun _ H' => Q .non H', rt := Q } (start N vs) H) : FnR P w K mg base (L2N.CX P w) (k + 1) f (spStar ps.length sp) := by
  obtain ⟨oc, od, kV, doc, pm, an, cdv, ct, osl, rfl, lk, hcd⟩ := F.ex
  exact fn_star lk hcd S cxUpN hb fun A outer s H vs Q E hr z => body cdv A outer s H vs Q E hr z
section
variable {X : Cx}
/-- t.index(x), x a text, ahead of it texts and None -/
theorem mt_tupIdx : MtR X "tuple.index" (fun x xs H Q => ∃ p, ∃ ys : List V, ∃ z j, x = .ref p ∧ xs = [.str z] ∧ SqT X.K H p ys ∧ (∀ v ∈ ys, v = .non ∨ ∃ y, v = .str y) ∧ ys[j]? = some (.str z) ∧ (∀ m, m < j → ys[m]? ≠ some (.str z)) ∧ Q (.int (j : Nat)) H) := by
  intro pins s σ H x xs v us Q I rx rs h
  obtain ⟨p, ys, z, j, rfl, rfl, hq, hfl, hy, hno, q⟩ := h
  cases rx
  obtain ⟨u, rfl, t, rfl⟩ := vals1 rs
  obtain ⟨its, r, pl, hz⟩ := I.tuple hq
  obtain ⟨⟨cls, dd, dt, sl⟩, ho, hc, n, hd⟩ := pl
  simp only at hc hd
  subst hc
  subst hd
  have hl : its.toArray.size = ys.length := by rw [List.size_toArray, ← r.length]
  have hj : j < its.toArray.size := by rw [hl]; exact (List.getElem?_eq_some_iff.mp hy).1
  have at' : ∀ (m : Nat) (hm : m < its.toArray.size), (∃ y t', ys[m]? = some (.str y) ∧ its.toArray[m] = Value.str y t') ∨ (ys[m]? = some .non ∧ its.toArray[m] = Value.none) := fun m hm => by
    have hm' : m < ys.length := by rw [← hl]; exact hm
    have hg : ys[m]? = some ys[m] := List.getElem?_eq_getElem hm'
    obtain ⟨w, hw, hr⟩ := r.get hg
    have e := (List.getElem?_eq_some_iff.mp hw).2
    rcases hfl ys[m] (List.getElem_mem hm') with e2 | ⟨y, e2⟩
    · rw [e2] at hr hg
      refine .inr ⟨hg, ?_⟩
      have : w = Value.none := hr
      rw [← this, ← e]
      simp
    · rw [e2] at hr hg
      obtain ⟨t', hw'⟩ := hr
      refine .inl ⟨y, t', hg, ?_⟩
      rw [← hw', ← e]
      simp
  refine call_meets PySem.F.slot_tuple_index ⟨_, ho, rfl⟩ PySem.F.entry_tuple_index (PySem.F.args_tuple_index_2 _ _) (TI.tuple_indexAt p its.toArray n dd sl (.str z t) (eqU (.str z)) j hj ?_ ?_)
    ⟨ho, fun w hw => mem_eqAt (x := .str z) ⟨t, rfl⟩ rfl r ?_ w (by simpa using hw), ⟨.int (j : Nat), H, I.tok _, ⟨_, rfl⟩, q⟩⟩
  · rcases at' j hj with ⟨y, t', h1, h2⟩ | ⟨h1, h2⟩
    · rw [hy] at h1
      cases h1
      rw [h2]
      show (z == z) = true
      exact beq_self_eq_true z
    · rw [hy] at h1
      cases h1
  · intro m hm hmj
    rcases at' m hm with ⟨y, t', h1, h2⟩ | ⟨h1, h2⟩
    · rw [h2]
      show (y == z) = false
      exact beq_eq_false_iff_ne.mpr fun e => hno m hmj (by rw [h1, e])
    · rw [h2]
      rfl
  · rw [List.all_eq_true]
    intro v hv
    rcases hfl v hv with e | ⟨y, e⟩
    · rw [e]; rfl
    · rw [e]; rfl
end
/-- a tuple behind a tuple, whatever the two are -/
theorem catA_of {K : PySem.W.Frag} {H : Hp} {a b : Addr} {xs ys : List V} {Q : VK} (ha : SqT K H a xs) (hb : SqT K H b ys) (hl : xs.length + ys.length ≤ 100000) (q : ∀ p H', Same H H' → SqT K H' p (xs ++ ys) → Q (.ref p) H') : rCatA K (.ref a) (.ref b) H Q := by
  refine ⟨a, b, xs, ys, rfl, rfl, ha, hb, Nat.le_trans hl (lenOk (xs := List.replicate 100000 ()) (n := 100000) (List.length_replicate ..) (Nat.le_refl _) |> fun h => by rw [List.length_replicate] at h; exact h), fun e => q b H (Same.refl _) (by rw [e]; exact hb), fun _ e => q a H (Same.refl _) (by rw [e, List.append_nil]; exact ha), fun _ _ p hp => q p _ (same_new hp) (SqT.of upd_same)⟩
end RK

namespace RK
open PySem PySem.Spec PyProof.Rows L2
section
variable {J : It} {n : Nat} {G : Hp → Prop} {Y : Nat → Hp → V → Hp → Prop}
/-- a comprehension with one test, whose elements have a value each; the target is the name at k -/
theorem lc_filt (w : Walk J n G Y) {tt : TT} {te : TE} {σ : L2.St} {H1 : Hp} {D : Addr} {Qd : Hp → Prop} {k : Nat} (I : Nat → V → Prop) (c : Nat → Bool) (f : Nat → V) (hD : H1 D = none) (hG : ∀ H, Same H1 H → G H) (hn : n ≤ 1000000)
    (hY : ∀ i H x H', i < n → Y i H x H' → H' = H ∧ I i x)
    (ht : ∀ i x H, i < n → Same H1 H → I i x → ∀ Q : Bool → Hp → Prop, Q (c i) H → tt ((σ.set k none).set k (some x)) H Q)
    (hs : ∀ i x H, i < n → c i = true → Same H1 H → I i x → ∀ Q : VK, (∀ H3, Same H H3 → Q (f i) H3) → te ((σ.set k none).set k (some x)) H Q) (hd : ∀ H, Same H1 H → H D = some (.lst (((List.range n).filter c).map f)) → Qd H) :
    ∃ W : Nat → Nat → Hp → Prop, (∃ m, W 0 m (upd H1 D (.lst []))) ∧ ∀ i m H, W i m H →
      (J.stop i H ∧ Qd H) ∨ (J.go i H ∧ ∃ Nx : Hp → Prop, (∀ H', Nx H' → ∃ m', m' < m ∧ W (i + 1) m' H') ∧ ∀ x H', J.yld i H x H' → gName k x (wipe σ [k]) H' fun σ2 H2 => wipe σ2 [k] = wipe σ [k] ∧ tt σ2 H2 fun b H3 =>
        if b = true then te σ2 H3 fun y H4 => ∃ acc, H4 D = some (.lst acc) ∧ acc.length < sizeLine ∧ Nx (upd H4 D (.lst (acc ++ [y]))) else Nx H3) := by
  refine lc_it w (fun i H => Same H1 H ∧ H D = some (.lst (((List.range i).filter c).map f))) ⟨same_new hD, upd_same⟩ (fun i H _ h => hG H h.1) (fun i x H H' hi hp y => ?_) fun H h => hd H h.1 h.2
  obtain ⟨sm, e⟩ := hp
  obtain ⟨rfl, hx⟩ := hY i H x H' hi y
  refine ⟨?_, ?_⟩
  · show ((σ.set k none).set k (some x)).set k none = σ.set k none
    rw [List.set_set, List.set_set]
  show tt ((σ.set k none).set k (some x)) H' _
  refine ht i x H' hi sm hx _ ?_
  by_cases hc : c i = true
  · rw [if_pos hc]
    refine hs i x H' hi hc sm hx _ fun H3 s3 => ?_
    have e3 := s3 _ _ e
    refine ⟨_, e3, ?_, same_mut (sm.trans s3) hD, ?_⟩
    · rw [List.length_map]
      refine Nat.lt_of_le_of_lt (List.length_filter_le _ _) ?_
      rw [List.length_range]
      exact Nat.lt_of_lt_of_le (Nat.lt_of_lt_of_le hi hn) (by decide)
    · rw [upd_same, List.range_succ, List.filter_append, List.map_append]
      rw [show [i].filter c = [i] by simp only [List.filter, hc]]
      rfl
  · rw [if_neg hc]
    refine ⟨sm, ?_⟩
    rw [e, List.range_succ, List.filter_append, List.map_append]
    rw [show [i].filter c = [] by simp only [List.filter, hc]]
    rw [List.map_nil, List.append_nil]
end
end RK

namespace R1
open PySem PySem.Spec PyProof.Rows L2 RK
local macro_rules | `(tactic| walk_at "sq") => `(tactic| first
  | exact SqL.of upd_same | exact upd_same | exact SqL.of (by assumption) | exact SqL.of (by rw [upd_ne (by assumption)]; assumption) | assumption)
local macro_rules | `(tactic| walk_at "sd") => `(tactic| first
  | assumption | omega | (refine Or.inl ⟨?_, ?_⟩ <;> omega) | (show _ ∧ _; constructor <;> omega) | (show _ ≠ _; simp; omega) | (exact Or.inl ⟨by decide, by decide⟩) | (exact Or.inr ⟨by decide, by decide⟩) | (show _ < _; decide) | (show _ ≤ _; decide))
local macro_rules | `(tactic| walk_at "at") => `(tactic| first | rfl | (refine atI_intV ?_ ?_ <;> omega) | assumption)
local macro_rules | `(tactic| walk_at "s1") => `(tactic| first
  | refine ⟨_, rfl, ?_⟩ | refine ⟨_, _, rfl, rfl, ?_⟩ | refine ⟨rfl, ?_⟩
  | refine ⟨_, _, _, _, rfl, rfl, by walk_at "sq", by walk_at "at", ?_⟩
  | refine Or.inl ⟨_, rfl, ?_⟩
  | refine ⟨_, _, rfl, Or.inl (by walk_at "sq"), ?_⟩
  | refine And.intro (by walk_at "sd") ?_)
local macro_rules | `(tactic| walk_at "s") => `(tactic| repeat walk_at "s1")

def topS (i : Nat) : Stmt := PySem.Challenge.pw_romwright_k27_value_of_trees.main.body.getD i (.Pass ⟨0, 0, 0, 0⟩)
abbrev s_within : Stmt := topS 6
abbrev N_within : List Str := ["number"]
theorem sc_within : FnScope N_within ["number"] (defScope s_within) := ⟨rfl, rfl, rfl, by decide +kernel, rfl, by decide +kernel, by decide +kernel⟩
abbrev s_value : Stmt := topS 7
abbrev N_value : List Str := ["tree", "facts", "op", "part", "parts"]
theorem sc_value : FnScope N_value ["tree", "facts"] (defScope s_value) := ⟨rfl, rfl, rfl, by decide +kernel, rfl, by decide +kernel, by decide +kernel⟩
abbrev s_truth : Stmt := topS 8
abbrev N_truth : List Str := ["thing"]
theorem sc_truth : FnScope N_truth ["thing"] (defScope s_truth) := ⟨rfl, rfl, rfl, by decide +kernel, rfl, by decide +kernel, by decide +kernel⟩
abbrev s_result : Stmt := topS 9
abbrev N_result : List Str := ["op", "left", "right"]
theorem sc_result : FnScope N_result ["op", "left", "right"] (defScope s_result) := ⟨rfl, rfl, rfl, by decide +kernel, rfl, by decide +kernel, by decide +kernel⟩
abbrev s_compared : Stmt := topS 10
abbrev N_compared : List Str := ["op", "left", "right"]
theorem sc_compared : FnScope N_compared ["op", "left", "right"] (defScope s_compared) := ⟨rfl, rfl, rfl, by decide +kernel, rfl, by decide +kernel, by decide +kernel⟩
abbrev s_law_source : Stmt := topS 12
abbrev N_law_source : List Str := ["_law_script", "_law_cell", "_law_cells", "_law_mixed"]
theorem sc_law_source : FnScope N_law_source ["_law_script"] (defScope s_law_source) := ⟨rfl, rfl, rfl, by decide +kernel, rfl, by decide +kernel, by decide +kernel⟩
abbrev s_law_draw : Stmt := topS 13
abbrev N_law_draw : List Str := ["_law_source_here", "_law_below", "_law_cells", "_law_place", "_law_digits", "_law_count", "_law_seed", "_law_number_here"]
theorem sc_law_draw : FnScope N_law_draw ["_law_source_here", "_law_below"] (defScope s_law_draw) := ⟨rfl, rfl, rfl, by decide +kernel, rfl, by decide +kernel, by decide +kernel⟩
abbrev s_law_names : Stmt := topS 14
abbrev N_law_names : List Str := ["_law_source_here", "_law_count", "_law_letters", "_law_mode", "_law_step", "_law_common", "_law_names_here", "_law_k", "_law_own", "_law_name_here", "_law_tail"]
theorem sc_law_names : FnScope N_law_names ["_law_source_here", "_law_count"] (defScope s_law_names) := ⟨rfl, rfl, rfl, by decide +kernel, rfl, by decide +kernel, by decide +kernel⟩
abbrev s_law_number : Stmt := topS 15
abbrev N_law_number : List Str := ["_law_source_here", "_law_way"]
theorem sc_law_number : FnScope N_law_number ["_law_source_here"] (defScope s_law_number) := ⟨rfl, rfl, rfl, by decide +kernel, rfl, by decide +kernel, by decide +kernel⟩
abbrev s_law_words : Stmt := topS 16
abbrev N_law_words : List Str := ["_law_first"]
theorem sc_law_words : FnScope N_law_words [] (defScope s_law_words) := ⟨rfl, rfl, rfl, by decide +kernel, rfl, by decide +kernel, by decide +kernel⟩
abbrev s_law_name : Stmt := topS 17
abbrev N_law_name : List Str := ["_law_source_here", "_law_names_here", "_law_own", "_law_name_here", "_law_way"]
theorem sc_law_name : FnScope N_law_name ["_law_source_here", "_law_names_here", "_law_own"] (defScope s_law_name) := ⟨rfl, rfl, rfl, by decide +kernel, rfl, by decide +kernel, by decide +kernel⟩
abbrev s_law_leaf : Stmt := topS 18
abbrev N_law_leaf : List Str := ["_law_source_here", "_law_names_here", "_law_way", "_law_word"]
theorem sc_law_leaf : FnScope N_law_leaf ["_law_source_here", "_law_names_here"] (defScope s_law_leaf) := ⟨rfl, rfl, rfl, by decide +kernel, rfl, by decide +kernel, by decide +kernel⟩
abbrev s_law_tree : Stmt := topS 19
abbrev N_law_tree : List Str := ["_law_source_here", "_law_leaves", "_law_names_here", "_law_menu_here", "_law_tree_here", "_law_op", "_law_left", "_law_first", "_law_step"]
theorem sc_law_tree : FnScope N_law_tree ["_law_source_here", "_law_leaves", "_law_names_here", "_law_menu_here"] (defScope s_law_tree) := ⟨rfl, rfl, rfl, by decide +kernel, rfl, by decide +kernel, by decide +kernel⟩
abbrev s_law_menu : Stmt := topS 20
abbrev N_law_menu : List Str := ["_law_source_here", "_law_way"]
theorem sc_law_menu : FnScope N_law_menu ["_law_source_here"] (defScope s_law_menu) := ⟨rfl, rfl, rfl, by decide +kernel, rfl, by decide +kernel, by decide +kernel⟩
abbrev s_law_plain : Stmt := topS 21
abbrev N_law_plain : List Str := ["_law_thing", "_law_one"]
theorem sc_law_plain : FnScope N_law_plain ["_law_thing"] (defScope s_law_plain) := ⟨rfl, rfl, rfl, by decide +kernel, rfl, by decide +kernel, by decide +kernel⟩
abbrev s_law_chain : Stmt := topS 22
abbrev N_law_chain : List Str := ["_law_source_here", "_law_names_here", "_law_tree_here", "_law_step", "_law_op", "_law_other"]
theorem sc_law_chain : FnScope N_law_chain ["_law_source_here", "_law_names_here"] (defScope s_law_chain) := ⟨rfl, rfl, rfl, by decide +kernel, rfl, by decide +kernel, by decide +kernel⟩
abbrev s_law_size : Stmt := topS 23
abbrev N_law_size : List Str := ["_law_tree_here", "_law_part"]
theorem sc_law_size : FnScope N_law_size ["_law_tree_here"] (defScope s_law_size) := ⟨rfl, rfl, rfl, by decide +kernel, rfl, by decide +kernel, by decide +kernel⟩
abbrev s_law_cut : Stmt := topS 24
abbrev N_law_cut : List Str := ["_law_tree_here", "_law_step"]
theorem sc_law_cut : FnScope N_law_cut ["_law_tree_here"] (defScope s_law_cut) := ⟨rfl, rfl, rfl, by decide +kernel, rfl, by decide +kernel, by decide +kernel⟩
abbrev s_law_keys : Stmt := topS 25
abbrev N_law_keys : List Str := ["_law_tree_here", "_law_keys_here", "_law_part"]
theorem sc_law_keys : FnScope N_law_keys ["_law_tree_here"] (defScope s_law_keys) := ⟨rfl, rfl, rfl, by decide +kernel, rfl, by decide +kernel, by decide +kernel⟩
abbrev s_law_worth : Stmt := topS 26
abbrev N_law_worth : List Str := ["_law_source_here", "_law_way"]
theorem sc_law_worth : FnScope N_law_worth ["_law_source_here"] (defScope s_law_worth) := ⟨rfl, rfl, rfl, by decide +kernel, rfl, by decide +kernel, by decide +kernel⟩
abbrev s_law_bounded : Stmt := topS 27
abbrev N_law_bounded : List Str := ["_law_number_here"]
theorem sc_law_bounded : FnScope N_law_bounded ["_law_number_here"] (defScope s_law_bounded) := ⟨rfl, rfl, rfl, by decide +kernel, rfl, by decide +kernel, by decide +kernel⟩
abbrev s_law_pair : Stmt := topS 28
abbrev N_law_pair : List Str := ["_law_op", "_law_first", "_law_second"]
theorem sc_law_pair : FnScope N_law_pair ["_law_op", "_law_first", "_law_second"] (defScope s_law_pair) := ⟨rfl, rfl, rfl, by decide +kernel, rfl, by decide +kernel, by decide +kernel⟩
abbrev s_law_value : Stmt := topS 29
abbrev N_law_value : List Str := ["_law_tree_here", "_law_facts", "_law_part", "_law_values"]
theorem sc_law_value : FnScope N_law_value ["_law_tree_here", "_law_facts"] (defScope s_law_value) := ⟨rfl, rfl, rfl, by decide +kernel, rfl, by decide +kernel, by decide +kernel⟩
abbrev s_law_asked : Stmt := topS 30
abbrev N_law_asked : List Str := ["_law_tree_here", "_law_facts", "_law_key", "_law_before", "_law_told"]
theorem sc_law_asked : FnScope N_law_asked ["_law_tree_here", "_law_facts"] (defScope s_law_asked) := ⟨rfl, rfl, rfl, by decide +kernel, rfl, by decide +kernel, by decide +kernel⟩
abbrev s_law : Stmt := topS 31
abbrev N_law : List Str := ["_law_script", "_law_source_here", "_law_names_here", "_law_menu_here", "_law_tree_here", "_law_shown", "_law_facts", "_law_key", "_law_other", "_law_keys_here"]
theorem sc_law : FnScope N_law ["_law_script"] (defScope s_law) := ⟨rfl, rfl, rfl, by decide +kernel, rfl, by decide +kernel, by decide +kernel⟩
/-- where things stand -/
structure Ads where
  a_within : Addr
  d_within : FuncData
  a_value : Addr
  d_value : FuncData
  a_truth : Addr
  d_truth : FuncData
  a_result : Addr
  d_result : FuncData
  a_compared : Addr
  d_compared : FuncData
  a_law_source : Addr
  d_law_source : FuncData
  a_law_draw : Addr
  d_law_draw : FuncData
  a_law_names : Addr
  d_law_names : FuncData
  a_law_number : Addr
  d_law_number : FuncData
  a_law_words : Addr
  d_law_words : FuncData
  a_law_name : Addr
  d_law_name : FuncData
  a_law_leaf : Addr
  d_law_leaf : FuncData
  a_law_tree : Addr
  d_law_tree : FuncData
  a_law_menu : Addr
  d_law_menu : FuncData
  a_law_plain : Addr
  d_law_plain : FuncData
  a_law_chain : Addr
  d_law_chain : FuncData
  a_law_size : Addr
  d_law_size : FuncData
  a_law_cut : Addr
  d_law_cut : FuncData
  a_law_keys : Addr
  d_law_keys : FuncData
  a_law_worth : Addr
  d_law_worth : FuncData
  a_law_bounded : Addr
  d_law_bounded : FuncData
  a_law_pair : Addr
  d_law_pair : FuncData
  a_law_value : Addr
  d_law_value : FuncData
  a_law_asked : Addr
  d_law_asked : FuncData
  a_law : Addr
  d_law : FuncData
  c_RomError : Addr
  t_FACTS : Addr
  t_COMPARISONS : Addr
  t_MOST : Tok
structure Txt (K : PySem.W.Frag) (mg : Str → Option Value) (A : Ads) : Prop where
  F_within : Fun K "within" "within" s_within A.a_within A.d_within
  g_within : mg "within" = some (.ref A.a_within)
  b_within : Binds K A.d_within ["number"] []
  F_value : Fun K "value" "value" s_value A.a_value A.d_value
  g_value : mg "value" = some (.ref A.a_value)
  b_value : Binds K A.d_value ["tree", "facts"] []
  F_truth : Fun K "truth" "truth" s_truth A.a_truth A.d_truth
  g_truth : mg "truth" = some (.ref A.a_truth)
  b_truth : Binds K A.d_truth ["thing"] []
  F_result : Fun K "result" "result" s_result A.a_result A.d_result
  g_result : mg "result" = some (.ref A.a_result)
  b_result : Binds K A.d_result ["op", "left", "right"] []
  F_compared : Fun K "compared" "compared" s_compared A.a_compared A.d_compared
  g_compared : mg "compared" = some (.ref A.a_compared)
  b_compared : Binds K A.d_compared ["op", "left", "right"] []
  F_law_source : Fun K "_law_source" "_law_source" s_law_source A.a_law_source A.d_law_source
  g_law_source : mg "_law_source" = some (.ref A.a_law_source)
  b_law_source : Binds K A.d_law_source ["_law_script"] []
  F_law_draw : Fun K "_law_draw" "_law_draw" s_law_draw A.a_law_draw A.d_law_draw
  g_law_draw : mg "_law_draw" = some (.ref A.a_law_draw)
  b_law_draw : Binds K A.d_law_draw ["_law_source_here", "_law_below"] []
  F_law_names : Fun K "_law_names" "_law_names" s_law_names A.a_law_names A.d_law_names
  g_law_names : mg "_law_names" = some (.ref A.a_law_names)
  b_law_names : Binds K A.d_law_names ["_law_source_here", "_law_count"] []
  F_law_number : Fun K "_law_number" "_law_number" s_law_number A.a_law_number A.d_law_number
  g_law_number : mg "_law_number" = some (.ref A.a_law_number)
  b_law_number : Binds K A.d_law_number ["_law_source_here"] []
  F_law_words : Fun K "_law_words" "_law_words" s_law_words A.a_law_words A.d_law_words
  g_law_words : mg "_law_words" = some (.ref A.a_law_words)
  b_law_words : Binds K A.d_law_words [] []
  F_law_name : Fun K "_law_name" "_law_name" s_law_name A.a_law_name A.d_law_name
  g_law_name : mg "_law_name" = some (.ref A.a_law_name)
  b_law_name : Binds K A.d_law_name ["_law_source_here", "_law_names_here", "_law_own"] []
  F_law_leaf : Fun K "_law_leaf" "_law_leaf" s_law_leaf A.a_law_leaf A.d_law_leaf
  g_law_leaf : mg "_law_leaf" = some (.ref A.a_law_leaf)
  b_law_leaf : Binds K A.d_law_leaf ["_law_source_here", "_law_names_here"] []
  F_law_tree : Fun K "_law_tree" "_law_tree" s_law_tree A.a_law_tree A.d_law_tree
  g_law_tree : mg "_law_tree" = some (.ref A.a_law_tree)
  b_law_tree : Binds K A.d_law_tree ["_law_source_here", "_law_leaves", "_law_names_here", "_law_menu_here"] []
  F_law_menu : Fun K "_law_menu" "_law_menu" s_law_menu A.a_law_menu A.d_law_menu
  g_law_menu : mg "_law_menu" = some (.ref A.a_law_menu)
  b_law_menu : Binds K A.d_law_menu ["_law_source_here"] []
  F_law_plain : Fun K "_law_plain" "_law_plain" s_law_plain A.a_law_plain A.d_law_plain
  g_law_plain : mg "_law_plain" = some (.ref A.a_law_plain)
  b_law_plain : Binds K A.d_law_plain ["_law_thing"] []
  F_law_chain : Fun K "_law_chain" "_law_chain" s_law_chain A.a_law_chain A.d_law_chain
  g_law_chain : mg "_law_chain" = some (.ref A.a_law_chain)
  b_law_chain : Binds K A.d_law_chain ["_law_source_here", "_law_names_here"] []
  F_law_size : Fun K "_law_size" "_law_size" s_law_size A.a_law_size A.d_law_size
  g_law_size : mg "_law_size" = some (.ref A.a_law_size)
  b_law_size : Binds K A.d_law_size ["_law_tree_here"] []
  F_law_cut : Fun K "_law_cut" "_law_cut" s_law_cut A.a_law_cut A.d_law_cut
  g_law_cut : mg "_law_cut" = some (.ref A.a_law_cut)
  b_law_cut : Binds K A.d_law_cut ["_law_tree_here"] []
  F_law_keys : Fun K "_law_keys" "_law_keys" s_law_keys A.a_law_keys A.d_law_keys
  g_law_keys : mg "_law_keys" = some (.ref A.a_law_keys)
  b_law_keys : Binds K A.d_law_keys ["_law_tree_here"] []
  F_law_worth : Fun K "_law_worth" "_law_worth" s_law_worth A.a_law_worth A.d_law_worth
  g_law_worth : mg "_law_worth" = some (.ref A.a_law_worth)
  b_law_worth : Binds K A.d_law_worth ["_law_source_here"] []
  F_law_bounded : Fun K "_law_bounded" "_law_bounded" s_law_bounded A.a_law_bounded A.d_law_bounded
  g_law_bounded : mg "_law_bounded" = some (.ref A.a_law_bounded)
  b_law_bounded : Binds K A.d_law_bounded ["_law_number_here"] []
  F_law_pair : Fun K "_law_pair" "_law_pair" s_law_pair A.a_law_pair A.d_law_pair
  g_law_pair : mg "_law_pair" = some (.ref A.a_law_pair)
  b_law_pair : Binds K A.d_law_pair ["_law_op", "_law_first", "_law_second"] []
  F_law_value : Fun K "_law_value" "_law_value" s_law_value A.a_law_value A.d_law_value
  g_law_value : mg "_law_value" = some (.ref A.a_law_value)
  b_law_value : Binds K A.d_law_value ["_law_tree_here", "_law_facts"] []
  F_law_asked : Fun K "_law_asked" "_law_asked" s_law_asked A.a_law_asked A.d_law_asked
  g_law_asked : mg "_law_asked" = some (.ref A.a_law_asked)
  b_law_asked : Binds K A.d_law_asked ["_law_tree_here", "_law_facts"] []
  F_law : Fun K "law" "law" s_law A.a_law A.d_law
  g_law : mg "law" = some (.ref A.a_law)
  b_law : Binds K A.d_law ["_law_script"] []
  g_RomError : mg "RomError" = some (.ref A.c_RomError)
  g_FACTS : mg "FACTS" = some (.ref A.t_FACTS)
  q_FACTS : SqT K (fun _ => none) A.t_FACTS [.str (Str.ofString "start"), .str (Str.ofString "end"), .str (Str.ofString "size"), .str (Str.ofString "load"), .str (Str.ofString "base"), .str (Str.ofString "len"), .str (Str.ofString "used"), .str (Str.ofString "room"), .str (Str.ofString "at"), .str (Str.ofString "exported"), .str (Str.ofString "takes"), .str (Str.ofString "leaves"), .str (Str.ofString "kept")]
  y_FACTS : ∃ o, K.lookup A.t_FACTS = some o ∧ o.cls = .type "tuple" ∧ o.dict = none
  g_COMPARISONS : mg "COMPARISONS" = some (.ref A.t_COMPARISONS)
  q_COMPARISONS : SqT K (fun _ => none) A.t_COMPARISONS [.str (Str.ofString "<"), .str (Str.ofString "<="), .str (Str.ofString "="), .str (Str.ofString "<>"), .str (Str.ofString ">"), .str (Str.ofString ">=")]
  y_COMPARISONS : ∃ o, K.lookup A.t_COMPARISONS = some o ∧ o.cls = .type "tuple" ∧ o.dict = none
  g_MOST : mg "MOST" = some (.int 1000000000 A.t_MOST)
  n_abs : mg "abs" = none
  n_any : mg "any" = none
  n_bool : mg "bool" = none
  n_int : mg "int" = none
  n_isinstance : mg "isinstance" = none
  n_len : mg "len" = none
  n_list : mg "list" = none
  n_range : mg "range" = none
  n_str : mg "str" = none
  n_sum : mg "sum" = none
  n_tuple : mg "tuple" = none

/-! ### the law's source of draws -/
def Src (c : Addr) (H : Hp) (p : Addr) : Prop := ∃ (cs : List Int) (pl dg ct mx : Int), H p = some (.lst [.ref c, .int pl, .int dg, .int ct, .int mx]) ∧ H c = some (.lst (cs.map V.int)) ∧ 0 < cs.length ∧ 0 ≤ pl
theorem src_ne {H : Hp} {c p : Addr} (h : Src c H p) : H p ≠ none := by
  obtain ⟨cs, pl, dg, ct, mx, e, _⟩ := h
  rw [e]
  exact fun z => nomatch z
theorem src_cne {H : Hp} {c p : Addr} (h : Src c H p) : H c ≠ none := by
  obtain ⟨cs, pl, dg, ct, mx, _, e, _⟩ := h
  rw [e]
  exact fun z => nomatch z
theorem src_up {H H' : Hp} {c p : Addr} (h : Src c H p) (e : Same H H') : Src c H' p := by
  obtain ⟨cs, pl, dg, ct, mx, h1, h2, h3⟩ := h
  exact ⟨cs, pl, dg, ct, mx, e _ _ h1, e _ _ h2, h3⟩
/-- what is neither of its two lists may change -/
theorem src_put {H : Hp} {c p D : Addr} {o : HO} (h : Src c H p) (hp : D ≠ p) (hc : D ≠ c) : Src c (upd H D o) p := by
  obtain ⟨cs, pl, dg, ct, mx, h1, h2, h3⟩ := h
  exact ⟨cs, pl, dg, ct, mx, by rw [upd_ne (Ne.symm hp)]; exact h1, by rw [upd_ne (Ne.symm hc)]; exact h2, h3⟩
/-- a list of numbers is not the source -/
theorem src_ints {H : Hp} {c p D : Addr} {l : List Nat} (h : Src c H p) (e : H D = some (.lst (intV l))) : D ≠ p := fun z => by
  obtain ⟨cs, pl, dg, ct, mx, h1, _⟩ := h
  subst z
  rw [e] at h1
  have := HO.lst.inj (Option.some.inj h1)
  cases l with
  | nil => cases this
  | cons a r =>
    have := (List.cons.inj this).1
    cases this
def spDraw : Sp := fun vs H Q _ => ∃ (c p : Addr) (b : Int), vs = [.ref p, .int b] ∧ Src c H p ∧ 0 < b ∧ b < 1099511627776 ∧ ∀ H' (r : Nat), (r : Int) < b → Src c H' p → But p H H' → Q (.int (r : Int)) H'
def spSource (K : PySem.W.Frag) : Sp := fun vs H Q _ => ∃ (a : Addr) (ns : List Int), vs = [.ref a] ∧ SqL K H a (ns.map V.int) ∧ ns.length ≤ 63 ∧ ∀ H' c p, Same H H' → H c = none → H p = none → Src c H' p → Q (.ref p) H'
theorem get_int {cs : List Int} {i : Int} (h0 : 0 ≤ i) (h1 : i < cs.length) : ∃ z, atI (cs.map V.int) i = some (.int z) := by
  obtain ⟨j, rfl⟩ : ∃ j : Nat, i = (j : Int) := ⟨i.toNat, by omega⟩
  have hj : j < cs.length := by omega
  exact ⟨cs[j], atI_nat (by rw [List.getElem?_map, List.getElem?_eq_getElem hj]; rfl)⟩
/-! plain: a value with what tells its kind -/
mutual
def plD : PyData → PyData
  | .list xs => .tuple [.bool true, .list (plA xs)]
  | .tuple xs => .tuple [.bool false, .list (plA xs)]
  | .bool b => .tuple [.bool true, .bool b]
  | .none => .tuple [.bool false, .none]
  | .int i => .tuple [.bool false, .int i]
  | .str x => .tuple [.bool false, .str x]
  | .dict kvs => .tuple [.bool false, .dict kvs]
def plA : List PyData → List PyData
  | [] => []
  | x :: r => plD x :: plA r
end
theorem plA_map : ∀ xs : List PyData, plA xs = xs.map plD
  | [] => rfl
  | x :: r => by
    show plD x :: plA r = plD x :: r.map plD
    rw [plA_map r]
mutual
theorem plD_depth : ∀ d : PyData, (plD d).depth ≤ 2 * d.depth + 1
  | .list xs => by
    have h := plA_depth xs
    show max 0 (max (PyData.depthAll (plA xs) + 1) 0) + 1 ≤ 2 * (PyData.depthAll xs + 1) + 1
    omega
  | .tuple xs => by
    have h := plA_depth xs
    show max 0 (max (PyData.depthAll (plA xs) + 1) 0) + 1 ≤ 2 * (PyData.depthAll xs + 1) + 1
    omega
  | .bool b => by show 1 ≤ 1; omega
  | .none => by show 1 ≤ 1; omega
  | .int i => by show 1 ≤ 1; omega
  | .str x => by show 1 ≤ 1; omega
  | .dict kvs => by
    show max 0 (max (PyData.depthKv kvs + 1) 0) + 1 ≤ 2 * (PyData.depthKv kvs + 1) + 1
    omega
theorem plA_depth : ∀ ds : List PyData, (PyData.depthAll (plA ds)) ≤ 2 * (PyData.depthAll ds) + 1
  | [] => Nat.zero_le _
  | x :: r => by
    have h1 := plD_depth x
    have h2 := plA_depth r
    show max (plD x).depth (PyData.depthAll (plA r)) ≤ 2 * (max x.depth (PyData.depthAll r)) + 1
    omega
end
mutual
theorem plD_lay : ∀ d : PyData, d.canLay0 = true → (plD d).canLay0 = true
  | .list xs, h => by
    show (true && (PyData.canLayAll0 (plA xs) && true)) = true
    rw [plA_lay xs h]
    rfl
  | .tuple xs, h => by
    show (true && (PyData.canLayAll0 (plA xs) && true)) = true
    rw [plA_lay xs h]
    rfl
  | .bool b, h => rfl
  | .none, h => rfl
  | .int i, h => rfl
  | .str x, h => by
    show (true && ((PyData.str x).canLay0 && true)) = true
    rw [h]
    rfl
  | .dict kvs, h => by cases h
theorem plA_lay : ∀ ds : List PyData, PyData.canLayAll0 ds = true → PyData.canLayAll0 (plA ds) = true
  | [], _ => rfl
  | x :: r, h => by
    have h' := Bool.and_eq_true_iff.mp h
    show ((plD x).canLay0 && PyData.canLayAll0 (plA r)) = true
    rw [plD_lay x h'.1, plA_lay r h'.2]
    rfl
end
theorem plD_shaped {d : PyData} (h : d.canLay0 = true) (hd : d.depth ≤ 20) : SeqAt.shaped (plD d) = true := by
  have h2 := plD_depth d
  unfold SeqAt.shaped
  rw [plD_lay d h, Bool.true_and]
  exact decide_eq_true (by omega)
def spPlain (K : PySem.W.Frag) : Nat → Sp
  | 0 => fun _ _ _ _ => False
  | n + 1 => fun vs H Q _ => ∃ (v : V) (d : PyData) (S : ASet), vs = [v] ∧ (∀ a, S a → H a ≠ none) ∧ Dx K H S v d ∧ d.depth ≤ n ∧ wdB d = true ∧ ∀ H' v', Same H H' → Dx K H' S v' (plD d) → Q v' H'

section
variable {P : Program} {w : World} {K : PySem.W.Frag} {mg : Str → Option Value} {base : Heap} {A : Ads}
theorem ok_law_draw (T : Txt K mg A) : FnOk P w K mg base CX0 1 A.a_law_draw A.d_law_draw ["_law_source_here", "_law_below"] spDraw := by
  refine T.F_law_draw.ok sc_law_draw (fun vs H Q E h => ?_) (fun cdv B outer s H vs Q E hr h => ?_)
  · obtain ⟨c, p, b, rfl, _⟩ := h
    rfl
  · obtain ⟨c, p, b, rfl, ⟨cs, pl, dg, ct, mx, hp, hc, hn, hpl⟩, hb, hb2, q⟩ := h
    refine ⟨_, (pss_cons (ps_set (i := 2) sc_law_draw.nd rfl (.inl rfl) (pe_ix ix_list (pv 0) pe_int (fun _ _ => rfl)))
    (pss_cons (ps_set (i := 3) sc_law_draw.nd rfl (.inl rfl) (pe_ix ix_list (pv 0) pe_int (fun _ _ => rfl)))
    (pss_cons (ps_set (i := 4) sc_law_draw.nd rfl (.inl rfl) (pe_ix ix_list (pv 0) pe_int (fun _ _ => rfl)))
    (pss_cons (ps_set (i := 5) sc_law_draw.nd rfl (.inl rfl) (pe_ix ix_list (pv 0) pe_int (fun _ _ => rfl)))
    (pss_cons (ps_asg (pe_op op_add (pv 5) pe_int) (pg_sub (pv 0) pe_int set_list))
    (pss_cons (ps_if (PW.pt (pw_and (pt_cmpR op_eq (pe_ix ix_list (pv 0) pe_int (fun _ _ => rfl)) pe_int (nomark _)) (pw_and1 (pt_cmpR op_lt (pv 3) (pe_callB len_seq (by rfl) T.n_len (by decide +kernel) (pa_cons (pv 2) pa_nil)) (nomark _))))) (pss_cons (ps_asg (pe_op op_fdivW (pv 4) (pv 1)) (pg_sub (pv 0) pe_int set_list))
    (pss_cons (ps_if (pt_cmpR op_eq (pe_ix ix_list (pv 0) pe_int (fun _ _ => rfl)) pe_int (nomark _)) (pss_cons (ps_asg (pe_op op_add (pv 3) pe_int) (pg_sub (pv 0) pe_int set_list))
    (pss_one (ps_if (pt_cmpR op_lt (pe_op op_add (pv 3) pe_int) (pe_callB len_seq (by rfl) T.n_len (by decide +kernel) (pa_cons (pv 2) pa_nil)) (nomark _)) (pss_one (ps_asg (pe_ix ix_list (pv 2) (pe_op op_add (pv 3) pe_int) (fun _ _ => rfl)) (pg_sub (pv 0) pe_int set_list))) pss_nil))) pss_nil)
    (pss_one (ps_ret (pe_op op_modN (pe_callTy call_int1 (by rfl) T.n_int (by decide +kernel) (pa_cons (pv 4) pa_nil)) (pv 1)))))) pss_nil)
    (pss_cons (ps_set (i := 6) sc_law_draw.nd rfl (.inl rfl) (pe_op op_add (pe_op op_add (pe_ix ix_list (pv 2) (pe_op op_modN (pe_callTy call_int1 (by rfl) T.n_int (by decide +kernel) (pa_cons (pv 5) pa_nil)) (pe_callB len_seq (by rfl) T.n_len (by decide +kernel) (pa_cons (pv 2) pa_nil))) (fun _ _ => rfl)) (pe_op op_mul pe_int (pv 5))) pe_int))
    (pss_cons (ps_set (i := 7) sc_law_draw.nd rfl (.inl rfl) (pe_op op_mod (pe_callTy call_int1 (by rfl) T.n_int (by decide +kernel) (pa_cons (pe_op op_add (pe_op op_mul (pv 6) pe_int) (pe_op op_mul (pe_op op_add (pv 5) pe_int) pe_int)) pa_nil)) pe_int))
    (pss_cons (ps_set (i := 7) sc_law_draw.nd rfl (.inl rfl) (pe_op op_mod (pe_callTy call_int1 (by rfl) T.n_int (by decide +kernel) (pa_cons (pe_op op_add (pe_op op_mul (pv 7) (pe_op op_add (pe_op op_add (pe_op op_mod (pe_callTy call_int1 (by rfl) T.n_int (by decide +kernel) (pa_cons (pv 7) pa_nil)) pe_int) (pv 5)) pe_int)) (pv 6)) pa_nil)) pe_int))
    (pss_one (ps_ret (pe_op op_modN (pe_callTy call_int1 (by rfl) T.n_int (by decide +kernel) (pa_cons (pe_op op_fdiv (pv 7) pe_int) pa_nil)) (pv 1))))))))))))), ?_⟩
    have nc : c ≠ p := ne_of hc hp (by intro z; have := HO.lst.inj z; cases cs with | nil => cases hn | cons a r => cases this)
    have hmod : ∀ i : Int, 0 ≤ i.fmod b ∧ i.fmod b < b := fun i => ⟨Int.fmod_nonneg_of_pos _ hb, Int.fmod_lt_of_pos _ hb⟩
    have cat : ∀ {H1}, But p H H1 → H1 c = some (.lst (cs.map V.int)) := fun h => h c _ nc hc
    have fin : ∀ {H1} {x1 x2 x3 x4 : Int} (i : Int), But p H H1 → 0 ≤ x1 → H1 p = some (.lst [.ref c, .int x1, .int x2, .int x3, .int x4]) → Q (.int (i.fmod b)) H1 := fun i bt h e => by
      have := q _ (i.fmod b).toNat (by have := hmod i; omega) ⟨cs, _, _, _, _, e, cat bt, hn, h⟩ bt
      rw [Int.toNat_of_nonneg (hmod i).1] at this
      exact this
    have hb3 : CDivW 0 b := wide_div (b := 41) hb (by omega) (by decide) (by decide)
    have hb3' : 0 < b ∧ b.natAbs.log2 < 9000 := hb3
    have hbne : b ≠ 0 := by omega
    have hl : 0 < (cs.map V.int).length := by rw [List.length_map]; exact hn
    have tail : ∀ i : Int, 0 ≤ i.fmod ((cs.map V.int).length : Int) ∧ i.fmod ((cs.map V.int).length : Int) < cs.length := fun i => by
      rw [List.length_map]
      exact ⟨Int.fmod_nonneg_of_pos _ (by omega), Int.fmod_lt_of_pos _ (by omega)⟩
    obtain ⟨z, hz⟩ := get_int (cs := cs) (tail ct).1 (tail ct).2
    walk_at "s"
    have b1 : ∀ o, But p H (upd H p o) := fun o => (But.refl p H).upd
    have c1 : ∀ o, SqL K (upd H p o) c (cs.map V.int) := fun o => SqL.of (cat (b1 o))
    refine ite2 (fun e => ?_) (fun e => ?_)
    · refine ⟨_, rfl, .ref c, rfl, c, _, rfl, .inl (c1 _), ?_⟩
      walk_at "s"
      refine ite2 (fun e => ?_) (fun e => ?_)
      · walk_at "s"
        refine ite2 (fun e => ?_) (fun e => ?_)
        · walk_at "s"
          refine ⟨c, _, rfl, .inl (SqL.of (cat (b1 _).upd.upd)), ?_⟩
          walk_at "s"
          refine ite2 (fun e3 => ?_) (fun e3 => ?_)
          · have e4 : pl + 1 < ((cs.map V.int).length : Int) := of_decide_eq_true e3
            obtain ⟨z2, hz2⟩ := get_int (cs := cs) (i := pl + 1) (by omega) (by rw [List.length_map] at e4; exact e4)
            walk_at "s"
            refine ⟨_, _, _, _, rfl, rfl, SqL.of (cat (b1 _).upd.upd), hz2, ?_⟩
            walk_at "s"
            exact fin _ (b1 _).upd.upd.upd (by omega) upd_same
          · walk_at "s"
            exact fin _ (b1 _).upd.upd (by omega) upd_same
        · walk_at "s"
          exact fin _ (b1 _).upd hpl upd_same
      · walk_at "s"
        try (refine ⟨_, _, _, _, rfl, rfl, c1 _, hz, ?_⟩)
        walk_at "s"
        exact fin _ (b1 _) hpl upd_same
    · walk_at "s"
      try (refine ⟨_, _, _, _, rfl, rfl, c1 _, hz, ?_⟩)
      walk_at "s"
      exact fin _ (b1 _) hpl upd_same

theorem ok_law_source (T : Txt K mg A) : FnOk P w K mg base CX0 1 A.a_law_source A.d_law_source ["_law_script"] (spSource K) := by
  refine T.F_law_source.ok sc_law_source (fun vs H Q E h => ?_) (fun cdv A outer s H vs Q E hr h => ?_)
  · obtain ⟨a, ns, rfl, _⟩ := h
    rfl
  · obtain ⟨a, ns, rfl, hS, hl, q⟩ := h
    refine ⟨_, (pss_cons (ps_setLc (i := 2) (own := [("_law_cell", 1)]) rfl sc_law_source.nd rfl rfl (sw_true rfl rfl rfl (by decide +kernel)) (pi_list (pv 0)) (blkOk_by (own := [("_law_cell", 1)]) (N := N_law_source) (sc := defScope s_law_source) (by decide +kernel)) (fun _ _ _ _ _ => pg_name (i := 1) sc_law_source.nd rfl (Or.inl rfl)) (fun _ _ _ _ _ => pts_nil) (fun _ _ _ _ _ => by exact (pe_callB call_abs (by rfl) T.n_abs (by decide +kernel) (pa_cons (pe_callTy call_int1 (by rfl) T.n_int (by decide +kernel) (pa_cons (pv 1) pa_nil)) pa_nil))))
    (pss_cons (ps_if (pt_cmpR op_eq (pe_callB len_seq (by rfl) T.n_len (by decide +kernel) (pa_cons (pv 2) pa_nil)) pe_int (nomark _)) (pss_one (ps_set (i := 2) sc_law_source.nd rfl (.inl rfl) (pe_lst (pa_cons pe_int pa_nil)))) pss_nil)
    (pss_cons (ps_set (i := 3) sc_law_source.nd rfl (.inl rfl) pe_int)
    (pss_cons (ps_if (pt_cmpR op_lt (pe_ix ix_list (pv 2) pe_int (fun _ _ => rfl)) (pe_op op_pow pe_int pe_int) (nomark _)) (pss_one (ps_set (i := 3) sc_law_source.nd rfl (.inl rfl) (pe_op op_mod (pe_callTy call_int1 (by rfl) T.n_int (by decide +kernel) (pa_cons (pe_ix ix_list (pv 2) pe_int (fun _ _ => rfl)) pa_nil)) pe_int))) pss_nil)
    (pss_one (ps_ret (pe_lst (pa_cons (pv 2) (pa_cons pe_int (pa_cons (pe_ix ix_list (pv 2) pe_int (fun _ _ => rfl)) (pa_cons pe_int (pa_cons (pv 3) pa_nil)))))))))))), ?_⟩
    have w := walk_list (K := K) (a := a) (xs := ns.map V.int)
    refine ⟨_, rfl, a, rfl, ⟨_, hS⟩, fun D hD => ?_⟩
    have hx : ∀ {i : Nat} {x : V}, (ns.map V.int)[i]? = some x → x = .int (ns.getD i 0) := fun {i x} e => by
      rw [List.getElem?_map] at e
      cases h : ns[i]? with
      | none => rw [h] at e; cases e
      | some z =>
        rw [h] at e
        rw [List.getD_eq_getElem?_getD, h]
        exact (Option.some.inj e).symm
    refine lc_vals w (fun i x => (ns.map V.int)[i]? = some x) (fun i => .int (if ns.getD i 0 < 0 then -ns.getD i 0 else ns.getD i 0)) hD (fun H' e => e.seq hS) (by rw [List.length_map]; omega) (fun i H x H' _ y => y) (fun i x H' hi sm e Q q => ?_) (fun H1 s1 e1 => ?_)
    · rw [hx e]
      exact ⟨_, rfl, .inl ⟨_, rfl, _, rfl, q _ (Same.refl _)⟩⟩
    have e2 : H1 D = some (.lst (((List.range ns.length).map fun i => if ns.getD i 0 < 0 then -ns.getD i 0 else ns.getD i 0).map V.int)) := by
      rw [e1, List.map_map, List.length_map]
      rfl
    generalize hcs : ((List.range ns.length).map fun i => if ns.getD i 0 < 0 then -ns.getD i 0 else ns.getD i 0) = cs at e2
    clear hcs e1
    refine ⟨_, rfl, D, _, rfl, .inl (SqL.of e2), rfl, _, rfl, ite2 (fun e => ?_) (fun e => ?_)⟩
    · refine ⟨by decide, fun c hc => ?_⟩
      generalize hH : upd H1 c (.lst [V.int 5]) = H2
      have fc : H c = none := s1.free hc
      have ec : H2 c = some (.lst (([5] : List Int).map V.int)) := by rw [← hH]; exact upd_same
      have s2 : Same H1 H2 := by rw [← hH]; exact same_new hc
      have sm : Same H H2 := s1.trans s2
      have hl : 0 < ([5] : List Int).length := by decide
      generalize ([5] : List Int) = cs at ec hl
      clear hH hc
      obtain ⟨z, h0⟩ := get_int (cs := cs) (i := 0) (Int.le_refl 0) (by omega)
      have fin : ∀ (x1 x2 x3 x4 : Int) {H3 : Hp}, 0 ≤ x1 → Same H1 H3 → H3 = H2 → ∀ p, H3 p = none → Q (.ref p) (upd H3 p (.lst [.ref c, .int x1, .int x2, .int x3, .int x4])) := fun x1 x2 x3 x4 H3 h1 s3 e3 p hp => by
        subst e3
        exact q _ c _ (sm.trans (same_new hp)) fc (sm.free hp) ⟨cs, x1, x2, x3, x4, upd_same, by rw [upd_ne (ne_of_none ec hp)]; exact ec, hl, h1⟩
      refine ⟨.ref c, rfl, c, _, _, _, rfl, rfl, SqL.of ec, h0, _, _, rfl, rfl, ⟨by decide, by decide, by decide⟩, _, _, rfl, rfl, _, rfl, ite2 (fun e => ?_) (fun e => ?_)⟩
      · refine ⟨.ref c, rfl, c, _, _, _, rfl, rfl, SqL.of ec, h0, .inl ⟨_, rfl, _, _, rfl, rfl, (by show (0 : Int) < 2; decide), ?_⟩⟩
        refine ⟨.ref c, rfl, .ref c, rfl, c, _, _, _, rfl, rfl, SqL.of ec, h0, _, rfl, lenOk (n := 5) rfl (by decide), fun p hp => ?_⟩
        exact fin _ _ _ _ (Int.le_refl 0) s2 rfl p hp
      · refine ⟨.ref c, rfl, .ref c, rfl, c, _, _, _, rfl, rfl, SqL.of ec, h0, _, rfl, lenOk (n := 5) rfl (by decide), fun p hp => ?_⟩
        exact fin _ _ _ _ (Int.le_refl 0) s2 rfl p hp
    · have hl : 0 < cs.length := by
        cases cs with
        | nil => exact absurd (decide_eq_true rfl) e
        | cons => exact Nat.succ_pos _
      have ec := e2
      have fc : H D = none := hD
      generalize D = c at ec fc
      generalize hH : H1 = H2 at ec
      have s2 : Same H1 H2 := by rw [← hH]; exact Same.refl _
      have sm : Same H H2 := s1.trans s2
      obtain ⟨z, h0⟩ := get_int (cs := cs) (i := 0) (Int.le_refl 0) (by omega)
      have fin : ∀ (x1 x2 x3 x4 : Int) {H3 : Hp}, 0 ≤ x1 → Same H1 H3 → H3 = H2 → ∀ p, H3 p = none → Q (.ref p) (upd H3 p (.lst [.ref c, .int x1, .int x2, .int x3, .int x4])) := fun x1 x2 x3 x4 H3 h1 s3 e3 p hp => by
        subst e3
        exact q _ c _ (sm.trans (same_new hp)) fc (sm.free hp) ⟨cs, x1, x2, x3, x4, upd_same, by rw [upd_ne (ne_of_none ec hp)]; exact ec, hl, h1⟩
      refine ⟨.ref c, rfl, c, _, _, _, rfl, rfl, SqL.of ec, h0, _, _, rfl, rfl, ⟨by decide, by decide, by decide⟩, _, _, rfl, rfl, _, rfl, ite2 (fun e => ?_) (fun e => ?_)⟩
      · refine ⟨.ref c, rfl, c, _, _, _, rfl, rfl, SqL.of ec, h0, .inl ⟨_, rfl, _, _, rfl, rfl, (by show (0 : Int) < 2; decide), ?_⟩⟩
        refine ⟨.ref c, rfl, .ref c, rfl, c, _, _, _, rfl, rfl, SqL.of ec, h0, _, rfl, lenOk (n := 5) rfl (by decide), fun p hp => ?_⟩
        exact fin _ _ _ _ (Int.le_refl 0) s2 rfl p hp
      · refine ⟨.ref c, rfl, .ref c, rfl, c, _, _, _, rfl, rfl, SqL.of ec, h0, _, rfl, lenOk (n := 5) rfl (by decide), fun p hp => ?_⟩
        exact fin _ _ _ _ (Int.le_refl 0) s2 rfl p hp
def spNone : Sp := fun _ _ _ _ => False
theorem ok_plain (T : Txt K mg A) : ∀ n : Nat, FnOk P w K mg base CX0 n A.a_law_plain A.d_law_plain ["_law_thing"] (spPlain K n)
  | 0 => ⟨fun _ _ _ _ h => h.elim, fun _ _ _ _ _ _ _ _ _ _ _ _ _ h => h.elim⟩
  | n + 1 => by
    have G0 : FnOk P w K mg base CX0 n A.a_law_plain A.d_law_plain ["_law_thing"] (spPlain K n) := ok_plain T n
    refine T.F_law_plain.ok sc_law_plain (fun vs H Q E h => ?_) (fun cdv A outer s H vs Q E hr h => ?_)
    · obtain ⟨v, d, S, rfl, _⟩ := h
      rfl
    · obtain ⟨v, d, S, rfl, hS, hd, hn, hw, q⟩ := h
      refine ⟨_, (pss_cons (ps_if (pt_val (pe_callB call_isiT (by rfl) T.n_isinstance (by decide +kernel) (pa_cons (pv 0) (pa_cons (pe_tup (pa_cons (pe_bltn (v := .ty "list") (u := .type "list") (by rfl) T.n_list (by decide +kernel) rfl) (pa_cons (pe_bltn (v := .ty "tuple") (u := .type "tuple") (by rfl) T.n_tuple (by decide +kernel) rfl) pa_nil))) pa_nil)))) (pss_one (ps_ret (pe_tup (pa_cons (pe_callB call_isi (by rfl) T.n_isinstance (by decide +kernel) (pa_cons (pv 0) (pa_cons (pe_bltn (v := .ty "list") (u := .type "list") (by rfl) T.n_list (by decide +kernel) rfl) pa_nil))) (pa_cons (pe_lc (own := [("_law_one", 1)]) rfl sc_law_plain.nd (PI_or (pi_list (pv 0)) (pi_tup (pv 0))) (blkOk_by (own := [("_law_one", 1)]) (N := N_law_plain) (sc := defScope s_law_plain) (by decide +kernel)) (fun _ _ _ _ _ => pg_name (i := 1) sc_law_plain.nd rfl (Or.inl rfl)) (fun _ _ _ _ _ => pts_nil) (fun _ _ _ _ _ => by exact (pe_call G0 (hr.mono (by omega)) rfl T.g_law_plain T.F_law_plain.kp T.b_law_plain .nil pass0 (pa_cons (pv 1) pa_nil)))) pa_nil))))) pss_nil)
    (pss_one (ps_ret (pe_tup (pa_cons (pe_callB call_isi (by rfl) T.n_isinstance (by decide +kernel) (pa_cons (pv 0) (pa_cons (pe_bltn (v := .ty "bool") (u := .type "bool") (by rfl) T.n_bool (by decide +kernel) rfl) pa_nil))) (pa_cons (pv 0) pa_nil)))))), ?_⟩
      have out : ∀ (b : Bool), tn d ≠ "list" → tn d ≠ "tuple" → b = isB (tn d) "bool" → plD d = .tuple [.bool b, d] := fun b h1 h2 h3 => by
        subst h3
        cases hd with
        | non => rfl
        | bl => rfl
        | int => rfl
        | str => rfl
        | lst _ _ => exact absurd rfl h1
        | tup _ _ => exact absurd rfl h2
      refine ⟨_, rfl, lenOk rfl (by decide), fun tp htp => ?_⟩
      have hd1 : Dx K _ S v d := Dx.up (Out.of (same_new (o := .tup (["list", "tuple"].map V.ty)) htp)) hd
      refine ⟨v, tp, _, _, _, _, rfl, upd_same, paired_ty ["list", "tuple"], dp_ty hd1.dp, kit_any (dp_tn hd1.dp) ["list", "tuple"] (by decide), ?_⟩
      have sm0 : Same H (upd H tp (.tup [V.ty "list", V.ty "tuple"])) := same_new htp
      refine ⟨_, rfl, ite2 (fun e => ?_) (fun e => ?_)⟩
      · refine ⟨_, rfl, v, .ty "list", _, _, _, rfl, .ty "list", dp_ty hd1.dp, kit_ty (kitT _ (dp_tn hd1.dp) "list" (by decide)), ?_⟩
        have htt : tn d = "list" ∨ tn d = "tuple" := by
          have hb := dp_tn hd.dp
          rcases List.mem_cons.mp hb with h | hb
          · rw [h] at e; exact absurd e (by decide)
          rcases List.mem_cons.mp hb with h | hb
          · rw [h] at e; exact absurd e (by decide)
          rcases List.mem_cons.mp hb with h | hb
          · rw [h] at e; exact absurd e (by decide)
          rcases List.mem_cons.mp hb with h | hb
          · rw [h] at e; exact absurd e (by decide)
          rcases List.mem_cons.mp hb with h | hb
          · exact .inl h
          · exact .inr (List.mem_singleton.mp hb)
        generalize hH1 : upd H tp (.tup (["list", "tuple"].map V.ty)) = H1 at hd1
        have hH2 : upd H tp (.tup [V.ty "list", V.ty "tuple"]) = H1 := hH1
        rw [hH2] at sm0 ⊢
        have hS1 : ∀ a, S a → H1 a ≠ none := fun a z y => hS a z (sm0.free y)
        cases n with
        | zero =>
          cases hd with
          | lst h t => exact absurd hn (Nat.not_succ_le_zero _)
          | tup h t => exact absurd hn (Nat.not_succ_le_zero _)
          | non => rcases htt with z | z <;> exact absurd z (by show ¬ "NoneType" = _; decide)
          | bl => rcases htt with z | z <;> exact absurd z (by show ¬ "bool" = _; decide)
          | int => rcases htt with z | z <;> exact absurd z (by show ¬ "int" = _; decide)
          | str => rcases htt with z | z <;> exact absurd z (by show ¬ "str" = _; decide)
        | succ n =>
          cases hd1 with
          | non => rcases htt with z | z <;> exact absurd z (by show ¬ "NoneType" = _; decide)
          | bl => rcases htt with z | z <;> exact absurd z (by show ¬ "bool" = _; decide)
          | int => rcases htt with z | z <;> exact absurd z (by show ¬ "int" = _; decide)
          | str => rcases htt with z | z <;> exact absurd z (by show ¬ "str" = _; decide)
          | @lst a xs ds h t =>
            have hw' : wdA ds = true := (Bool.and_eq_true_iff.mp hw).2
            have hl : xs.length ≤ 1000000 := by
              have := of_decide_eq_true (Bool.and_eq_true_iff.mp hw).1
              rw [dxAll_len t]
              omega
            refine .inl ⟨_, rfl, a, rfl, ⟨_, h.sq⟩, fun D hD => ?_⟩
            refine lc_data (S := S) (K := K) (walk_list (K := K) (a := a) (xs := xs)) (fun i x => xs[i]? = some x) (fun i => plD (ds.getD i .none)) hS1 hD (fun H' e => (h.up (Out.of e)).sq) hl (fun i H x H' _ y => y) (fun i x H' hi sm hDn e Q q => ?_) (fun H2 s2 d2 => ?_)
            · obtain ⟨di, h1, h2⟩ := dxAll_get (DxAll.up (Out.of sm) t) e
              have h3 : di.depth ≤ n := by
                have := depth_get h1
                have hn' : PyData.depthAll ds + 1 ≤ n + 1 := hn
                omega
              refine ⟨_, rfl, x, di, inS S D, rfl, fun a z => ?_, ?_, h3, wdA_get hw' h1, fun H' v' s3 d3 => ?_⟩
              · rcases z with z | z
                · exact fun y => hS1 a z (sm.free y)
                · rw [z]; exact hDn
              · exact Dx.up (Out.of sm) (Dx.add hD (Dx.of_get t e h1))
              · refine q _ _ s3 ?_
                rw [List.getD_eq_getElem?_getD, h1]
                exact d3
            refine ⟨lenOk (n := 2) rfl (by decide), fun l hl2 => ?_⟩
            have hSl : ¬ S l := fun z => hS l z (((sm0.trans s2)).free hl2)
            refine q _ _ ((sm0.trans s2).trans (same_new hl2)) ?_
            have e3 : (List.range xs.length).map (fun i => plD (ds.getD i .none)) = plA ds := by
              rw [dxAll_len t, range_getD plD .none ds, plA_map]
            rw [e3] at d2
            exact .tup (XT.of upd_same hSl) (.cons (.bl _) (.cons (Dx.up (Out.of (same_new hl2)) d2) .nil))
          | @tup a xs ds h t =>
            have hw' : wdA ds = true := (Bool.and_eq_true_iff.mp hw).2
            have hl : xs.length ≤ 1000000 := by
              have := of_decide_eq_true (Bool.and_eq_true_iff.mp hw).1
              rw [dxAll_len t]
              omega
            refine .inr ⟨_, rfl, a, rfl, ⟨_, h.sq⟩, fun D hD => ?_⟩
            refine lc_data (S := S) (K := K) (walk_tup (K := K) (a := a) (xs := xs)) (fun i x => xs[i]? = some x) (fun i => plD (ds.getD i .none)) hS1 hD (fun H' e => (h.up (Out.of e)).sq) hl (fun i H x H' _ y => y) (fun i x H' hi sm hDn e Q q => ?_) (fun H2 s2 d2 => ?_)
            · obtain ⟨di, h1, h2⟩ := dxAll_get (DxAll.up (Out.of sm) t) e
              have h3 : di.depth ≤ n := by
                have := depth_get h1
                have hn' : PyData.depthAll ds + 1 ≤ n + 1 := hn
                omega
              refine ⟨_, rfl, x, di, inS S D, rfl, fun a z => ?_, ?_, h3, wdA_get hw' h1, fun H' v' s3 d3 => ?_⟩
              · rcases z with z | z
                · exact fun y => hS1 a z (sm.free y)
                · rw [z]; exact hDn
              · exact Dx.up (Out.of sm) (Dx.add hD (Dx.of_get t e h1))
              · refine q _ _ s3 ?_
                rw [List.getD_eq_getElem?_getD, h1]
                exact d3
            refine ⟨lenOk (n := 2) rfl (by decide), fun l hl2 => ?_⟩
            have hSl : ¬ S l := fun z => hS l z (((sm0.trans s2)).free hl2)
            refine q _ _ ((sm0.trans s2).trans (same_new hl2)) ?_
            have e3 : (List.range xs.length).map (fun i => plD (ds.getD i .none)) = plA ds := by
              rw [dxAll_len t, range_getD plD .none ds, plA_map]
            rw [e3] at d2
            exact .tup (XT.of upd_same hSl) (.cons (.bl _) (.cons (Dx.up (Out.of (same_new hl2)) d2) .nil))
      · refine ⟨_, rfl, v, .ty "bool", _, _, _, rfl, .ty "bool", dp_ty hd1.dp, kit_ty (kitT _ (dp_tn hd1.dp) "bool" (by decide)), _, rfl, lenOk (n := 2) rfl (by decide), fun l hl => ?_⟩
        have n1 : tn d ≠ "list" := fun z => e (by rw [z]; decide)
        have n2 : tn d ≠ "tuple" := fun z => e (by rw [z]; decide)
        have hS2 : ¬ S l := fun z => hS l z (sm0.free hl)
        refine q _ _ (sm0.trans (same_new hl)) ?_
        rw [out _ n1 n2 rfl]
        exact .tup (XT.of upd_same hS2) (.cons (.bl _) (.cons (Dx.up (Out.of (same_new hl)) hd1) .nil))
theorem okH_plain (T : Txt K mg A) : ∀ n : Nat, L2H.FnH P w K mg base CX0 n A.a_law_plain A.d_law_plain ["_law_thing"] (spPlain K n)
  | 0 => ⟨fun _ _ _ _ h => h.elim, fun _ _ _ _ _ _ _ _ _ _ _ _ _ _ _ _ h => h.elim⟩
  | n + 1 => by
    have G0 : L2H.FnH P w K mg base CX0 n A.a_law_plain A.d_law_plain ["_law_thing"] (spPlain K n) := okH_plain T n
    refine Fun.okH T.F_law_plain sc_law_plain (fun vs H Q E h => ?_) (fun cdv A outer s H vs Q E p hot hr h => ?_)
    · obtain ⟨v, d, S, rfl, _⟩ := h
      rfl
    · obtain ⟨v, d, S, rfl, hS, hd, hn, hw, q⟩ := h
      refine ⟨_, (pss_cons (ps_if (pt_val (pe_callB (r := rIsiT K) call_isiT (by rfl) T.n_isinstance (by decide +kernel) (pa_cons (pv 0) (pa_cons (pe_tup (pa_cons (pe_bltn (v := .ty "list") (u := .type "list") (by rfl) T.n_list (by decide +kernel) rfl) (pa_cons (pe_bltn (v := .ty "tuple") (u := .type "tuple") (by rfl) T.n_tuple (by decide +kernel) rfl) pa_nil))) pa_nil)))) (pss_one (ps_ret (pe_tup (pa_cons (pe_callB (r := rIsi K) call_isi (by rfl) T.n_isinstance (by decide +kernel) (pa_cons (pv 0) (pa_cons (pe_bltn (v := .ty "list") (u := .type "list") (by rfl) T.n_list (by decide +kernel) rfl) pa_nil))) (pa_cons (pe_lcH (own := [("_law_one", 1)]) rfl hot List.mem_cons_self sc_law_plain.nd (PIH_or (pi_listH (pv 0)) (pi_tupH (pv 0))) (blkOk_by (own := [("_law_one", 1)]) (N := N_law_plain) (sc := defScope s_law_plain) (by decide +kernel)) (fun _ _ _ _ _ => pg_name (i := 1) sc_law_plain.nd rfl (Or.inl rfl)) (fun _ _ _ _ _ => pts_nil) (fun _ _ _ _ _ => by exact (L2H.pe_callH G0 (hr.mono (by omega)) ⟨p, hot, List.mem_cons_self⟩ rfl T.g_law_plain T.F_law_plain.kp T.b_law_plain (fun _ => pass_at0) (pa_cons (pv 1) pa_nil)))) pa_nil))))) pss_nil)
    (pss_one (ps_ret (pe_tup (pa_cons (pe_callB (r := rIsi K) call_isi (by rfl) T.n_isinstance (by decide +kernel) (pa_cons (pv 0) (pa_cons (pe_bltn (v := .ty "bool") (u := .type "bool") (by rfl) T.n_bool (by decide +kernel) rfl) pa_nil))) (pa_cons (pv 0) pa_nil)))))), ?_⟩
      have out : ∀ (b : Bool), tn d ≠ "list" → tn d ≠ "tuple" → b = isB (tn d) "bool" → plD d = .tuple [.bool b, d] := fun b h1 h2 h3 => by
        subst h3
        cases hd with
        | non => rfl
        | bl => rfl
        | int => rfl
        | str => rfl
        | lst _ _ => exact absurd rfl h1
        | tup _ _ => exact absurd rfl h2
      refine ⟨_, rfl, lenOk rfl (by decide), fun tp htp => ?_⟩
      have hd1 : Dx K _ S v d := Dx.up (Out.of (same_new (o := .tup (["list", "tuple"].map V.ty)) htp)) hd
      refine ⟨v, tp, _, _, _, _, rfl, upd_same, paired_ty ["list", "tuple"], dp_ty hd1.dp, kit_any (dp_tn hd1.dp) ["list", "tuple"] (by decide), ?_⟩
      have sm0 : Same H (upd H tp (.tup [V.ty "list", V.ty "tuple"])) := same_new htp
      refine ⟨_, rfl, ite2 (fun e => ?_) (fun e => ?_)⟩
      · refine ⟨_, rfl, v, .ty "list", _, _, _, rfl, .ty "list", dp_ty hd1.dp, kit_ty (kitT _ (dp_tn hd1.dp) "list" (by decide)), ?_⟩
        have htt : tn d = "list" ∨ tn d = "tuple" := by
          have hb := dp_tn hd.dp
          rcases List.mem_cons.mp hb with h | hb
          · rw [h] at e; exact absurd e (by decide)
          rcases List.mem_cons.mp hb with h | hb
          · rw [h] at e; exact absurd e (by decide)
          rcases List.mem_cons.mp hb with h | hb
          · rw [h] at e; exact absurd e (by decide)
          rcases List.mem_cons.mp hb with h | hb
          · rw [h] at e; exact absurd e (by decide)
          rcases List.mem_cons.mp hb with h | hb
          · exact .inl h
          · exact .inr (List.mem_singleton.mp hb)
        generalize hH1 : upd H tp (.tup (["list", "tuple"].map V.ty)) = H1 at hd1
        have hH2 : upd H tp (.tup [V.ty "list", V.ty "tuple"]) = H1 := hH1
        rw [hH2] at sm0 ⊢
        have hS1 : ∀ a, S a → H1 a ≠ none := fun a z y => hS a z (sm0.free y)
        cases n with
        | zero =>
          cases hd with
          | lst h t => exact absurd hn (Nat.not_succ_le_zero _)
          | tup h t => exact absurd hn (Nat.not_succ_le_zero _)
          | non => rcases htt with z | z <;> exact absurd z (by show ¬ "NoneType" = _; decide)
          | bl => rcases htt with z | z <;> exact absurd z (by show ¬ "bool" = _; decide)
          | int => rcases htt with z | z <;> exact absurd z (by show ¬ "int" = _; decide)
          | str => rcases htt with z | z <;> exact absurd z (by show ¬ "str" = _; decide)
        | succ n =>
          cases hd1 with
          | non => rcases htt with z | z <;> exact absurd z (by show ¬ "NoneType" = _; decide)
          | bl => rcases htt with z | z <;> exact absurd z (by show ¬ "bool" = _; decide)
          | int => rcases htt with z | z <;> exact absurd z (by show ¬ "int" = _; decide)
          | str => rcases htt with z | z <;> exact absurd z (by show ¬ "str" = _; decide)
          | @lst a xs ds h t =>
            have hw' : wdA ds = true := (Bool.and_eq_true_iff.mp hw).2
            have hl : xs.length ≤ 1000000 := by
              have := of_decide_eq_true (Bool.and_eq_true_iff.mp hw).1
              rw [dxAll_len t]
              omega
            refine .inl ⟨_, rfl, a, rfl, ⟨_, h.sq⟩, fun D hD => ?_⟩
            refine lc_data (S := S) (K := K) (walk_list (K := K) (a := a) (xs := xs)) (fun i x => xs[i]? = some x) (fun i => plD (ds.getD i .none)) hS1 hD (fun H' e => (h.up (Out.of e)).sq) hl (fun i H x H' _ y => y) (fun i x H' hi sm hDn e Q q => ?_) (fun H2 s2 d2 => ?_)
            · obtain ⟨di, h1, h2⟩ := dxAll_get (DxAll.up (Out.of sm) t) e
              have h3 : di.depth ≤ n := by
                have := depth_get h1
                have hn' : PyData.depthAll ds + 1 ≤ n + 1 := hn
                omega
              refine ⟨_, rfl, x, di, inS S D, rfl, fun a z => ?_, ?_, h3, wdA_get hw' h1, fun H' v' s3 d3 => ?_⟩
              · rcases z with z | z
                · exact fun y => hS1 a z (sm.free y)
                · rw [z]; exact hDn
              · exact Dx.up (Out.of sm) (Dx.add hD (Dx.of_get t e h1))
              · refine q _ _ s3 ?_
                rw [List.getD_eq_getElem?_getD, h1]
                exact d3
            refine ⟨lenOk (n := 2) rfl (by decide), fun l hl2 => ?_⟩
            have hSl : ¬ S l := fun z => hS l z (((sm0.trans s2)).free hl2)
            refine q _ _ ((sm0.trans s2).trans (same_new hl2)) ?_
            have e3 : (List.range xs.length).map (fun i => plD (ds.getD i .none)) = plA ds := by
              rw [dxAll_len t, range_getD plD .none ds, plA_map]
            rw [e3] at d2
            exact .tup (XT.of upd_same hSl) (.cons (.bl _) (.cons (Dx.up (Out.of (same_new hl2)) d2) .nil))
          | @tup a xs ds h t =>
            have hw' : wdA ds = true := (Bool.and_eq_true_iff.mp hw).2
            have hl : xs.length ≤ 1000000 := by
              have := of_decide_eq_true (Bool.and_eq_true_iff.mp hw).1
              rw [dxAll_len t]
              omega
            refine .inr ⟨_, rfl, a, rfl, ⟨_, h.sq⟩, fun D hD => ?_⟩
            refine lc_data (S := S) (K := K) (walk_tup (K := K) (a := a) (xs := xs)) (fun i x => xs[i]? = some x) (fun i => plD (ds.getD i .none)) hS1 hD (fun H' e => (h.up (Out.of e)).sq) hl (fun i H x H' _ y => y) (fun i x H' hi sm hDn e Q q => ?_) (fun H2 s2 d2 => ?_)
            · obtain ⟨di, h1, h2⟩ := dxAll_get (DxAll.up (Out.of sm) t) e
              have h3 : di.depth ≤ n := by
                have := depth_get h1
                have hn' : PyData.depthAll ds + 1 ≤ n + 1 := hn
                omega
              refine ⟨_, rfl, x, di, inS S D, rfl, fun a z => ?_, ?_, h3, wdA_get hw' h1, fun H' v' s3 d3 => ?_⟩
              · rcases z with z | z
                · exact fun y => hS1 a z (sm.free y)
                · rw [z]; exact hDn
              · exact Dx.up (Out.of sm) (Dx.add hD (Dx.of_get t e h1))
              · refine q _ _ s3 ?_
                rw [List.getD_eq_getElem?_getD, h1]
                exact d3
            refine ⟨lenOk (n := 2) rfl (by decide), fun l hl2 => ?_⟩
            have hSl : ¬ S l := fun z => hS l z (((sm0.trans s2)).free hl2)
            refine q _ _ ((sm0.trans s2).trans (same_new hl2)) ?_
            have e3 : (List.range xs.length).map (fun i => plD (ds.getD i .none)) = plA ds := by
              rw [dxAll_len t, range_getD plD .none ds, plA_map]
            rw [e3] at d2
            exact .tup (XT.of upd_same hSl) (.cons (.bl _) (.cons (Dx.up (Out.of (same_new hl2)) d2) .nil))
      · refine ⟨_, rfl, v, .ty "bool", _, _, _, rfl, .ty "bool", dp_ty hd1.dp, kit_ty (kitT _ (dp_tn hd1.dp) "bool" (by decide)), _, rfl, lenOk (n := 2) rfl (by decide), fun l hl => ?_⟩
        have n1 : tn d ≠ "list" := fun z => e (by rw [z]; decide)
        have n2 : tn d ≠ "tuple" := fun z => e (by rw [z]; decide)
        have hS2 : ¬ S l := fun z => hS l z (sm0.free hl)
        refine q _ _ (sm0.trans (same_new hl)) ?_
        rw [out _ n1 n2 rfl]
        exact .tup (XT.of upd_same hS2) (.cons (.bl _) (.cons (Dx.up (Out.of (same_new hl)) hd1) .nil))
end
end R1

namespace R1
open PySem PySem.Spec PyProof.Rows L2 RK
local macro_rules | `(tactic| walk_at "sq") => `(tactic| first
  | exact SqL.of upd_same | exact upd_same | exact SqL.of (by assumption) | exact SqL.of (by rw [upd_ne (by assumption)]; assumption) | assumption)
local macro_rules | `(tactic| walk_at "sd") => `(tactic| first
  | assumption | omega | (refine Or.inl ⟨?_, ?_⟩ <;> omega) | (show _ ∧ _; constructor <;> omega) | (show _ ≠ _; simp; omega) | (exact Or.inl ⟨by decide, by decide⟩) | (exact Or.inr ⟨by decide, by decide⟩) | (show _ < _; decide) | (show _ ≤ _; decide))
local macro_rules | `(tactic| walk_at "at") => `(tactic| first | rfl | (refine atI_intV ?_ ?_ <;> omega) | assumption)
local macro_rules | `(tactic| walk_at "s1") => `(tactic| first
  | refine ⟨_, rfl, ?_⟩ | refine ⟨_, _, rfl, rfl, ?_⟩ | refine ⟨rfl, ?_⟩
  | refine ⟨_, _, _, _, rfl, rfl, by walk_at "sq", by walk_at "at", ?_⟩
  | refine Or.inl ⟨_, rfl, ?_⟩
  | refine ⟨_, _, rfl, Or.inl (by walk_at "sq"), ?_⟩
  | refine And.intro (by walk_at "sd") ?_)
local macro_rules | `(tactic| walk_at "s") => `(tactic| repeat walk_at "s1")

def st (s : String) : Str := Str.ofString s
def optI : Option Int → V
  | none => .non
  | some i => .int i
def bnd : Option Int → Option Int
  | none => none
  | some n => if -1000000000 ≤ n ∧ n ≤ 1000000000 then some n else none
def CMP : List V := [.str (Str.ofString "<"), .str (Str.ofString "<="), .str (Str.ofString "="), .str (Str.ofString "<>"), .str (Str.ofString ">"), .str (Str.ofString ">=")]
def FCT : List V := [.str (Str.ofString "start"), .str (Str.ofString "end"), .str (Str.ofString "size"), .str (Str.ofString "load"), .str (Str.ofString "base"), .str (Str.ofString "len"), .str (Str.ofString "used"), .str (Str.ofString "room"), .str (Str.ofString "at"), .str (Str.ofString "exported"), .str (Str.ofString "takes"), .str (Str.ofString "leaves"), .str (Str.ofString "kept")]
def isS (op : Str) (s : String) : Bool := decide (V.str op = V.str (Str.ofString s))
def b2i (b : Bool) : Int := if b then 1 else 0
def eqI (x y : Int) : Bool := decide (V.int x = V.int y)
theorem eqI_iff {x y : Int} : eqI x y = decide (x = y) := by
  unfold eqI
  rw [decide_eq_decide]
  exact ⟨V.int.inj, fun z => by rw [z]⟩
def cmpO (op : Str) (x y : Int) : Bool :=
  if isS op "=" then eqI x y else if isS op "<>" then !eqI x y
  else if inV (.str op) [.str (Str.ofString "<"), .str (Str.ofString ">=")] then decide (V.bl (decide (x < y)) = V.bl (isS op "<")) else decide (V.bl (decide (y < x)) = V.bl (isS op ">"))
def resO (op : Str) (x y : Int) : Option Int :=
  if isS op "or" then some (b2i (!eqI x 0 || !eqI y 0)) else if isS op "and" then some (b2i (!eqI x 0 && !eqI y 0))
  else if inV (.str op) CMP then some (b2i (cmpO op x y)) else if isS op "+" then some (x + y) else if isS op "-" then some (x - y) else if isS op "*" then some (x * y)
  else if eqI y 0 then none else if isS op "/" then some (x.fdiv y) else some (x.fmod y)
def spWithin : Sp := fun vs H Q _ => ∃ o : Option Int, vs = [optI o] ∧ Q (optI (bnd o)) H
def spTruth : Sp := fun vs H Q _ => ∃ b : Bool, vs = [.bl b] ∧ Q (.int (b2i b)) H
def spCompared : Sp := fun vs H Q _ => ∃ (op : Str) (x y : Int), vs = [.str op, .int x, .int y] ∧ ∀ H', Same H H' → Q (.bl (cmpO op x y)) H'
def Sm (x : Int) : Prop := -1000000000 ≤ x ∧ x ≤ 1000000000
def spResult : Sp := fun vs H Q _ => ∃ (op : Str) (x y : Int), vs = [.str op, .int x, .int y] ∧ Sm x ∧ Sm y ∧ ∀ H', Same H H' → Q (optI (resO op x y)) H'
section
variable {P : Program} {w : World} {K : PySem.W.Frag} {mg : Str → Option Value} {base : Heap} {A : Ads}
theorem ok_within (T : Txt K mg A) : FnOk P w K mg base CX0 1 A.a_within A.d_within ["number"] spWithin := by
  refine T.F_within.ok sc_within (fun vs H Q E h => ?_) (fun cdv B outer s H vs Q E hr h => ?_)
  · obtain ⟨o, rfl, _⟩ := h
    rfl
  · obtain ⟨o, rfl, q⟩ := h
    refine ⟨_, (pss_one (ps_ret (pe_ifExp (PW.pt (pw_and (pt_cmpR op_notN (pv 0) pe_non (nomark _)) (pw_and1 (pt_chain op_le op_le (pe_un un_neg (pe_glob (v := .int 1000000000) rfl T.g_MOST ⟨_, rfl⟩)) (pv 0) (pe_glob (v := .int 1000000000) rfl T.g_MOST ⟨_, rfl⟩))))) (pv 0) pe_non))), ?_⟩
    cases o with
    | none => exact ⟨_, rfl, rfl, _, rfl, ifF rfl (ifF rfl q)⟩
    | some n =>
      refine ⟨_, rfl, rfl, _, rfl, ifT rfl ?_⟩
      have hb : bnd (some n) = if -1000000000 ≤ n ∧ n ≤ 1000000000 then some n else none := rfl
      rw [hb] at q
      refine ⟨_, rfl, _, rfl, _, _, rfl, rfl, _, rfl, ite2 (fun c => ?_) (fun c => ?_)⟩
      · have c1 : -1000000000 ≤ n := of_decide_eq_true c
        refine ⟨_, _, rfl, rfl, _, rfl, ite2 (fun c2 => ?_) (fun c2 => ?_)⟩
        · have c3 : n ≤ 1000000000 := of_decide_eq_true c2
          rw [if_pos ⟨c1, c3⟩] at q
          exact ⟨_, rfl, q⟩
        · have c3 : ¬ n ≤ 1000000000 := fun z => c2 (decide_eq_true z)
          rw [if_neg fun z => c3 z.2] at q
          exact q
      · have c1 : ¬ -1000000000 ≤ n := fun z => c (decide_eq_true z)
        rw [if_neg fun z => c1 z.1] at q
        exact ⟨_, rfl, ifF rfl q⟩
theorem ok_truth (T : Txt K mg A) : FnOk P w K mg base CX0 1 A.a_truth A.d_truth ["thing"] spTruth := by
  refine T.F_truth.ok sc_truth (fun vs H Q E h => ?_) (fun cdv B outer s H vs Q E hr h => ?_)
  · obtain ⟨o, rfl, _⟩ := h
    rfl
  · obtain ⟨b, rfl, q⟩ := h
    refine ⟨_, (pss_one (ps_ret (pe_ifExp (pt_val (pv 0)) pe_int pe_int))), ?_⟩
    exact ⟨_, rfl, _, rfl, by cases b <;> exact q⟩
theorem ok_compared (T : Txt K mg A) : FnOk P w K mg base CX0 1 A.a_compared A.d_compared ["op", "left", "right"] spCompared := by
  refine T.F_compared.ok sc_compared (fun vs H Q E h => ?_) (fun cdv B outer s H vs Q E hr h => ?_)
  · obtain ⟨op, x, y, rfl, _⟩ := h
    rfl
  · obtain ⟨op, x, y, rfl, q⟩ := h
    refine ⟨_, (pss_cons (ps_if (pt_cmpR op_eq (pv 0) pe_str (nomark _)) (pss_one (ps_ret (pe_cmpR op_eq (pv 1) (pv 2) (nomark _)))) pss_nil)
    (pss_cons (ps_if (pt_cmpR op_eq (pv 0) pe_str (nomark _)) (pss_one (ps_ret (pe_cmpR op_ne (pv 1) (pv 2) (nomark _)))) pss_nil)
    (pss_cons (ps_if (pt_cmpR op_in_seq (pv 0) (pe_tup (pa_cons pe_str (pa_cons pe_str pa_nil))) (by rfl)) (pss_one (ps_ret (pe_cmpR op_eq (pe_cmpR op_lt (pv 1) (pv 2) (nomark _)) (pe_cmpR op_eq (pv 0) pe_str (nomark _)) (nomark _)))) pss_nil)
    (pss_one (ps_ret (pe_cmpR op_eq (pe_cmpR op_gt (pv 1) (pv 2) (nomark _)) (pe_cmpR op_eq (pv 0) pe_str (nomark _)) (nomark _))))))), ?_⟩
    unfold cmpO at q
    refine ⟨_, rfl, rfl, _, rfl, ?_⟩
    show if isS op "=" = true then _ else _
    refine ite2 (fun c => ?_) (fun c => ?_)
    · rw [if_pos c] at q
      exact ⟨_, rfl, _, rfl, rfl, q _ (Same.refl _)⟩
    rw [if_neg c] at q
    refine ⟨_, rfl, rfl, _, rfl, ?_⟩
    show if isS op "<>" = true then _ else _
    refine ite2 (fun c => ?_) (fun c => ?_)
    · rw [if_pos c] at q
      exact ⟨_, rfl, _, rfl, rfl, q _ (Same.refl _)⟩
    rw [if_neg c] at q
    refine ⟨_, rfl, lenOk (n := 2) rfl (by decide), fun p hp => ?_⟩
    refine ⟨p, _, rfl, .inr (SqT.of upd_same), rfl, rfl, _, rfl, ?_⟩
    rw [if_neg Bool.false_ne_true]
    refine ite2 (fun c => ?_) (fun c => ?_)
    · rw [if_pos c] at q
      exact ⟨_, rfl, _, rfl, _, _, rfl, rfl, _, rfl, rfl, rfl, q _ (same_new hp)⟩
    · rw [if_neg c] at q
      exact ⟨_, rfl, _, rfl, _, _, rfl, rfl, _, rfl, rfl, rfl, q _ (same_new hp)⟩
theorem ok_result (T : Txt K mg A) : FnOk P w K mg base CX0 2 A.a_result A.d_result ["op", "left", "right"] spResult := by
  refine T.F_result.ok sc_result (fun vs H Q E h => ?_) (fun cdv B outer s H vs Q E hr h => ?_)
  · obtain ⟨op, x, y, rfl, _⟩ := h
    rfl
  · obtain ⟨op, x, y, rfl, hx, hy, q⟩ := h
    refine ⟨_, (pss_cons (ps_if (pt_cmpR op_eq (pv 0) pe_str (nomark _)) (pss_one (ps_ret (pe_call (ok_truth T) (hr.mono (by omega)) rfl T.g_truth T.F_truth.kp T.b_truth .nil pass0 (pa_cons (pe_or (pe_cmpR op_ne (pv 1) pe_int (nomark _)) (pe_one (pe_cmpR op_ne (pv 2) pe_int (nomark _)))) pa_nil)))) pss_nil)
    (pss_cons (ps_if (pt_cmpR op_eq (pv 0) pe_str (nomark _)) (pss_one (ps_ret (pe_call (ok_truth T) (hr.mono (by omega)) rfl T.g_truth T.F_truth.kp T.b_truth .nil pass0 (pa_cons (pe_and (pe_cmpR op_ne (pv 1) pe_int (nomark _)) (pe_one (pe_cmpR op_ne (pv 2) pe_int (nomark _)))) pa_nil)))) pss_nil)
    (pss_cons (ps_if (pt_cmpR op_in_seq (pv 0) (pe_glob (v := .ref A.t_COMPARISONS) rfl T.g_COMPARISONS rfl) (by rfl)) (pss_one (ps_ret (pe_call (ok_truth T) (hr.mono (by omega)) rfl T.g_truth T.F_truth.kp T.b_truth .nil pass0 (pa_cons (pe_call (ok_compared T) (hr.mono (by omega)) rfl T.g_compared T.F_compared.kp T.b_compared .nil pass0 (pa_cons (pv 0) (pa_cons (pv 1) (pa_cons (pv 2) pa_nil)))) pa_nil)))) pss_nil)
    (pss_cons (ps_if (pt_cmpR op_eq (pv 0) pe_str (nomark _)) (pss_one (ps_ret (pe_op op_add (pv 1) (pv 2)))) pss_nil)
    (pss_cons (ps_if (pt_cmpR op_eq (pv 0) pe_str (nomark _)) (pss_one (ps_ret (pe_op op_sub (pv 1) (pv 2)))) pss_nil)
    (pss_cons (ps_if (pt_cmpR op_eq (pv 0) pe_str (nomark _)) (pss_one (ps_ret (pe_op op_mul (pv 1) (pv 2)))) pss_nil)
    (pss_cons (ps_if (pt_cmpR op_eq (pv 2) pe_int (nomark _)) (pss_one (ps_ret pe_non)) pss_nil)
    (pss_one (ps_ret (pe_ifExp (pt_cmpR op_eq (pv 0) pe_str (nomark _)) (pe_op op_fdivN (pv 1) (pv 2)) (pe_op op_modN (pv 1) (pv 2)))))))))))), ?_⟩
    unfold resO at q
    refine ⟨_, rfl, rfl, _, rfl, ?_⟩
    show if isS op "or" = true then _ else _
    refine ite2 (fun c => ?_) (fun c => ?_)
    · rw [if_pos c] at q
      refine ⟨_, rfl, rfl, _, rfl, ?_⟩
      show if (!eqI x 0) = true then _ else _
      cases hx0 : eqI x 0 with
      | false =>
        rw [hx0] at q
        exact ifT rfl ⟨true, rfl, q _ (Same.refl _)⟩
      | true =>
        rw [hx0] at q
        exact ifF rfl ⟨_, rfl, rfl, _, rfl, q _ (Same.refl _)⟩
    rw [if_neg c] at q
    refine ⟨_, rfl, rfl, _, rfl, ?_⟩
    show if isS op "and" = true then _ else _
    refine ite2 (fun c => ?_) (fun c => ?_)
    · rw [if_pos c] at q
      refine ⟨_, rfl, rfl, _, rfl, ?_⟩
      show if (!eqI x 0) = true then _ else _
      cases hx0 : eqI x 0 with
      | true =>
        rw [hx0] at q
        exact ifF rfl ⟨false, rfl, q _ (Same.refl _)⟩
      | false =>
        rw [hx0] at q
        exact ifT rfl ⟨_, rfl, rfl, _, rfl, q _ (Same.refl _)⟩
    rw [if_neg c] at q
    refine ⟨_, rfl, A.t_COMPARISONS, CMP, rfl, .inr (sqT_up T.q_COMPARISONS fun _ _ h => nomatch h), rfl, rfl, _, rfl, ?_⟩
    rw [if_neg Bool.false_ne_true]
    refine ite2 (fun c => ?_) (fun c => ?_)
    · rw [if_pos c] at q
      exact ⟨_, rfl, _, rfl, _, rfl, op, x, y, rfl, fun H' s' => ⟨_, rfl, q _ s'⟩⟩
    rw [if_neg c] at q
    refine ⟨_, rfl, rfl, _, rfl, ?_⟩
    show if isS op "+" = true then _ else _
    refine ite2 (fun c => ?_) (fun c => ?_)
    · rw [if_pos c] at q
      exact ⟨_, rfl, _, rfl, _, _, rfl, rfl, q _ (Same.refl _)⟩
    rw [if_neg c] at q
    refine ⟨_, rfl, rfl, _, rfl, ?_⟩
    show if isS op "-" = true then _ else _
    refine ite2 (fun c => ?_) (fun c => ?_)
    · rw [if_pos c] at q
      exact ⟨_, rfl, _, rfl, _, _, rfl, rfl, q _ (Same.refl _)⟩
    rw [if_neg c] at q
    refine ⟨_, rfl, rfl, _, rfl, ?_⟩
    show if isS op "*" = true then _ else _
    refine ite2 (fun c => ?_) (fun c => ?_)
    · rw [if_pos c] at q
      exact ⟨_, rfl, _, rfl, _, _, rfl, rfl, .inl ⟨by have := hx.1; omega, by have := hx.2; omega⟩, q _ (Same.refl _)⟩
    rw [if_neg c] at q
    refine ⟨_, rfl, rfl, _, rfl, ?_⟩
    show if eqI y 0 = true then _ else _
    refine ite2 (fun c => ?_) (fun c => ?_)
    · rw [if_pos c] at q
      exact q _ (Same.refl _)
    rw [if_neg c] at q
    have hy0 : y ≠ 0 := fun z => c (by rw [z]; exact decide_eq_true rfl)
    refine ⟨_, rfl, rfl, _, rfl, ?_⟩
    show if isS op "/" = true then _ else _
    refine ite2 (fun c => ?_) (fun c => ?_)
    · rw [if_pos c] at q
      exact ⟨_, rfl, _, rfl, _, _, rfl, rfl, ⟨hy0, by have := hy.1; have := hy.2; omega⟩, q _ (Same.refl _)⟩
    · rw [if_neg c] at q
      exact ⟨_, rfl, _, rfl, _, _, rfl, rfl, hy0, q _ (Same.refl _)⟩
end
end R1

namespace R1
open PySem PySem.Spec PyProof.Rows L2 RK
local macro_rules | `(tactic| walk_at "sq") => `(tactic| first
  | exact SqL.of upd_same | exact upd_same | exact SqL.of (by assumption) | exact SqL.of (by rw [upd_ne (by assumption)]; assumption) | assumption)
local macro_rules | `(tactic| walk_at "sd") => `(tactic| first
  | assumption | omega | (refine Or.inl ⟨?_, ?_⟩ <;> omega) | (show _ ∧ _; constructor <;> omega) | (show _ ≠ _; simp; omega) | (exact Or.inl ⟨by decide, by decide⟩) | (exact Or.inr ⟨by decide, by decide⟩) | (show _ < _; decide) | (show _ ≤ _; decide))
local macro_rules | `(tactic| walk_at "at") => `(tactic| first | rfl | (refine atI_intV ?_ ?_ <;> omega) | assumption)
local macro_rules | `(tactic| walk_at "s1") => `(tactic| first
  | refine ⟨_, rfl, ?_⟩ | refine ⟨_, _, rfl, rfl, ?_⟩ | refine ⟨rfl, ?_⟩
  | refine ⟨_, _, _, _, rfl, rfl, by walk_at "sq", by walk_at "at", ?_⟩
  | refine Or.inl ⟨_, rfl, ?_⟩
  | refine ⟨_, _, rfl, Or.inl (by walk_at "sq"), ?_⟩
  | refine And.intro (by walk_at "sd") ?_)
local macro_rules | `(tactic| walk_at "s") => `(tactic| repeat walk_at "s1")

def SO (s : Str) : Prop := ∀ c ∈ s.cps.toList, c < 0x110000
theorem so_lay {s : Str} (h : SO s) : (PyData.str s).canLay0 = true := by
  show (s.cps.all fun c => decide (c < 0x110000)) = true
  rw [← Array.all_toList, List.all_eq_true]
  exact fun c hc => decide_eq_true (h c hc)
theorem so_dec {s : Str} (h : (s.cps.toList.all fun c => decide (c < 0x110000)) = true) : SO s := fun c hc => of_decide_eq_true (List.all_eq_true.mp h c hc)
theorem so_app {a b : Str} (ha : SO a) (hb : SO b) : SO (a ++ b) := fun c hc => by
  have e : (a ++ b).cps.toList = a.cps.toList ++ b.cps.toList := Array.toList_append
  rw [e] at hc
  rcases List.mem_append.mp hc with z | z
  · exact ha c z
  · exact hb c z
theorem so_cut {a : Str} (h : SO a) (lo hi : Option Int) : SO (cutS a lo hi) := fun c hc => h c (List.mem_of_mem_drop (List.mem_of_mem_take hc))
theorem so_inV {w : Str} {xs : List V} (h : inV (.str w) xs = true) (k : ∀ x ∈ xs, match x with | .str z => SO z | _ => False) : SO w := by
  obtain ⟨y, hy, e⟩ := List.any_eq_true.mp h
  have := k y hy
  cases y with
  | str z =>
    have e2 : (z == w) = true := e
    rw [← eq_of_beq e2]
    exact this
  | _ => exact this.elim
theorem so_isS {w : Str} {s : String} (h : isS w s = true) (k : SO (Str.ofString s)) : SO w := by
  have e2 : V.str w = V.str (Str.ofString s) := of_decide_eq_true h
  cases e2
  exact k
inductive Tr
  | num (n : Int)
  | one (w : Str)
  | two (w x : Str)
  | un (op : Str) (t : Tr)
  | bin (op : Str) (a b : Tr)
def TrK (H : Hp) : V → Tr → Prop
  | v, .num n => ∃ p, v = .ref p ∧ H p = some (.tup [.str (Str.ofString "number"), .int n])
  | v, .one w => ∃ p, v = .ref p ∧ H p = some (.tup [.str w])
  | v, .two w x => ∃ p, v = .ref p ∧ H p = some (.tup [.str w, .str x])
  | v, .un op t => ∃ p u, v = .ref p ∧ H p = some (.tup [.str op, u]) ∧ TrK H u t
  | v, .bin op a b => ∃ p u1 u2, v = .ref p ∧ H p = some (.tup [.str op, u1, u2]) ∧ TrK H u1 a ∧ TrK H u2 b
theorem TrK.up {H H' : Hp} (e : ∀ p xs, H p = some (.tup xs) → H' p = some (.tup xs)) : ∀ {t : Tr} {v : V}, TrK H v t → TrK H' v t
  | .num _, _, ⟨p, a, b⟩ => ⟨p, a, e _ _ b⟩
  | .one _, _, ⟨p, a, b⟩ => ⟨p, a, e _ _ b⟩
  | .two _ _, _, ⟨p, a, b⟩ => ⟨p, a, e _ _ b⟩
  | .un _ _, _, ⟨p, u, a, b, c⟩ => ⟨p, u, a, e _ _ b, TrK.up e c⟩
  | .bin _ _ _, _, ⟨p, u1, u2, a, b, c, d⟩ => ⟨p, u1, u2, a, e _ _ b, TrK.up e c, TrK.up e d⟩
theorem TrK.ups {H H' : Hp} {t : Tr} {v : V} (h : TrK H v t) (e : Same H H') : TrK H' v t := h.up fun _ _ => e _ _
def OneW (w : Str) : Prop := isS w "home" = true ∨ isS w "confirms" = true
def TwoW (w : Str) : Prop := isS w "let" = true ∨ inV (.str w) FCT = true
def UnO (w : Str) : Prop := isS w "not" = true ∨ isS w "minus" = true
def BOPS : List V := [.str (Str.ofString "or"), .str (Str.ofString "and"), .str (Str.ofString "<"), .str (Str.ofString "<="), .str (Str.ofString "="), .str (Str.ofString "<>"), .str (Str.ofString ">"), .str (Str.ofString ">="), .str (Str.ofString "+"), .str (Str.ofString "-"), .str (Str.ofString "*"), .str (Str.ofString "/"), .str (Str.ofString "mod")]
def BinO (w : Str) : Prop := inV (.str w) BOPS = true
def Wf : Tr → Prop
  | .num _ => True
  | .one w => OneW w
  | .two w x => TwoW w ∧ SO x
  | .un op t => UnO op ∧ Wf t
  | .bin op a b => BinO op ∧ Wf a ∧ Wf b
def dep : Tr → Nat
  | .num _ => 0
  | .one _ => 0
  | .two _ _ => 0
  | .un _ t => dep t + 1
  | .bin _ a b => max (dep a) (dep b) + 1
def lk (kvs : List (List Key × V)) (k : List Key) : Option Int := match valV kvs k with
  | some (.int i) => some i
  | _ => none
def FOk (kvs : List (List Key × V)) : Prop := ∀ k v, valV kvs k = some v → v = .non ∨ ∃ i, v = .int i
theorem lk_get {kvs : List (List Key × V)} (h : FOk kvs) (k : List Key) : (valV kvs k).getD .non = optI (lk kvs k) := by
  unfold lk
  cases hv : valV kvs k with
  | none => rfl
  | some v =>
    rcases h k v hv with e | ⟨i, e⟩
    · rw [e]; rfl
    · rw [e]; rfl
def unO (op : Str) (v : Int) : Int := if isS op "minus" then -v else b2i (eqI v 0)
def val (kvs : List (List Key × V)) : Tr → Option Int
  | .num n => bnd (some n)
  | .one w => bnd (lk kvs [.inr w])
  | .two w x => bnd (lk kvs [.inr w, .inr x])
  | .un op t => match val kvs t with
    | none => none
    | some v => some (unO op v)
  | .bin op a b => match val kvs a, val kvs b with
    | some x, some y => bnd (resO op x y)
    | _, _ => none
theorem bnd_sm {o : Option Int} {v : Int} (h : bnd o = some v) : Sm v := by
  cases o with
  | none => cases h
  | some n =>
    have hb : bnd (some n) = if -1000000000 ≤ n ∧ n ≤ 1000000000 then some n else none := rfl
    rw [hb] at h
    split at h
    · rename_i g
      cases h
      exact g
    · cases h
theorem val_sm {kvs : List (List Key × V)} : ∀ {t : Tr} {v : Int}, val kvs t = some v → Sm v
  | .num _, _, h => bnd_sm h
  | .one _, _, h => bnd_sm h
  | .two _ _, _, h => bnd_sm h
  | .un op t, v, h => by
    have h2 : (match val kvs t with | none => none | some v => some (unO op v)) = some v := h
    cases ht : val kvs t with
    | none => rw [ht] at h2; cases h2
    | some x =>
      rw [ht] at h2
      cases h2
      have := val_sm ht
      unfold unO b2i Sm at *
      split
      · omega
      · split <;> decide
  | .bin op a b, v, h => by
    have h2 : (match val kvs a, val kvs b with | some x, some y => bnd (resO op x y) | _, _ => none) = some v := h
    cases ha : val kvs a with
    | none => rw [ha] at h2; cases h2
    | some x =>
      cases hb : val kvs b with
      | none => rw [ha, hb] at h2; cases h2
      | some y =>
        rw [ha, hb] at h2
        exact bnd_sm h2
def spValue (K : PySem.W.Frag) (n : Nat) : Sp := fun vs H Q _ => ∃ (v : V) (f : Addr) (t : Tr) (kvs : List (List Key × V)), vs = [v, .ref f] ∧ TrK H v t ∧ Wf t ∧ dep t < n ∧ H f = some (.dT kvs) ∧ FOk kvs ∧ ∀ H', Same H H' → Q (optI (val kvs t)) H'
theorem two_not : ∀ w, TwoW w → isS w "number" = false := fun w h => by
  rcases h with h | h
  · have : w = Str.ofString "let" := V.str.inj (of_decide_eq_true h)
    rw [this]
    decide +kernel
  · obtain ⟨x, hx, e⟩ := List.any_eq_true.mp h
    have hx2 : x = .str w := by
      have hs : ∀ y ∈ FCT, ∃ z, y = .str z := fun y hy => by
        unfold FCT at hy
        simp only [List.mem_cons, List.not_mem_nil, or_false] at hy
        rcases hy with z | z | z | z | z | z | z | z | z | z | z | z | z <;> exact ⟨_, z⟩
      obtain ⟨z, rfl⟩ := hs x hx
      have : (z == w) = true := e
      rw [eq_of_beq this]
    rw [hx2] at hx
    have : ∀ y ∈ FCT, decide (y = .str (Str.ofString "number")) = false := by decide +kernel
    exact this _ hx
theorem str_eq {w : Str} {s : String} (h : isS w s = true) : w = Str.ofString s := V.str.inj (of_decide_eq_true h)
theorem so_w1 {w : Str} (h : OneW w) : SO w := by
  rcases h with h | h
  · exact so_isS h (so_dec (by decide +kernel))
  · exact so_isS h (so_dec (by decide +kernel))
theorem so_fct : ∀ x ∈ FCT, match x with | .str z => SO z | _ => False := fun x hx => by
  unfold FCT at hx
  simp only [List.mem_cons, List.not_mem_nil, or_false] at hx
  rcases hx with z | z | z | z | z | z | z | z | z | z | z | z | z <;> (rw [z]; exact so_dec (by decide +kernel))
theorem so_bops : ∀ x ∈ BOPS, match x with | .str z => SO z | _ => False := fun x hx => by
  unfold BOPS at hx
  simp only [List.mem_cons, List.not_mem_nil, or_false] at hx
  rcases hx with z | z | z | z | z | z | z | z | z | z | z | z | z <;> (rw [z]; exact so_dec (by decide +kernel))
theorem so_w2 {w : Str} (h : TwoW w) : SO w := by
  rcases h with h | h
  · exact so_isS h (so_dec (by decide +kernel))
  · exact so_inV h so_fct
theorem so_un {w : Str} (h : UnO w) : SO w := by
  rcases h with h | h
  · exact so_isS h (so_dec (by decide +kernel))
  · exact so_isS h (so_dec (by decide +kernel))
theorem so_bin {w : Str} (h : BinO w) : SO w := so_inV h so_bops
def LayK : Key → Prop
  | .inl _ => True
  | .inr s => SO s
theorem one_not : ∀ w, OneW w → isS w "number" = false := fun w h => by
  rcases h with h | h <;> (rw [str_eq h]; decide +kernel)
theorem one_in : ∀ w, OneW w → inV (.str w) [.str (Str.ofString "home"), .str (Str.ofString "confirms"), .str (Str.ofString "let")] = true := fun w h => by
  rcases h with h | h <;> (rw [str_eq h]; decide +kernel)
theorem let_in : ∀ w, isS w "let" = true → inV (.str w) [.str (Str.ofString "home"), .str (Str.ofString "confirms"), .str (Str.ofString "let")] = true := fun w h => by
  rw [str_eq h]; decide +kernel
theorem op_not (op : Str) (h : UnO op ∨ BinO op) : isS op "number" = false ∧ inV (.str op) [.str (Str.ofString "home"), .str (Str.ofString "confirms"), .str (Str.ofString "let")] = false ∧ inV (.str op) FCT = false := by
  rcases h with (h | h) | h
  · rw [str_eq h]; decide +kernel
  · rw [str_eq h]; decide +kernel
  · have hm : V.str op ∈ BOPS := by
      obtain ⟨x, hx, e⟩ := List.any_eq_true.mp h
      have hs : ∀ y ∈ BOPS, ∃ z, y = .str z := fun y hy => by
        unfold BOPS at hy
        simp only [List.mem_cons, List.not_mem_nil, or_false] at hy
        rcases hy with z | z | z | z | z | z | z | z | z | z | z | z | z <;> exact ⟨_, z⟩
      obtain ⟨z, rfl⟩ := hs x hx
      have : (z == op) = true := e
      rw [eq_of_beq this] at hx
      exact hx
    have all : ∀ y ∈ BOPS, (decide (y = .str (Str.ofString "number")) = false ∧ inV y [.str (Str.ofString "home"), .str (Str.ofString "confirms"), .str (Str.ofString "let")] = false ∧ inV y FCT = false) := by decide +kernel
    exact all _ hm
theorem getD_at {α : Type} {l : List α} {i : Nat} {z : α} (h : i < l.length) : l.getD i z = l[i] := by
  rw [List.getD_eq_getElem?_getD, List.getElem?_eq_getElem h]
  rfl
section
variable {P : Program} {w : World} {K : PySem.W.Frag} {mg : Str → Option Value} {base : Heap} {A : Ads}
theorem ok_value (T : Txt K mg A) : ∀ n : Nat, FnOk P w K mg base CX0 (n + 2) A.a_value A.d_value ["tree", "facts"] (spValue K n)
  | 0 => ⟨fun vs H Q E h => by
      obtain ⟨v, f, t, kvs, rfl, _⟩ := h
      rfl, fun _ _ _ _ _ _ _ _ _ _ _ _ _ h => by
      obtain ⟨v, f, t, kvs, _, _, _, hd, _⟩ := h
      exact absurd hd (Nat.not_lt_zero _)⟩
  | n + 1 => by
    have G0 : FnOk P w K mg base CX0 (n + 2) A.a_value A.d_value ["tree", "facts"] (spValue K n) := ok_value T n
    refine T.F_value.ok sc_value (fun vs H Q E h => ?_) (fun cdv B outer s H vs Q E hr h => ?_)
    · obtain ⟨v, f, t, kvs, rfl, _⟩ := h
      rfl
    · obtain ⟨v, f, t, kvs, rfl, ht, hwf, hd, hf, hfo, q⟩ := h
      refine ⟨_, (pss_cons (ps_set (i := 2) sc_value.nd rfl (.inl rfl) (pe_ix ix_tup (pv 0) pe_int (fun _ _ => rfl)))
    (pss_cons (ps_if (pt_cmpR op_eq (pv 2) pe_str (nomark _)) (pss_one (ps_ret (pe_call (ok_within T) (hr.mono (by omega)) rfl T.g_within T.F_within.kp T.b_within .nil pass0 (pa_cons (pe_ix ix_tup (pv 0) pe_int (fun _ _ => rfl)) pa_nil)))) pss_nil)
    (pss_cons (ps_if (PW.pt (pw_or (pt_cmpR op_in_seq (pv 2) (pe_tup (pa_cons pe_str (pa_cons pe_str (pa_cons pe_str pa_nil)))) (by rfl)) (pw_or1 (pt_cmpR op_in_seq (pv 2) (pe_glob (v := .ref A.t_FACTS) rfl T.g_FACTS rfl) (by rfl))))) (pss_one (ps_ret (pe_call (ok_within T) (hr.mono (by omega)) rfl T.g_within T.F_within.kp T.b_within .nil pass0 (pa_cons (pe_dget1 (hu_of hr) (pv 1) (pv 0) ⟨rfl, rfl, rfl, rfl⟩) pa_nil)))) pss_nil)
    (pss_cons (ps_setLc (i := 4) (own := [("part", 3)]) rfl sc_value.nd rfl rfl (sw_true rfl rfl rfl (by decide +kernel)) (pi_tup (pe_slice sl_tupA (pv 0) (po_some pe_int) po_none)) (blkOk_by (own := [("part", 3)]) (N := N_value) (sc := defScope s_value) (by decide +kernel)) (fun _ _ _ _ _ => pg_name (i := 3) sc_value.nd rfl (Or.inl rfl)) (fun _ _ _ _ _ => pts_nil) (fun _ _ _ _ _ => by exact (pe_call G0 (hr.mono (by omega)) rfl T.g_value T.F_value.kp T.b_value .nil pass0 (pa_cons (pv 3) (pa_cons (pv 1) pa_nil)))))
    (pss_cons (ps_if (pt_val (pe_callB (cr_any rfl) (by rfl) T.n_any (by decide +kernel) (pa_cons (pe_lc (own := [("part", 3)]) rfl sc_value.nd (pi_list (pv 4)) (blkOk_by (own := [("part", 3)]) (N := N_value) (sc := defScope s_value) (by decide +kernel)) (fun _ _ _ _ _ => pg_name (i := 3) sc_value.nd rfl (Or.inl rfl)) (fun _ _ _ _ _ => pts_nil) (fun _ _ _ _ _ => by exact (pe_cmpR op_isN (pv 3) pe_non (nomark _)))) pa_nil))) (pss_one (ps_ret pe_non)) pss_nil)
    (pss_cons (ps_if (pt_cmpR op_eq (pe_callB len_seq (by rfl) T.n_len (by decide +kernel) (pa_cons (pv 4) pa_nil)) pe_int (nomark _)) (pss_one (ps_ret (pe_ifExp (pt_cmpR op_eq (pv 2) pe_str (nomark _)) (pe_un un_neg (pe_ix ix_list (pv 4) pe_int (fun _ _ => rfl))) (pe_call (ok_truth T) (hr.mono (by omega)) rfl T.g_truth T.F_truth.kp T.b_truth .nil pass0 (pa_cons (pe_cmpR op_eq (pe_ix ix_list (pv 4) pe_int (fun _ _ => rfl)) pe_int (nomark _)) pa_nil))))) pss_nil)
    (pss_one (ps_ret (pe_call (ok_within T) (hr.mono (by omega)) rfl T.g_within T.F_within.kp T.b_within .nil pass0 (pa_cons (pe_call (ok_result T) (hr.mono (by omega)) rfl T.g_result T.F_result.kp T.b_result .nil pass0 (pa_cons (pv 2) (pa_cons (pe_ix ix_list (pv 4) pe_int (fun _ _ => rfl)) (pa_cons (pe_ix ix_list (pv 4) pe_int (fun _ _ => rfl)) pa_nil)))) pa_nil)))))))))), ?_⟩
      cases t with
      | num m =>
        obtain ⟨p, rfl, hp⟩ := ht
        refine ⟨_, rfl, p, _, 0, _, rfl, rfl, SqT.of hp, atI_nat (j := 0) rfl, ?_⟩
        refine ⟨_, rfl, rfl, _, rfl, ifT (decide_eq_true rfl) ?_⟩
        exact ⟨_, rfl, p, _, 1, _, rfl, rfl, SqT.of hp, atI_nat (j := 1) rfl, some m, rfl, q _ (Same.refl _)⟩
      | one x =>
        obtain ⟨p, rfl, hp⟩ := ht
        refine ⟨_, rfl, p, _, 0, _, rfl, rfl, SqT.of hp, atI_nat (j := 0) rfl, ?_⟩
        refine ⟨_, rfl, rfl, _, rfl, ifF (one_not x hwf) ?_⟩
        refine ⟨_, rfl, lenOk (n := 3) rfl (by decide), fun tp ntp => ?_⟩
        have s1 := same_new (o := .tup [V.str (Str.ofString "home"), V.str (Str.ofString "confirms"), V.str (Str.ofString "let")]) ntp
        refine ⟨tp, _, rfl, .inr (SqT.of upd_same), rfl, rfl, _, rfl, ?_⟩
        rw [if_neg Bool.false_ne_true, one_in x hwf]
        refine ifT rfl (ifT rfl ?_)
        refine ⟨_, rfl, f, rfl, .inr ⟨kvs, .inl (s1 _ _ hf)⟩, _, rfl, _, DGet.t (k := [.inr x]) (s1 _ _ hf) (s1 _ _ hp), ?_⟩
        rw [lk_get hfo]
        exact ⟨_, rfl, q _ s1⟩
      | two x y =>
        obtain ⟨p, rfl, hp⟩ := ht
        refine ⟨_, rfl, p, _, 0, _, rfl, rfl, SqT.of hp, atI_nat (j := 0) rfl, ?_⟩
        refine ⟨_, rfl, rfl, _, rfl, ifF (two_not x hwf.1) ?_⟩
        refine ⟨_, rfl, lenOk (n := 3) rfl (by decide), fun tp ntp => ?_⟩
        have s1 := same_new (o := .tup [V.str (Str.ofString "home"), V.str (Str.ofString "confirms"), V.str (Str.ofString "let")]) ntp
        refine ⟨tp, _, rfl, .inr (SqT.of upd_same), rfl, rfl, _, rfl, ?_⟩
        rw [if_neg Bool.false_ne_true]
        generalize upd H tp (.tup [V.str (Str.ofString "home"), V.str (Str.ofString "confirms"), V.str (Str.ofString "let")]) = H1 at s1 ⊢
        have fin : tRet (tCall spWithin [] E0 (tCons (tDGet1 (tVar 1) (tVar 0)) tNil)) { nx := fun x H' => Q V.non H', rt := Q } (List.set (L2.start N_value [V.ref p, V.ref f]) 2 (some (V.str x))) H1 := by
          refine ⟨_, rfl, f, rfl, .inr ⟨kvs, .inl (s1 _ _ hf)⟩, _, rfl, _, DGet.t (k := [.inr x, .inr y]) (s1 _ _ hf) (s1 _ _ hp), ?_⟩
          rw [lk_get hfo]
          exact ⟨_, rfl, q _ s1⟩
        refine ite2 (fun c => ifT rfl fin) (fun c => ?_)
        refine ⟨_, rfl, A.t_FACTS, FCT, rfl, .inr (sqT_up T.q_FACTS fun _ _ h => nomatch h), rfl, rfl, _, rfl, ?_⟩
        rw [if_neg Bool.false_ne_true]
        refine ite2 (fun _ => fin) (fun c2 => ?_)
        rcases hwf with z | z
        · exact absurd (let_in x z) c
        · exact absurd z c2
      | un op t =>
        obtain ⟨p, u, rfl, hp, hu⟩ := ht
        obtain ⟨on1, on2, on3⟩ := op_not op (.inl hwf.1)
        refine ⟨_, rfl, p, _, 0, _, rfl, rfl, SqT.of hp, atI_nat (j := 0) rfl, ?_⟩
        refine ⟨_, rfl, rfl, _, rfl, ifF on1 ?_⟩
        refine ⟨_, rfl, lenOk (n := 3) rfl (by decide), fun tp ntp => ?_⟩
        have s1 := same_new (o := .tup [V.str (Str.ofString "home"), V.str (Str.ofString "confirms"), V.str (Str.ofString "let")]) ntp
        refine ⟨tp, _, rfl, .inr (SqT.of upd_same), rfl, rfl, _, rfl, ?_⟩
        rw [if_neg Bool.false_ne_true]
        generalize upd H tp (.tup [V.str (Str.ofString "home"), V.str (Str.ofString "confirms"), V.str (Str.ofString "let")]) = H1 at s1 ⊢
        refine ifF on2 ?_
        refine ⟨_, rfl, A.t_FACTS, FCT, rfl, .inr (sqT_up T.q_FACTS fun _ _ h => nomatch h), rfl, rfl, _, rfl, ?_⟩
        rw [if_neg Bool.false_ne_true]
        refine ifF on3 ?_
        unfold tNoPart
        refine ⟨_, rfl, _, rfl, slA_of (SqT.of (s1 _ _ hp)) fun p2 H2 s2 e2 => ?_⟩
        have e2' : SqT K H2 p2 [u] := by
          have := cutV_lo (xs := V.str op :: [u]) 1
          rw [show cutV (V.str op :: [u]) (some 1) none = [u] from this] at e2
          exact e2
        have s02 := s1.trans s2
        refine ⟨p2, rfl, ⟨_, e2'⟩, fun D nD => ?_⟩
        have hps : ∀ i (h : i < [t].length), ∃ v, [u][i]? = some v ∧ TrK H2 v (([t] : List Tr)[i]) ∧ Wf (([t] : List Tr)[i]) ∧ dep (([t] : List Tr)[i]) < n := fun i h => by
          have : i = 0 := by have : i < 1 := h; omega
          subst this
          exact ⟨u, rfl, hu.ups s02, hwf.2, by have : dep t + 1 < n + 1 := hd; show dep t < n; omega⟩
        refine lc_vals (walk_tup (K := K) (a := p2) (xs := [u])) (fun i v => [u][i]? = some v) (fun i => optI (val kvs ([t].getD i (.num 0)))) nD (fun H4 s4 => sqT_up e2' s4) (by simp only [List.length_cons, List.length_nil, List.length_map]; omega) (fun i H1 v H2 hi y => y) (fun i v H4 hi sm hv Q q => ?_) (fun H4 s4 e4 => ?_)
        · obtain ⟨v', h1, h2, h3, h4⟩ := hps i hi
          rw [hv] at h1
          cases h1
          have hgd : [t].getD i (.num 0) = ([t] : List Tr)[i] := getD_at (l := [t]) hi
          rw [hgd] at q
          exact ⟨_, rfl, _, rfl, v, f, ([t] : List Tr)[i], kvs, rfl, h2.ups sm, h3, h4, sm _ _ (s02 _ _ hf), hfo, q⟩
        have e5 : H4 D = some (.lst ([t].map fun t => optI (val kvs t))) := by
          rw [e4]
          exact congrArg (fun x => some (HO.lst x)) (range_getD (fun t => optI (val kvs t)) (.num 0) [t])
        have s04 := s02.trans s4
        refine ⟨_, rfl, D, rfl, ⟨_, SqL.of e5⟩, fun D2 nD2 => ?_⟩
        refine lc_vals (walk_list (K := K) (a := D) (xs := [t].map fun t => optI (val kvs t))) (fun i v => ([t].map fun t => optI (val kvs t))[i]? = some v) (fun i => .bl ((val kvs ([t].getD i (.num 0))).isNone)) nD2 (fun H6 s6 => SqL.of (s6 _ _ e5)) (by simp only [List.length_cons, List.length_nil, List.length_map]; omega) (fun i H1 v H2 hi y => y) (fun i v H6 hi sm hv Q q => ?_) (fun H6 s6 e6 => ?_)
        · have hi2 : i < [t].length := by rwa [List.length_map] at hi
          have hgd : [t].getD i (.num 0) = ([t] : List Tr)[i] := getD_at (l := [t]) hi2
          rw [List.getElem?_map, List.getElem?_eq_getElem hi2] at hv
          cases hv
          rw [hgd] at q
          have hn : decide (optI (val kvs ([t] : List Tr)[i]) = V.non) = (val kvs ([t] : List Tr)[i]).isNone := by
            cases val kvs ([t] : List Tr)[i] <;> rfl
          refine ⟨_, rfl, rfl, ?_⟩
          rw [hn]
          exact q _ (Same.refl _)
        have e7 : H6 D2 = some (.lst (([t].map fun t => (val kvs t).isNone).map V.bl)) := by
          rw [e6, List.length_map, List.map_map]
          exact congrArg (fun x => some (HO.lst x)) (range_getD (fun t => V.bl (val kvs t).isNone) (.num 0) [t])
        have s06 := s04.trans s6
        have e56 := s6 _ _ e5
        refine ⟨D2, [t].map fun t => (val kvs t).isNone, rfl, SqL.of e7, _, rfl, ?_⟩
        have hvu : val kvs (.un op t) = (match val kvs t with | none => none | some v => some (unO op v)) := rfl
        rw [hvu] at q
        show if ((val kvs t).isNone || false) = true then _ else _
        cases hv : val kvs t with
        | none =>
          rw [hv] at q
          exact ifT rfl (q _ s06)
        | some v =>
          rw [hv] at q
          refine ifF rfl ?_
          have e8 : H6 D = some (.lst [.int v]) := by
            rw [e56]
            show some (HO.lst [optI (val kvs t)]) = _
            rw [hv]
            rfl
          refine ⟨_, rfl, D, _, rfl, .inl (SqL.of e8), rfl, _, rfl, ifT rfl ?_⟩
          refine ⟨_, rfl, rfl, _, rfl, ?_⟩
          show if isS op "minus" = true then _ else _
          have q : Q (optI (some (unO op v))) H6 := q H6 s06
          unfold unO at q
          refine ite2 (fun c => ?_) (fun c => ?_)
          · rw [if_pos c] at q
            exact ⟨_, rfl, D, _, 0, _, rfl, rfl, SqL.of e8, atI_nat (j := 0) rfl, v, rfl, q⟩
          · rw [if_neg c] at q
            exact ⟨_, rfl, D, _, 0, _, rfl, rfl, SqL.of e8, atI_nat (j := 0) rfl, rfl, _, rfl, q⟩
      | bin op a b =>
        obtain ⟨p, u1, u2, rfl, hp, hu1, hu2⟩ := ht
        obtain ⟨on1, on2, on3⟩ := op_not op (.inr hwf.1)
        refine ⟨_, rfl, p, _, 0, _, rfl, rfl, SqT.of hp, atI_nat (j := 0) rfl, ?_⟩
        refine ⟨_, rfl, rfl, _, rfl, ifF on1 ?_⟩
        refine ⟨_, rfl, lenOk (n := 3) rfl (by decide), fun tp ntp => ?_⟩
        have s1 := same_new (o := .tup [V.str (Str.ofString "home"), V.str (Str.ofString "confirms"), V.str (Str.ofString "let")]) ntp
        refine ⟨tp, _, rfl, .inr (SqT.of upd_same), rfl, rfl, _, rfl, ?_⟩
        rw [if_neg Bool.false_ne_true]
        generalize upd H tp (.tup [V.str (Str.ofString "home"), V.str (Str.ofString "confirms"), V.str (Str.ofString "let")]) = H1 at s1 ⊢
        refine ifF on2 ?_
        refine ⟨_, rfl, A.t_FACTS, FCT, rfl, .inr (sqT_up T.q_FACTS fun _ _ h => nomatch h), rfl, rfl, _, rfl, ?_⟩
        rw [if_neg Bool.false_ne_true]
        refine ifF on3 ?_
        unfold tNoPart
        refine ⟨_, rfl, _, rfl, slA_of (SqT.of (s1 _ _ hp)) fun p2 H2 s2 e2 => ?_⟩
        have e2' : SqT K H2 p2 [u1, u2] := by
          have := cutV_lo (xs := V.str op :: [u1, u2]) 1
          rw [show cutV (V.str op :: [u1, u2]) (some 1) none = [u1, u2] from this] at e2
          exact e2
        have s02 := s1.trans s2
        refine ⟨p2, rfl, ⟨_, e2'⟩, fun D nD => ?_⟩
        have hps : ∀ i (h : i < [a, b].length), ∃ v, [u1, u2][i]? = some v ∧ TrK H2 v (([a, b] : List Tr)[i]) ∧ Wf (([a, b] : List Tr)[i]) ∧ dep (([a, b] : List Tr)[i]) < n := fun i h => by
          have hdd : max (dep a) (dep b) + 1 < n + 1 := hd
          have : i = 0 ∨ i = 1 := by have : i < 2 := h; omega
          rcases this with z | z
          · subst z
            exact ⟨u1, rfl, hu1.ups s02, hwf.2.1, by show dep a < n; omega⟩
          · subst z
            exact ⟨u2, rfl, hu2.ups s02, hwf.2.2, by show dep b < n; omega⟩
        refine lc_vals (walk_tup (K := K) (a := p2) (xs := [u1, u2])) (fun i v => [u1, u2][i]? = some v) (fun i => optI (val kvs ([a, b].getD i (.num 0)))) nD (fun H4 s4 => sqT_up e2' s4) (by simp only [List.length_cons, List.length_nil, List.length_map]; omega) (fun i H1 v H2 hi y => y) (fun i v H4 hi sm hv Q q => ?_) (fun H4 s4 e4 => ?_)
        · obtain ⟨v', h1, h2, h3, h4⟩ := hps i hi
          rw [hv] at h1
          cases h1
          have hgd : [a, b].getD i (.num 0) = ([a, b] : List Tr)[i] := getD_at (l := [a, b]) hi
          rw [hgd] at q
          exact ⟨_, rfl, _, rfl, v, f, ([a, b] : List Tr)[i], kvs, rfl, h2.ups sm, h3, h4, sm _ _ (s02 _ _ hf), hfo, q⟩
        have e5 : H4 D = some (.lst ([a, b].map fun t => optI (val kvs t))) := by
          rw [e4]
          exact congrArg (fun x => some (HO.lst x)) (range_getD (fun t => optI (val kvs t)) (.num 0) [a, b])
        have s04 := s02.trans s4
        refine ⟨_, rfl, D, rfl, ⟨_, SqL.of e5⟩, fun D2 nD2 => ?_⟩
        refine lc_vals (walk_list (K := K) (a := D) (xs := [a, b].map fun t => optI (val kvs t))) (fun i v => ([a, b].map fun t => optI (val kvs t))[i]? = some v) (fun i => .bl ((val kvs ([a, b].getD i (.num 0))).isNone)) nD2 (fun H6 s6 => SqL.of (s6 _ _ e5)) (by simp only [List.length_cons, List.length_nil, List.length_map]; omega) (fun i H1 v H2 hi y => y) (fun i v H6 hi sm hv Q q => ?_) (fun H6 s6 e6 => ?_)
        · have hi2 : i < [a, b].length := by rwa [List.length_map] at hi
          have hgd : [a, b].getD i (.num 0) = ([a, b] : List Tr)[i] := getD_at (l := [a, b]) hi2
          rw [List.getElem?_map, List.getElem?_eq_getElem hi2] at hv
          cases hv
          rw [hgd] at q
          have hn : decide (optI (val kvs ([a, b] : List Tr)[i]) = V.non) = (val kvs ([a, b] : List Tr)[i]).isNone := by
            cases val kvs ([a, b] : List Tr)[i] <;> rfl
          refine ⟨_, rfl, rfl, ?_⟩
          rw [hn]
          exact q _ (Same.refl _)
        have e7 : H6 D2 = some (.lst (([a, b].map fun t => (val kvs t).isNone).map V.bl)) := by
          rw [e6, List.length_map, List.map_map]
          exact congrArg (fun x => some (HO.lst x)) (range_getD (fun t => V.bl (val kvs t).isNone) (.num 0) [a, b])
        have s06 := s04.trans s6
        have e56 := s6 _ _ e5
        refine ⟨D2, [a, b].map fun t => (val kvs t).isNone, rfl, SqL.of e7, _, rfl, ?_⟩
        have hvb : val kvs (.bin op a b) = (match val kvs a, val kvs b with | some x, some y => bnd (resO op x y) | _, _ => none) := rfl
        rw [hvb] at q
        show if ((val kvs a).isNone || ((val kvs b).isNone || false)) = true then _ else _
        cases hva : val kvs a with
        | none =>
          rw [hva] at q
          exact ifT rfl (q _ s06)
        | some x =>
          cases hvb2 : val kvs b with
          | none =>
            rw [hva, hvb2] at q
            exact ifT rfl (q _ s06)
          | some y =>
            rw [hva, hvb2] at q
            refine ifF rfl ?_
            have e8 : H6 D = some (.lst [.int x, .int y]) := by
              rw [e56]
              show some (HO.lst [optI (val kvs a), optI (val kvs b)]) = _
              rw [hva, hvb2]
              rfl
            refine ⟨_, rfl, D, _, rfl, .inl (SqL.of e8), rfl, _, rfl, ifF rfl ?_⟩
            exact ⟨_, rfl, _, rfl, D, _, 0, _, rfl, rfl, SqL.of e8, atI_nat (j := 0) rfl, _, rfl, D, _, 1, _, rfl, rfl, SqL.of e8, atI_nat (j := 1) rfl, op, x, y, rfl, val_sm hva, val_sm hvb2, fun H7 s7 => ⟨_, rfl, q _ (s06.trans s7)⟩⟩
end
end R1

namespace R1
open PySem PySem.Spec PyProof.Rows L2 RK
local macro_rules | `(tactic| walk_at "sq") => `(tactic| first
  | exact SqL.of upd_same | exact upd_same | exact SqL.of (by assumption) | exact SqL.of (by rw [upd_ne (by assumption)]; assumption) | assumption)
local macro_rules | `(tactic| walk_at "sd") => `(tactic| first
  | assumption | omega | (refine Or.inl ⟨?_, ?_⟩ <;> omega) | (show _ ∧ _; constructor <;> omega) | (show _ ≠ _; simp; omega) | (exact Or.inl ⟨by decide, by decide⟩) | (exact Or.inr ⟨by decide, by decide⟩) | (show _ < _; decide) | (show _ ≤ _; decide))
local macro_rules | `(tactic| walk_at "at") => `(tactic| first | rfl | (refine atI_intV ?_ ?_ <;> omega) | assumption)
local macro_rules | `(tactic| walk_at "s1") => `(tactic| first
  | refine ⟨_, rfl, ?_⟩ | refine ⟨_, _, rfl, rfl, ?_⟩ | refine ⟨rfl, ?_⟩
  | refine ⟨_, _, _, _, rfl, rfl, by walk_at "sq", by walk_at "at", ?_⟩
  | refine Or.inl ⟨_, rfl, ?_⟩
  | refine ⟨_, _, rfl, Or.inl (by walk_at "sq"), ?_⟩
  | refine And.intro (by walk_at "sd") ?_)
local macro_rules | `(tactic| walk_at "s") => `(tactic| repeat walk_at "s1")

def pairO (op : Str) (x y : Int) : Option Int :=
  if isS op "or" then some (b2i (!eqI x 0 || !eqI y 0)) else if isS op "and" then some (b2i (!eqI x 0 && !eqI y 0))
  else if (isS op "<" || isS op ">=") then some (b2i (decide (V.bl (decide (x < y)) = V.bl (isS op "<"))))
  else if (isS op ">" || isS op "<=") then some (b2i (decide (V.bl (decide (y < x)) = V.bl (isS op ">"))))
  else if (isS op "=" || isS op "<>") then some (b2i (decide (V.bl (eqI x y) = V.bl (isS op "="))))
  else if isS op "+" then some (x + y) else if isS op "-" then some (x - y) else if isS op "*" then some (x * y)
  else if eqI y 0 then none else if isS op "/" then some (x.fdiv y) else some (x - y * x.fdiv y)
theorem pr_0 (x y : Int) : pairO (Str.ofString "or") x y = resO (Str.ofString "or") x y := by
  unfold pairO resO cmpO
  simp only [show isS (Str.ofString "or") "or" = true from by decide +kernel, show isS (Str.ofString "or") "and" = false from by decide +kernel, show isS (Str.ofString "or") "=" = false from by decide +kernel, show isS (Str.ofString "or") "<>" = false from by decide +kernel, show isS (Str.ofString "or") "<" = false from by decide +kernel, show isS (Str.ofString "or") ">=" = false from by decide +kernel, show isS (Str.ofString "or") ">" = false from by decide +kernel, show isS (Str.ofString "or") "<=" = false from by decide +kernel, show isS (Str.ofString "or") "+" = false from by decide +kernel, show isS (Str.ofString "or") "-" = false from by decide +kernel, show isS (Str.ofString "or") "*" = false from by decide +kernel, show isS (Str.ofString "or") "/" = false from by decide +kernel, show inV (.str (Str.ofString "or")) CMP = false from by decide +kernel, show inV (.str (Str.ofString "or")) [.str (Str.ofString "<"), .str (Str.ofString ">=")] = false from by decide +kernel, Bool.true_or, Bool.or_true, Bool.false_or, Bool.or_false, if_true, if_false, Bool.false_eq_true, if_neg, ite_true, ite_false, reduceIte]
  all_goals try (first | done | (cases eqI x y <;> rfl) | (cases decide (x < y) <;> rfl))
theorem pr_1 (x y : Int) : pairO (Str.ofString "and") x y = resO (Str.ofString "and") x y := by
  unfold pairO resO cmpO
  simp only [show isS (Str.ofString "and") "or" = false from by decide +kernel, show isS (Str.ofString "and") "and" = true from by decide +kernel, show isS (Str.ofString "and") "=" = false from by decide +kernel, show isS (Str.ofString "and") "<>" = false from by decide +kernel, show isS (Str.ofString "and") "<" = false from by decide +kernel, show isS (Str.ofString "and") ">=" = false from by decide +kernel, show isS (Str.ofString "and") ">" = false from by decide +kernel, show isS (Str.ofString "and") "<=" = false from by decide +kernel, show isS (Str.ofString "and") "+" = false from by decide +kernel, show isS (Str.ofString "and") "-" = false from by decide +kernel, show isS (Str.ofString "and") "*" = false from by decide +kernel, show isS (Str.ofString "and") "/" = false from by decide +kernel, show inV (.str (Str.ofString "and")) CMP = false from by decide +kernel, show inV (.str (Str.ofString "and")) [.str (Str.ofString "<"), .str (Str.ofString ">=")] = false from by decide +kernel, Bool.true_or, Bool.or_true, Bool.false_or, Bool.or_false, if_true, if_false, Bool.false_eq_true, if_neg, ite_true, ite_false, reduceIte]
  all_goals try (first | done | (cases eqI x y <;> rfl) | (cases decide (x < y) <;> rfl))
theorem pr_2 (x y : Int) : pairO (Str.ofString "<") x y = resO (Str.ofString "<") x y := by
  unfold pairO resO cmpO
  simp only [show isS (Str.ofString "<") "or" = false from by decide +kernel, show isS (Str.ofString "<") "and" = false from by decide +kernel, show isS (Str.ofString "<") "=" = false from by decide +kernel, show isS (Str.ofString "<") "<>" = false from by decide +kernel, show isS (Str.ofString "<") "<" = true from by decide +kernel, show isS (Str.ofString "<") ">=" = false from by decide +kernel, show isS (Str.ofString "<") ">" = false from by decide +kernel, show isS (Str.ofString "<") "<=" = false from by decide +kernel, show isS (Str.ofString "<") "+" = false from by decide +kernel, show isS (Str.ofString "<") "-" = false from by decide +kernel, show isS (Str.ofString "<") "*" = false from by decide +kernel, show isS (Str.ofString "<") "/" = false from by decide +kernel, show inV (.str (Str.ofString "<")) CMP = true from by decide +kernel, show inV (.str (Str.ofString "<")) [.str (Str.ofString "<"), .str (Str.ofString ">=")] = true from by decide +kernel, Bool.true_or, Bool.or_true, Bool.false_or, Bool.or_false, if_true, if_false, Bool.false_eq_true, if_neg, ite_true, ite_false, reduceIte]
  all_goals try (first | done | (cases eqI x y <;> rfl) | (cases decide (x < y) <;> rfl))
theorem pr_3 (x y : Int) : pairO (Str.ofString "<=") x y = resO (Str.ofString "<=") x y := by
  unfold pairO resO cmpO
  simp only [show isS (Str.ofString "<=") "or" = false from by decide +kernel, show isS (Str.ofString "<=") "and" = false from by decide +kernel, show isS (Str.ofString "<=") "=" = false from by decide +kernel, show isS (Str.ofString "<=") "<>" = false from by decide +kernel, show isS (Str.ofString "<=") "<" = false from by decide +kernel, show isS (Str.ofString "<=") ">=" = false from by decide +kernel, show isS (Str.ofString "<=") ">" = false from by decide +kernel, show isS (Str.ofString "<=") "<=" = true from by decide +kernel, show isS (Str.ofString "<=") "+" = false from by decide +kernel, show isS (Str.ofString "<=") "-" = false from by decide +kernel, show isS (Str.ofString "<=") "*" = false from by decide +kernel, show isS (Str.ofString "<=") "/" = false from by decide +kernel, show inV (.str (Str.ofString "<=")) CMP = true from by decide +kernel, show inV (.str (Str.ofString "<=")) [.str (Str.ofString "<"), .str (Str.ofString ">=")] = false from by decide +kernel, Bool.true_or, Bool.or_true, Bool.false_or, Bool.or_false, if_true, if_false, Bool.false_eq_true, if_neg, ite_true, ite_false, reduceIte]
  all_goals try (first | done | (cases eqI x y <;> rfl) | (cases decide (x < y) <;> rfl))
theorem pr_4 (x y : Int) : pairO (Str.ofString "=") x y = resO (Str.ofString "=") x y := by
  unfold pairO resO cmpO
  simp only [show isS (Str.ofString "=") "or" = false from by decide +kernel, show isS (Str.ofString "=") "and" = false from by decide +kernel, show isS (Str.ofString "=") "=" = true from by decide +kernel, show isS (Str.ofString "=") "<>" = false from by decide +kernel, show isS (Str.ofString "=") "<" = false from by decide +kernel, show isS (Str.ofString "=") ">=" = false from by decide +kernel, show isS (Str.ofString "=") ">" = false from by decide +kernel, show isS (Str.ofString "=") "<=" = false from by decide +kernel, show isS (Str.ofString "=") "+" = false from by decide +kernel, show isS (Str.ofString "=") "-" = false from by decide +kernel, show isS (Str.ofString "=") "*" = false from by decide +kernel, show isS (Str.ofString "=") "/" = false from by decide +kernel, show inV (.str (Str.ofString "=")) CMP = true from by decide +kernel, show inV (.str (Str.ofString "=")) [.str (Str.ofString "<"), .str (Str.ofString ">=")] = false from by decide +kernel, Bool.true_or, Bool.or_true, Bool.false_or, Bool.or_false, if_true, if_false, Bool.false_eq_true, if_neg, ite_true, ite_false, reduceIte]
  all_goals try (first | done | (cases eqI x y <;> rfl) | (cases decide (x < y) <;> rfl))
theorem pr_5 (x y : Int) : pairO (Str.ofString "<>") x y = resO (Str.ofString "<>") x y := by
  unfold pairO resO cmpO
  simp only [show isS (Str.ofString "<>") "or" = false from by decide +kernel, show isS (Str.ofString "<>") "and" = false from by decide +kernel, show isS (Str.ofString "<>") "=" = false from by decide +kernel, show isS (Str.ofString "<>") "<>" = true from by decide +kernel, show isS (Str.ofString "<>") "<" = false from by decide +kernel, show isS (Str.ofString "<>") ">=" = false from by decide +kernel, show isS (Str.ofString "<>") ">" = false from by decide +kernel, show isS (Str.ofString "<>") "<=" = false from by decide +kernel, show isS (Str.ofString "<>") "+" = false from by decide +kernel, show isS (Str.ofString "<>") "-" = false from by decide +kernel, show isS (Str.ofString "<>") "*" = false from by decide +kernel, show isS (Str.ofString "<>") "/" = false from by decide +kernel, show inV (.str (Str.ofString "<>")) CMP = true from by decide +kernel, show inV (.str (Str.ofString "<>")) [.str (Str.ofString "<"), .str (Str.ofString ">=")] = false from by decide +kernel, Bool.true_or, Bool.or_true, Bool.false_or, Bool.or_false, if_true, if_false, Bool.false_eq_true, if_neg, ite_true, ite_false, reduceIte]
  all_goals try (first | done | (cases eqI x y <;> rfl) | (cases decide (x < y) <;> rfl))
theorem pr_6 (x y : Int) : pairO (Str.ofString ">") x y = resO (Str.ofString ">") x y := by
  unfold pairO resO cmpO
  simp only [show isS (Str.ofString ">") "or" = false from by decide +kernel, show isS (Str.ofString ">") "and" = false from by decide +kernel, show isS (Str.ofString ">") "=" = false from by decide +kernel, show isS (Str.ofString ">") "<>" = false from by decide +kernel, show isS (Str.ofString ">") "<" = false from by decide +kernel, show isS (Str.ofString ">") ">=" = false from by decide +kernel, show isS (Str.ofString ">") ">" = true from by decide +kernel, show isS (Str.ofString ">") "<=" = false from by decide +kernel, show isS (Str.ofString ">") "+" = false from by decide +kernel, show isS (Str.ofString ">") "-" = false from by decide +kernel, show isS (Str.ofString ">") "*" = false from by decide +kernel, show isS (Str.ofString ">") "/" = false from by decide +kernel, show inV (.str (Str.ofString ">")) CMP = true from by decide +kernel, show inV (.str (Str.ofString ">")) [.str (Str.ofString "<"), .str (Str.ofString ">=")] = false from by decide +kernel, Bool.true_or, Bool.or_true, Bool.false_or, Bool.or_false, if_true, if_false, Bool.false_eq_true, if_neg, ite_true, ite_false, reduceIte]
  all_goals try (first | done | (cases eqI x y <;> rfl) | (cases decide (x < y) <;> rfl))
theorem pr_7 (x y : Int) : pairO (Str.ofString ">=") x y = resO (Str.ofString ">=") x y := by
  unfold pairO resO cmpO
  simp only [show isS (Str.ofString ">=") "or" = false from by decide +kernel, show isS (Str.ofString ">=") "and" = false from by decide +kernel, show isS (Str.ofString ">=") "=" = false from by decide +kernel, show isS (Str.ofString ">=") "<>" = false from by decide +kernel, show isS (Str.ofString ">=") "<" = false from by decide +kernel, show isS (Str.ofString ">=") ">=" = true from by decide +kernel, show isS (Str.ofString ">=") ">" = false from by decide +kernel, show isS (Str.ofString ">=") "<=" = false from by decide +kernel, show isS (Str.ofString ">=") "+" = false from by decide +kernel, show isS (Str.ofString ">=") "-" = false from by decide +kernel, show isS (Str.ofString ">=") "*" = false from by decide +kernel, show isS (Str.ofString ">=") "/" = false from by decide +kernel, show inV (.str (Str.ofString ">=")) CMP = true from by decide +kernel, show inV (.str (Str.ofString ">=")) [.str (Str.ofString "<"), .str (Str.ofString ">=")] = true from by decide +kernel, Bool.true_or, Bool.or_true, Bool.false_or, Bool.or_false, if_true, if_false, Bool.false_eq_true, if_neg, ite_true, ite_false, reduceIte]
  all_goals try (first | done | (cases eqI x y <;> rfl) | (cases decide (x < y) <;> rfl))
theorem pr_8 (x y : Int) : pairO (Str.ofString "+") x y = resO (Str.ofString "+") x y := by
  unfold pairO resO cmpO
  simp only [show isS (Str.ofString "+") "or" = false from by decide +kernel, show isS (Str.ofString "+") "and" = false from by decide +kernel, show isS (Str.ofString "+") "=" = false from by decide +kernel, show isS (Str.ofString "+") "<>" = false from by decide +kernel, show isS (Str.ofString "+") "<" = false from by decide +kernel, show isS (Str.ofString "+") ">=" = false from by decide +kernel, show isS (Str.ofString "+") ">" = false from by decide +kernel, show isS (Str.ofString "+") "<=" = false from by decide +kernel, show isS (Str.ofString "+") "+" = true from by decide +kernel, show isS (Str.ofString "+") "-" = false from by decide +kernel, show isS (Str.ofString "+") "*" = false from by decide +kernel, show isS (Str.ofString "+") "/" = false from by decide +kernel, show inV (.str (Str.ofString "+")) CMP = false from by decide +kernel, show inV (.str (Str.ofString "+")) [.str (Str.ofString "<"), .str (Str.ofString ">=")] = false from by decide +kernel, Bool.true_or, Bool.or_true, Bool.false_or, Bool.or_false, if_true, if_false, Bool.false_eq_true, if_neg, ite_true, ite_false, reduceIte]
  all_goals try (first | done | (cases eqI x y <;> rfl) | (cases decide (x < y) <;> rfl))
theorem pr_9 (x y : Int) : pairO (Str.ofString "-") x y = resO (Str.ofString "-") x y := by
  unfold pairO resO cmpO
  simp only [show isS (Str.ofString "-") "or" = false from by decide +kernel, show isS (Str.ofString "-") "and" = false from by decide +kernel, show isS (Str.ofString "-") "=" = false from by decide +kernel, show isS (Str.ofString "-") "<>" = false from by decide +kernel, show isS (Str.ofString "-") "<" = false from by decide +kernel, show isS (Str.ofString "-") ">=" = false from by decide +kernel, show isS (Str.ofString "-") ">" = false from by decide +kernel, show isS (Str.ofString "-") "<=" = false from by decide +kernel, show isS (Str.ofString "-") "+" = false from by decide +kernel, show isS (Str.ofString "-") "-" = true from by decide +kernel, show isS (Str.ofString "-") "*" = false from by decide +kernel, show isS (Str.ofString "-") "/" = false from by decide +kernel, show inV (.str (Str.ofString "-")) CMP = false from by decide +kernel, show inV (.str (Str.ofString "-")) [.str (Str.ofString "<"), .str (Str.ofString ">=")] = false from by decide +kernel, Bool.true_or, Bool.or_true, Bool.false_or, Bool.or_false, if_true, if_false, Bool.false_eq_true, if_neg, ite_true, ite_false, reduceIte]
  all_goals try (first | done | (cases eqI x y <;> rfl) | (cases decide (x < y) <;> rfl))
theorem pr_10 (x y : Int) : pairO (Str.ofString "*") x y = resO (Str.ofString "*") x y := by
  unfold pairO resO cmpO
  simp only [show isS (Str.ofString "*") "or" = false from by decide +kernel, show isS (Str.ofString "*") "and" = false from by decide +kernel, show isS (Str.ofString "*") "=" = false from by decide +kernel, show isS (Str.ofString "*") "<>" = false from by decide +kernel, show isS (Str.ofString "*") "<" = false from by decide +kernel, show isS (Str.ofString "*") ">=" = false from by decide +kernel, show isS (Str.ofString "*") ">" = false from by decide +kernel, show isS (Str.ofString "*") "<=" = false from by decide +kernel, show isS (Str.ofString "*") "+" = false from by decide +kernel, show isS (Str.ofString "*") "-" = false from by decide +kernel, show isS (Str.ofString "*") "*" = true from by decide +kernel, show isS (Str.ofString "*") "/" = false from by decide +kernel, show inV (.str (Str.ofString "*")) CMP = false from by decide +kernel, show inV (.str (Str.ofString "*")) [.str (Str.ofString "<"), .str (Str.ofString ">=")] = false from by decide +kernel, Bool.true_or, Bool.or_true, Bool.false_or, Bool.or_false, if_true, if_false, Bool.false_eq_true, if_neg, ite_true, ite_false, reduceIte]
  all_goals try (first | done | (cases eqI x y <;> rfl) | (cases decide (x < y) <;> rfl))
theorem pr_11 (x y : Int) : pairO (Str.ofString "/") x y = resO (Str.ofString "/") x y := by
  unfold pairO resO cmpO
  simp only [show isS (Str.ofString "/") "or" = false from by decide +kernel, show isS (Str.ofString "/") "and" = false from by decide +kernel, show isS (Str.ofString "/") "=" = false from by decide +kernel, show isS (Str.ofString "/") "<>" = false from by decide +kernel, show isS (Str.ofString "/") "<" = false from by decide +kernel, show isS (Str.ofString "/") ">=" = false from by decide +kernel, show isS (Str.ofString "/") ">" = false from by decide +kernel, show isS (Str.ofString "/") "<=" = false from by decide +kernel, show isS (Str.ofString "/") "+" = false from by decide +kernel, show isS (Str.ofString "/") "-" = false from by decide +kernel, show isS (Str.ofString "/") "*" = false from by decide +kernel, show isS (Str.ofString "/") "/" = true from by decide +kernel, show inV (.str (Str.ofString "/")) CMP = false from by decide +kernel, show inV (.str (Str.ofString "/")) [.str (Str.ofString "<"), .str (Str.ofString ">=")] = false from by decide +kernel, Bool.true_or, Bool.or_true, Bool.false_or, Bool.or_false, if_true, if_false, Bool.false_eq_true, if_neg, ite_true, ite_false, reduceIte]
  all_goals try (first | done | (cases eqI x y <;> rfl) | (cases decide (x < y) <;> rfl))
theorem pr_12 (x y : Int) : pairO (Str.ofString "mod") x y = resO (Str.ofString "mod") x y := by
  unfold pairO resO cmpO
  simp only [show isS (Str.ofString "mod") "or" = false from by decide +kernel, show isS (Str.ofString "mod") "and" = false from by decide +kernel, show isS (Str.ofString "mod") "=" = false from by decide +kernel, show isS (Str.ofString "mod") "<>" = false from by decide +kernel, show isS (Str.ofString "mod") "<" = false from by decide +kernel, show isS (Str.ofString "mod") ">=" = false from by decide +kernel, show isS (Str.ofString "mod") ">" = false from by decide +kernel, show isS (Str.ofString "mod") "<=" = false from by decide +kernel, show isS (Str.ofString "mod") "+" = false from by decide +kernel, show isS (Str.ofString "mod") "-" = false from by decide +kernel, show isS (Str.ofString "mod") "*" = false from by decide +kernel, show isS (Str.ofString "mod") "/" = false from by decide +kernel, show inV (.str (Str.ofString "mod")) CMP = false from by decide +kernel, show inV (.str (Str.ofString "mod")) [.str (Str.ofString "<"), .str (Str.ofString ">=")] = false from by decide +kernel, Bool.true_or, Bool.or_true, Bool.false_or, Bool.or_false, if_true, if_false, Bool.false_eq_true, if_neg, ite_true, ite_false, reduceIte]
  rw [Int.fmod_def]
  all_goals try (first | done | (cases eqI x y <;> rfl) | (cases decide (x < y) <;> rfl))

theorem bop_mem {op : Str} (h : BinO op) : V.str op ∈ BOPS := by
  obtain ⟨x, hx, e⟩ := List.any_eq_true.mp h
  have hs : ∀ y ∈ BOPS, ∃ z, y = .str z := fun y hy => by
    unfold BOPS at hy
    simp only [List.mem_cons, List.not_mem_nil, or_false] at hy
    rcases hy with z | z | z | z | z | z | z | z | z | z | z | z | z <;> exact ⟨_, z⟩
  obtain ⟨z, rfl⟩ := hs x hx
  have : (z == op) = true := e
  rw [eq_of_beq this] at hx
  exact hx
theorem pairO_eq {op : Str} (h : BinO op) (x y : Int) : pairO op x y = resO op x y := by
  have hm := bop_mem h
  unfold BOPS at hm
  simp only [List.mem_cons, List.not_mem_nil, or_false] at hm
  rcases hm with z | z | z | z | z | z | z | z | z | z | z | z | z <;> (rw [V.str.inj z]; first | exact pr_0 x y | exact pr_1 x y | exact pr_2 x y | exact pr_3 x y | exact pr_4 x y | exact pr_5 x y | exact pr_6 x y | exact pr_7 x y | exact pr_8 x y | exact pr_9 x y | exact pr_10 x y | exact pr_11 x y | exact pr_12 x y)
theorem bin_un {op : Str} (h : BinO op) : isS op "not" = false ∧ isS op "minus" = false := by
  have all : ∀ y ∈ BOPS, (decide (y = .str (Str.ofString "not")) = false ∧ decide (y = .str (Str.ofString "minus")) = false) := by decide +kernel
  exact all _ (bop_mem h)
def spPair : Sp := fun vs H Q _ => ∃ (op : Str) (x y : Int), vs = [.str op, .int x, .int y] ∧ Sm x ∧ Sm y ∧ Q (optI (pairO op x y)) H
section
variable {P : Program} {w : World} {K : PySem.W.Frag} {mg : Str → Option Value} {base : Heap} {A : Ads}
theorem ok_law_bounded (T : Txt K mg A) : FnOk P w K mg base CX0 1 A.a_law_bounded A.d_law_bounded ["_law_number_here"] spWithin := by
  refine T.F_law_bounded.ok sc_law_bounded (fun vs H Q E h => ?_) (fun cdv B outer s H vs Q E hr h => ?_)
  · obtain ⟨o, rfl, _⟩ := h
    rfl
  · obtain ⟨o, rfl, q⟩ := h
    refine ⟨_, (pss_cons (ps_if (PW.pt (pw_or (pt_cmpR op_isN (pv 0) pe_non (nomark _)) (pw_or (pt_cmpR op_gt (pv 0) pe_int (nomark _)) (pw_or1 (pt_cmpR op_lt (pv 0) (pe_un un_neg pe_int) (nomark _)))))) (pss_one (ps_ret pe_non)) pss_nil)
    (pss_one (ps_ret (pv 0)))), ?_⟩
    cases o with
    | none => exact ⟨_, rfl, rfl, _, rfl, ifT rfl (ifT rfl q)⟩
    | some n =>
      have hb : bnd (some n) = if -1000000000 ≤ n ∧ n ≤ 1000000000 then some n else none := rfl
      rw [hb] at q
      refine ⟨_, rfl, rfl, _, rfl, ifF rfl ?_⟩
      refine ⟨_, rfl, _, _, rfl, rfl, _, rfl, ite2 (fun c => ?_) (fun c => ?_)⟩
      · have c1 : 1000000000 < n := of_decide_eq_true c
        rw [if_neg (by omega)] at q
        exact ifT rfl q
      · have c1 : ¬ 1000000000 < n := fun z => c (decide_eq_true z)
        refine ⟨_, rfl, _, rfl, _, _, rfl, rfl, _, rfl, ifB (fun c2 => ?_) (fun c2 => ?_)⟩
        · have c3 : n < -1000000000 := of_decide_eq_true c2
          rw [if_neg (by omega)] at q
          exact q
        · have c3 : ¬ n < -1000000000 := of_decide_eq_false c2
          rw [if_pos ⟨by omega, by omega⟩] at q
          exact ⟨_, rfl, q⟩
theorem ok_law_pair (T : Txt K mg A) : FnOk P w K mg base CX0 2 A.a_law_pair A.d_law_pair ["_law_op", "_law_first", "_law_second"] spPair := by
  refine T.F_law_pair.ok sc_law_pair (fun vs H Q E h => ?_) (fun cdv B outer s H vs Q E hr h => ?_)
  · obtain ⟨op, x, y, rfl, _⟩ := h
    rfl
  · obtain ⟨op, x, y, rfl, hx, hy, q⟩ := h
    refine ⟨_, (pss_cons (ps_if (pt_cmpR op_eq (pv 0) pe_str (nomark _)) (pss_one (ps_ret (pe_callTy call_int1 (by rfl) T.n_int (by decide +kernel) (pa_cons (pe_or (pe_cmpR op_ne (pv 1) pe_int (nomark _)) (pe_one (pe_cmpR op_ne (pv 2) pe_int (nomark _)))) pa_nil)))) pss_nil)
    (pss_cons (ps_if (pt_cmpR op_eq (pv 0) pe_str (nomark _)) (pss_one (ps_ret (pe_callTy call_int1 (by rfl) T.n_int (by decide +kernel) (pa_cons (pe_and (pe_cmpR op_ne (pv 1) pe_int (nomark _)) (pe_one (pe_cmpR op_ne (pv 2) pe_int (nomark _)))) pa_nil)))) pss_nil)
    (pss_cons (ps_if (PW.pt (pw_or (pt_cmpR op_eq (pv 0) pe_str (nomark _)) (pw_or1 (pt_cmpR op_eq (pv 0) pe_str (nomark _))))) (pss_one (ps_ret (pe_callTy call_int1 (by rfl) T.n_int (by decide +kernel) (pa_cons (pe_cmpR op_eq (pe_cmpR op_lt (pv 1) (pv 2) (nomark _)) (pe_cmpR op_eq (pv 0) pe_str (nomark _)) (nomark _)) pa_nil)))) pss_nil)
    (pss_cons (ps_if (PW.pt (pw_or (pt_cmpR op_eq (pv 0) pe_str (nomark _)) (pw_or1 (pt_cmpR op_eq (pv 0) pe_str (nomark _))))) (pss_one (ps_ret (pe_callTy call_int1 (by rfl) T.n_int (by decide +kernel) (pa_cons (pe_cmpR op_eq (pe_cmpR op_gt (pv 1) (pv 2) (nomark _)) (pe_cmpR op_eq (pv 0) pe_str (nomark _)) (nomark _)) pa_nil)))) pss_nil)
    (pss_cons (ps_if (PW.pt (pw_or (pt_cmpR op_eq (pv 0) pe_str (nomark _)) (pw_or1 (pt_cmpR op_eq (pv 0) pe_str (nomark _))))) (pss_one (ps_ret (pe_callTy call_int1 (by rfl) T.n_int (by decide +kernel) (pa_cons (pe_cmpR op_eq (pe_cmpR op_eq (pv 1) (pv 2) (nomark _)) (pe_cmpR op_eq (pv 0) pe_str (nomark _)) (nomark _)) pa_nil)))) pss_nil)
    (pss_cons (ps_if (pt_cmpR op_eq (pv 0) pe_str (nomark _)) (pss_one (ps_ret (pe_op op_add (pv 1) (pv 2)))) pss_nil)
    (pss_cons (ps_if (pt_cmpR op_eq (pv 0) pe_str (nomark _)) (pss_one (ps_ret (pe_op op_sub (pv 1) (pv 2)))) pss_nil)
    (pss_cons (ps_if (pt_cmpR op_eq (pv 0) pe_str (nomark _)) (pss_one (ps_ret (pe_op op_mul (pv 1) (pv 2)))) pss_nil)
    (pss_cons (ps_if (pt_cmpR op_eq (pv 2) pe_int (nomark _)) (pss_one (ps_ret pe_non)) pss_nil)
    (pss_cons (ps_if (pt_cmpR op_eq (pv 0) pe_str (nomark _)) (pss_one (ps_ret (pe_op op_fdivN (pv 1) (pv 2)))) pss_nil)
    (pss_one (ps_ret (pe_op op_sub (pv 1) (pe_op op_mul (pv 2) (pe_op op_fdivN (pv 1) (pv 2)))))))))))))))), ?_⟩
    unfold pairO at q
    refine ⟨_, rfl, rfl, _, rfl, ?_⟩
    show if isS op "or" = true then _ else _
    refine ite2 (fun c => ?_) (fun c => ?_)
    · rw [if_pos c] at q
      refine ⟨_, rfl, rfl, _, rfl, ?_⟩
      show if (!eqI x 0) = true then _ else _
      cases hx0 : eqI x 0 with
      | false =>
        rw [hx0] at q
        exact ifT rfl (.inr ⟨true, rfl, q⟩)
      | true =>
        rw [hx0] at q
        exact ifF rfl ⟨_, rfl, rfl, .inr ⟨_, rfl, q⟩⟩
    rw [if_neg c] at q
    refine ⟨_, rfl, rfl, _, rfl, ?_⟩
    show if isS op "and" = true then _ else _
    refine ite2 (fun c => ?_) (fun c => ?_)
    · rw [if_pos c] at q
      refine ⟨_, rfl, rfl, _, rfl, ?_⟩
      show if (!eqI x 0) = true then _ else _
      cases hx0 : eqI x 0 with
      | true =>
        rw [hx0] at q
        exact ifF rfl (.inr ⟨false, rfl, q⟩)
      | false =>
        rw [hx0] at q
        exact ifT rfl ⟨_, rfl, rfl, .inr ⟨_, rfl, q⟩⟩
    rw [if_neg c] at q
    refine ⟨_, rfl, rfl, _, rfl, ?_⟩
    show if isS op "<" = true then _ else _
    have hor : isS op "<" = true ∨ isS op ">=" = true → (isS op "<" || isS op ">=") = true := fun z => by rcases z with z | z <;> simp [z]
    have hno : ¬ isS op "<" = true → ¬ isS op ">=" = true → ¬ (isS op "<" || isS op ">=") = true := fun z1 z2 z3 => by
      rcases Bool.or_eq_true_iff.mp z3 with z | z
      · exact z1 z
      · exact z2 z
    refine ite2 (fun c => ?_) (fun c => ?_)
    · rw [if_pos (hor (.inl c))] at q
      exact ifT rfl (⟨_, rfl, _, rfl, _, _, rfl, rfl, _, rfl, rfl, rfl, .inr ⟨_, rfl, q⟩⟩)
    refine ⟨_, rfl, rfl, _, rfl, ?_⟩
    show if isS op ">=" = true then _ else _
    refine ite2 (fun c2 => ?_) (fun c2 => ?_)
    · rw [if_pos (hor (.inr c2))] at q
      exact ⟨_, rfl, _, rfl, _, _, rfl, rfl, _, rfl, rfl, rfl, .inr ⟨_, rfl, q⟩⟩
    rw [if_neg (hno c c2)] at q
    clear hor hno
    refine ⟨_, rfl, rfl, _, rfl, ?_⟩
    show if isS op ">" = true then _ else _
    have hor : isS op ">" = true ∨ isS op "<=" = true → (isS op ">" || isS op "<=") = true := fun z => by rcases z with z | z <;> simp [z]
    have hno : ¬ isS op ">" = true → ¬ isS op "<=" = true → ¬ (isS op ">" || isS op "<=") = true := fun z1 z2 z3 => by
      rcases Bool.or_eq_true_iff.mp z3 with z | z
      · exact z1 z
      · exact z2 z
    refine ite2 (fun c => ?_) (fun c => ?_)
    · rw [if_pos (hor (.inl c))] at q
      exact ifT rfl (⟨_, rfl, _, rfl, _, _, rfl, rfl, _, rfl, rfl, rfl, .inr ⟨_, rfl, q⟩⟩)
    refine ⟨_, rfl, rfl, _, rfl, ?_⟩
    show if isS op "<=" = true then _ else _
    refine ite2 (fun c2 => ?_) (fun c2 => ?_)
    · rw [if_pos (hor (.inr c2))] at q
      exact ⟨_, rfl, _, rfl, _, _, rfl, rfl, _, rfl, rfl, rfl, .inr ⟨_, rfl, q⟩⟩
    rw [if_neg (hno c c2)] at q
    clear hor hno
    refine ⟨_, rfl, rfl, _, rfl, ?_⟩
    show if isS op "=" = true then _ else _
    have hor : isS op "=" = true ∨ isS op "<>" = true → (isS op "=" || isS op "<>") = true := fun z => by rcases z with z | z <;> simp [z]
    have hno : ¬ isS op "=" = true → ¬ isS op "<>" = true → ¬ (isS op "=" || isS op "<>") = true := fun z1 z2 z3 => by
      rcases Bool.or_eq_true_iff.mp z3 with z | z
      · exact z1 z
      · exact z2 z
    refine ite2 (fun c => ?_) (fun c => ?_)
    · rw [if_pos (hor (.inl c))] at q
      exact ifT rfl (⟨_, rfl, _, rfl, rfl, _, rfl, rfl, rfl, .inr ⟨_, rfl, q⟩⟩)
    refine ⟨_, rfl, rfl, _, rfl, ?_⟩
    show if isS op "<>" = true then _ else _
    refine ite2 (fun c2 => ?_) (fun c2 => ?_)
    · rw [if_pos (hor (.inr c2))] at q
      exact ⟨_, rfl, _, rfl, rfl, _, rfl, rfl, rfl, .inr ⟨_, rfl, q⟩⟩
    rw [if_neg (hno c c2)] at q
    clear hor hno
    refine ⟨_, rfl, rfl, _, rfl, ?_⟩
    show if isS op "+" = true then _ else _
    refine ite2 (fun c => ?_) (fun c => ?_)
    · rw [if_pos c] at q
      exact ⟨_, rfl, _, rfl, _, _, rfl, rfl, q⟩
    rw [if_neg c] at q
    refine ⟨_, rfl, rfl, _, rfl, ?_⟩
    show if isS op "-" = true then _ else _
    refine ite2 (fun c => ?_) (fun c => ?_)
    · rw [if_pos c] at q
      exact ⟨_, rfl, _, rfl, _, _, rfl, rfl, q⟩
    rw [if_neg c] at q
    refine ⟨_, rfl, rfl, _, rfl, ?_⟩
    show if isS op "*" = true then _ else _
    refine ite2 (fun c => ?_) (fun c => ?_)
    · rw [if_pos c] at q
      exact ⟨_, rfl, _, rfl, _, _, rfl, rfl, .inl ⟨by have := hx.1; omega, by have := hx.2; omega⟩, q⟩
    rw [if_neg c] at q
    refine ⟨_, rfl, rfl, _, rfl, ?_⟩
    show if eqI y 0 = true then _ else _
    refine ite2 (fun c => ?_) (fun c => ?_)
    · rw [if_pos c] at q
      exact q
    rw [if_neg c] at q
    have hy0 : y ≠ 0 := fun z => c (by rw [z]; exact decide_eq_true rfl)
    have hdv : CDivN x y := ⟨hy0, by have := hy.1; have := hy.2; omega⟩
    refine ⟨_, rfl, rfl, _, rfl, ?_⟩
    show if isS op "/" = true then _ else _
    refine ite2 (fun c => ?_) (fun c => ?_)
    · rw [if_pos c] at q
      exact ⟨_, rfl, _, rfl, _, _, rfl, rfl, hdv, q⟩
    rw [if_neg c] at q
    exact ⟨_, rfl, _, rfl, _, rfl, _, rfl, _, _, rfl, rfl, hdv, _, _, rfl, rfl, .inl ⟨by have := hy.1; omega, by have := hy.2; omega⟩, _, _, rfl, rfl, q⟩
end
end R1

namespace R1
open PySem PySem.Spec PyProof.Rows L2 RK
local macro_rules | `(tactic| walk_at "sq") => `(tactic| first
  | exact SqL.of upd_same | exact upd_same | exact SqL.of (by assumption) | exact SqL.of (by rw [upd_ne (by assumption)]; assumption) | assumption)
local macro_rules | `(tactic| walk_at "sd") => `(tactic| first
  | assumption | omega | (refine Or.inl ⟨?_, ?_⟩ <;> omega) | (show _ ∧ _; constructor <;> omega) | (show _ ≠ _; simp; omega) | (exact Or.inl ⟨by decide, by decide⟩) | (exact Or.inr ⟨by decide, by decide⟩) | (show _ < _; decide) | (show _ ≤ _; decide))
local macro_rules | `(tactic| walk_at "at") => `(tactic| first | rfl | (refine atI_intV ?_ ?_ <;> omega) | assumption)
local macro_rules | `(tactic| walk_at "s1") => `(tactic| first
  | refine ⟨_, rfl, ?_⟩ | refine ⟨_, _, rfl, rfl, ?_⟩ | refine ⟨rfl, ?_⟩
  | refine ⟨_, _, _, _, rfl, rfl, by walk_at "sq", by walk_at "at", ?_⟩
  | refine Or.inl ⟨_, rfl, ?_⟩
  | refine ⟨_, _, rfl, Or.inl (by walk_at "sq"), ?_⟩
  | refine And.intro (by walk_at "sd") ?_)
local macro_rules | `(tactic| walk_at "s") => `(tactic| repeat walk_at "s1")

def trD : Tr → PyData
  | .num n => .tuple [.str (Str.ofString "number"), .int n]
  | .one w => .tuple [.str w]
  | .two w x => .tuple [.str w, .str x]
  | .un op t => .tuple [.str op, trD t]
  | .bin op a b => .tuple [.str op, trD a, trD b]
theorem dx_tr {K : PySem.W.Frag} {H : Hp} : ∀ {t : Tr} {v : V}, TrK H v t → Dx K H noS v (trD t)
  | .num _, _, ⟨p, a, b⟩ => by subst a; exact .tup (XT.of b fun z => z.elim) (.cons (.str _) (.cons (.int _) .nil))
  | .one _, _, ⟨p, a, b⟩ => by subst a; exact .tup (XT.of b fun z => z.elim) (.cons (.str _) .nil)
  | .two _ _, _, ⟨p, a, b⟩ => by subst a; exact .tup (XT.of b fun z => z.elim) (.cons (.str _) (.cons (.str _) .nil))
  | .un _ _, _, ⟨p, u, a, b, c⟩ => by subst a; exact .tup (XT.of b fun z => z.elim) (.cons (.str _) (.cons (dx_tr c) .nil))
  | .bin _ _ _, _, ⟨p, u1, u2, a, b, c, d⟩ => by subst a; exact .tup (XT.of b fun z => z.elim) (.cons (.str _) (.cons (dx_tr c) (.cons (dx_tr d) .nil)))
theorem tr_lay : ∀ {t : Tr}, Wf t → (trD t).canLay0 = true
  | .num n, _ => by
    show ((PyData.str (Str.ofString "number")).canLay0 && ((PyData.int n).canLay0 && true)) = true
    rw [so_lay (so_dec (by decide +kernel))]
    rfl
  | .one w, h => by
    show ((PyData.str w).canLay0 && true) = true
    rw [so_lay (so_w1 h)]
    rfl
  | .two w x, h => by
    show ((PyData.str w).canLay0 && ((PyData.str x).canLay0 && true)) = true
    rw [so_lay (so_w2 h.1), so_lay h.2]
    rfl
  | .un op t, h => by
    show ((PyData.str op).canLay0 && ((trD t).canLay0 && true)) = true
    rw [so_lay (so_un h.1), tr_lay h.2]
    rfl
  | .bin op a b, h => by
    show ((PyData.str op).canLay0 && ((trD a).canLay0 && ((trD b).canLay0 && true))) = true
    rw [so_lay (so_bin h.1), tr_lay h.2.1, tr_lay h.2.2]
    rfl
theorem tr_dep : ∀ (t : Tr), (trD t).depth ≤ dep t + 2
  | .num n => by show max _ (max _ 0) + 1 ≤ _; simp [PyData.depth, PyData.depthAll, dep, trD]
  | .one w => by simp [PyData.depth, PyData.depthAll, dep, trD]
  | .two w x => by simp [PyData.depth, PyData.depthAll, dep, trD]
  | .un op t => by
    have := tr_dep t
    simp only [PyData.depth, PyData.depthAll, dep, trD]
    omega
  | .bin op a b => by
    have h1 := tr_dep a
    have h2 := tr_dep b
    simp only [PyData.depth, PyData.depthAll, dep, trD]
    omega
theorem tr_wd : ∀ (t : Tr), wdB (trD t) = true
  | .num n => rfl
  | .one w => rfl
  | .two w x => rfl
  | .un op t => by
    show (true && (true && (wdB (trD t) && true))) = true
    rw [tr_wd t]
    rfl
  | .bin op a b => by
    show (true && (true && (wdB (trD a) && (wdB (trD b) && true)))) = true
    rw [tr_wd a, tr_wd b]
    rfl
theorem tn_tr (t : Tr) : tn (trD t) = "tuple" := by cases t <;> rfl
section
variable {P : Program} {w : World} {K : PySem.W.Frag} {mg : Str → Option Value} {base : Heap} {A : Ads}
theorem ok_law_value (T : Txt K mg A) : ∀ n : Nat, FnOk P w K mg base CX0 (n + 2) A.a_law_value A.d_law_value ["_law_tree_here", "_law_facts"] (spValue K n)
  | 0 => ⟨fun vs H Q E h => by
      obtain ⟨v, f, t, kvs, rfl, _⟩ := h
      rfl, fun _ _ _ _ _ _ _ _ _ _ _ _ _ h => by
      obtain ⟨v, f, t, kvs, _, _, _, hd, _⟩ := h
      exact absurd hd (Nat.not_lt_zero _)⟩
  | n + 1 => by
    have G0 : FnOk P w K mg base CX0 (n + 2) A.a_law_value A.d_law_value ["_law_tree_here", "_law_facts"] (spValue K n) := ok_law_value T n
    refine T.F_law_value.ok sc_law_value (fun vs H Q E h => ?_) (fun cdv B outer s H vs Q E hr h => ?_)
    · obtain ⟨v, f, t, kvs, rfl, _⟩ := h
      rfl
    · obtain ⟨v, f, t, kvs, rfl, ht, hwf, hd, hf, hfo, q⟩ := h
      refine ⟨_, (pss_cons (ps_if (pt_cmpR op_eq (pe_ix ix_tup (pv 0) pe_int (fun _ _ => rfl)) pe_str (nomark _)) (pss_one (ps_ret (pe_call (ok_law_bounded T) (hr.mono (by omega)) rfl T.g_law_bounded T.F_law_bounded.kp T.b_law_bounded .nil pass0 (pa_cons (pe_ix ix_tup (pv 0) pe_int (fun _ _ => rfl)) pa_nil)))) pss_nil)
    (pss_cons (ps_if (PW.pt (pw_or (pt_cmpR op_eq (pe_callB len_seq (by rfl) T.n_len (by decide +kernel) (pa_cons (pv 0) pa_nil)) pe_int (nomark _)) (pw_or1 (pt_val (pe_callB call_isi (by rfl) T.n_isinstance (by decide +kernel) (pa_cons (pe_ix ix_tup (pv 0) pe_int (fun _ _ => rfl)) (pa_cons (pe_bltn (v := .ty "str") (u := .type "str") (by rfl) T.n_str (by decide +kernel) rfl) pa_nil))))))) (pss_one (ps_ret (pe_call (ok_law_bounded T) (hr.mono (by omega)) rfl T.g_law_bounded T.F_law_bounded.kp T.b_law_bounded .nil pass0 (pa_cons (pe_dget1 (hu_of hr) (pv 1) (pv 0) ⟨rfl, rfl, rfl, rfl⟩) pa_nil)))) pss_nil)
    (pss_cons (ps_setLc (i := 3) (own := [("_law_part", 2)]) rfl sc_law_value.nd rfl rfl (sw_true rfl rfl rfl (by decide +kernel)) (pi_tup (pe_slice sl_tupA (pv 0) (po_some pe_int) po_none)) (blkOk_by (own := [("_law_part", 2)]) (N := N_law_value) (sc := defScope s_law_value) (by decide +kernel)) (fun _ _ _ _ _ => pg_name (i := 2) sc_law_value.nd rfl (Or.inl rfl)) (fun _ _ _ _ _ => pts_nil) (fun _ _ _ _ _ => by exact (pe_call G0 (hr.mono (by omega)) rfl T.g_law_value T.F_law_value.kp T.b_law_value .nil pass0 (pa_cons (pv 2) (pa_cons (pv 1) pa_nil)))))
    (pss_cons (ps_if (pt_cmpR op_in_seq pe_non (pv 3) (by rfl)) (pss_one (ps_ret pe_non)) pss_nil)
    (pss_cons (ps_if (pt_cmpR op_eq (pe_ix ix_tup (pv 0) pe_int (fun _ _ => rfl)) pe_str (nomark _)) (pss_one (ps_ret (pe_callTy call_int1 (by rfl) T.n_int (by decide +kernel) (pa_cons (pe_cmpR op_eq (pe_ix ix_list (pv 3) pe_int (fun _ _ => rfl)) pe_int (nomark _)) pa_nil)))) pss_nil)
    (pss_cons (ps_if (pt_cmpR op_eq (pe_ix ix_tup (pv 0) pe_int (fun _ _ => rfl)) pe_str (nomark _)) (pss_one (ps_ret (pe_un un_neg (pe_ix ix_list (pv 3) pe_int (fun _ _ => rfl))))) pss_nil)
    (pss_one (ps_ret (pe_call (ok_law_bounded T) (hr.mono (by omega)) rfl T.g_law_bounded T.F_law_bounded.kp T.b_law_bounded .nil pass0 (pa_cons (pe_call (ok_law_pair T) (hr.mono (by omega)) rfl T.g_law_pair T.F_law_pair.kp T.b_law_pair .nil pass0 (pa_cons (pe_ix ix_tup (pv 0) pe_int (fun _ _ => rfl)) (pa_cons (pe_ix ix_list (pv 3) pe_int (fun _ _ => rfl)) (pa_cons (pe_ix ix_list (pv 3) pe_int (fun _ _ => rfl)) pa_nil)))) pa_nil)))))))))), ?_⟩
      cases t with
      | num m =>
        obtain ⟨p, rfl, hp⟩ := ht
        refine ⟨_, rfl, p, _, 0, _, rfl, rfl, SqT.of hp, atI_nat (j := 0) rfl, rfl, _, rfl, ifT (decide_eq_true rfl) ?_⟩
        exact ⟨_, rfl, p, _, 1, _, rfl, rfl, SqT.of hp, atI_nat (j := 1) rfl, some m, rfl, q _ (Same.refl _)⟩
      | one x =>
        obtain ⟨p, rfl, hp⟩ := ht
        refine ⟨_, rfl, p, _, 0, _, rfl, rfl, SqT.of hp, atI_nat (j := 0) rfl, rfl, _, rfl, ifF (one_not x hwf) ?_⟩
        refine ⟨_, rfl, p, _, rfl, .inr (SqT.of hp), rfl, _, rfl, ifT rfl (ifT rfl ?_)⟩
        refine ⟨_, rfl, f, rfl, .inr ⟨kvs, .inl hf⟩, _, rfl, _, DGet.t (k := [.inr x]) hf hp, ?_⟩
        rw [lk_get hfo]
        exact ⟨_, rfl, q _ (Same.refl _)⟩
      | two x y =>
        obtain ⟨p, rfl, hp⟩ := ht
        refine ⟨_, rfl, p, _, 0, _, rfl, rfl, SqT.of hp, atI_nat (j := 0) rfl, rfl, _, rfl, ifF (two_not x hwf.1) ?_⟩
        refine ⟨_, rfl, p, _, rfl, .inr (SqT.of hp), rfl, _, rfl, ifF rfl ?_⟩
        refine ⟨_, rfl, p, _, 1, _, rfl, rfl, SqT.of hp, atI_nat (j := 1) rfl, .str y, .ty "str", _, _, _, rfl, .ty "str", dp_ty (K := K) (.str y), kit_ty (kitT _ (dp_tn (K := K) (H := H) (.str y)) "str" (by decide)), _, rfl, ifT rfl ?_⟩
        refine ⟨_, rfl, f, rfl, .inr ⟨kvs, .inl hf⟩, _, rfl, _, DGet.t (k := [.inr x, .inr y]) hf hp, ?_⟩
        rw [lk_get hfo]
        exact ⟨_, rfl, q _ (Same.refl _)⟩
      | un op t =>
        obtain ⟨p, u, rfl, hp, hu⟩ := ht
        obtain ⟨on1, on2, on3⟩ := op_not op (.inl hwf.1)
        refine ⟨_, rfl, p, _, 0, _, rfl, rfl, SqT.of hp, atI_nat (j := 0) rfl, rfl, _, rfl, ifF on1 ?_⟩
        refine ⟨_, rfl, p, _, rfl, .inr (SqT.of hp), rfl, _, rfl, ifF rfl ?_⟩
        have hdu := (dx_tr (K := K) hu).dp
        refine ⟨_, rfl, p, _, 1, _, rfl, rfl, SqT.of hp, atI_nat (j := 1) rfl, u, .ty "str", _, _, _, rfl, .ty "str", dp_ty hdu, kit_ty (kitT _ (dp_tn hdu) "str" (by decide)), _, rfl, ?_⟩
        rw [tn_tr]
        refine ifF rfl ?_
        unfold tNoPart
        refine ⟨_, rfl, _, rfl, slA_of (SqT.of hp) fun p2 H2 s2 e2 => ?_⟩
        have e2' : SqT K H2 p2 [u] := by
          have := cutV_lo (xs := V.str op :: [u]) 1
          rw [show cutV (V.str op :: [u]) (some 1) none = [u] from this] at e2
          exact e2
        have s02 := s2
        refine ⟨p2, rfl, ⟨_, e2'⟩, fun D nD => ?_⟩
        have hps : ∀ i (h : i < [t].length), ∃ v, [u][i]? = some v ∧ TrK H2 v (([t] : List Tr)[i]) ∧ Wf (([t] : List Tr)[i]) ∧ dep (([t] : List Tr)[i]) < n := fun i h => by
          have : i = 0 := by have : i < 1 := h; omega
          subst this
          exact ⟨u, rfl, hu.ups s02, hwf.2, by have : dep t + 1 < n + 1 := hd; show dep t < n; omega⟩
        refine lc_vals (walk_tup (K := K) (a := p2) (xs := [u])) (fun i v => [u][i]? = some v) (fun i => optI (val kvs ([t].getD i (.num 0)))) nD (fun H4 s4 => sqT_up e2' s4) (by simp only [List.length_cons, List.length_nil, List.length_map]; omega) (fun i H1 v H2 hi y => y) (fun i v H4 hi sm hv Q q => ?_) (fun H4 s4 e4 => ?_)
        · obtain ⟨v', h1, h2, h3, h4⟩ := hps i hi
          rw [hv] at h1
          cases h1
          have hgd : [t].getD i (.num 0) = ([t] : List Tr)[i] := getD_at (l := [t]) hi
          rw [hgd] at q
          exact ⟨_, rfl, _, rfl, v, f, ([t] : List Tr)[i], kvs, rfl, h2.ups sm, h3, h4, sm _ _ (s02 _ _ hf), hfo, q⟩
        have e5 : H4 D = some (.lst ([t].map fun t => optI (val kvs t))) := by
          rw [e4]
          exact congrArg (fun x => some (HO.lst x)) (range_getD (fun t => optI (val kvs t)) (.num 0) [t])
        have s04 := s02.trans s4
        have hvu : val kvs (.un op t) = (match val kvs t with | none => none | some v => some (unO op v)) := rfl
        rw [hvu] at q
        cases hv : val kvs t with
        | none =>
          rw [hv] at q
          have e8 : H4 D = some (.lst [.non]) := by
            rw [e5]
            show some (HO.lst [optI (val kvs t)]) = _
            rw [hv]
            rfl
          refine ⟨_, rfl, D, [.non], rfl, .inl (SqL.of e8), rfl, rfl, _, rfl, ?_⟩
          rw [if_neg Bool.false_ne_true]
          exact ifT rfl (q _ s04)
        | some v =>
          rw [hv] at q
          have e8 : H4 D = some (.lst [.int v]) := by
            rw [e5]
            show some (HO.lst [optI (val kvs t)]) = _
            rw [hv]
            rfl
          refine ⟨_, rfl, D, [.int v], rfl, .inl (SqL.of e8), rfl, rfl, _, rfl, ?_⟩
          rw [if_neg Bool.false_ne_true]
          refine ifF rfl ?_
          have q : Q (optI (some (unO op v))) H4 := q H4 s04
          unfold unO at q
          refine ⟨_, rfl, p, _, 0, _, rfl, rfl, SqT.of (s04 _ _ hp), atI_nat (j := 0) rfl, rfl, _, rfl, ?_⟩
          show if isS op "not" = true then _ else _
          refine ite2 (fun c => ?_) (fun c => ?_)
          · have hm : ¬ isS op "minus" = true := by rw [str_eq c]; decide +kernel
            rw [if_neg hm] at q
            exact ⟨_, rfl, D, _, 0, _, rfl, rfl, SqL.of e8, atI_nat (j := 0) rfl, rfl, .inr ⟨_, rfl, q⟩⟩
          · have hm : isS op "minus" = true := hwf.1.elim (fun z => absurd z c) id
            rw [if_pos hm] at q
            refine ⟨_, rfl, p, _, 0, _, rfl, rfl, SqT.of (s04 _ _ hp), atI_nat (j := 0) rfl, rfl, _, rfl, ?_⟩
            show if isS op "minus" = true then _ else _
            rw [if_pos hm]
            exact ⟨_, rfl, D, _, 0, _, rfl, rfl, SqL.of e8, atI_nat (j := 0) rfl, v, rfl, q⟩
      | bin op a b =>
        obtain ⟨p, u1, u2, rfl, hp, hu1, hu2⟩ := ht
        obtain ⟨on1, on2, on3⟩ := op_not op (.inr hwf.1)
        refine ⟨_, rfl, p, _, 0, _, rfl, rfl, SqT.of hp, atI_nat (j := 0) rfl, rfl, _, rfl, ifF on1 ?_⟩
        refine ⟨_, rfl, p, _, rfl, .inr (SqT.of hp), rfl, _, rfl, ifF rfl ?_⟩
        have hdu := (dx_tr (K := K) hu1).dp
        refine ⟨_, rfl, p, _, 1, _, rfl, rfl, SqT.of hp, atI_nat (j := 1) rfl, u1, .ty "str", _, _, _, rfl, .ty "str", dp_ty hdu, kit_ty (kitT _ (dp_tn hdu) "str" (by decide)), _, rfl, ?_⟩
        rw [tn_tr]
        refine ifF rfl ?_
        unfold tNoPart
        refine ⟨_, rfl, _, rfl, slA_of (SqT.of hp) fun p2 H2 s2 e2 => ?_⟩
        have e2' : SqT K H2 p2 [u1, u2] := by
          have := cutV_lo (xs := V.str op :: [u1, u2]) 1
          rw [show cutV (V.str op :: [u1, u2]) (some 1) none = [u1, u2] from this] at e2
          exact e2
        have s02 := s2
        refine ⟨p2, rfl, ⟨_, e2'⟩, fun D nD => ?_⟩
        have hps : ∀ i (h : i < [a, b].length), ∃ v, [u1, u2][i]? = some v ∧ TrK H2 v (([a, b] : List Tr)[i]) ∧ Wf (([a, b] : List Tr)[i]) ∧ dep (([a, b] : List Tr)[i]) < n := fun i h => by
          have hdd : max (dep a) (dep b) + 1 < n + 1 := hd
          have : i = 0 ∨ i = 1 := by have : i < 2 := h; omega
          rcases this with z | z
          · subst z
            exact ⟨u1, rfl, hu1.ups s02, hwf.2.1, by show dep a < n; omega⟩
          · subst z
            exact ⟨u2, rfl, hu2.ups s02, hwf.2.2, by show dep b < n; omega⟩
        refine lc_vals (walk_tup (K := K) (a := p2) (xs := [u1, u2])) (fun i v => [u1, u2][i]? = some v) (fun i => optI (val kvs ([a, b].getD i (.num 0)))) nD (fun H4 s4 => sqT_up e2' s4) (by simp only [List.length_cons, List.length_nil, List.length_map]; omega) (fun i H1 v H2 hi y => y) (fun i v H4 hi sm hv Q q => ?_) (fun H4 s4 e4 => ?_)
        · obtain ⟨v', h1, h2, h3, h4⟩ := hps i hi
          rw [hv] at h1
          cases h1
          have hgd : [a, b].getD i (.num 0) = ([a, b] : List Tr)[i] := getD_at (l := [a, b]) hi
          rw [hgd] at q
          exact ⟨_, rfl, _, rfl, v, f, ([a, b] : List Tr)[i], kvs, rfl, h2.ups sm, h3, h4, sm _ _ (s02 _ _ hf), hfo, q⟩
        have e5 : H4 D = some (.lst ([a, b].map fun t => optI (val kvs t))) := by
          rw [e4]
          exact congrArg (fun x => some (HO.lst x)) (range_getD (fun t => optI (val kvs t)) (.num 0) [a, b])
        have s04 := s02.trans s4
        have hvb : val kvs (.bin op a b) = (match val kvs a, val kvs b with | some x, some y => bnd (resO op x y) | _, _ => none) := rfl
        rw [hvb] at q
        cases hva : val kvs a with
        | none =>
          cases hvb2 : val kvs b with
          | none =>
            rw [hva, hvb2] at q
            have e8 : H4 D = some (.lst [.non, .non]) := by
              rw [e5]
              show some (HO.lst [optI (val kvs a), optI (val kvs b)]) = _
              rw [hva, hvb2]
              rfl
            refine ⟨_, rfl, D, [.non, .non], rfl, .inl (SqL.of e8), rfl, rfl, _, rfl, ?_⟩
            rw [if_neg Bool.false_ne_true]
            exact ifT rfl (q _ s04)
          | some y =>
            rw [hva, hvb2] at q
            have e8 : H4 D = some (.lst [.non, .int y]) := by
              rw [e5]
              show some (HO.lst [optI (val kvs a), optI (val kvs b)]) = _
              rw [hva, hvb2]
              rfl
            refine ⟨_, rfl, D, [.non, .int y], rfl, .inl (SqL.of e8), rfl, rfl, _, rfl, ?_⟩
            rw [if_neg Bool.false_ne_true]
            exact ifT rfl (q _ s04)
        | some x =>
          cases hvb2 : val kvs b with
          | none =>
            rw [hva, hvb2] at q
            have e8 : H4 D = some (.lst [.int x, .non]) := by
              rw [e5]
              show some (HO.lst [optI (val kvs a), optI (val kvs b)]) = _
              rw [hva, hvb2]
              rfl
            refine ⟨_, rfl, D, [.int x, .non], rfl, .inl (SqL.of e8), rfl, rfl, _, rfl, ?_⟩
            rw [if_neg Bool.false_ne_true]
            exact ifT rfl (q _ s04)
          | some y =>
            rw [hva, hvb2] at q
            have e8 : H4 D = some (.lst [.int x, .int y]) := by
              rw [e5]
              show some (HO.lst [optI (val kvs a), optI (val kvs b)]) = _
              rw [hva, hvb2]
              rfl
            refine ⟨_, rfl, D, [.int x, .int y], rfl, .inl (SqL.of e8), rfl, rfl, _, rfl, ?_⟩
            rw [if_neg Bool.false_ne_true]
            refine ifF rfl ?_
            obtain ⟨hb1, hb2⟩ := bin_un hwf.1
            refine ⟨_, rfl, p, _, 0, _, rfl, rfl, SqT.of (s04 _ _ hp), atI_nat (j := 0) rfl, rfl, _, rfl, ifF hb1 ?_⟩
            refine ⟨_, rfl, p, _, 0, _, rfl, rfl, SqT.of (s04 _ _ hp), atI_nat (j := 0) rfl, rfl, _, rfl, ifF hb2 ?_⟩
            refine ⟨_, rfl, p, _, 0, _, rfl, rfl, SqT.of (s04 _ _ hp), atI_nat (j := 0) rfl, _, rfl, D, _, 0, _, rfl, rfl, SqL.of e8, atI_nat (j := 0) rfl, _, rfl, D, _, 1, _, rfl, rfl, SqL.of e8, atI_nat (j := 1) rfl, op, x, y, rfl, val_sm hva, val_sm hvb2, ?_⟩
            rw [pairO_eq hwf.1]
            exact ⟨_, rfl, q _ s04⟩
end
end R1

namespace R1
open PySem PySem.Spec PyProof.Rows L2 RK
local macro_rules | `(tactic| walk_at "sq") => `(tactic| first
  | exact SqL.of upd_same | exact upd_same | exact SqL.of (by assumption) | exact SqL.of (by rw [upd_ne (by assumption)]; assumption) | assumption)
local macro_rules | `(tactic| walk_at "sd") => `(tactic| first
  | assumption | omega | (refine Or.inl ⟨?_, ?_⟩ <;> omega) | (show _ ∧ _; constructor <;> omega) | (show _ ≠ _; simp; omega) | (exact Or.inl ⟨by decide, by decide⟩) | (exact Or.inr ⟨by decide, by decide⟩) | (show _ < _; decide) | (show _ ≤ _; decide))
local macro_rules | `(tactic| walk_at "at") => `(tactic| first | rfl | (refine atI_intV ?_ ?_ <;> omega) | assumption)
local macro_rules | `(tactic| walk_at "s1") => `(tactic| first
  | refine ⟨_, rfl, ?_⟩ | refine ⟨_, _, rfl, rfl, ?_⟩ | refine ⟨rfl, ?_⟩
  | refine ⟨_, _, _, _, rfl, rfl, by walk_at "sq", by walk_at "at", ?_⟩
  | refine Or.inl ⟨_, rfl, ?_⟩
  | refine ⟨_, _, rfl, Or.inl (by walk_at "sq"), ?_⟩
  | refine And.intro (by walk_at "sd") ?_)
local macro_rules | `(tactic| walk_at "s") => `(tactic| repeat walk_at "s1")

def spNum : Sp := fun vs H Q _ => ∃ (c p : Addr), vs = [.ref p] ∧ Src c H p ∧ ∀ H' (n : Int), Src c H' p → But p H H' → Q (.int n) H'
def spWorth : Sp := fun vs H Q _ => ∃ (c p : Addr), vs = [.ref p] ∧ Src c H p ∧ ∀ H' (o : Option Int), Src c H' p → But p H H' → Q (optI o) H'
def WDS : List V := ([.str (Str.ofString "or"), .str (Str.ofString "and"), .str (Str.ofString "not"), .str (Str.ofString "mod"), .str (Str.ofString "home"), .str (Str.ofString "confirms")] : List V) ++ FCT
def spWords : Sp := fun vs H Q _ => vs = [] ∧ ∀ H' l, Same H H' → H l = none → H' l = some (.lst WDS) → Q (.ref l) H'
def spMenu : Sp := fun vs H Q _ => ∃ (c p : Addr), vs = [.ref p] ∧ Src c H p ∧ ∀ H' l (ms : List Str), Src c H' p → But p H H' → H' l = some (.lst (ms.map V.str)) → 0 < ms.length → ms.length ≤ 20 → (∀ m ∈ ms, BinO m) → Q (.ref l) H'
theorem src_tup {c p b : Addr} {H H' : Hp} {o : List V} (h : Src c H p) (bt : But p H H') (e : H b = some (.tup o)) : H' b = some (.tup o) := bt _ _ (fun z => by
  obtain ⟨_, _, _, _, _, y, _⟩ := h
  rw [← z, e] at y
  cases y) e
section
variable {P : Program} {w : World} {K : PySem.W.Frag} {mg : Str → Option Value} {base : Heap} {A : Ads}
theorem ok_law_number (T : Txt K mg A) : FnOk P w K mg base CX0 2 A.a_law_number A.d_law_number ["_law_source_here"] spNum := by
  refine T.F_law_number.ok sc_law_number (fun vs H Q E h => ?_) (fun cdv B outer s H vs Q E hr h => ?_)
  · obtain ⟨c, p, rfl, _⟩ := h
    rfl
  · obtain ⟨c, p, rfl, hs, q⟩ := h
    refine ⟨_, (pss_cons (ps_set (i := 1) sc_law_number.nd rfl (.inl rfl) (pe_call (ok_law_draw T) (hr.mono (by omega)) rfl T.g_law_draw T.F_law_draw.kp T.b_law_draw .nil pass0 (pa_cons (pv 0) (pa_cons pe_int pa_nil))))
    (pss_cons (ps_if (pt_cmpR op_eq (pv 1) pe_int (nomark _)) (pss_one (ps_ret (pe_ix ix_tup (pe_tup (pa_cons pe_int (pa_cons pe_int (pa_cons pe_int (pa_cons pe_int (pa_cons pe_int pa_nil)))))) (pe_call (ok_law_draw T) (hr.mono (by omega)) rfl T.g_law_draw T.F_law_draw.kp T.b_law_draw .nil pass0 (pa_cons (pv 0) (pa_cons pe_int pa_nil))) (fun _ _ => rfl)))) pss_nil)
    (pss_cons (ps_if (pt_cmpR op_lt (pv 1) pe_int (nomark _)) (pss_one (ps_ret (pe_call (ok_law_draw T) (hr.mono (by omega)) rfl T.g_law_draw T.F_law_draw.kp T.b_law_draw .nil pass0 (pa_cons (pv 0) (pa_cons pe_int pa_nil))))) pss_nil)
    (pss_one (ps_ret (pe_call (ok_law_draw T) (hr.mono (by omega)) rfl T.g_law_draw T.F_law_draw.kp T.b_law_draw .nil pass0 (pa_cons (pv 0) (pa_cons pe_int pa_nil)))))))), ?_⟩
    refine ⟨_, rfl, c, p, 5, rfl, hs, by decide, by decide, fun H1 w1 lw hs1 b1 => ?_⟩
    refine ⟨_, rfl, rfl, _, rfl, ite2 (fun e => ?_) (fun e => ?_)⟩
    · refine ⟨lenOk (n := 5) rfl (by decide), fun tp ntp => ?_⟩
      have s2 := same_new (o := .tup [V.int 0, V.int 1, V.int 10, V.int 999999999, V.int 1000000000]) ntp
      refine ⟨_, rfl, c, p, 5, rfl, src_up hs1 s2, by decide, by decide, fun H2 k lk hs2 b2 => ?_⟩
      obtain ⟨n, hat⟩ : ∃ n : Int, atI [V.int 0, V.int 1, V.int 10, V.int 999999999, V.int 1000000000] (k : Int) = some (.int n) := by
        match k, lk with
        | 0, _ => exact ⟨_, rfl⟩
        | 1, _ => exact ⟨_, rfl⟩
        | 2, _ => exact ⟨_, rfl⟩
        | 3, _ => exact ⟨_, rfl⟩
        | 4, _ => exact ⟨_, rfl⟩
        | n + 5, h => exact absurd h (by omega)
      have tp2 := src_tup (src_up hs1 s2) b2 (show (upd H1 tp (.tup [V.int 0, V.int 1, V.int 10, V.int 999999999, V.int 1000000000])) tp = some (.tup [V.int 0, V.int 1, V.int 10, V.int 999999999, V.int 1000000000]) from upd_same)
      exact ⟨tp, _, _, _, rfl, rfl, SqT.of tp2, hat, q _ n hs2 ((b1.trans (But.of s2)).trans b2)⟩
    refine ⟨_, rfl, _, _, rfl, rfl, _, rfl, ite2 (fun e => ?_) (fun e => ?_)⟩
    · exact ⟨_, rfl, c, p, 100, rfl, hs1, by decide, by decide, fun H2 k lk hs2 b2 => q _ _ hs2 (b1.trans b2)⟩
    · exact ⟨_, rfl, c, p, 1000000001, rfl, hs1, by decide, by decide, fun H2 k lk hs2 b2 => q _ _ hs2 (b1.trans b2)⟩
theorem ok_law_worth (T : Txt K mg A) : FnOk P w K mg base CX0 2 A.a_law_worth A.d_law_worth ["_law_source_here"] spWorth := by
  refine T.F_law_worth.ok sc_law_worth (fun vs H Q E h => ?_) (fun cdv B outer s H vs Q E hr h => ?_)
  · obtain ⟨c, p, rfl, _⟩ := h
    rfl
  · obtain ⟨c, p, rfl, hs, q⟩ := h
    refine ⟨_, (pss_cons (ps_set (i := 1) sc_law_worth.nd rfl (.inl rfl) (pe_call (ok_law_draw T) (hr.mono (by omega)) rfl T.g_law_draw T.F_law_draw.kp T.b_law_draw .nil pass0 (pa_cons (pv 0) (pa_cons pe_int pa_nil))))
    (pss_cons (ps_if (pt_cmpR op_eq (pv 1) pe_int (nomark _)) (pss_one (ps_ret (pe_ix ix_tup (pe_tup (pa_cons pe_non (pa_cons pe_int (pa_cons pe_int (pa_cons (pe_un un_neg pe_int) (pa_cons pe_int (pa_cons (pe_un un_neg pe_int) (pa_cons pe_int (pa_cons (pe_un un_neg pe_int) pa_nil))))))))) (pe_call (ok_law_draw T) (hr.mono (by omega)) rfl T.g_law_draw T.F_law_draw.kp T.b_law_draw .nil pass0 (pa_cons (pv 0) (pa_cons pe_int pa_nil))) (fun _ _ => rfl)))) pss_nil)
    (pss_cons (ps_if (pt_cmpR op_lt (pv 1) pe_int (nomark _)) (pss_one (ps_ret (pe_op op_sub (pe_call (ok_law_draw T) (hr.mono (by omega)) rfl T.g_law_draw T.F_law_draw.kp T.b_law_draw .nil pass0 (pa_cons (pv 0) (pa_cons pe_int pa_nil))) pe_int))) pss_nil)
    (pss_one (ps_ret (pe_op op_sub (pe_call (ok_law_draw T) (hr.mono (by omega)) rfl T.g_law_draw T.F_law_draw.kp T.b_law_draw .nil pass0 (pa_cons (pv 0) (pa_cons pe_int pa_nil))) pe_int)))))), ?_⟩
    refine ⟨_, rfl, c, p, 6, rfl, hs, by decide, by decide, fun H1 w1 lw hs1 b1 => ?_⟩
    refine ⟨_, rfl, rfl, _, rfl, ite2 (fun e => ?_) (fun e => ?_)⟩
    · refine ⟨_, rfl, _, rfl, _, rfl, lenOk (n := 8) rfl (by decide), fun tp ntp => ?_⟩
      have s2 := same_new (o := .tup [V.non, V.int 0, V.int 1, V.int (-1), V.int 1000000000, V.int (-1000000000), V.int 1000000001, V.int (-1000000001)]) ntp
      refine ⟨_, rfl, c, p, 8, rfl, src_up hs1 s2, by decide, by decide, fun H2 k lk hs2 b2 => ?_⟩
      obtain ⟨o, hat⟩ : ∃ o : Option Int, atI [V.non, V.int 0, V.int 1, V.int (-1), V.int 1000000000, V.int (-1000000000), V.int 1000000001, V.int (-1000000001)] (k : Int) = some (optI o) := by
        match k, lk with
        | 0, _ => exact ⟨none, rfl⟩
        | 1, _ => exact ⟨some _, rfl⟩
        | 2, _ => exact ⟨some _, rfl⟩
        | 3, _ => exact ⟨some _, rfl⟩
        | 4, _ => exact ⟨some _, rfl⟩
        | 5, _ => exact ⟨some _, rfl⟩
        | 6, _ => exact ⟨some _, rfl⟩
        | 7, _ => exact ⟨some _, rfl⟩
        | n + 8, h => exact absurd h (by omega)
      have tp2 := src_tup (src_up hs1 s2) b2 (show (upd H1 tp (.tup [V.non, V.int 0, V.int 1, V.int (-1), V.int 1000000000, V.int (-1000000000), V.int 1000000001, V.int (-1000000001)])) tp = some (.tup [V.non, V.int 0, V.int 1, V.int (-1), V.int 1000000000, V.int (-1000000000), V.int 1000000001, V.int (-1000000001)]) from upd_same)
      exact ⟨tp, _, _, _, rfl, rfl, SqT.of tp2, hat, q _ o hs2 ((b1.trans (But.of s2)).trans b2)⟩
    refine ⟨_, rfl, _, _, rfl, rfl, _, rfl, ite2 (fun e => ?_) (fun e => ?_)⟩
    · exact ⟨_, rfl, c, p, 41, rfl, hs1, by decide, by decide, fun H2 k lk hs2 b2 => ⟨_, _, rfl, rfl, q _ (some _) hs2 (b1.trans b2)⟩⟩
    · exact ⟨_, rfl, c, p, 2000000001, rfl, hs1, by decide, by decide, fun H2 k lk hs2 b2 => ⟨_, _, rfl, rfl, q _ (some _) hs2 (b1.trans b2)⟩⟩
theorem ok_law_words (T : Txt K mg A) : FnOk P w K mg base CX0 1 A.a_law_words A.d_law_words [] spWords := by
  refine T.F_law_words.ok sc_law_words (fun vs H Q E h => ?_) (fun cdv B outer s H vs Q E hr h => ?_)
  · rw [h.1]
    rfl
  · obtain ⟨rfl, q⟩ := h
    refine ⟨_, (pss_cons (ps_set (i := 0) sc_law_words.nd rfl (.inl rfl) (pe_lst (pa_cons pe_str (pa_cons pe_str (pa_cons pe_str (pa_cons pe_str (pa_cons pe_str (pa_cons pe_str (pa_cons pe_str (pa_cons pe_str (pa_cons pe_str (pa_cons pe_str (pa_cons pe_str (pa_cons pe_str (pa_cons pe_str (pa_cons pe_str pa_nil))))))))))))))))
    (pss_one (ps_ret (pe_op op_cat (pv 0) (pe_lst (pa_cons pe_str (pa_cons pe_str (pa_cons pe_str (pa_cons pe_str (pa_cons pe_str pa_nil)))))))))), ?_⟩
    refine ⟨lenOk (n := 14) rfl (by decide), fun l1 n1 => ?_⟩
    generalize hH1 : upd H l1 _ = H1
    have s1 : Same H H1 := by rw [← hH1]; exact same_new n1
    have e1 : H1 l1 = some (.lst (WDS.take 14)) := by rw [← hH1]; exact upd_same
    clear hH1
    refine ⟨_, rfl, lenOk (n := 5) rfl (by decide), fun l2 n2 => ?_⟩
    generalize hH2 : upd H1 l2 _ = H2
    have s2 : Same H1 H2 := by rw [← hH2]; exact same_new n2
    have e2 : H2 l2 = some (.lst (WDS.drop 14)) := by rw [← hH2]; exact upd_same
    clear hH2
    refine ⟨l1, l2, WDS.take 14, WDS.drop 14, rfl, rfl, s2 _ _ e1, e2, by decide +kernel, fun l3 n3 => ?_⟩
    have nH : H l3 = none := by
      cases hh : H l3 with
      | none => rfl
      | some o => rw [s2 _ _ (s1 _ _ hh)] at n3; cases n3
    exact q _ l3 ((s1.trans s2).trans (same_new n3)) nH upd_same
theorem ok_law_menu (T : Txt K mg A) : FnOk P w K mg base CX0 2 A.a_law_menu A.d_law_menu ["_law_source_here"] spMenu := by
  refine T.F_law_menu.ok sc_law_menu (fun vs H Q E h => ?_) (fun cdv B outer s H vs Q E hr h => ?_)
  · obtain ⟨c, p, rfl, _⟩ := h
    rfl
  · obtain ⟨c, p, rfl, hs, q⟩ := h
    refine ⟨_, (pss_cons (ps_set (i := 1) sc_law_menu.nd rfl (.inl rfl) (pe_call (ok_law_draw T) (hr.mono (by omega)) rfl T.g_law_draw T.F_law_draw.kp T.b_law_draw .nil pass0 (pa_cons (pv 0) (pa_cons pe_int pa_nil))))
    (pss_cons (ps_if (pt_cmpR op_eq (pv 1) pe_int (nomark _)) (pss_one (ps_ret (pe_lst (pa_cons pe_str (pa_cons pe_str (pa_cons pe_str (pa_cons pe_str (pa_cons pe_str (pa_cons pe_str (pa_cons pe_str (pa_cons pe_str (pa_cons pe_str (pa_cons pe_str (pa_cons pe_str (pa_cons pe_str (pa_cons pe_str pa_nil)))))))))))))))) pss_nil)
    (pss_cons (ps_if (pt_cmpR op_eq (pv 1) pe_int (nomark _)) (pss_one (ps_ret (pe_lst (pa_cons pe_str (pa_cons pe_str (pa_cons pe_str (pa_cons pe_str (pa_cons pe_str pa_nil)))))))) pss_nil)
    (pss_cons (ps_if (pt_cmpR op_eq (pv 1) pe_int (nomark _)) (pss_one (ps_ret (pe_lst (pa_cons pe_str (pa_cons pe_str (pa_cons pe_str pa_nil)))))) pss_nil)
    (pss_one (ps_ret (pe_lst (pa_cons pe_str (pa_cons pe_str (pa_cons pe_str (pa_cons pe_str (pa_cons pe_str (pa_cons pe_str pa_nil))))))))))))), ?_⟩
    refine ⟨_, rfl, c, p, 4, rfl, hs, by decide, by decide, fun H1 w1 lw hs1 b1 => ?_⟩
    have fin : ∀ (ss : List String), 0 < ss.length → ss.length ≤ 20 → (∀ s ∈ ss, inV (.str (Str.ofString s)) BOPS = true) → ∀ l, H1 l = none → Q (.ref l) (upd H1 l (.lst ((ss.map Str.ofString).map V.str))) := fun ss h1 h2 h3 l hl => by
      refine q _ l (ss.map Str.ofString) (src_up hs1 (same_new hl)) (b1.trans (But.of (same_new hl))) upd_same (by rw [List.length_map]; exact h1) (by rw [List.length_map]; exact h2) (fun m hm => ?_)
      obtain ⟨s, hs, rfl⟩ := List.mem_map.mp hm
      exact h3 s hs
    refine ⟨_, rfl, rfl, _, rfl, ite2 (fun e => ?_) (fun e => ?_)⟩
    · exact ⟨lenOk (n := 13) rfl (by decide), fun l hl => fin ["or", "and", "<", "<=", "=", "<>", ">", ">=", "+", "-", "*", "/", "mod"] (by decide) (by decide) (by decide +kernel) l hl⟩
    refine ⟨_, rfl, rfl, _, rfl, ite2 (fun e => ?_) (fun e => ?_)⟩
    · exact ⟨lenOk (n := 5) rfl (by decide), fun l hl => fin ["+", "-", "*", "/", "mod"] (by decide) (by decide) (by decide +kernel) l hl⟩
    refine ⟨_, rfl, rfl, _, rfl, ite2 (fun e => ?_) (fun e => ?_)⟩
    · exact ⟨lenOk (n := 3) rfl (by decide), fun l hl => fin ["-", "/", "-"] (by decide) (by decide) (by decide +kernel) l hl⟩
    · exact ⟨lenOk (n := 6) rfl (by decide), fun l hl => fin ["or", "and", "<", "=", ">=", "-"] (by decide) (by decide) (by decide +kernel) l hl⟩
end
end R1

namespace R1
open PySem PySem.Spec PyProof.Rows L2 RK
local macro_rules | `(tactic| walk_at "sq") => `(tactic| first
  | exact SqL.of upd_same | exact upd_same | exact SqL.of (by assumption) | exact SqL.of (by rw [upd_ne (by assumption)]; assumption) | assumption)
local macro_rules | `(tactic| walk_at "sd") => `(tactic| first
  | assumption | omega | (refine Or.inl ⟨?_, ?_⟩ <;> omega) | (show _ ∧ _; constructor <;> omega) | (show _ ≠ _; simp; omega) | (exact Or.inl ⟨by decide, by decide⟩) | (exact Or.inr ⟨by decide, by decide⟩) | (show _ < _; decide) | (show _ ≤ _; decide))
local macro_rules | `(tactic| walk_at "at") => `(tactic| first | rfl | (refine atI_intV ?_ ?_ <;> omega) | assumption)
local macro_rules | `(tactic| walk_at "s1") => `(tactic| first
  | refine ⟨_, rfl, ?_⟩ | refine ⟨_, _, rfl, rfl, ?_⟩ | refine ⟨rfl, ?_⟩
  | refine ⟨_, _, _, _, rfl, rfl, by walk_at "sq", by walk_at "at", ?_⟩
  | refine Or.inl ⟨_, rfl, ?_⟩
  | refine ⟨_, _, rfl, Or.inl (by walk_at "sq"), ?_⟩
  | refine And.intro (by walk_at "sd") ?_)
local macro_rules | `(tactic| walk_at "s") => `(tactic| repeat walk_at "s1")

def StrsK (H : Hp) (l : Addr) (n k : Nat) : Prop := ∃ ss : List Str, H l = some (.lst (ss.map V.str)) ∧ ss.length = n ∧ ∀ s ∈ ss, s.length ≤ k ∧ SO s
def spNames : Sp := fun vs H Q _ => ∃ (c p : Addr) (n : Nat), vs = [.ref p, .int (n : Int)] ∧ Src c H p ∧ n ≤ 20 ∧ ∀ H' l, Src c H' p → But p H H' → StrsK H' l n 60 → Q (.ref l) H'
def spName : Sp := fun vs H Q _ => ∃ (c p l : Addr) (n : Nat) (b : Bool), vs = [.ref p, .ref l, .bl b] ∧ Src c H p ∧ 0 < n ∧ n ≤ 20 ∧ l ≠ p ∧ StrsK H l n 60 ∧ ∀ H' (s : Str), Src c H' p → But p H H' → s.length ≤ 100 → SO s → Q (.str s) H'
theorem app_len (a b : Str) : (a ++ b).length = a.length + b.length := by
  show (a.cps ++ b.cps).size = a.cps.size + b.cps.size
  exact Array.size_append
theorem letter_at : ∀ k : _root_.Fin 26, ∃ c, (Str.ofString "etaoinshrdlcumwfgypbvkjxqz").cps.toList[k.val]? = some c ∧ SO ⟨#[c]⟩ := fun k => by
  have hl : (Str.ofString "etaoinshrdlcumwfgypbvkjxqz").cps.toList.length = 26 := by decide +kernel
  have ho : SO (Str.ofString "etaoinshrdlcumwfgypbvkjxqz") := so_dec (by decide +kernel)
  exact ⟨_, List.getElem?_eq_getElem (by rw [hl]; exact k.isLt), fun c hc => by
    rw [List.mem_singleton.mp hc]
    exact ho _ (List.getElem_mem _)⟩
theorem letters_len : (Str.ofString "etaoinshrdlcumwfgypbvkjxqz").length ≤ sizeLine := by decide +kernel
theorem one_len (c : Nat) : (⟨#[c]⟩ : Str).length = 1 := rfl
def WS : List Str := ["or", "and", "not", "mod", "home", "confirms", "start", "end", "size", "load", "base", "len", "used", "room", "at", "exported", "takes", "leaves", "kept"].map Str.ofString
theorem wds_at (k : Nat) (h : k < 19) : ∃ s : Str, WDS[k]? = some (.str s) ∧ s.length ≤ 20 ∧ SO s := by
  have e : WDS = WS.map V.str := rfl
  have hl : WS.length = 19 := rfl
  have hb : ∀ s ∈ WS, s.length ≤ 20 := by decide +kernel
  have hc : ∀ s ∈ WS, (s.cps.toList.all fun c => decide (c < 0x110000)) = true := by decide +kernel
  refine ⟨WS[k], ?_, hb _ (List.getElem_mem (by omega)), so_dec (hc _ (List.getElem_mem (by omega)))⟩
  rw [e, List.getElem?_map, List.getElem?_eq_getElem (by omega)]
  rfl
theorem wds_fct (k : Nat) (h : k < 13) : ∃ s : Str, WDS[6 + k]? = some (.str s) ∧ inV (.str s) FCT = true := by
  have e : WDS = WS.map V.str := rfl
  have hl : WS.length = 19 := rfl
  have hb : ∀ s ∈ WS.drop 6, inV (.str s) FCT = true := by decide +kernel
  refine ⟨WS[6 + k], ?_, hb _ ?_⟩
  · rw [e, List.getElem?_map, List.getElem?_eq_getElem (by omega)]
    rfl
  · refine List.mem_iff_getElem?.mpr ⟨k, ?_⟩
    rw [List.getElem?_drop, List.getElem?_eq_getElem (by omega)]
section
variable {P : Program} {w : World} {K : PySem.W.Frag} {mg : Str → Option Value} {base : Heap} {A : Ads}
theorem ok_law_names (T : Txt K mg A) : FnOk P w K mg base CX0 2 A.a_law_names A.d_law_names ["_law_source_here", "_law_count"] spNames := by
  refine T.F_law_names.ok sc_law_names (fun vs H Q E h => ?_) (fun cdv B outer s H vs Q E hr h => ?_)
  · obtain ⟨c, p, n, rfl, _⟩ := h
    rfl
  · obtain ⟨c, p, n, rfl, hs, hn, q⟩ := h
    refine ⟨_, (pss_cons (ps_set (i := 2) sc_law_names.nd rfl (.inr rfl) pe_str)
    (pss_cons (ps_set (i := 3) sc_law_names.nd rfl (.inl rfl) (pe_call (ok_law_draw T) (hr.mono (by omega)) rfl T.g_law_draw T.F_law_draw.kp T.b_law_draw .nil pass0 (pa_cons (pv 0) (pa_cons pe_int pa_nil))))
    (pss_cons (ps_set (i := 5) sc_law_names.nd rfl (.inl rfl) (pe_bm PySem.F.plainAttrs_str PySem.F.slot_str_join PySem.F.type_str_join mt_join pe_str (pa_cons (pe_lc (own := [("_law_step", 4)]) rfl sc_law_names.nd (pi_range1 (by rfl) T.n_range (pa_cons (pe_op op_add pe_int (pe_call (ok_law_draw T) (hr.mono (by omega)) rfl T.g_law_draw T.F_law_draw.kp T.b_law_draw .nil pass0 (pa_cons (pv 0) (pa_cons pe_int pa_nil)))) pa_nil)) (blkOk_by (own := [("_law_step", 4)]) (N := N_law_names) (sc := defScope s_law_names) (by decide +kernel)) (fun _ _ _ _ _ => pg_name (i := 4) sc_law_names.nd rfl (Or.inl rfl)) (fun _ _ _ _ _ => pts_nil) (fun _ _ _ _ _ => by exact (pe_ix ix_str (pv 2) (pe_call (ok_law_draw T) (hr.mono (by omega)) rfl T.g_law_draw T.F_law_draw.kp T.b_law_draw .nil pass0 (pa_cons (pv 0) (pa_cons pe_int pa_nil))) (fun _ _ => rfl)))) pa_nil)))
    (pss_cons (ps_set (i := 6) sc_law_names.nd rfl (.inl rfl) (pe_lst pa_nil))
    (pss_cons (ps_for PassesOwn.never rfl (pi_range1 (by rfl) T.n_range (pa_cons (pv 1) pa_nil)) (pg_name (i := 7) sc_law_names.nd rfl (.inl rfl))
      (pss_cons (ps_set (i := 8) sc_law_names.nd rfl (.inl rfl) (pe_ix ix_str (pv 2) (pe_op op_mod (pe_callTy call_int1 (by rfl) T.n_int (by decide +kernel) (pa_cons (pv 7) pa_nil)) pe_int) (fun _ _ => rfl)))
    (pss_cons (ps_if (pt_cmpR op_ge (pv 7) pe_int (nomark _)) (pss_one (ps_set (i := 8) sc_law_names.nd rfl (.inl rfl) (pe_op op_add_str (pv 8) (pe_ix ix_str (pv 2) (pe_op op_fdiv (pv 7) pe_int) (fun _ _ => rfl))))) pss_nil)
    (pss_cons (ps_set (i := 9) sc_law_names.nd rfl (.inl rfl) (pe_op op_add_str (pv 5) (pv 8)))
    (pss_cons (ps_if (pt_cmpR op_eq (pv 3) pe_int (nomark _)) (pss_one (ps_set (i := 9) sc_law_names.nd rfl (.inl rfl) (pe_op op_add_str (pv 8) (pv 5)))) pss_nil)
    (pss_cons (ps_if (pt_cmpR op_eq (pv 3) pe_int (nomark _)) (pss_one (ps_set (i := 9) sc_law_names.nd rfl (.inl rfl) (pe_op op_add_str (pe_op op_add_str (pe_slice sl_str (pv 5) po_none (po_some pe_int)) (pv 8)) (pe_slice sl_str (pv 5) (po_some pe_int) po_none)))) pss_nil)
    (pss_cons (ps_set (i := 10) sc_law_names.nd rfl (.inl rfl) (pe_call (ok_law_draw T) (hr.mono (by omega)) rfl T.g_law_draw T.F_law_draw.kp T.b_law_draw .nil pass0 (pa_cons (pv 0) (pa_cons pe_int pa_nil))))
    (pss_cons (ps_if (pt_cmpR op_gt (pv 10) pe_int (nomark _)) (pss_one (ps_set (i := 9) sc_law_names.nd rfl (.inl rfl) (pe_op op_add_str (pv 9) (pe_callTy call_str_int (by rfl) T.n_str (by decide +kernel) (pa_cons (pe_op op_mul (pv 10) pe_int) pa_nil))))) pss_nil)
    (pss_one (ps_expr (pe_bm PySem.F.plainAttrs_list PySem.F.slot_list_append PySem.F.type_list_append mt_append (pv 6) (pa_cons (pv 9) pa_nil))))))))))))
    (pss_one (ps_ret (pv 6)))))))), ?_⟩
    refine ⟨_, rfl, c, p, 3, rfl, hs, by decide, by decide, fun H1 mode lm hs1 b1 => ?_⟩
    walk_at "s"
    refine ⟨c, p, 3, rfl, hs1, by decide, by decide, fun H2 n3 ln3 hs2 b2 => ?_⟩
    refine ⟨_, _, rfl, rfl, 1 + (n3 : Int), rfl, by omega, by omega, fun D hD => ?_⟩
    rw [show ((1 : Int) + (n3 : Int)).toNat = n3 + 1 by omega]
    refine lc_inv (walk_range (lo := 0) (n := n3 + 1)) (fun i v => True) (fun i acc H4 => Src c H4 p ∧ But p H2 H4 ∧ ∃ ys : List Str, acc = ys.map V.str ∧ ∀ y ∈ ys, y.length = 1 ∧ SO y) (by omega) ⟨src_up hs2 (same_new hD), But.of (same_new hD), [], rfl, by simp⟩ (fun _ _ _ _ => trivial) (fun i H1 v H2 hi y => ⟨y.1, trivial⟩) (fun i v acc H4 hi hl pv e5 _ Q q => ?_) (fun acc H4 hl4 pv e4 => ?_)
    · obtain ⟨hs4, b4, ys, rfl, hy⟩ := pv
      have np : D ≠ p := fun z => by
        rw [z] at hD
        exact src_ne hs2 hD
      refine ⟨_, rfl, _, rfl, c, p, 26, rfl, hs4, by decide, by decide, fun H5 k lk hs5 b5 => ?_⟩
      obtain ⟨ch, hch, hso⟩ := letter_at ⟨k, by omega⟩
      refine ⟨_, _, ch, rfl, rfl, letters_len, atI_nat hch, ?_⟩
      refine q _ H5 (b5 _ _ np e5) ⟨src_put hs5 np fun z => src_cne hs2 (z ▸ hD), but_new (b4.trans b5) hD, ys ++ [⟨#[ch]⟩], by rw [List.map_append]; rfl, fun y hy2 => ?_⟩
      rcases List.mem_append.mp hy2 with z | z
      · exact hy y z
      · rw [List.mem_singleton.mp z]
        exact ⟨rfl, hso⟩
    obtain ⟨hs4, b4, ys, rfl, hy⟩ := pv
    rw [List.length_map] at hl4
    refine ⟨_, _, ys, rfl, rfl, .inl (SqL.of e4), ?_, ?_⟩
    · have : (ys.map fun x => x.length).sum = ys.length := by
        clear e4 hl4
        induction ys with
        | nil => rfl
        | cons y r ih =>
          rw [List.map_cons, List.sum_cons, ih (fun z hz => hy z (List.mem_cons_of_mem _ hz)), (hy y List.mem_cons_self).1, List.length_cons]
          omega
      rw [this, show (Str.ofString "").length = 0 by decide +kernel]
      omega
    have hcm : (Txt.join (Str.ofString "") ys).length ≤ 3 := by
      rw [show Str.ofString "" = sO [] by decide +kernel, RK.join_nil, sO_len]
      have : ((ys.map fun s => s.cps.toList).flatten).length = ys.length := by
        clear e4 hl4
        induction ys with
        | nil => rfl
        | cons y r ih =>
          rw [List.map_cons, List.flatten_cons, List.length_append, ih (fun z hz => hy z (List.mem_cons_of_mem _ hz)), List.length_cons]
          have : y.cps.toList.length = 1 := by
            rw [Array.length_toList]
            exact (hy y List.mem_cons_self).1
          omega
      rw [this]
      omega
    have hco : SO (Txt.join (Str.ofString "") ys) := by
      rw [show Str.ofString "" = sO [] by decide +kernel, RK.join_nil]
      intro x hx
      obtain ⟨l, hl, hxl⟩ := List.mem_flatten.mp hx
      obtain ⟨y, hy1, hy2⟩ := List.mem_map.mp hl
      subst hy2
      exact (hy y hy1).2 x hxl
    generalize Txt.join (Str.ofString "") ys = cm at hcm hco
    have b04 := (b1.trans b2).trans b4
    clear e4 hl4 hy b4 b2 b1 hs1 hs2
    refine ⟨lenOk (n := 0) rfl (by decide), fun D2 nD2 => ?_⟩
    have hDp : D2 ≠ p := fun z => by rw [z] at nD2; exact src_ne hs4 nD2
    have hDc : D2 ≠ c := fun z => by rw [z] at nD2; exact src_cne hs4 nD2
    have hHD : H D2 = none := by
      cases hh : H D2 with
      | none => rfl
      | some o => rw [b04 _ _ hDp hh] at nD2; cases nD2
    generalize hH6 : upd H4 D2 _ = H6
    have hs6 : Src c H6 p := by rw [← hH6]; exact src_up hs4 (same_new nD2)
    have b6 : But p H H6 := by rw [← hH6]; exact b04.trans (But.of (same_new nD2))
    have e6 : H6 D2 = some (.lst []) := by rw [← hH6]; exact upd_same
    clear hH6 nD2 hs4 b04
    refine ⟨_, rfl, (n : Int), rfl, by omega, by omega, ?_⟩
    rw [Int.toNat_natCast]
    refine for_it (walk_range (lo := 0) (n := n)) (fun i σ Hc => ∃ ss o4 o7 o8 o9 o10, σ = [some (.ref p), some (.int (n : Int)), some (.str (Str.ofString "etaoinshrdlcumwfgypbvkjxqz")), some (.int (mode : Int)), o4, some (.str cm), some (.ref D2), o7, o8, o9, o10] ∧ Src c Hc p ∧ But p H Hc ∧ Hc D2 = some (.lst (ss.map V.str)) ∧ ss.length = i ∧ ∀ s ∈ ss, s.length ≤ 60 ∧ SO s) ⟨[], _, _, _, _, _, rfl, hs6, b6, e6, rfl, by simp⟩ (fun _ _ _ _ _ => trivial) (fun i x σ H7 H8 hi y e => ?_) (fun σ H7 y => ?_)
    · obtain ⟨rfl, rfl⟩ := e
      obtain ⟨ss, o4, o7, o8, o9, o10, rfl, hs7, b7, e7, hsl, hsk⟩ := y
      obtain ⟨ch, hch, hso⟩ := letter_at ⟨i % 26, Nat.mod_lt _ (by decide)⟩
      have hat : atI (Str.ofString "etaoinshrdlcumwfgypbvkjxqz").cps.toList ((0 + (i : Int)) % 26) = some ch := by
        rw [show (0 + (i : Int)) % 26 = ((i % 26 : Nat) : Int) by omega]
        exact atI_nat hch
      refine ⟨_, rfl, _, rfl, .inl ⟨_, rfl, _, _, rfl, rfl, (by show (0 : Int) < 26; decide), _, _, ch, rfl, rfl, letters_len, hat, ?_⟩⟩
      refine ⟨_, rfl, _, _, rfl, rfl, _, rfl, ifF (decide_eq_false (by omega)) ?_⟩
      have how : (⟨#[ch]⟩ : Str).length = 1 := rfl
      generalize (⟨#[ch]⟩ : Str) = ow at how hso ⊢
      refine ⟨_, rfl, _, rfl, _, _, rfl, rfl, by rw [how]; exact Nat.le_trans (show cm.length + 1 ≤ 100 by omega) (by decide), ?_⟩
      refine ⟨_, rfl, rfl, _, rfl, ite2 (fun c1 => ?_) (fun c1 => ?_)⟩
      · refine ⟨_, rfl, _, rfl, _, _, rfl, rfl, by rw [how]; exact Nat.le_trans (show 1 + cm.length ≤ 100 by omega) (by decide), ?_⟩
        have hm2 : (decide (V.int (mode : Int) = V.int 2)) = false := by
          have := V.int.inj (of_decide_eq_true c1)
          exact decide_eq_false fun z => by have := V.int.inj z; omega
        refine ⟨_, rfl, rfl, _, rfl, ifF hm2 ?_⟩
        obtain ⟨nx, hnx, hnl, hns⟩ : ∃ nx, nx = ow ++ cm ∧ nx.length ≤ 10 ∧ SO nx := ⟨_, rfl, by rw [app_len]; omega, so_app hso hco⟩
        rw [← hnx]
        refine ⟨_, rfl, c, p, 4, rfl, hs7, by decide, by decide, fun H9 tl ltl hs9 b9 => ?_⟩
        have e9 := b9 _ _ hDp e7
        refine ⟨_, rfl, _, _, rfl, rfl, _, rfl, ite2 (fun ct => ?_) (fun ct => ?_)⟩
        · have htl : (Str.ofString (toString ((tl : Int) * 7))).length ≤ 5 := by
            match tl, ltl with
            | 0, _ => decide +kernel
            | 1, _ => decide +kernel
            | 2, _ => decide +kernel
            | 3, _ => decide +kernel
            | n + 4, h => exact absurd h (by omega)
          have hts : SO (Str.ofString (toString ((tl : Int) * 7))) := by
            match tl, ltl with
            | 0, _ => exact so_dec (by decide +kernel)
            | 1, _ => exact so_dec (by decide +kernel)
            | 2, _ => exact so_dec (by decide +kernel)
            | 3, _ => exact so_dec (by decide +kernel)
            | n + 4, h => exact absurd h (by omega)
          refine ⟨_, rfl, _, rfl, _, _, rfl, rfl, .inr ⟨by decide, by decide⟩, (tl : Int) * 7, rfl, ?_, _, _, rfl, rfl, Nat.le_trans (show _ ≤ 100 by omega) (by decide), ?_⟩
          · match tl, ltl with
            | 0, _ => decide +kernel
            | 1, _ => decide +kernel
            | 2, _ => decide +kernel
            | 3, _ => decide +kernel
            | n + 4, h => exact absurd h (by omega)
          refine ⟨_, rfl, .inl ⟨rfl, _, SqL.of e9⟩, _, rfl, D2, _, _, rfl, rfl, e9, ?_, ss ++ [nx ++ Str.ofString (toString ((tl : Int) * 7))], _, _, _, _, _, rfl, src_put hs9 hDp hDc, but_new (b7.trans b9) hHD, by rw [List.map_append]; exact upd_same, by rw [List.length_append, hsl]; rfl, fun z hz => ?_⟩
          · rw [List.length_map, hsl]
            exact Nat.lt_of_lt_of_le (show i < 100 by omega) (by decide)
          rcases List.mem_append.mp hz with y | y
          · exact hsk z y
          · rw [List.mem_singleton.mp y, app_len]
            exact ⟨by omega, so_app hns hts⟩
        · refine ⟨_, rfl, .inl ⟨rfl, _, SqL.of e9⟩, _, rfl, D2, _, _, rfl, rfl, e9, ?_, ss ++ [nx], _, _, _, _, _, rfl, src_put hs9 hDp hDc, but_new (b7.trans b9) hHD, by rw [List.map_append]; exact upd_same, by rw [List.length_append, hsl]; rfl, fun z hz => ?_⟩
          · rw [List.length_map, hsl]
            exact Nat.lt_of_lt_of_le (show i < 100 by omega) (by decide)
          rcases List.mem_append.mp hz with y | y
          · exact hsk z y
          · rw [List.mem_singleton.mp y]
            exact ⟨by omega, hns⟩
      refine ⟨_, rfl, rfl, _, rfl, ite2 (fun c2 => ?_) (fun c2 => ?_)⟩
      · have h1 := cutS_length cm none (some 1)
        have h2 := cutS_length cm (some 1) none
        have hc100 : cm.length ≤ sizeLine := Nat.le_trans (show cm.length ≤ 100 by omega) (by decide)
        unfold tNoPart
        refine ⟨_, rfl, _, rfl, cm, rfl, hc100, _, rfl, _, _, rfl, rfl, Nat.le_trans (show _ ≤ 100 by omega) (by decide), _, rfl, _, rfl, cm, rfl, hc100, _, _, rfl, rfl, Nat.le_trans (show _ ≤ 100 by rw [app_len]; omega) (by decide), ?_⟩
        obtain ⟨nx, hnx, hnl, hns⟩ : ∃ nx, nx = cutS cm none (some 1) ++ ow ++ cutS cm (some 1) none ∧ nx.length ≤ 10 ∧ SO nx := ⟨_, rfl, by rw [app_len, app_len]; omega, so_app (so_app (so_cut hco _ _) hso) (so_cut hco _ _)⟩
        rw [← hnx]
        refine ⟨_, rfl, c, p, 4, rfl, hs7, by decide, by decide, fun H9 tl ltl hs9 b9 => ?_⟩
        have e9 := b9 _ _ hDp e7
        refine ⟨_, rfl, _, _, rfl, rfl, _, rfl, ite2 (fun ct => ?_) (fun ct => ?_)⟩
        · have htl : (Str.ofString (toString ((tl : Int) * 7))).length ≤ 5 := by
            match tl, ltl with
            | 0, _ => decide +kernel
            | 1, _ => decide +kernel
            | 2, _ => decide +kernel
            | 3, _ => decide +kernel
            | n + 4, h => exact absurd h (by omega)
          have hts : SO (Str.ofString (toString ((tl : Int) * 7))) := by
            match tl, ltl with
            | 0, _ => exact so_dec (by decide +kernel)
            | 1, _ => exact so_dec (by decide +kernel)
            | 2, _ => exact so_dec (by decide +kernel)
            | 3, _ => exact so_dec (by decide +kernel)
            | n + 4, h => exact absurd h (by omega)
          refine ⟨_, rfl, _, rfl, _, _, rfl, rfl, .inr ⟨by decide, by decide⟩, (tl : Int) * 7, rfl, ?_, _, _, rfl, rfl, Nat.le_trans (show _ ≤ 100 by omega) (by decide), ?_⟩
          · match tl, ltl with
            | 0, _ => decide +kernel
            | 1, _ => decide +kernel
            | 2, _ => decide +kernel
            | 3, _ => decide +kernel
            | n + 4, h => exact absurd h (by omega)
          refine ⟨_, rfl, .inl ⟨rfl, _, SqL.of e9⟩, _, rfl, D2, _, _, rfl, rfl, e9, ?_, ss ++ [nx ++ Str.ofString (toString ((tl : Int) * 7))], _, _, _, _, _, rfl, src_put hs9 hDp hDc, but_new (b7.trans b9) hHD, by rw [List.map_append]; exact upd_same, by rw [List.length_append, hsl]; rfl, fun z hz => ?_⟩
          · rw [List.length_map, hsl]
            exact Nat.lt_of_lt_of_le (show i < 100 by omega) (by decide)
          rcases List.mem_append.mp hz with y | y
          · exact hsk z y
          · rw [List.mem_singleton.mp y, app_len]
            exact ⟨by omega, so_app hns hts⟩
        · refine ⟨_, rfl, .inl ⟨rfl, _, SqL.of e9⟩, _, rfl, D2, _, _, rfl, rfl, e9, ?_, ss ++ [nx], _, _, _, _, _, rfl, src_put hs9 hDp hDc, but_new (b7.trans b9) hHD, by rw [List.map_append]; exact upd_same, by rw [List.length_append, hsl]; rfl, fun z hz => ?_⟩
          · rw [List.length_map, hsl]
            exact Nat.lt_of_lt_of_le (show i < 100 by omega) (by decide)
          rcases List.mem_append.mp hz with y | y
          · exact hsk z y
          · rw [List.mem_singleton.mp y]
            exact ⟨by omega, hns⟩
      · obtain ⟨nx, hnx, hnl, hns⟩ : ∃ nx, nx = cm ++ ow ∧ nx.length ≤ 10 ∧ SO nx := ⟨_, rfl, by rw [app_len]; omega, so_app hco hso⟩
        rw [← hnx]
        refine ⟨_, rfl, c, p, 4, rfl, hs7, by decide, by decide, fun H9 tl ltl hs9 b9 => ?_⟩
        have e9 := b9 _ _ hDp e7
        refine ⟨_, rfl, _, _, rfl, rfl, _, rfl, ite2 (fun ct => ?_) (fun ct => ?_)⟩
        · have htl : (Str.ofString (toString ((tl : Int) * 7))).length ≤ 5 := by
            match tl, ltl with
            | 0, _ => decide +kernel
            | 1, _ => decide +kernel
            | 2, _ => decide +kernel
            | 3, _ => decide +kernel
            | n + 4, h => exact absurd h (by omega)
          have hts : SO (Str.ofString (toString ((tl : Int) * 7))) := by
            match tl, ltl with
            | 0, _ => exact so_dec (by decide +kernel)
            | 1, _ => exact so_dec (by decide +kernel)
            | 2, _ => exact so_dec (by decide +kernel)
            | 3, _ => exact so_dec (by decide +kernel)
            | n + 4, h => exact absurd h (by omega)
          refine ⟨_, rfl, _, rfl, _, _, rfl, rfl, .inr ⟨by decide, by decide⟩, (tl : Int) * 7, rfl, ?_, _, _, rfl, rfl, Nat.le_trans (show _ ≤ 100 by omega) (by decide), ?_⟩
          · match tl, ltl with
            | 0, _ => decide +kernel
            | 1, _ => decide +kernel
            | 2, _ => decide +kernel
            | 3, _ => decide +kernel
            | n + 4, h => exact absurd h (by omega)
          refine ⟨_, rfl, .inl ⟨rfl, _, SqL.of e9⟩, _, rfl, D2, _, _, rfl, rfl, e9, ?_, ss ++ [nx ++ Str.ofString (toString ((tl : Int) * 7))], _, _, _, _, _, rfl, src_put hs9 hDp hDc, but_new (b7.trans b9) hHD, by rw [List.map_append]; exact upd_same, by rw [List.length_append, hsl]; rfl, fun z hz => ?_⟩
          · rw [List.length_map, hsl]
            exact Nat.lt_of_lt_of_le (show i < 100 by omega) (by decide)
          rcases List.mem_append.mp hz with y | y
          · exact hsk z y
          · rw [List.mem_singleton.mp y, app_len]
            exact ⟨by omega, so_app hns hts⟩
        · refine ⟨_, rfl, .inl ⟨rfl, _, SqL.of e9⟩, _, rfl, D2, _, _, rfl, rfl, e9, ?_, ss ++ [nx], _, _, _, _, _, rfl, src_put hs9 hDp hDc, but_new (b7.trans b9) hHD, by rw [List.map_append]; exact upd_same, by rw [List.length_append, hsl]; rfl, fun z hz => ?_⟩
          · rw [List.length_map, hsl]
            exact Nat.lt_of_lt_of_le (show i < 100 by omega) (by decide)
          rcases List.mem_append.mp hz with y | y
          · exact hsk z y
          · rw [List.mem_singleton.mp y]
            exact ⟨by omega, hns⟩
    · obtain ⟨ss, o4, o7, o8, o9, o10, rfl, hs7, b7, e7, hsl, hsk⟩ := y
      exact ⟨_, rfl, q _ D2 hs7 b7 ⟨ss, e7, hsl, hsk⟩⟩
theorem ok_law_name (T : Txt K mg A) : FnOk P w K mg base CX0 2 A.a_law_name A.d_law_name ["_law_source_here", "_law_names_here", "_law_own"] spName := by
  refine T.F_law_name.ok sc_law_name (fun vs H Q E h => ?_) (fun cdv B outer s H vs Q E hr h => ?_)
  · obtain ⟨c, p, l, n, b, rfl, _⟩ := h
    rfl
  · obtain ⟨c, p, l, n, b, rfl, hs, hn0, hn, hlp, ⟨ss, el, hsl, hsk⟩, q⟩ := h
    refine ⟨_, (pss_cons (ps_set (i := 3) sc_law_name.nd rfl (.inl rfl) (pe_ix ix_list (pv 1) (pe_call (ok_law_draw T) (hr.mono (by omega)) rfl T.g_law_draw T.F_law_draw.kp T.b_law_draw .nil pass0 (pa_cons (pv 0) (pa_cons (pe_callB len_seq (by rfl) T.n_len (by decide +kernel) (pa_cons (pv 1) pa_nil)) pa_nil))) (fun _ _ => rfl)))
    (pss_cons (ps_set (i := 4) sc_law_name.nd rfl (.inl rfl) (pe_call (ok_law_draw T) (hr.mono (by omega)) rfl T.g_law_draw T.F_law_draw.kp T.b_law_draw .nil pass0 (pa_cons (pv 0) (pa_cons pe_int pa_nil))))
    (pss_cons (ps_if (pt_cmpR op_eq (pv 4) pe_int (nomark _)) (pss_one (ps_ret (pe_slice sl_str (pe_op op_add_str (pv 3) pe_str) po_none (po_some pe_int)))) pss_nil)
    (pss_cons (ps_if (pt_truth (pv 2) (by intro _; rfl)) (pss_one (ps_ret (pe_op op_add_str (pv 3) (pe_callTy call_str_int (by rfl) T.n_str (by decide +kernel) (pa_cons (pv 4) pa_nil))))) pss_nil)
    (pss_cons (ps_if (pt_cmpR op_eq (pv 4) pe_int (nomark _)) (pss_one (ps_ret (pe_ix ix_list (pe_call0 (ok_law_words T) (hr.mono (by omega)) rfl T.g_law_words T.F_law_words.kp T.b_law_words .nil pass0) (pe_call (ok_law_draw T) (hr.mono (by omega)) rfl T.g_law_draw T.F_law_draw.kp T.b_law_draw .nil pass0 (pa_cons (pv 0) (pa_cons pe_int pa_nil))) (fun _ _ => rfl)))) pss_nil)
    (pss_one (ps_ret (pv 3)))))))), ?_⟩
    have hml : (ss.map V.str).length = ss.length := List.length_map ..
    refine ⟨_, rfl, _, rfl, _, rfl, l, _, rfl, .inl (SqL.of el), c, p, _, rfl, hs, by rw [hml]; omega, by rw [hml]; omega, fun H1 k lk hs1 b1 => ?_⟩
    rw [hml] at lk
    have hk : k < ss.length := by omega
    have el1 := b1 _ _ hlp el
    have hx : (ss.map V.str)[k]? = some (.str ss[k]) := by
      rw [List.getElem?_map, List.getElem?_eq_getElem hk]
      rfl
    obtain ⟨hxl, hxo⟩ := hsk _ (List.getElem_mem hk)
    generalize ss[k] = nx at hx hxl hxo
    refine ⟨l, _, _, _, rfl, rfl, SqL.of el1, atI_nat hx, ?_⟩
    refine ⟨_, rfl, c, p, 6, rfl, hs1, by decide, by decide, fun H2 way lway hs2 b2 => ?_⟩
    have b12 := b1.trans b2
    have h8 : (Str.ofString "abcdefgh").length = 8 := by decide +kernel
    refine ⟨_, rfl, rfl, _, rfl, ite2 (fun c1 => ?_) (fun c1 => ?_)⟩
    · unfold tNoPart
      have h3 := cutS_length (nx ++ Str.ofString "abcdefgh") none (some 9)
      rw [app_len, h8] at h3
      exact ⟨_, rfl, _, _, rfl, rfl, Nat.le_trans (show _ ≤ 100 by rw [h8]; omega) (by decide), _, rfl, _, rfl, Nat.le_trans (show _ ≤ 100 by rw [app_len, h8]; omega) (by decide), q _ _ hs2 b12 (by omega) (so_cut (so_app hxo (so_dec (by decide +kernel))) _ _)⟩
    refine ⟨_, rfl, b, rfl, ite2 (fun c2 => ?_) (fun c2 => ?_)⟩
    · have htl : (Str.ofString (toString (way : Int))).length ≤ 5 ∧ (way : Int).natAbs.log2 < 1920 := by
        match way, lway with
        | 0, _ => decide +kernel
        | 1, _ => decide +kernel
        | 2, _ => decide +kernel
        | 3, _ => decide +kernel
        | 4, _ => decide +kernel
        | 5, _ => decide +kernel
        | n + 6, h => exact absurd h (by omega)
      have hts : SO (Str.ofString (toString (way : Int))) := by
        match way, lway with
        | 0, _ => exact so_dec (by decide +kernel)
        | 1, _ => exact so_dec (by decide +kernel)
        | 2, _ => exact so_dec (by decide +kernel)
        | 3, _ => exact so_dec (by decide +kernel)
        | 4, _ => exact so_dec (by decide +kernel)
        | 5, _ => exact so_dec (by decide +kernel)
        | n + 6, h => exact absurd h (by omega)
      refine ⟨_, rfl, _, rfl, (way : Int), rfl, htl.2, _, _, rfl, rfl, Nat.le_trans (show _ ≤ 100 by omega) (by decide), q _ _ hs2 b12 ?_ (so_app hxo hts)⟩
      rw [app_len]
      omega
    refine ⟨_, rfl, rfl, _, rfl, ite2 (fun c3 => ?_) (fun c3 => ?_)⟩
    · refine ⟨rfl, fun H3 wl s3 nw ew => ?_⟩
      have hwp : wl ≠ p := fun z => by rw [z] at nw; exact src_ne hs2 nw
      refine ⟨_, rfl, c, p, 19, rfl, src_up hs2 s3, by decide, by decide, fun H4 k4 l4 hs4 b4 => ?_⟩
      obtain ⟨s4, h4, h5, h6⟩ := wds_at k4 (by omega)
      exact ⟨wl, WDS, _, _, rfl, rfl, SqL.of (b4 _ _ hwp ew), atI_nat h4, q _ s4 hs4 ((b12.trans (But.of s3)).trans b4) (by omega) h6⟩
    · exact ⟨_, rfl, q _ _ hs2 b12 (by omega) hxo⟩
end
end R1

namespace R1
open PySem PySem.Spec PyProof.Rows L2 RK
local macro_rules | `(tactic| walk_at "sq") => `(tactic| first
  | exact SqL.of upd_same | exact upd_same | exact SqL.of (by assumption) | exact SqL.of (by rw [upd_ne (by assumption)]; assumption) | assumption)
local macro_rules | `(tactic| walk_at "sd") => `(tactic| first
  | assumption | omega | (refine Or.inl ⟨?_, ?_⟩ <;> omega) | (show _ ∧ _; constructor <;> omega) | (show _ ≠ _; simp; omega) | (exact Or.inl ⟨by decide, by decide⟩) | (exact Or.inr ⟨by decide, by decide⟩) | (show _ < _; decide) | (show _ ≤ _; decide))
local macro_rules | `(tactic| walk_at "at") => `(tactic| first | rfl | (refine atI_intV ?_ ?_ <;> omega) | assumption)
local macro_rules | `(tactic| walk_at "s1") => `(tactic| first
  | refine ⟨_, rfl, ?_⟩ | refine ⟨_, _, rfl, rfl, ?_⟩ | refine ⟨rfl, ?_⟩
  | refine ⟨_, _, _, _, rfl, rfl, by walk_at "sq", by walk_at "at", ?_⟩
  | refine Or.inl ⟨_, rfl, ?_⟩
  | refine ⟨_, _, rfl, Or.inl (by walk_at "sq"), ?_⟩
  | refine And.intro (by walk_at "sd") ?_)
local macro_rules | `(tactic| walk_at "s") => `(tactic| repeat walk_at "s1")

def Nms (H : Hp) (p l : Addr) : Prop := ∃ n, 0 < n ∧ n ≤ 20 ∧ l ≠ p ∧ StrsK H l n 60
theorem Nms.but {H H' : Hp} {p l : Addr} (h : Nms H p l) (b : But p H H') : Nms H' p l := by
  obtain ⟨n, h1, h2, h3, ss, h4, h5⟩ := h
  exact ⟨n, h1, h2, h3, ss, b _ _ h3 h4, h5⟩
def spLeaf : Sp := fun vs H Q _ => ∃ (c p l : Addr), vs = [.ref p, .ref l] ∧ Src c H p ∧ Nms H p l ∧ ∀ H' v t, Src c H' p → But p H H' → TrK H' v t → Wf t → dep t = 0 → Q v H'
section
variable {P : Program} {w : World} {K : PySem.W.Frag} {mg : Str → Option Value} {base : Heap} {A : Ads}
theorem ok_law_leaf (T : Txt K mg A) : FnOk P w K mg base CX0 3 A.a_law_leaf A.d_law_leaf ["_law_source_here", "_law_names_here"] spLeaf := by
  refine T.F_law_leaf.ok sc_law_leaf (fun vs H Q E h => ?_) (fun cdv B outer s H vs Q E hr h => ?_)
  · obtain ⟨c, p, l, rfl, _⟩ := h
    rfl
  · obtain ⟨c, p, l, rfl, hs, hn, q⟩ := h
    refine ⟨_, (pss_cons (ps_set (i := 2) sc_law_leaf.nd rfl (.inl rfl) (pe_call (ok_law_draw T) (hr.mono (by omega)) rfl T.g_law_draw T.F_law_draw.kp T.b_law_draw .nil pass0 (pa_cons (pv 0) (pa_cons pe_int pa_nil))))
    (pss_cons (ps_if (pt_cmpR op_eq (pv 2) pe_int (nomark _)) (pss_one (ps_ret (pe_tup (pa_cons pe_str (pa_cons (pe_call (ok_law_number T) (hr.mono (by omega)) rfl T.g_law_number T.F_law_number.kp T.b_law_number .nil pass0 (pa_cons (pv 0) pa_nil)) pa_nil))))) pss_nil)
    (pss_cons (ps_if (pt_cmpR op_eq (pv 2) pe_int (nomark _)) (pss_one (ps_ret (pe_tup (pa_cons (pe_ix ix_tup (pe_tup (pa_cons pe_str (pa_cons pe_str pa_nil))) (pe_call (ok_law_draw T) (hr.mono (by omega)) rfl T.g_law_draw T.F_law_draw.kp T.b_law_draw .nil pass0 (pa_cons (pv 0) (pa_cons pe_int pa_nil))) (fun _ _ => rfl)) pa_nil)))) pss_nil)
    (pss_cons (ps_if (pt_cmpR op_lt (pv 2) pe_int (nomark _)) (pss_one (ps_ret (pe_tup (pa_cons pe_str (pa_cons (pe_call (ok_law_name T) (hr.mono (by omega)) rfl T.g_law_name T.F_law_name.kp T.b_law_name .nil pass0 (pa_cons (pv 0) (pa_cons (pv 1) (pa_cons pe_bl pa_nil)))) pa_nil))))) pss_nil)
    (pss_cons (ps_set (i := 3) sc_law_leaf.nd rfl (.inl rfl) (pe_ix ix_list (pe_call0 (ok_law_words T) (hr.mono (by omega)) rfl T.g_law_words T.F_law_words.kp T.b_law_words .nil pass0) (pe_op op_add pe_int (pe_call (ok_law_draw T) (hr.mono (by omega)) rfl T.g_law_draw T.F_law_draw.kp T.b_law_draw .nil pass0 (pa_cons (pv 0) (pa_cons pe_int pa_nil)))) (fun _ _ => rfl)))
    (pss_one (ps_ret (pe_tup (pa_cons (pv 3) (pa_cons (pe_call (ok_law_name T) (hr.mono (by omega)) rfl T.g_law_name T.F_law_name.kp T.b_law_name .nil pass0 (pa_cons (pv 0) (pa_cons (pv 1) (pa_cons pe_bl pa_nil)))) pa_nil)))))))))), ?_⟩
    refine ⟨_, rfl, c, p, 6, rfl, hs, by decide, by decide, fun H1 way lway hs1 b1 => ?_⟩
    have hn1 := hn.but b1
    refine ⟨_, rfl, rfl, _, rfl, ite2 (fun c1 => ?_) (fun c1 => ?_)⟩
    · refine ⟨_, rfl, c, p, rfl, hs1, fun H2 m hs2 b2 => ⟨lenOk (n := 2) rfl (by decide), fun r nr => ?_⟩⟩
      have s3 := same_new (o := .tup [V.str (Str.ofString "number"), V.int m]) nr
      exact q _ (.ref r) (.num m) (src_up hs2 s3) ((b1.trans b2).trans (But.of s3)) ⟨r, rfl, upd_same⟩ trivial rfl
    refine ⟨_, rfl, rfl, _, rfl, ite2 (fun c1 => ?_) (fun c1 => ?_)⟩
    · refine ⟨lenOk (n := 2) rfl (by decide), fun tp ntp => ?_⟩
      have s2 := same_new (o := .tup [V.str (Str.ofString "home"), V.str (Str.ofString "confirms")]) ntp
      refine ⟨_, rfl, c, p, 2, rfl, src_up hs1 s2, by decide, by decide, fun H2 k lk hs2 b2 => ?_⟩
      obtain ⟨x, hat, hx⟩ : ∃ x : Str, atI [V.str (Str.ofString "home"), V.str (Str.ofString "confirms")] (k : Int) = some (.str x) ∧ OneW x := by
        match k, lk with
        | 0, _ => exact ⟨_, rfl, .inl (decide_eq_true rfl)⟩
        | 1, _ => exact ⟨_, rfl, .inr (decide_eq_true rfl)⟩
        | n + 2, h => exact absurd h (by omega)
      have tp2 := src_tup (src_up hs1 s2) b2 (show (upd H1 tp (.tup [V.str (Str.ofString "home"), V.str (Str.ofString "confirms")])) tp = some (.tup [V.str (Str.ofString "home"), V.str (Str.ofString "confirms")]) from upd_same)
      refine ⟨tp, _, _, _, rfl, rfl, SqT.of tp2, hat, lenOk (n := 1) rfl (by decide), fun r nr => ?_⟩
      have s3 := same_new (o := .tup [V.str x]) nr
      exact q _ (.ref r) (.one x) (src_up hs2 s3) (((b1.trans (But.of s2)).trans b2).trans (But.of s3)) ⟨r, rfl, upd_same⟩ hx rfl
    refine ⟨_, rfl, _, _, rfl, rfl, _, rfl, ite2 (fun c1 => ?_) (fun c1 => ?_)⟩
    · obtain ⟨n, g1, g2, g3, g4⟩ := hn1
      refine ⟨_, rfl, _, rfl, c, p, l, n, true, rfl, hs1, g1, g2, g3, g4, fun H2 x hs2 b2 _ so => ⟨lenOk (n := 2) rfl (by decide), fun r nr => ?_⟩⟩
      have s3 := same_new (o := .tup [V.str (Str.ofString "let"), V.str x]) nr
      exact q _ (.ref r) (.two (Str.ofString "let") x) (src_up hs2 s3) ((b1.trans b2).trans (But.of s3)) ⟨r, rfl, upd_same⟩ ⟨.inl (decide_eq_true rfl), so⟩ rfl
    · refine ⟨rfl, fun H2 wl s2 nw ew => ?_⟩
      have hwp : wl ≠ p := fun z => by rw [z] at nw; exact src_ne hs1 nw
      refine ⟨_, rfl, c, p, 13, rfl, src_up hs1 s2, by decide, by decide, fun H3 k lk hs3 b3 => ?_⟩
      obtain ⟨x, hx1, hx2⟩ := wds_fct k (by omega)
      have hat : atI WDS ((6 : Int) + (k : Int)) = some (.str x) := by
        rw [show (6 : Int) + (k : Int) = ((6 + k : Nat) : Int) by omega]
        exact atI_nat hx1
      refine ⟨_, _, rfl, rfl, wl, WDS, _, _, rfl, rfl, SqL.of (b3 _ _ hwp ew), hat, ?_⟩
      have b23 := (But.of (p := p) s2).trans b3
      obtain ⟨n, g1, g2, g3, g4⟩ := hn1.but b23
      refine ⟨_, rfl, _, rfl, _, rfl, c, p, l, n, false, rfl, hs3, g1, g2, g3, g4, fun H4 y hs4 b4 _ so => ⟨lenOk (n := 2) rfl (by decide), fun r nr => ?_⟩⟩
      have s5 := same_new (o := .tup [V.str x, V.str y]) nr
      exact q _ (.ref r) (.two x y) (src_up hs4 s5) (((b1.trans b23).trans b4).trans (But.of s5)) ⟨r, rfl, upd_same⟩ ⟨.inr hx2, so⟩ rfl
end
end R1

namespace R1
open PySem PySem.Spec PyProof.Rows L2 RK
local macro_rules | `(tactic| walk_at "sq") => `(tactic| first
  | exact SqL.of upd_same | exact upd_same | exact SqL.of (by assumption) | exact SqL.of (by rw [upd_ne (by assumption)]; assumption) | assumption)
local macro_rules | `(tactic| walk_at "sd") => `(tactic| first
  | assumption | omega | (refine Or.inl ⟨?_, ?_⟩ <;> omega) | (show _ ∧ _; constructor <;> omega) | (show _ ≠ _; simp; omega) | (exact Or.inl ⟨by decide, by decide⟩) | (exact Or.inr ⟨by decide, by decide⟩) | (show _ < _; decide) | (show _ ≤ _; decide))
local macro_rules | `(tactic| walk_at "at") => `(tactic| first | rfl | (refine atI_intV ?_ ?_ <;> omega) | assumption)
local macro_rules | `(tactic| walk_at "s1") => `(tactic| first
  | refine ⟨_, rfl, ?_⟩ | refine ⟨_, _, rfl, rfl, ?_⟩ | refine ⟨rfl, ?_⟩
  | refine ⟨_, _, _, _, rfl, rfl, by walk_at "sq", by walk_at "at", ?_⟩
  | refine Or.inl ⟨_, rfl, ?_⟩
  | refine ⟨_, _, rfl, Or.inl (by walk_at "sq"), ?_⟩
  | refine And.intro (by walk_at "sd") ?_)
local macro_rules | `(tactic| walk_at "s") => `(tactic| repeat walk_at "s1")

def MenuK (H : Hp) (p m : Addr) : Prop := m ≠ p ∧ ∃ ms : List Str, H m = some (.lst (ms.map V.str)) ∧ 0 < ms.length ∧ ms.length ≤ 20 ∧ ∀ s ∈ ms, BinO s
theorem MenuK.but {H H' : Hp} {p m : Addr} (h : MenuK H p m) (b : But p H H') : MenuK H' p m := by
  obtain ⟨h1, ms, h2, h3⟩ := h
  exact ⟨h1, ms, b _ _ h1 h2, h3⟩
theorem TrK.but {H H' : Hp} {c p : Addr} {v : V} {t : Tr} (h : TrK H v t) (hs : Src c H p) (b : But p H H') : TrK H' v t := h.up fun _ _ e => src_tup hs b e
def spTree (n : Nat) : Sp := fun vs H Q _ => ∃ (c p l m : Addr) (k : Nat), vs = [.ref p, .int (k : Int), .ref l, .ref m] ∧ Src c H p ∧ Nms H p l ∧ MenuK H p m ∧ 1 ≤ k ∧ k ≤ 1000 ∧ k < n ∧ ∀ H' v t, Src c H' p → But p H H' → TrK H' v t → Wf t → dep t ≤ 3 * k → Q v H'
def spChain : Sp := fun vs H Q _ => ∃ (c p l : Addr), vs = [.ref p, .ref l] ∧ Src c H p ∧ Nms H p l ∧ ∀ H' v t, Src c H' p → But p H H' → TrK H' v t → Wf t → dep t ≤ 10 → Q v H'
section
variable {P : Program} {w : World} {K : PySem.W.Frag} {mg : Str → Option Value} {base : Heap} {A : Ads}
theorem ok_law_tree (T : Txt K mg A) : ∀ n : Nat, FnOk P w K mg base CX0 (n + 3) A.a_law_tree A.d_law_tree ["_law_source_here", "_law_leaves", "_law_names_here", "_law_menu_here"] (spTree n)
  | 0 => ⟨fun vs H Q E h => by
      obtain ⟨c, p, l, m, k, rfl, _⟩ := h
      rfl, fun _ _ _ _ _ _ _ _ _ _ _ _ _ h => by
      obtain ⟨c, p, l, m, k, _, _, _, _, _, _, hd, _⟩ := h
      exact absurd hd (Nat.not_lt_zero _)⟩
  | n + 1 => by
    have G0 : FnOk P w K mg base CX0 (n + 3) A.a_law_tree A.d_law_tree ["_law_source_here", "_law_leaves", "_law_names_here", "_law_menu_here"] (spTree n) := ok_law_tree T n
    refine T.F_law_tree.ok sc_law_tree (fun vs H Q E h => ?_) (fun cdv B outer s H vs Q E hr h => ?_)
    · obtain ⟨c, p, l, m, k, rfl, _⟩ := h
      rfl
    · obtain ⟨c, p, l, m, k, rfl, hs, hn, hm, hk1, hk2, hk3, q⟩ := h
      refine ⟨_, (pss_cons (ps_if (pt_cmpR op_lt (pv 1) pe_int (nomark _)) (pss_one (ps_set (i := 4) sc_law_tree.nd rfl (.inl rfl) (pe_call (ok_law_leaf T) (hr.mono (by omega)) rfl T.g_law_leaf T.F_law_leaf.kp T.b_law_leaf .nil pass0 (pa_cons (pv 0) (pa_cons (pv 2) pa_nil))))) (pss_cons (ps_set (i := 5) sc_law_tree.nd rfl (.inl rfl) (pe_ix ix_list (pv 3) (pe_call (ok_law_draw T) (hr.mono (by omega)) rfl T.g_law_draw T.F_law_draw.kp T.b_law_draw .nil pass0 (pa_cons (pv 0) (pa_cons (pe_callB len_seq (by rfl) T.n_len (by decide +kernel) (pa_cons (pv 3) pa_nil)) pa_nil))) (fun _ _ => rfl)))
    (pss_cons (ps_set (i := 6) sc_law_tree.nd rfl (.inl rfl) (pe_op op_add pe_int (pe_call (ok_law_draw T) (hr.mono (by omega)) rfl T.g_law_draw T.F_law_draw.kp T.b_law_draw .nil pass0 (pa_cons (pv 0) (pa_cons (pe_op op_sub (pv 1) pe_int) pa_nil)))))
    (pss_cons (ps_set (i := 7) sc_law_tree.nd rfl (.inl rfl) (pe_call G0 (hr.mono (by omega)) rfl T.g_law_tree T.F_law_tree.kp T.b_law_tree .nil pass0 (pa_cons (pv 0) (pa_cons (pv 6) (pa_cons (pv 2) (pa_cons (pv 3) pa_nil))))))
    (pss_one (ps_set (i := 4) sc_law_tree.nd rfl (.inl rfl) (pe_tup (pa_cons (pv 5) (pa_cons (pv 7) (pa_cons (pe_call G0 (hr.mono (by omega)) rfl T.g_law_tree T.F_law_tree.kp T.b_law_tree .nil pass0 (pa_cons (pv 0) (pa_cons (pe_op op_sub (pv 1) (pv 6)) (pa_cons (pv 2) (pa_cons (pv 3) pa_nil))))) pa_nil))))))))))
    (pss_cons (ps_for PassesOwn.never rfl (pi_range1 (by rfl) T.n_range (pa_cons (pe_ix ix_tup (pe_tup (pa_cons pe_int (pa_cons pe_int (pa_cons pe_int (pa_cons pe_int (pa_cons pe_int pa_nil)))))) (pe_call (ok_law_draw T) (hr.mono (by omega)) rfl T.g_law_draw T.F_law_draw.kp T.b_law_draw .nil pass0 (pa_cons (pv 0) (pa_cons pe_int pa_nil))) (fun _ _ => rfl)) pa_nil)) (pg_name (i := 8) sc_law_tree.nd rfl (.inl rfl))
      (pss_one (ps_set (i := 4) sc_law_tree.nd rfl (.inl rfl) (pe_tup (pa_cons (pe_ix ix_tup (pe_tup (pa_cons pe_str (pa_cons pe_str pa_nil))) (pe_call (ok_law_draw T) (hr.mono (by omega)) rfl T.g_law_draw T.F_law_draw.kp T.b_law_draw .nil pass0 (pa_cons (pv 0) (pa_cons pe_int pa_nil))) (fun _ _ => rfl)) (pa_cons (pv 4) pa_nil))))))
    (pss_one (ps_ret (pv 4))))), ?_⟩
      refine ⟨_, rfl, _, _, rfl, rfl, _, rfl, ite2 (fun c1 => ?_) (fun c1 => ?_)⟩
      · refine ⟨_, rfl, _, rfl, c, p, l, rfl, hs, hn, fun H6 v6 t6 hs6 b6 ht6 hw6 hd0 => ?_⟩
        have hd6 : dep t6 ≤ 3 * k - 2 + 0 := by omega
        refine ⟨lenOk (n := 5) rfl (by decide), fun tp ntp => ?_⟩
        have s7 := same_new (o := .tup [V.int 0, V.int 0, V.int 0, V.int 1, V.int 2]) ntp
        refine ⟨_, rfl, c, p, 5, rfl, src_up hs6 s7, by decide, by decide, fun H8 k8 l8 hs8 b8 => ?_⟩
        obtain ⟨r, hat, hr2⟩ : ∃ r : Nat, atI [V.int 0, V.int 0, V.int 0, V.int 1, V.int 2] (k8 : Int) = some (.int (r : Int)) ∧ r ≤ 2 := by
          match k8, l8 with
          | 0, _ => exact ⟨0, rfl, by decide⟩
          | 1, _ => exact ⟨0, rfl, by decide⟩
          | 2, _ => exact ⟨0, rfl, by decide⟩
          | 3, _ => exact ⟨1, rfl, by decide⟩
          | 4, _ => exact ⟨2, rfl, by decide⟩
          | n + 5, h => exact absurd h (by omega)
        have tp2 := src_tup (src_up hs6 s7) b8 (show (upd H6 tp (.tup [V.int 0, V.int 0, V.int 0, V.int 1, V.int 2])) tp = some (.tup [V.int 0, V.int 0, V.int 0, V.int 1, V.int 2]) from upd_same)
        have b68 := (But.of (p := p) s7).trans b8
        refine ⟨tp, _, _, _, rfl, rfl, SqT.of tp2, hat, (r : Int), rfl, by omega, by omega, ?_⟩
        rw [Int.toNat_natCast]
        have ht8 := ht6.but hs6 b68
        have b08 := b6.trans b68
        refine for_it (walk_range (lo := 0) (n := r)) (fun i σ Hc => ∃ v t o5 o6 o7 o8, σ = [some (.ref p), some (.int (k : Int)), some (.ref l), some (.ref m), some v, o5, o6, o7, o8] ∧ Src c Hc p ∧ But p H Hc ∧ TrK Hc v t ∧ Wf t ∧ dep t ≤ 3 * k - 2 + i) ⟨v6, t6, _, _, _, _, rfl, hs8, b08, ht8, hw6, hd6⟩ (fun _ _ _ _ _ => trivial) (fun i x σ Ha Hb hi y e => ?_) (fun σ Ha y => ?_)
        · obtain ⟨rfl, rfl⟩ := e
          obtain ⟨v, t, o5, o6, o7, o8, rfl, hsa, ba, hta, hwa, hda⟩ := y
          refine ⟨lenOk (n := 2) rfl (by decide), fun tq ntq => ?_⟩
          have s9 := same_new (o := .tup [V.str (Str.ofString "not"), V.str (Str.ofString "minus")]) ntq
          refine ⟨_, rfl, c, p, 2, rfl, src_up hsa s9, by decide, by decide, fun Hd kd ld hsd bd => ?_⟩
          obtain ⟨op, hato, hop⟩ : ∃ op : Str, atI [V.str (Str.ofString "not"), V.str (Str.ofString "minus")] (kd : Int) = some (.str op) ∧ UnO op := by
            match kd, ld with
            | 0, _ => exact ⟨_, rfl, .inl (decide_eq_true rfl)⟩
            | 1, _ => exact ⟨_, rfl, .inr (decide_eq_true rfl)⟩
            | n + 2, h => exact absurd h (by omega)
          have tq2 := src_tup (src_up hsa s9) bd (show (upd _ tq (.tup [V.str (Str.ofString "not"), V.str (Str.ofString "minus")])) tq = some (.tup [V.str (Str.ofString "not"), V.str (Str.ofString "minus")]) from upd_same)
          refine ⟨tq, _, _, _, rfl, rfl, SqT.of tq2, hato, _, rfl, lenOk (n := 2) rfl (by decide), fun r2 nr2 => ?_⟩
          have sA := same_new (o := .tup [V.str op, v]) nr2
          have bA := ((But.of (p := p) s9).trans bd).trans (But.of sA)
          exact ⟨.ref r2, .un op t, _, _, _, _, rfl, src_up hsd sA, ba.trans bA, ⟨r2, v, rfl, upd_same, hta.but hsa bA⟩, ⟨hop, hwa⟩, by show dep t + 1 ≤ _; omega⟩
        · obtain ⟨v, t, o5, o6, o7, o8, rfl, hsa, ba, hta, hwa, hda⟩ := y
          exact ⟨_, rfl, q _ v t hsa ba hta hwa (by omega)⟩
      · have hk4 : 2 ≤ k := by
          have : ¬ (k : Int) < 2 := fun z => c1 (decide_eq_true z)
          omega
        obtain ⟨hmp, ms, em, hm1, hm2, hm3⟩ := id hm
        have hml : (ms.map V.str).length = ms.length := List.length_map ..
        refine ⟨_, rfl, _, rfl, _, rfl, m, _, rfl, .inl (SqL.of em), c, p, _, rfl, hs, by rw [hml]; omega, by rw [hml]; omega, fun H1 k1 l1 hs1 b1 => ?_⟩
        rw [hml] at l1
        have hx : (ms.map V.str)[k1]? = some (.str ms[k1]) := by
          rw [List.getElem?_map, List.getElem?_eq_getElem (by omega)]
          rfl
        have hbo := hm3 _ (List.getElem_mem (show k1 < ms.length by omega))
        generalize ms[k1] = op at hx hbo
        refine ⟨m, _, _, _, rfl, rfl, SqL.of (b1 _ _ hmp em), atI_nat hx, ?_⟩
        refine ⟨_, rfl, _, rfl, _, _, rfl, rfl, c, p, _, rfl, hs1, by omega, by omega, fun H2 k2 l2 hs2 b2 => ⟨_, _, rfl, rfl, ?_⟩⟩
        have b12 := b1.trans b2
        refine ⟨_, rfl, _, rfl, _, rfl, _, rfl, c, p, l, m, 1 + k2, congrArg (fun z => [V.ref p, V.int z, V.ref l, V.ref m]) (by omega), hs2, hn.but b12, hm.but b12, by omega, by omega, by omega, fun H3 v3 t3 hs3 b3 ht3 hw3 hd3 => ?_⟩
        have b13 := b12.trans b3
        refine ⟨_, rfl, _, rfl, _, rfl, _, rfl, _, rfl, _, _, rfl, rfl, _, rfl, _, rfl, c, p, l, m, k - (1 + k2), congrArg (fun z => [V.ref p, V.int z, V.ref l, V.ref m]) (by omega), hs3, hn.but b13, hm.but b13, by omega, by omega, by omega, fun H4 v4 t4 hs4 b4 ht4 hw4 hd4 => ⟨lenOk (n := 3) rfl (by decide), fun r nr => ?_⟩⟩
        have s5 := same_new (o := .tup [V.str op, v3, v4]) nr
        generalize hH6 : upd H4 r _ = H6
        have hs6 : Src c H6 p := by rw [← hH6]; exact src_up hs4 s5
        have b6 : But p H H6 := by rw [← hH6]; exact (b13.trans b4).trans (But.of s5)
        obtain ⟨v6, t6, hv6, ht6, hw6, hd6⟩ : ∃ v6 t6, V.ref r = v6 ∧ TrK H6 v6 t6 ∧ Wf t6 ∧ dep t6 ≤ 3 * k - 2 + 0 := ⟨.ref r, .bin op t3 t4, rfl, ⟨r, v3, v4, rfl, by rw [← hH6]; exact upd_same, by rw [← hH6]; exact (ht3.but hs3 b4).ups s5, by rw [← hH6]; exact ht4.ups s5⟩, ⟨hbo, hw3, hw4⟩, by show max (dep t3) (dep t4) + 1 ≤ _; omega⟩
        clear hH6
        rw [hv6]
        refine ⟨lenOk (n := 5) rfl (by decide), fun tp ntp => ?_⟩
        have s7 := same_new (o := .tup [V.int 0, V.int 0, V.int 0, V.int 1, V.int 2]) ntp
        refine ⟨_, rfl, c, p, 5, rfl, src_up hs6 s7, by decide, by decide, fun H8 k8 l8 hs8 b8 => ?_⟩
        obtain ⟨r, hat, hr2⟩ : ∃ r : Nat, atI [V.int 0, V.int 0, V.int 0, V.int 1, V.int 2] (k8 : Int) = some (.int (r : Int)) ∧ r ≤ 2 := by
          match k8, l8 with
          | 0, _ => exact ⟨0, rfl, by decide⟩
          | 1, _ => exact ⟨0, rfl, by decide⟩
          | 2, _ => exact ⟨0, rfl, by decide⟩
          | 3, _ => exact ⟨1, rfl, by decide⟩
          | 4, _ => exact ⟨2, rfl, by decide⟩
          | n + 5, h => exact absurd h (by omega)
        have tp2 := src_tup (src_up hs6 s7) b8 (show (upd H6 tp (.tup [V.int 0, V.int 0, V.int 0, V.int 1, V.int 2])) tp = some (.tup [V.int 0, V.int 0, V.int 0, V.int 1, V.int 2]) from upd_same)
        have b68 := (But.of (p := p) s7).trans b8
        refine ⟨tp, _, _, _, rfl, rfl, SqT.of tp2, hat, (r : Int), rfl, by omega, by omega, ?_⟩
        rw [Int.toNat_natCast]
        have ht8 := ht6.but hs6 b68
        have b08 := b6.trans b68
        refine for_it (walk_range (lo := 0) (n := r)) (fun i σ Hc => ∃ v t o5 o6 o7 o8, σ = [some (.ref p), some (.int (k : Int)), some (.ref l), some (.ref m), some v, o5, o6, o7, o8] ∧ Src c Hc p ∧ But p H Hc ∧ TrK Hc v t ∧ Wf t ∧ dep t ≤ 3 * k - 2 + i) ⟨v6, t6, _, _, _, _, rfl, hs8, b08, ht8, hw6, hd6⟩ (fun _ _ _ _ _ => trivial) (fun i x σ Ha Hb hi y e => ?_) (fun σ Ha y => ?_)
        · obtain ⟨rfl, rfl⟩ := e
          obtain ⟨v, t, o5, o6, o7, o8, rfl, hsa, ba, hta, hwa, hda⟩ := y
          refine ⟨lenOk (n := 2) rfl (by decide), fun tq ntq => ?_⟩
          have s9 := same_new (o := .tup [V.str (Str.ofString "not"), V.str (Str.ofString "minus")]) ntq
          refine ⟨_, rfl, c, p, 2, rfl, src_up hsa s9, by decide, by decide, fun Hd kd ld hsd bd => ?_⟩
          obtain ⟨op, hato, hop⟩ : ∃ op : Str, atI [V.str (Str.ofString "not"), V.str (Str.ofString "minus")] (kd : Int) = some (.str op) ∧ UnO op := by
            match kd, ld with
            | 0, _ => exact ⟨_, rfl, .inl (decide_eq_true rfl)⟩
            | 1, _ => exact ⟨_, rfl, .inr (decide_eq_true rfl)⟩
            | n + 2, h => exact absurd h (by omega)
          have tq2 := src_tup (src_up hsa s9) bd (show (upd _ tq (.tup [V.str (Str.ofString "not"), V.str (Str.ofString "minus")])) tq = some (.tup [V.str (Str.ofString "not"), V.str (Str.ofString "minus")]) from upd_same)
          refine ⟨tq, _, _, _, rfl, rfl, SqT.of tq2, hato, _, rfl, lenOk (n := 2) rfl (by decide), fun r2 nr2 => ?_⟩
          have sA := same_new (o := .tup [V.str op, v]) nr2
          have bA := ((But.of (p := p) s9).trans bd).trans (But.of sA)
          exact ⟨.ref r2, .un op t, _, _, _, _, rfl, src_up hsd sA, ba.trans bA, ⟨r2, v, rfl, upd_same, hta.but hsa bA⟩, ⟨hop, hwa⟩, by show dep t + 1 ≤ _; omega⟩
        · obtain ⟨v, t, o5, o6, o7, o8, rfl, hsa, ba, hta, hwa, hda⟩ := y
          exact ⟨_, rfl, q _ v t hsa ba hta hwa (by omega)⟩
end
end R1

namespace R1
open PySem PySem.Spec PyProof.Rows L2 RK
local macro_rules | `(tactic| walk_at "sq") => `(tactic| first
  | exact SqL.of upd_same | exact upd_same | exact SqL.of (by assumption) | exact SqL.of (by rw [upd_ne (by assumption)]; assumption) | assumption)
local macro_rules | `(tactic| walk_at "sd") => `(tactic| first
  | assumption | omega | (refine Or.inl ⟨?_, ?_⟩ <;> omega) | (show _ ∧ _; constructor <;> omega) | (show _ ≠ _; simp; omega) | (exact Or.inl ⟨by decide, by decide⟩) | (exact Or.inr ⟨by decide, by decide⟩) | (show _ < _; decide) | (show _ ≤ _; decide))
local macro_rules | `(tactic| walk_at "at") => `(tactic| first | rfl | (refine atI_intV ?_ ?_ <;> omega) | assumption)
local macro_rules | `(tactic| walk_at "s1") => `(tactic| first
  | refine ⟨_, rfl, ?_⟩ | refine ⟨_, _, rfl, rfl, ?_⟩ | refine ⟨rfl, ?_⟩
  | refine ⟨_, _, _, _, rfl, rfl, by walk_at "sq", by walk_at "at", ?_⟩
  | refine Or.inl ⟨_, rfl, ?_⟩
  | refine ⟨_, _, rfl, Or.inl (by walk_at "sq"), ?_⟩
  | refine And.intro (by walk_at "sd") ?_)
local macro_rules | `(tactic| walk_at "s") => `(tactic| repeat walk_at "s1")

def sz : Tr → Nat
  | .num _ => 1
  | .one _ => 1
  | .two _ _ => 2
  | .un _ t => 3 + sz t
  | .bin _ a b => 5 + (sz a + sz b)
theorem sz_dep : ∀ t : Tr, 3 * dep t + 1 ≤ sz t
  | .num _ => Nat.le_refl 1
  | .one _ => Nat.le_refl 1
  | .two _ _ => by show 1 ≤ 2; decide
  | .un _ t => by have := sz_dep t; show 3 * (dep t + 1) + 1 ≤ 3 + sz t; omega
  | .bin _ a b => by have := sz_dep a; have := sz_dep b; show 3 * (max (dep a) (dep b) + 1) + 1 ≤ 5 + (sz a + sz b); omega
def spSize (n : Nat) : Sp := fun vs H Q _ => ∃ (v : V) (t : Tr), vs = [v] ∧ TrK H v t ∧ Wf t ∧ dep t < n ∧ ∀ H', Same H H' → Q (.int ((sz t : Nat) : Int)) H'
def spCut : Sp := fun vs H Q _ => ∃ (v : V) (t : Tr), vs = [v] ∧ TrK H v t ∧ Wf t ∧ dep t ≤ 35 ∧ ∀ H' v' t', Same H H' → TrK H' v' t' → Wf t' → sz t' ≤ 40 → Q v' H'
section
variable {P : Program} {w : World} {K : PySem.W.Frag} {mg : Str → Option Value} {base : Heap} {A : Ads}
theorem ok_law_chain (T : Txt K mg A) : FnOk P w K mg base CX0 4 A.a_law_chain A.d_law_chain ["_law_source_here", "_law_names_here"] spChain := by
  refine T.F_law_chain.ok sc_law_chain (fun vs H Q E h => ?_) (fun cdv B outer s H vs Q E hr h => ?_)
  · obtain ⟨c, p, l, rfl, _⟩ := h
    rfl
  · obtain ⟨c, p, l, rfl, hs, hn, q⟩ := h
    refine ⟨_, (pss_cons (ps_set (i := 2) sc_law_chain.nd rfl (.inl rfl) (pe_tup (pa_cons pe_str (pa_cons (pe_call (ok_law_number T) (hr.mono (by omega)) rfl T.g_law_number T.F_law_number.kp T.b_law_number .nil pass0 (pa_cons (pv 0) pa_nil)) pa_nil))))
    (pss_cons (ps_for PassesOwn.never rfl (pi_range1 (by rfl) T.n_range (pa_cons (pe_op op_add pe_int (pe_call (ok_law_draw T) (hr.mono (by omega)) rfl T.g_law_draw T.F_law_draw.kp T.b_law_draw .nil pass0 (pa_cons (pv 0) (pa_cons pe_int pa_nil)))) pa_nil)) (pg_name (i := 3) sc_law_chain.nd rfl (.inl rfl))
      (pss_cons (ps_set (i := 4) sc_law_chain.nd rfl (.inl rfl) (pe_ix ix_tup (pe_tup (pa_cons pe_str (pa_cons pe_str (pa_cons pe_str (pa_cons pe_str (pa_cons pe_str (pa_cons pe_str pa_nil))))))) (pe_call (ok_law_draw T) (hr.mono (by omega)) rfl T.g_law_draw T.F_law_draw.kp T.b_law_draw .nil pass0 (pa_cons (pv 0) (pa_cons pe_int pa_nil))) (fun _ _ => rfl)))
    (pss_cons (ps_set (i := 5) sc_law_chain.nd rfl (.inl rfl) (pe_tup (pa_cons pe_str (pa_cons (pe_ix ix_tup (pe_tup (pa_cons pe_int (pa_cons pe_int (pa_cons pe_int (pa_cons pe_int (pa_cons pe_int (pa_cons pe_int (pa_cons pe_int (pa_cons pe_int pa_nil))))))))) (pe_call (ok_law_draw T) (hr.mono (by omega)) rfl T.g_law_draw T.F_law_draw.kp T.b_law_draw .nil pass0 (pa_cons (pv 0) (pa_cons pe_int pa_nil))) (fun _ _ => rfl)) pa_nil))))
    (pss_cons (ps_if (pt_cmpR op_eq (pe_call (ok_law_draw T) (hr.mono (by omega)) rfl T.g_law_draw T.F_law_draw.kp T.b_law_draw .nil pass0 (pa_cons (pv 0) (pa_cons pe_int pa_nil))) pe_int (nomark _)) (pss_one (ps_set (i := 5) sc_law_chain.nd rfl (.inl rfl) (pe_call (ok_law_leaf T) (hr.mono (by omega)) rfl T.g_law_leaf T.F_law_leaf.kp T.b_law_leaf .nil pass0 (pa_cons (pv 0) (pa_cons (pv 1) pa_nil))))) pss_nil)
    (pss_cons (ps_if (pt_cmpR op_eq (pe_call (ok_law_draw T) (hr.mono (by omega)) rfl T.g_law_draw T.F_law_draw.kp T.b_law_draw .nil pass0 (pa_cons (pv 0) (pa_cons pe_int pa_nil))) pe_int (nomark _)) (pss_one (ps_set (i := 2) sc_law_chain.nd rfl (.inl rfl) (pe_tup (pa_cons pe_str (pa_cons (pv 2) pa_nil))))) pss_nil)
    (pss_one (ps_set (i := 2) sc_law_chain.nd rfl (.inl rfl) (pe_tup (pa_cons (pv 4) (pa_cons (pv 2) (pa_cons (pv 5) pa_nil)))))))))))
    (pss_one (ps_ret (pv 2))))), ?_⟩
    refine ⟨_, rfl, c, p, rfl, hs, fun H1 m hs1 b1 => ⟨lenOk (n := 2) rfl (by decide), fun r nr => ?_⟩⟩
    have s2 := same_new (o := .tup [V.str (Str.ofString "number"), V.int m]) nr
    generalize hH2 : upd H1 r _ = H2
    have hs2 : Src c H2 p := by rw [← hH2]; exact src_up hs1 s2
    have b2 : But p H H2 := by rw [← hH2]; exact b1.trans (But.of s2)
    have ht2 : TrK H2 (.ref r) (.num m) := ⟨r, rfl, by rw [← hH2]; exact upd_same⟩
    clear hH2 s2 nr
    refine ⟨_, rfl, c, p, 4, rfl, hs2, by decide, by decide, fun H3 n3 l3 hs3 b3 => ⟨_, _, rfl, rfl, 1 + (n3 : Int), rfl, by omega, by omega, ?_⟩⟩
    rw [show ((1 : Int) + (n3 : Int)).toNat = n3 + 1 by omega]
    refine for_it (walk_range (lo := 0) (n := n3 + 1)) (fun i σ Hc => ∃ v t o3 o4 o5, σ = [some (.ref p), some (.ref l), some v, o3, o4, o5] ∧ Src c Hc p ∧ But p H Hc ∧ TrK Hc v t ∧ Wf t ∧ dep t ≤ 2 * i) ⟨.ref r, .num m, _, _, _, rfl, hs3, b2.trans b3, ht2.but hs2 b3, trivial, Nat.zero_le _⟩ (fun _ _ _ _ _ => trivial) (fun i x σ Ha Hb hi y e => ?_) (fun σ Ha y => ?_)
    · obtain ⟨rfl, rfl⟩ := e
      obtain ⟨v, t, o3, o4, o5, rfl, hsa, ba, hta, hwa, hda⟩ := y
      refine ⟨lenOk (n := 6) rfl (by decide), fun tq ntq => ?_⟩
      have s9 := same_new (o := .tup [V.str (Str.ofString "*"), V.str (Str.ofString "*"), V.str (Str.ofString "+"), V.str (Str.ofString "-"), V.str (Str.ofString "/"), V.str (Str.ofString "mod")]) ntq
      refine ⟨_, rfl, c, p, 6, rfl, src_up hsa s9, by decide, by decide, fun Hd kd ld hsd bd => ?_⟩
      obtain ⟨op, hato, hop⟩ : ∃ op : Str, atI [V.str (Str.ofString "*"), V.str (Str.ofString "*"), V.str (Str.ofString "+"), V.str (Str.ofString "-"), V.str (Str.ofString "/"), V.str (Str.ofString "mod")] (kd : Int) = some (.str op) ∧ BinO op := by
        match kd, ld with
        | 0, _ => exact ⟨_, rfl, by unfold BinO; decide +kernel⟩
        | 1, _ => exact ⟨_, rfl, by unfold BinO; decide +kernel⟩
        | 2, _ => exact ⟨_, rfl, by unfold BinO; decide +kernel⟩
        | 3, _ => exact ⟨_, rfl, by unfold BinO; decide +kernel⟩
        | 4, _ => exact ⟨_, rfl, by unfold BinO; decide +kernel⟩
        | 5, _ => exact ⟨_, rfl, by unfold BinO; decide +kernel⟩
        | n + 6, h => exact absurd h (by omega)
      have tq2 := src_tup (src_up hsa s9) bd (show (upd _ tq (.tup [V.str (Str.ofString "*"), V.str (Str.ofString "*"), V.str (Str.ofString "+"), V.str (Str.ofString "-"), V.str (Str.ofString "/"), V.str (Str.ofString "mod")])) tq = some (.tup _) from upd_same)
      refine ⟨tq, _, _, _, rfl, rfl, SqT.of tq2, hato, ?_⟩
      have bad := (But.of (p := p) s9).trans bd
      have htd := hta.but hsa bad
      have b0d := ba.trans bad
      clear tq2 hato s9 ntq bd
      refine ⟨lenOk (n := 8) rfl (by decide), fun tc ntc => ?_⟩
      have s10 := same_new (o := .tup [V.int 1, V.int 2, V.int 3, V.int 31622, V.int 31623, V.int 65536, V.int 999999999, V.int 1000000000]) ntc
      refine ⟨_, rfl, c, p, 8, rfl, src_up hsd s10, by decide, by decide, fun He ke le hse be => ?_⟩
      obtain ⟨cv, hatc⟩ : ∃ cv : Int, atI [V.int 1, V.int 2, V.int 3, V.int 31622, V.int 31623, V.int 65536, V.int 999999999, V.int 1000000000] (ke : Int) = some (.int cv) := by
        match ke, le with
        | 0, _ => exact ⟨_, rfl⟩
        | 1, _ => exact ⟨_, rfl⟩
        | 2, _ => exact ⟨_, rfl⟩
        | 3, _ => exact ⟨_, rfl⟩
        | 4, _ => exact ⟨_, rfl⟩
        | 5, _ => exact ⟨_, rfl⟩
        | 6, _ => exact ⟨_, rfl⟩
        | 7, _ => exact ⟨_, rfl⟩
        | n + 8, h => exact absurd h (by omega)
      have tc2 := src_tup (src_up hsd s10) be (show (upd _ tc (.tup [V.int 1, V.int 2, V.int 3, V.int 31622, V.int 31623, V.int 65536, V.int 999999999, V.int 1000000000])) tc = some (.tup _) from upd_same)
      refine ⟨tc, _, _, _, rfl, rfl, SqT.of tc2, hatc, lenOk (n := 2) rfl (by decide), fun ro nro => ?_⟩
      have s11 := same_new (o := .tup [V.str (Str.ofString "number"), V.int cv]) nro
      generalize hHf : upd He ro _ = Hf
      have hsf : Src c Hf p := by rw [← hHf]; exact src_up hse s11
      have bdf : But p Hd Hf := by rw [← hHf]; exact ((But.of s10).trans be).trans (But.of s11)
      have htf : TrK Hf (.ref ro) (.num cv) := ⟨ro, rfl, by rw [← hHf]; exact upd_same⟩
      clear hHf s10 s11 nro be tc2 hatc ntc
      have b0f := b0d.trans bdf
      have htv := htd.but hsd bdf
      refine ⟨_, rfl, c, p, 3, rfl, hsf, by decide, by decide, fun H9 k9 l9 hs9 b9 => ⟨rfl, _, rfl, ite2 (fun c1 => ?_) (fun c1 => ?_)⟩⟩
      · refine ⟨_, rfl, _, rfl, c, p, l, rfl, hs9, hn.but (b0f.trans b9), fun Hg vo to_ hsg bg htog hwo hdo => ?_⟩
        have b0g := (b0f.trans b9).trans bg
        have htg := htv.but hsf (b9.trans bg)
        refine ⟨_, rfl, c, p, 3, rfl, hsg, by decide, by decide, fun Hh kh lh hsh bh => ⟨rfl, _, rfl, ite2 (fun c2 => ?_) (fun c2 => ?_)⟩⟩
        · refine ⟨_, rfl, lenOk (n := 2) rfl (by decide), fun r2 nr2 => ?_⟩
          have sA := same_new (o := .tup [V.str (Str.ofString "minus"), v]) nr2
          have hhA := src_up hsh sA
          have bA := bh.trans (But.of sA)
          have hm : TrK (upd Hh r2 (.tup [V.str (Str.ofString "minus"), v])) (.ref r2) (.un (Str.ofString "minus") t) := ⟨r2, v, rfl, upd_same, htg.but hsg bA⟩
          generalize upd Hh r2 (.tup [V.str (Str.ofString "minus"), v]) = Hi at hhA bA hm ⊢
          refine ⟨_, rfl, _, rfl, _, rfl, lenOk (n := 3) rfl (by decide), fun r3 nr3 => ?_⟩
          have sB := same_new (o := .tup [V.str op, V.ref r2, vo]) nr3
          exact ⟨.ref r3, .bin op (.un (Str.ofString "minus") t) to_, _, _, _, rfl, src_up hhA sB, (b0g.trans bA).trans (But.of sB), ⟨r3, _, _, rfl, upd_same, hm.ups sB, (htog.but hsg bA).ups sB⟩, ⟨hop, ⟨.inr (decide_eq_true rfl), hwa⟩, hwo⟩, by show max (dep t + 1) (dep to_) + 1 ≤ _; omega⟩
        · refine ⟨_, rfl, _, rfl, _, rfl, lenOk (n := 3) rfl (by decide), fun r3 nr3 => ?_⟩
          have sB := same_new (o := .tup [V.str op, v, vo]) nr3
          exact ⟨.ref r3, .bin op t to_, _, _, _, rfl, src_up hsh sB, (b0g.trans bh).trans (But.of sB), ⟨r3, _, _, rfl, upd_same, (htg.but hsg bh).ups sB, (htog.but hsg bh).ups sB⟩, ⟨hop, hwa, hwo⟩, by show max (dep t) (dep to_) + 1 ≤ _; omega⟩
      · obtain ⟨vo, to_, hvo, htog, hwo, hdo⟩ : ∃ vo to_, V.ref ro = vo ∧ TrK H9 vo to_ ∧ Wf to_ ∧ dep to_ = 0 := ⟨_, .num cv, rfl, htf.but hsf b9, trivial, rfl⟩
        have hsg := hs9
        have b0g := b0f.trans b9
        have htg := htv.but hsf b9
        rw [hvo]
        refine ⟨_, rfl, c, p, 3, rfl, hsg, by decide, by decide, fun Hh kh lh hsh bh => ⟨rfl, _, rfl, ite2 (fun c2 => ?_) (fun c2 => ?_)⟩⟩
        · refine ⟨_, rfl, lenOk (n := 2) rfl (by decide), fun r2 nr2 => ?_⟩
          have sA := same_new (o := .tup [V.str (Str.ofString "minus"), v]) nr2
          have hhA := src_up hsh sA
          have bA := bh.trans (But.of sA)
          have hm : TrK (upd Hh r2 (.tup [V.str (Str.ofString "minus"), v])) (.ref r2) (.un (Str.ofString "minus") t) := ⟨r2, v, rfl, upd_same, htg.but hsg bA⟩
          generalize upd Hh r2 (.tup [V.str (Str.ofString "minus"), v]) = Hi at hhA bA hm ⊢
          refine ⟨_, rfl, _, rfl, _, rfl, lenOk (n := 3) rfl (by decide), fun r3 nr3 => ?_⟩
          have sB := same_new (o := .tup [V.str op, V.ref r2, vo]) nr3
          exact ⟨.ref r3, .bin op (.un (Str.ofString "minus") t) to_, _, _, _, rfl, src_up hhA sB, (b0g.trans bA).trans (But.of sB), ⟨r3, _, _, rfl, upd_same, hm.ups sB, (htog.but hsg bA).ups sB⟩, ⟨hop, ⟨.inr (decide_eq_true rfl), hwa⟩, hwo⟩, by show max (dep t + 1) (dep to_) + 1 ≤ _; omega⟩
        · refine ⟨_, rfl, _, rfl, _, rfl, lenOk (n := 3) rfl (by decide), fun r3 nr3 => ?_⟩
          have sB := same_new (o := .tup [V.str op, v, vo]) nr3
          exact ⟨.ref r3, .bin op t to_, _, _, _, rfl, src_up hsh sB, (b0g.trans bh).trans (But.of sB), ⟨r3, _, _, rfl, upd_same, (htg.but hsg bh).ups sB, (htog.but hsg bh).ups sB⟩, ⟨hop, hwa, hwo⟩, by show max (dep t) (dep to_) + 1 ≤ _; omega⟩
    · obtain ⟨v, t, o3, o4, o5, rfl, hsa, ba, hta, hwa, hda⟩ := y
      exact ⟨_, rfl, q _ v t hsa ba hta hwa (by omega)⟩
theorem ok_law_size (T : Txt K mg A) : ∀ n : Nat, FnOk P w K mg base CX0 n A.a_law_size A.d_law_size ["_law_tree_here"] (spSize n)
  | 0 => ⟨fun vs H Q E h => by
      obtain ⟨v, t, rfl, _⟩ := h
      rfl, fun _ _ _ _ _ _ _ _ _ _ _ _ _ h => by
      obtain ⟨v, t, _, _, _, hd, _⟩ := h
      exact absurd hd (Nat.not_lt_zero _)⟩
  | n + 1 => by
    have G0 : FnOk P w K mg base CX0 n A.a_law_size A.d_law_size ["_law_tree_here"] (spSize n) := ok_law_size T n
    refine T.F_law_size.ok sc_law_size (fun vs H Q E h => ?_) (fun cdv B outer s H vs Q E hr h => ?_)
    · obtain ⟨v, t, rfl, _⟩ := h
      rfl
    · obtain ⟨v, t, rfl, ht, hwf, hd, q⟩ := h
      refine ⟨_, (pss_cons (ps_if (PW.pt (pw_or (pt_cmpR op_eq (pe_ix ix_tup (pv 0) pe_int (fun _ _ => rfl)) pe_str (nomark _)) (pw_or1 (pt_cmpR op_eq (pe_callB len_seq (by rfl) T.n_len (by decide +kernel) (pa_cons (pv 0) pa_nil)) pe_int (nomark _))))) (pss_one (ps_ret pe_int)) pss_nil)
    (pss_cons (ps_if (pt_val (pe_callB call_isi (by rfl) T.n_isinstance (by decide +kernel) (pa_cons (pe_ix ix_tup (pv 0) pe_int (fun _ _ => rfl)) (pa_cons (pe_bltn (v := .ty "str") (u := .type "str") (by rfl) T.n_str (by decide +kernel) rfl) pa_nil)))) (pss_one (ps_ret pe_int)) pss_nil)
    (pss_one (ps_ret (pe_op op_add (pe_op op_sub (pe_op op_mul pe_int (pe_callB len_seq (by rfl) T.n_len (by decide +kernel) (pa_cons (pv 0) pa_nil))) pe_int) (pe_callB (cr_sum rfl) (by rfl) T.n_sum (by decide +kernel) (pa_cons (pe_lc (own := [("_law_part", 1)]) rfl sc_law_size.nd (pi_tup (pe_slice sl_tupA (pv 0) (po_some pe_int) po_none)) (blkOk_by (own := [("_law_part", 1)]) (N := N_law_size) (sc := defScope s_law_size) (by decide +kernel)) (fun _ _ _ _ _ => pg_name (i := 1) sc_law_size.nd rfl (Or.inl rfl)) (fun _ _ _ _ _ => pts_nil) (fun _ _ _ _ _ => by exact (pe_call G0 (hr.mono (by omega)) rfl T.g_law_size T.F_law_size.kp T.b_law_size .nil pass0 (pa_cons (pv 1) pa_nil)))) pa_nil))))))), ?_⟩
      cases t with
      | num m =>
        obtain ⟨p, rfl, hp⟩ := ht
        exact ⟨_, rfl, p, _, 0, _, rfl, rfl, SqT.of hp, atI_nat (j := 0) rfl, rfl, _, rfl, ifT (decide_eq_true rfl) (ifT rfl (q _ (Same.refl _)))⟩
      | one x =>
        obtain ⟨p, rfl, hp⟩ := ht
        refine ⟨_, rfl, p, _, 0, _, rfl, rfl, SqT.of hp, atI_nat (j := 0) rfl, rfl, _, rfl, ifF (one_not x hwf) ?_⟩
        exact ⟨_, rfl, p, _, rfl, .inr (SqT.of hp), rfl, _, rfl, ifT rfl (q _ (Same.refl _))⟩
      | two x y =>
        obtain ⟨p, rfl, hp⟩ := ht
        refine ⟨_, rfl, p, _, 0, _, rfl, rfl, SqT.of hp, atI_nat (j := 0) rfl, rfl, _, rfl, ifF (two_not x hwf.1) ?_⟩
        refine ⟨_, rfl, p, _, rfl, .inr (SqT.of hp), rfl, _, rfl, ifF rfl ?_⟩
        refine ⟨_, rfl, p, _, 1, _, rfl, rfl, SqT.of hp, atI_nat (j := 1) rfl, .str y, .ty "str", _, _, _, rfl, .ty "str", dp_ty (K := K) (.str y), kit_ty (kitT _ (dp_tn (K := K) (H := H) (.str y)) "str" (by decide)), _, rfl, ifT rfl ?_⟩
        exact q _ (Same.refl _)
      | un op t =>
        obtain ⟨p, u, rfl, hp, hu⟩ := ht
        obtain ⟨on1, on2, on3⟩ := op_not op (.inl hwf.1)
        refine ⟨_, rfl, p, _, 0, _, rfl, rfl, SqT.of hp, atI_nat (j := 0) rfl, rfl, _, rfl, ifF on1 ?_⟩
        refine ⟨_, rfl, p, _, rfl, .inr (SqT.of hp), rfl, _, rfl, ifF rfl ?_⟩
        have hdu := (dx_tr (K := K) hu).dp
        refine ⟨_, rfl, p, _, 1, _, rfl, rfl, SqT.of hp, atI_nat (j := 1) rfl, u, .ty "str", _, _, _, rfl, .ty "str", dp_ty hdu, kit_ty (kitT _ (dp_tn hdu) "str" (by decide)), _, rfl, ?_⟩
        rw [tn_tr]
        refine ifF rfl ?_
        refine ⟨_, rfl, p, _, rfl, .inr (SqT.of hp), _, _, rfl, rfl, .inl ⟨by decide, by decide⟩, _, _, rfl, rfl, ?_⟩
        unfold tNoPart
        refine ⟨_, rfl, _, rfl, slA_of (SqT.of hp) fun p2 H2 s2 e2 => ?_⟩
        have e2' : SqT K H2 p2 [u] := by
          have := cutV_lo (xs := V.str op :: [u]) 1
          rw [show cutV (V.str op :: [u]) (some 1) none = [u] from this] at e2
          exact e2
        refine ⟨p2, rfl, ⟨_, e2'⟩, fun D nD => ?_⟩
        have hps : ∀ i (h : i < [t].length), ∃ v, [u][i]? = some v ∧ TrK H2 v (([t] : List Tr)[i]) ∧ Wf (([t] : List Tr)[i]) ∧ dep (([t] : List Tr)[i]) < n := fun i h => by
          have : i = 0 := by have : i < 1 := h; omega
          subst this
          exact ⟨u, rfl, hu.ups s2, hwf.2, by have : dep t + 1 < n + 1 := hd; show dep t < n; omega⟩
        refine lc_vals (walk_tup (K := K) (a := p2) (xs := [u])) (fun i v => [u][i]? = some v) (fun i => .int ((sz ([t].getD i (.num 0)) : Nat) : Int)) nD (fun H4 s4 => sqT_up e2' s4) (by simp only [List.length_cons, List.length_nil]; omega) (fun i H1 v H2 hi y => y) (fun i v H4 hi sm hv Q q => ?_) (fun H4 s4 e4 => ?_)
        · obtain ⟨v', h1, h2, h3, h4⟩ := hps i hi
          rw [hv] at h1
          cases h1
          have hgd : [t].getD i (.num 0) = ([t] : List Tr)[i] := getD_at (l := [t]) hi
          rw [hgd] at q
          exact ⟨_, rfl, v, ([t] : List Tr)[i], rfl, h2.ups sm, h3, h4, q⟩
        have e5 : H4 D = some (.lst ([((sz t : Nat) : Int)].map V.int)) := e4
        have qq := q H4 (s2.trans s4)
        have hv : ((sz (.un op t) : Nat) : Int) = (2 * ((2 : Nat) : Int) - 1) + (((sz t : Nat) : Int) + 0) := by
          show ((3 + sz t : Nat) : Int) = _
          omega
        rw [hv] at qq
        exact ⟨D, _, rfl, SqL.of e5, _, _, rfl, rfl, qq⟩
      | bin op a b =>
        obtain ⟨p, u1, u2, rfl, hp, hu1, hu2⟩ := ht
        obtain ⟨on1, on2, on3⟩ := op_not op (.inr hwf.1)
        refine ⟨_, rfl, p, _, 0, _, rfl, rfl, SqT.of hp, atI_nat (j := 0) rfl, rfl, _, rfl, ifF on1 ?_⟩
        refine ⟨_, rfl, p, _, rfl, .inr (SqT.of hp), rfl, _, rfl, ifF rfl ?_⟩
        have hdu := (dx_tr (K := K) hu1).dp
        refine ⟨_, rfl, p, _, 1, _, rfl, rfl, SqT.of hp, atI_nat (j := 1) rfl, u1, .ty "str", _, _, _, rfl, .ty "str", dp_ty hdu, kit_ty (kitT _ (dp_tn hdu) "str" (by decide)), _, rfl, ?_⟩
        rw [tn_tr]
        refine ifF rfl ?_
        refine ⟨_, rfl, p, _, rfl, .inr (SqT.of hp), _, _, rfl, rfl, .inl ⟨by decide, by decide⟩, _, _, rfl, rfl, ?_⟩
        unfold tNoPart
        refine ⟨_, rfl, _, rfl, slA_of (SqT.of hp) fun p2 H2 s2 e2 => ?_⟩
        have e2' : SqT K H2 p2 [u1, u2] := by
          have := cutV_lo (xs := V.str op :: [u1, u2]) 1
          rw [show cutV (V.str op :: [u1, u2]) (some 1) none = [u1, u2] from this] at e2
          exact e2
        refine ⟨p2, rfl, ⟨_, e2'⟩, fun D nD => ?_⟩
        have hps : ∀ i (h : i < [a, b].length), ∃ v, [u1, u2][i]? = some v ∧ TrK H2 v (([a, b] : List Tr)[i]) ∧ Wf (([a, b] : List Tr)[i]) ∧ dep (([a, b] : List Tr)[i]) < n := fun i h => by
          have hdd : max (dep a) (dep b) + 1 < n + 1 := hd
          have : i = 0 ∨ i = 1 := by have : i < 2 := h; omega
          rcases this with z | z
          · subst z
            exact ⟨u1, rfl, hu1.ups s2, hwf.2.1, by show dep a < n; omega⟩
          · subst z
            exact ⟨u2, rfl, hu2.ups s2, hwf.2.2, by show dep b < n; omega⟩
        refine lc_vals (walk_tup (K := K) (a := p2) (xs := [u1, u2])) (fun i v => [u1, u2][i]? = some v) (fun i => .int ((sz ([a, b].getD i (.num 0)) : Nat) : Int)) nD (fun H4 s4 => sqT_up e2' s4) (by simp only [List.length_cons, List.length_nil]; omega) (fun i H1 v H2 hi y => y) (fun i v H4 hi sm hv Q q => ?_) (fun H4 s4 e4 => ?_)
        · obtain ⟨v', h1, h2, h3, h4⟩ := hps i hi
          rw [hv] at h1
          cases h1
          have hgd : [a, b].getD i (.num 0) = ([a, b] : List Tr)[i] := getD_at (l := [a, b]) hi
          rw [hgd] at q
          exact ⟨_, rfl, v, ([a, b] : List Tr)[i], rfl, h2.ups sm, h3, h4, q⟩
        have e5 : H4 D = some (.lst ([((sz a : Nat) : Int), ((sz b : Nat) : Int)].map V.int)) := e4
        have qq := q H4 (s2.trans s4)
        have hv : ((sz (.bin op a b) : Nat) : Int) = (2 * ((3 : Nat) : Int) - 1) + (((sz a : Nat) : Int) + (((sz b : Nat) : Int) + 0)) := by
          show ((5 + (sz a + sz b) : Nat) : Int) = _
          omega
        rw [hv] at qq
        exact ⟨D, _, rfl, SqL.of e5, _, _, rfl, rfl, qq⟩
theorem ok_law_cut (T : Txt K mg A) : FnOk P w K mg base CX0 41 A.a_law_cut A.d_law_cut ["_law_tree_here"] spCut := by
  refine T.F_law_cut.ok sc_law_cut (fun vs H Q E h => ?_) (fun cdv B outer s H vs Q E hr h => ?_)
  · obtain ⟨v, t, rfl, _⟩ := h
    rfl
  · obtain ⟨v, t, rfl, ht, hwf, hd, q⟩ := h
    refine ⟨_, (pss_cons (ps_for PassesOwn.never rfl (pi_range1 (by rfl) T.n_range (pa_cons pe_int pa_nil)) (pg_name (i := 1) sc_law_cut.nd rfl (.inl rfl))
      (pss_one (ps_if (pt_cmpR op_gt (pe_call (ok_law_size T 40) (hr.mono (by omega)) rfl T.g_law_size T.F_law_size.kp T.b_law_size .nil pass0 (pa_cons (pv 0) pa_nil)) pe_int (nomark _)) (pss_one (ps_set (i := 0) sc_law_cut.nd rfl (.inl rfl) (pe_ix ix_tup (pv 0) pe_int (fun _ _ => rfl)))) pss_nil)))
    (pss_one (ps_ret (pv 0)))), ?_⟩
    refine ⟨60, rfl, by decide, by decide, ?_⟩
    rw [show (60 : Int).toNat = 60 from rfl]
    refine for_it (walk_range (lo := 0) (n := 60)) (fun i σ Hc => ∃ v t o1, σ = [some v, o1] ∧ Same H Hc ∧ TrK Hc v t ∧ Wf t ∧ dep t ≤ 35 ∧ (sz t ≤ 40 ∨ dep t + i ≤ 60)) ⟨v, t, _, rfl, Same.refl _, ht, hwf, hd, .inr (by omega)⟩ (fun _ _ _ _ _ => trivial) (fun i x σ Ha Hb hi y e => ?_) (fun σ Ha y => ?_)
    · obtain ⟨rfl, rfl⟩ := e
      obtain ⟨v, t, o1, rfl, sa, hta, hwa, hda, hz⟩ := y
      refine ⟨_, rfl, v, t, rfl, hta, hwa, by omega, fun H2 s2 => ⟨_, _, rfl, rfl, _, rfl, ite2 (fun c => ?_) (fun c => ?_)⟩⟩
      · have hc : 40 < sz t := by
          have : (40 : Int) < ((sz t : Nat) : Int) := of_decide_eq_true c
          omega
        have ht2 := hta.ups s2
        cases t with
        | num m => have : 40 < 1 := hc; omega
        | one w => have : 40 < 1 := hc; omega
        | two w x => have : 40 < 2 := hc; omega
        | un op t =>
          obtain ⟨p, u, rfl, hp, hu⟩ := ht2
          have h1 : dep t + 1 ≤ 35 := hda
          refine ⟨_, rfl, p, _, 1, _, rfl, rfl, SqT.of hp, atI_nat (j := 1) rfl, u, t, _, rfl, sa.trans s2, hu, hwa.2, by omega, .inr ?_⟩
          rcases hz with z | z
          · omega
          · have : dep t + 1 + i ≤ 60 := z
            omega
        | bin op a b =>
          obtain ⟨p, u1, u2, rfl, hp, hu1, hu2⟩ := ht2
          have h1 : max (dep a) (dep b) + 1 ≤ 35 := hda
          refine ⟨_, rfl, p, _, 1, _, rfl, rfl, SqT.of hp, atI_nat (j := 1) rfl, u1, a, _, rfl, sa.trans s2, hu1, hwa.2.1, by omega, .inr ?_⟩
          rcases hz with z | z
          · omega
          · have : max (dep a) (dep b) + 1 + i ≤ 60 := z
            omega
      · have hc : sz t ≤ 40 := by
          have : ¬ (40 : Int) < ((sz t : Nat) : Int) := fun z => c (decide_eq_true z)
          omega
        exact ⟨v, t, _, rfl, sa.trans s2, hta.ups s2, hwa, hda, .inl hc⟩
    · obtain ⟨v, t, o1, rfl, sa, hta, hwa, hda, hz⟩ := y
      have hz2 : sz t ≤ 40 := by
        rcases hz with z | z
        · exact z
        · cases t with
          | num m => exact (by decide : 1 ≤ 40)
          | one w => exact (by decide : 1 ≤ 40)
          | two w x => exact (by decide : 2 ≤ 40)
          | un op t => have : dep t + 1 + 60 ≤ 60 := z; omega
          | bin op a b => have : max (dep a) (dep b) + 1 + 60 ≤ 60 := z; omega
      exact ⟨_, rfl, q _ v t sa hta hwa hz2⟩
end
end R1

namespace R1
open PySem PySem.Spec PyProof.Rows L2 RK
local macro_rules | `(tactic| walk_at "sq") => `(tactic| first
  | exact SqL.of upd_same | exact upd_same | exact SqL.of (by assumption) | exact SqL.of (by rw [upd_ne (by assumption)]; assumption) | assumption)
local macro_rules | `(tactic| walk_at "sd") => `(tactic| first
  | assumption | omega | (refine Or.inl ⟨?_, ?_⟩ <;> omega) | (show _ ∧ _; constructor <;> omega) | (show _ ≠ _; simp; omega) | (exact Or.inl ⟨by decide, by decide⟩) | (exact Or.inr ⟨by decide, by decide⟩) | (show _ < _; decide) | (show _ ≤ _; decide))
local macro_rules | `(tactic| walk_at "at") => `(tactic| first | rfl | (refine atI_intV ?_ ?_ <;> omega) | assumption)
local macro_rules | `(tactic| walk_at "s1") => `(tactic| first
  | refine ⟨_, rfl, ?_⟩ | refine ⟨_, _, rfl, rfl, ?_⟩ | refine ⟨rfl, ?_⟩
  | refine ⟨_, _, _, _, rfl, rfl, by walk_at "sq", by walk_at "at", ?_⟩
  | refine Or.inl ⟨_, rfl, ?_⟩
  | refine ⟨_, _, rfl, Or.inl (by walk_at "sq"), ?_⟩
  | refine And.intro (by walk_at "sd") ?_)
local macro_rules | `(tactic| walk_at "s") => `(tactic| repeat walk_at "s1")

def KeysK (H : Hp) (ps : List Addr) : Prop := ∀ q ∈ ps, ∃ k : List Key, H q = some (.tup (k.map kV)) ∧ k.length ≤ 10 ∧ ∀ x ∈ k, LayK x
theorem KeysK.up {H H' : Hp} {ps : List Addr} (h : KeysK H ps) (e : ∀ p xs, H p = some (.tup xs) → H' p = some (.tup xs)) : KeysK H' ps := fun q hq => let ⟨k, hk, hl⟩ := h q hq; ⟨k, e _ _ hk, hl⟩
def spKeys (n : Nat) : Sp := fun vs H Q _ => ∃ (v : V) (t : Tr), vs = [v] ∧ TrK H v t ∧ Wf t ∧ dep t < n ∧ sz t ≤ 100 ∧ ∀ H' l (ps : List Addr), Same H H' → H l = none → H' l = some (.lst (ps.map V.ref)) → ps.length ≤ sz t → KeysK H' ps → Q (.ref l) H'
section
variable {P : Program} {w : World} {K : PySem.W.Frag} {mg : Str → Option Value} {base : Heap} {A : Ads}
theorem ok_law_keys (T : Txt K mg A) : ∀ n : Nat, FnOk P w K mg base CX0 n A.a_law_keys A.d_law_keys ["_law_tree_here"] (spKeys n)
  | 0 => ⟨fun vs H Q E h => by
      obtain ⟨v, t, rfl, _⟩ := h
      rfl, fun _ _ _ _ _ _ _ _ _ _ _ _ _ h => by
      obtain ⟨v, t, _, _, _, hd, _⟩ := h
      exact absurd hd (Nat.not_lt_zero _)⟩
  | n + 1 => by
    have G0 : FnOk P w K mg base CX0 n A.a_law_keys A.d_law_keys ["_law_tree_here"] (spKeys n) := ok_law_keys T n
    refine T.F_law_keys.ok sc_law_keys (fun vs H Q E h => ?_) (fun cdv B outer s H vs Q E hr h => ?_)
    · obtain ⟨v, t, rfl, _⟩ := h
      rfl
    · obtain ⟨v, t, rfl, ht, hwf, hd, hsz, q⟩ := h
      refine ⟨_, (pss_cons (ps_if (pt_cmpR op_eq (pe_ix ix_tup (pv 0) pe_int (fun _ _ => rfl)) pe_str (nomark _)) (pss_one (ps_ret (pe_lst pa_nil))) pss_nil)
    (pss_cons (ps_if (PW.pt (pw_or (pt_cmpR op_eq (pe_callB len_seq (by rfl) T.n_len (by decide +kernel) (pa_cons (pv 0) pa_nil)) pe_int (nomark _)) (pw_or1 (pt_val (pe_callB call_isi (by rfl) T.n_isinstance (by decide +kernel) (pa_cons (pe_ix ix_tup (pv 0) pe_int (fun _ _ => rfl)) (pa_cons (pe_bltn (v := .ty "str") (u := .type "str") (by rfl) T.n_str (by decide +kernel) rfl) pa_nil))))))) (pss_one (ps_ret (pe_lst (pa_cons (pv 0) pa_nil)))) pss_nil)
    (pss_cons (ps_set (i := 1) sc_law_keys.nd rfl (.inl rfl) (pe_lst pa_nil))
    (pss_cons (ps_for PassesOwn.never rfl (pi_tup (pe_slice sl_tupA (pv 0) (po_some pe_int) po_none)) (pg_name (i := 2) sc_law_keys.nd rfl (.inl rfl))
      (pss_one (ps_set (i := 1) sc_law_keys.nd rfl (.inl rfl) (pe_op op_cat (pv 1) (pe_call G0 (hr.mono (by omega)) rfl T.g_law_keys T.F_law_keys.kp T.b_law_keys .nil pass0 (pa_cons (pv 2) pa_nil))))))
    (pss_one (ps_ret (pv 1))))))), ?_⟩
      cases t with
      | num m =>
        obtain ⟨p, rfl, hp⟩ := ht
        exact ⟨_, rfl, p, _, 0, _, rfl, rfl, SqT.of hp, atI_nat (j := 0) rfl, rfl, _, rfl, ifT (decide_eq_true rfl) ⟨lenOk (n := 0) rfl (by decide), fun l hl => q _ l [] (same_new hl) hl upd_same (Nat.zero_le _) (fun q h => nomatch h)⟩⟩
      | one x =>
        obtain ⟨p, rfl, hp⟩ := ht
        refine ⟨_, rfl, p, _, 0, _, rfl, rfl, SqT.of hp, atI_nat (j := 0) rfl, rfl, _, rfl, ifF (one_not x hwf) ?_⟩
        refine ⟨_, rfl, p, _, rfl, .inr (SqT.of hp), rfl, _, rfl, ifT rfl (ifT rfl ?_)⟩
        exact ⟨_, rfl, lenOk (n := 1) rfl (by decide), fun l hl => q _ l [p] (same_new hl) hl upd_same (Nat.le_refl 1) (fun q h => by
          rw [List.mem_singleton.mp h]
          exact ⟨[.inr x], (same_new hl) _ _ hp, show 1 ≤ 10 by decide, fun y hy => by
            rw [List.mem_singleton.mp hy]
            exact so_w1 hwf⟩)⟩
      | two x y =>
        obtain ⟨p, rfl, hp⟩ := ht
        refine ⟨_, rfl, p, _, 0, _, rfl, rfl, SqT.of hp, atI_nat (j := 0) rfl, rfl, _, rfl, ifF (two_not x hwf.1) ?_⟩
        refine ⟨_, rfl, p, _, rfl, .inr (SqT.of hp), rfl, _, rfl, ifF rfl ?_⟩
        refine ⟨_, rfl, p, _, 1, _, rfl, rfl, SqT.of hp, atI_nat (j := 1) rfl, .str y, .ty "str", _, _, _, rfl, .ty "str", dp_ty (K := K) (.str y), kit_ty (kitT _ (dp_tn (K := K) (H := H) (.str y)) "str" (by decide)), _, rfl, ifT rfl ?_⟩
        exact ⟨_, rfl, lenOk (n := 1) rfl (by decide), fun l hl => q _ l [p] (same_new hl) hl upd_same (show 1 ≤ 2 by decide) (fun q h => by
          rw [List.mem_singleton.mp h]
          exact ⟨[.inr x, .inr y], (same_new hl) _ _ hp, show 2 ≤ 10 by decide, fun z hz => by
            rcases List.mem_cons.mp hz with e | e
            · rw [e]
              exact so_w2 hwf.1
            · rw [List.mem_singleton.mp e]
              exact hwf.2⟩)⟩
      | un op t =>
        obtain ⟨p, u, rfl, hp, hu⟩ := ht
        have hz : 3 + sz t ≤ 100 := hsz
        obtain ⟨on1, on2, on3⟩ := op_not op (.inl hwf.1)
        refine ⟨_, rfl, p, _, 0, _, rfl, rfl, SqT.of hp, atI_nat (j := 0) rfl, rfl, _, rfl, ifF on1 ?_⟩
        refine ⟨_, rfl, p, _, rfl, .inr (SqT.of hp), rfl, _, rfl, ifF rfl ?_⟩
        have hdu := (dx_tr (K := K) hu).dp
        refine ⟨_, rfl, p, _, 1, _, rfl, rfl, SqT.of hp, atI_nat (j := 1) rfl, u, .ty "str", _, _, _, rfl, .ty "str", dp_ty hdu, kit_ty (kitT _ (dp_tn hdu) "str" (by decide)), _, rfl, ?_⟩
        rw [tn_tr]
        refine ifF rfl ?_
        refine ⟨lenOk (n := 0) rfl (by decide), fun l0 hl0 => ?_⟩
        have s1 := same_new (o := .lst []) hl0
        generalize hH1 : upd H l0 _ = H1
        have s1 : Same H H1 := by rw [← hH1]; exact same_new hl0
        have e1 : H1 l0 = some (.lst (([] : List Addr).map V.ref)) := by rw [← hH1]; exact upd_same
        clear hH1
        unfold tNoPart
        refine ⟨_, rfl, _, rfl, slA_of (SqT.of (s1 _ _ hp)) fun p2 H2 s2 e2 => ?_⟩
        have e2' : SqT K H2 p2 [u] := by
          have := cutV_lo (xs := V.str op :: [u]) 1
          rw [show cutV (V.str op :: [u]) (some 1) none = [u] from this] at e2
          exact e2
        have s02 := s1.trans s2
        have hps : ∀ i (h : i < [t].length), ∃ v, [u][i]? = some v ∧ TrK H2 v (([t] : List Tr)[i]) ∧ Wf (([t] : List Tr)[i]) ∧ dep (([t] : List Tr)[i]) < n ∧ sz (([t] : List Tr)[i]) ≤ 100 := fun i h => by
          have : i = 0 := by have : i < 1 := h; omega
          subst this
          exact ⟨u, rfl, hu.ups s02, hwf.2, by have : dep t + 1 < n + 1 := hd; show dep t < n; omega, by show sz t ≤ 100; omega⟩
        refine ⟨p2, rfl, ⟨_, e2'⟩, for_it (walk_tup (K := K) (a := p2) (xs := [u])) (fun i σ Hc => ∃ kl ps o2, σ = [some (.ref p), some (.ref kl), o2] ∧ Same H2 Hc ∧ H kl = none ∧ Hc kl = some (.lst (ps.map V.ref)) ∧ ps.length ≤ (([t].take i).map sz).sum ∧ KeysK Hc ps) ⟨l0, [], _, rfl, Same.refl _, hl0, s2 _ _ e1, Nat.le_refl _, fun q h => nomatch h⟩ (fun i σ Hc _ y => ?_) (fun i x σ Hc Hd hi y e => ?_) (fun σ Hc y => ?_)⟩
        · obtain ⟨_, _, _, _, sc, _⟩ := y
          exact sqT_up e2' sc
        · obtain ⟨kl, ps, o2, rfl, sc, nkl, ekl, hpl, hpk⟩ := y
          obtain ⟨rfl, ex⟩ := e
          obtain ⟨v', h1, h2, h3, h4, h5⟩ := hps i hi
          rw [ex] at h1
          cases h1
          have hti : (([t].take (i + 1)).map sz).sum = (([t].take i).map sz).sum + sz (([t] : List Tr)[i]) := by
            rw [List.take_add_one, List.getElem?_eq_getElem (l := [t]) hi, List.map_append, List.sum_append]
            show _ + ([sz (([t] : List Tr)[i])]).sum = _
            rw [List.sum_singleton]
          have htot : (([t].take i).map sz).sum ≤ 200 := by
            have : i = 0 := by have : i < 1 := hi; omega
            subst this
            exact Nat.zero_le _
          refine ⟨_, rfl, _, rfl, x, ([t] : List Tr)[i], rfl, h2.ups sc, h3, h4, h5, fun H3 l3 qs s3 n3 e3 hq3 hk3 => ?_⟩
          refine ⟨kl, l3, _, _, rfl, rfl, s3 _ _ ekl, e3, ?_, fun l4 n4 => ?_⟩
          · rw [List.length_map, List.length_map]
            exact Nat.le_trans (show ps.length + qs.length ≤ 1000 by omega) (by decide)
          have s4 := same_new (o := .lst (ps.map V.ref ++ qs.map V.ref)) n4
          refine ⟨l4, ps ++ qs, _, rfl, (sc.trans s3).trans s4, ?_, by rw [List.map_append]; exact upd_same, ?_, fun q hq => ?_⟩
          · cases hh : H l4 with
            | none => rfl
            | some o => rw [s3 _ _ (sc _ _ (s02 _ _ hh))] at n4; cases n4
          · rw [List.length_append, hti]
            omega
          · rcases List.mem_append.mp hq with z | z
            · exact (hpk.up fun _ _ h => s4 _ _ (s3 _ _ h)) q z
            · exact (hk3.up fun _ _ h => s4 _ _ h) q z
        · obtain ⟨kl, ps, o2, rfl, sc, nkl, ekl, hpl, hpk⟩ := y
          exact ⟨_, rfl, q _ kl ps (s02.trans sc) nkl ekl (by have : ps.length ≤ sz t + 0 := hpl; show ps.length ≤ 3 + sz t; omega) hpk⟩
      | bin op a b =>
        obtain ⟨p, u1, u2, rfl, hp, hu1, hu2⟩ := ht
        have hz : 5 + (sz a + sz b) ≤ 100 := hsz
        obtain ⟨on1, on2, on3⟩ := op_not op (.inr hwf.1)
        refine ⟨_, rfl, p, _, 0, _, rfl, rfl, SqT.of hp, atI_nat (j := 0) rfl, rfl, _, rfl, ifF on1 ?_⟩
        refine ⟨_, rfl, p, _, rfl, .inr (SqT.of hp), rfl, _, rfl, ifF rfl ?_⟩
        have hdu := (dx_tr (K := K) hu1).dp
        refine ⟨_, rfl, p, _, 1, _, rfl, rfl, SqT.of hp, atI_nat (j := 1) rfl, u1, .ty "str", _, _, _, rfl, .ty "str", dp_ty hdu, kit_ty (kitT _ (dp_tn hdu) "str" (by decide)), _, rfl, ?_⟩
        rw [tn_tr]
        refine ifF rfl ?_
        refine ⟨lenOk (n := 0) rfl (by decide), fun l0 hl0 => ?_⟩
        have s1 := same_new (o := .lst []) hl0
        generalize hH1 : upd H l0 _ = H1
        have s1 : Same H H1 := by rw [← hH1]; exact same_new hl0
        have e1 : H1 l0 = some (.lst (([] : List Addr).map V.ref)) := by rw [← hH1]; exact upd_same
        clear hH1
        unfold tNoPart
        refine ⟨_, rfl, _, rfl, slA_of (SqT.of (s1 _ _ hp)) fun p2 H2 s2 e2 => ?_⟩
        have e2' : SqT K H2 p2 [u1, u2] := by
          have := cutV_lo (xs := V.str op :: [u1, u2]) 1
          rw [show cutV (V.str op :: [u1, u2]) (some 1) none = [u1, u2] from this] at e2
          exact e2
        have s02 := s1.trans s2
        have hps : ∀ i (h : i < [a, b].length), ∃ v, [u1, u2][i]? = some v ∧ TrK H2 v (([a, b] : List Tr)[i]) ∧ Wf (([a, b] : List Tr)[i]) ∧ dep (([a, b] : List Tr)[i]) < n ∧ sz (([a, b] : List Tr)[i]) ≤ 100 := fun i h => by
          have hdd : max (dep a) (dep b) + 1 < n + 1 := hd
          have : i = 0 ∨ i = 1 := by have : i < 2 := h; omega
          rcases this with z | z
          · subst z
            exact ⟨u1, rfl, hu1.ups s02, hwf.2.1, by show dep a < n; omega, by show sz a ≤ 100; omega⟩
          · subst z
            exact ⟨u2, rfl, hu2.ups s02, hwf.2.2, by show dep b < n; omega, by show sz b ≤ 100; omega⟩
        refine ⟨p2, rfl, ⟨_, e2'⟩, for_it (walk_tup (K := K) (a := p2) (xs := [u1, u2])) (fun i σ Hc => ∃ kl ps o2, σ = [some (.ref p), some (.ref kl), o2] ∧ Same H2 Hc ∧ H kl = none ∧ Hc kl = some (.lst (ps.map V.ref)) ∧ ps.length ≤ (([a, b].take i).map sz).sum ∧ KeysK Hc ps) ⟨l0, [], _, rfl, Same.refl _, hl0, s2 _ _ e1, Nat.le_refl _, fun q h => nomatch h⟩ (fun i σ Hc _ y => ?_) (fun i x σ Hc Hd hi y e => ?_) (fun σ Hc y => ?_)⟩
        · obtain ⟨_, _, _, _, sc, _⟩ := y
          exact sqT_up e2' sc
        · obtain ⟨kl, ps, o2, rfl, sc, nkl, ekl, hpl, hpk⟩ := y
          obtain ⟨rfl, ex⟩ := e
          obtain ⟨v', h1, h2, h3, h4, h5⟩ := hps i hi
          rw [ex] at h1
          cases h1
          have hti : (([a, b].take (i + 1)).map sz).sum = (([a, b].take i).map sz).sum + sz (([a, b] : List Tr)[i]) := by
            rw [List.take_add_one, List.getElem?_eq_getElem (l := [a, b]) hi, List.map_append, List.sum_append]
            show _ + ([sz (([a, b] : List Tr)[i])]).sum = _
            rw [List.sum_singleton]
          have htot : (([a, b].take i).map sz).sum ≤ 200 := by
            have : i = 0 ∨ i = 1 := by have : i < 2 := hi; omega
            rcases this with z | z
            · subst z
              exact Nat.zero_le _
            · subst z
              show sz a + 0 ≤ 200
              omega
          refine ⟨_, rfl, _, rfl, x, ([a, b] : List Tr)[i], rfl, h2.ups sc, h3, h4, h5, fun H3 l3 qs s3 n3 e3 hq3 hk3 => ?_⟩
          refine ⟨kl, l3, _, _, rfl, rfl, s3 _ _ ekl, e3, ?_, fun l4 n4 => ?_⟩
          · rw [List.length_map, List.length_map]
            exact Nat.le_trans (show ps.length + qs.length ≤ 1000 by omega) (by decide)
          have s4 := same_new (o := .lst (ps.map V.ref ++ qs.map V.ref)) n4
          refine ⟨l4, ps ++ qs, _, rfl, (sc.trans s3).trans s4, ?_, by rw [List.map_append]; exact upd_same, ?_, fun q hq => ?_⟩
          · cases hh : H l4 with
            | none => rfl
            | some o => rw [s3 _ _ (sc _ _ (s02 _ _ hh))] at n4; cases n4
          · rw [List.length_append, hti]
            omega
          · rcases List.mem_append.mp hq with z | z
            · exact (hpk.up fun _ _ h => s4 _ _ (s3 _ _ h)) q z
            · exact (hk3.up fun _ _ h => s4 _ _ h) q z
        · obtain ⟨kl, ps, o2, rfl, sc, nkl, ekl, hpl, hpk⟩ := y
          exact ⟨_, rfl, q _ kl ps (s02.trans sc) nkl ekl (by have : ps.length ≤ sz a + (sz b + 0) := hpl; show ps.length ≤ 5 + (sz a + sz b); omega) hpk⟩
end
end R1

namespace R1
open PySem PySem.Spec PyProof.Rows L2 RK
local macro_rules | `(tactic| walk_at "sq") => `(tactic| first
  | exact SqL.of upd_same | exact upd_same | exact SqL.of (by assumption) | exact SqL.of (by rw [upd_ne (by assumption)]; assumption) | assumption)
local macro_rules | `(tactic| walk_at "sd") => `(tactic| first
  | assumption | omega | (refine Or.inl ⟨?_, ?_⟩ <;> omega) | (show _ ∧ _; constructor <;> omega) | (show _ ≠ _; simp; omega) | (exact Or.inl ⟨by decide, by decide⟩) | (exact Or.inr ⟨by decide, by decide⟩) | (show _ < _; decide) | (show _ ≤ _; decide))
local macro_rules | `(tactic| walk_at "at") => `(tactic| first | rfl | (refine atI_intV ?_ ?_ <;> omega) | assumption)
local macro_rules | `(tactic| walk_at "s1") => `(tactic| first
  | refine ⟨_, rfl, ?_⟩ | refine ⟨_, _, rfl, rfl, ?_⟩ | refine ⟨rfl, ?_⟩
  | refine ⟨_, _, _, _, rfl, rfl, by walk_at "sq", by walk_at "at", ?_⟩
  | refine Or.inl ⟨_, rfl, ?_⟩
  | refine ⟨_, _, rfl, Or.inl (by walk_at "sq"), ?_⟩
  | refine And.intro (by walk_at "sd") ?_)
local macro_rules | `(tactic| walk_at "s") => `(tactic| repeat walk_at "s1")

theorem lc_dataY {K : PySem.W.Frag} {S : ASet} {J : It} {n : Nat} {G : Hp → Prop} {Y : Nat → Hp → V → Hp → Prop} (w : Walk J n G Y) {te : TE} {σ : L2.St} {H1 : Hp} {D : Addr} {Qd : Hp → Prop} {k : Nat} (f : Nat → PyData) (hS : ∀ a, S a → H1 a ≠ none) (hD : H1 D = none) (hG : ∀ H, Same H1 H → G H) (hn : n ≤ 1000000)
    (hY : ∀ i H x H', i < n → Y i H x H' → H' = H)
    (hs : ∀ i x H, i < n → Same H1 H → (∃ acc, H D = some (.lst acc)) → Y i H x H → ∀ Q : VK, (∀ v H3, Same H H3 → Dx K H3 (inS S D) v (f i) → Q v H3) → te ((σ.set k none).set k (some x)) H Q)
    (hd : ∀ H, Same H1 H → Dx K H S (.ref D) (.list ((List.range n).map f)) → Qd H) :
    ∃ W : Nat → Nat → Hp → Prop, (∃ m, W 0 m (upd H1 D (.lst []))) ∧ ∀ i m H, W i m H →
      (J.stop i H ∧ Qd H) ∨ (J.go i H ∧ ∃ Nx : Hp → Prop, (∀ H', Nx H' → ∃ m', m' < m ∧ W (i + 1) m' H') ∧ ∀ x H', J.yld i H x H' → gName k x (wipe σ [k]) H' fun σ2 H2 => wipe σ2 [k] = wipe σ [k] ∧ tYes σ2 H2 fun b H3 =>
        if b = true then te σ2 H3 fun y H4 => ∃ acc, H4 D = some (.lst acc) ∧ acc.length < sizeLine ∧ Nx (upd H4 D (.lst (acc ++ [y]))) else Nx H3) := by
  have hnS : ¬ S D := fun z => hS D z hD
  refine lc_it w (fun i H => Same H1 H ∧ ∃ acc, H D = some (.lst acc) ∧ DxAll K H (inS S D) acc ((List.range i).map f)) ⟨same_new hD, [], upd_same, .nil⟩ (fun i H _ h => hG H h.1) (fun i x H H' hi hp y => ?_) fun H h => ?_
  · obtain ⟨sm, acc, e, da⟩ := hp
    obtain rfl := hY i H x H' hi y
    refine ⟨?_, ?_⟩
    · show ((σ.set k none).set k (some x)).set k none = σ.set k none
      rw [List.set_set, List.set_set]
    show te ((σ.set k none).set k (some x)) H' _
    refine hs i x H' hi sm ⟨_, e⟩ y _ fun v H3 s3 dv => ?_
    have hl : acc.length = i := by rw [dxAll_len da, List.length_map, List.length_range]
    refine ⟨acc, s3 _ _ e, ?_, same_mut (sm.trans s3) hD, acc ++ [v], upd_same, ?_⟩
    · rw [hl]
      exact Nat.lt_of_lt_of_le (Nat.lt_of_lt_of_le hi hn) (by decide)
    · rw [List.range_succ, List.map_append]
      have o : Out (inS S D) H3 (upd H3 D (.lst (acc ++ [v]))) := (Out.refl _ _).put (.inr rfl)
      exact dxAll_app (DxAll.up o (DxAll.up (Out.of s3) da)) (.cons (Dx.up o dv) .nil)
  · obtain ⟨sm, acc, e, da⟩ := h
    exact hd H sm (.lst (XL.of e hnS) (DxAll.less (fun a z => .inl z) da))
def kD : Key → PyData
  | .inl i => .int i
  | .inr s => .str s
def vD : V → PyData
  | .int i => .int i
  | _ => .none
def prD (kvs : List (List Key × V)) (i : Nat) : PyData := match kvs[i]? with
  | some kv => .tuple [.tuple (kv.1.map kD), vD ((valV kvs kv.1).getD .non)]
  | none => .none
def prsD (kvs : List (List Key × V)) : PyData := .list ((List.range kvs.length).map (prD kvs))
theorem dx_keys {K : PySem.W.Frag} {H : Hp} {S : ASet} : ∀ k : List Key, DxAll K H S (k.map kV) (k.map kD)
  | [] => .nil
  | .inl i :: r => .cons (.int i) (dx_keys r)
  | .inr s :: r => .cons (.str s) (dx_keys r)
theorem layAll_of : ∀ {ds : List PyData}, (∀ d ∈ ds, d.canLay0 = true) → PyData.canLayAll0 ds = true
  | [], _ => rfl
  | x :: r, h => by
    show (x.canLay0 && PyData.canLayAll0 r) = true
    rw [h x List.mem_cons_self, layAll_of fun d hd => h d (List.mem_cons_of_mem _ hd)]
    rfl
theorem depAll_of {n : Nat} : ∀ {ds : List PyData}, (∀ d ∈ ds, d.depth ≤ n) → PyData.depthAll ds ≤ n
  | [], _ => Nat.zero_le _
  | x :: r, h => Nat.max_le.mpr ⟨h x List.mem_cons_self, depAll_of fun d hd => h d (List.mem_cons_of_mem _ hd)⟩
def KvOk (kvs : List (List Key × V)) : Prop := kvs.length ≤ 1000 ∧ FOk kvs ∧ ∀ kv ∈ kvs, kv.1.length ≤ 10 ∧ ∀ k ∈ kv.1, LayK k
theorem vd_ok (v : V) : (vD v).canLay0 = true ∧ (vD v).depth ≤ 1 ∧ wdB (vD v) = true := by
  cases v <;> exact ⟨rfl, by simp [vD, PyData.depth], rfl⟩
theorem pr_ok {kvs : List (List Key × V)} (h : KvOk kvs) (i : Nat) : (prD kvs i).canLay0 = true ∧ (prD kvs i).depth ≤ 4 ∧ wdB (prD kvs i) = true := by
  unfold prD
  cases hk : kvs[i]? with
  | none => exact ⟨rfl, by simp [PyData.depth], rfl⟩
  | some kv =>
    obtain ⟨h1, h2⟩ := h.2.2 kv (List.mem_of_getElem? hk)
    obtain ⟨v1, v2, v3⟩ := vd_ok ((valV kvs kv.1).getD .non)
    have kl : ∀ d ∈ kv.1.map kD, d.canLay0 = true ∧ d.depth ≤ 1 ∧ wdB d = true := fun d hd => by
      obtain ⟨k, hk1, rfl⟩ := List.mem_map.mp hd
      have := h2 k hk1
      cases k with
      | inl j => exact ⟨rfl, by simp [kD, PyData.depth], rfl⟩
      | inr s => exact ⟨so_lay this, by simp [kD, PyData.depth], rfl⟩
    refine ⟨?_, ?_, ?_⟩
    · show (PyData.canLayAll0 (kv.1.map kD) && ((vD ((valV kvs kv.1).getD .non)).canLay0 && true)) = true
      rw [layAll_of fun d hd => (kl d hd).1, v1]
      rfl
    · have := depAll_of fun d hd => (kl d hd).2.1
      simp only [PyData.depth, PyData.depthAll]
      omega
    · show (decide (2 ≤ 100000) && (((decide ((kv.1.map kD).length ≤ 100000)) && wdA (kv.1.map kD)) && (wdB (vD ((valV kvs kv.1).getD .non)) && true))) = true
      rw [wdA_all fun d hd => (kl d hd).2.2, v3, List.length_map, decide_eq_true (Nat.le_trans h1 (show 10 ≤ 100000 by decide))]
      rfl
theorem prs_ok {kvs : List (List Key × V)} (h : KvOk kvs) : (prsD kvs).canLay0 = true ∧ (prsD kvs).depth ≤ 5 ∧ wdB (prsD kvs) = true := by
  have kl : ∀ d ∈ (List.range kvs.length).map (prD kvs), d.canLay0 = true ∧ d.depth ≤ 4 ∧ wdB d = true := fun d hd => by
    obtain ⟨i, _, rfl⟩ := List.mem_map.mp hd
    exact pr_ok h i
  refine ⟨layAll_of fun d hd => (kl d hd).1, ?_, ?_⟩
  · have := depAll_of fun d hd => (kl d hd).2.1
    unfold prsD
    simp only [PyData.depth]
    omega
  · show (decide (((List.range kvs.length).map (prD kvs)).length ≤ 100000) && wdA ((List.range kvs.length).map (prD kvs))) = true
    rw [wdA_all fun d hd => (kl d hd).2.2, List.length_map, List.length_range, decide_eq_true (Nat.le_trans h.1 (show 1000 ≤ 100000 by decide))]
    rfl
theorem valV_mem {kvs : List (List Key × V)} {i : Nat} {k : List Key} {v : V} (h : kvs[i]? = some (k, v)) : ∃ u, valV kvs k = some u := by
  unfold valV
  cases hf : kvs.find? fun kv => decide (kv.1 = k) with
  | some kv => exact ⟨kv.2, rfl⟩
  | none =>
    have := List.find?_eq_none.mp hf (k, v) (List.mem_of_getElem? h)
    simp at this
abbrev onlyA (f : Addr) : ASet := fun a => a = f
theorem pairs_in {K : PySem.W.Frag} {H : Hp} {f : Addr} {od : Obj} {kvs : List (List Key × V)} {σ : L2.St} {Q : VK} (h1 : σ[1]? = some (some (.ref f))) (h2 : 2 < σ.length) (hf : H f = some (.frz od (.dT kvs))) (hk : KvOk kvs)
    (q : ∀ D H', Same H H' → H D = none → Dx K H' (onlyA f) (.ref D) (prsD kvs) → Q (.ref D) H') : tLc (iKeys (tVar 1)) (gName 2) tYes (tTup (tCons (tVar 2) (tCons (tDGet (tVar 1) (tVar 2)) tNil))) [2] σ H Q := by
  refine ⟨_, h1, f, od, rfl, .inr ⟨kvs, hf, fun D hD => ?_⟩⟩
  refine lc_dataY (K := K) (S := onlyA f) walk_keysT (prD kvs) (fun a e => by rw [e, hf]; exact fun z => nomatch z) hD (fun H s => s _ _ hf) (Nat.le_trans hk.1 (by decide)) (fun i H x H' _ y => y.1) (fun i x H3 hi sm hD3 y Q3 q3 => ?_) (fun H3 sm d => q D H3 sm hD d)
  obtain ⟨_, k, v, qa, hkv, rfl, hq⟩ := y
  have hs2 : ((σ.set 2 none).set 2 (some (.ref qa)))[2]? = some (some (.ref qa)) := by
    rw [List.getElem?_set_self (by rw [List.length_set]; exact h2)]
  have hs1 : ((σ.set 2 none).set 2 (some (.ref qa)))[1]? = some (some (.ref f)) := by
    rw [List.getElem?_set_ne (by decide), List.getElem?_set_ne (by decide)]
    exact h1
  obtain ⟨u, hu⟩ := valV_mem hkv
  refine ⟨_, hs2, _, hs1, _, hs2, f, u, rfl, .inr ⟨kvs, k, qa, .inr ⟨_, sm _ _ hf⟩, rfl, hq, hu.symm⟩, lenOk (n := 2) rfl (by decide), fun p np => ?_⟩
  have s4 := same_new (o := .tup [.ref qa, u]) np
  have hqf : qa ≠ f := fun z => by
    rw [z, sm _ _ hf] at hq
    cases hq
  obtain ⟨acc, hDl⟩ := hD3
  have hqD : qa ≠ D := fun z => by
    rw [z, hDl] at hq
    cases hq
  · have hpf : p ≠ f := fun z => by
      rw [z, sm _ _ hf] at np
      cases np
    have hpD : p ≠ D := fun z => by
      rw [z, hDl] at np
      cases np
    refine q3 (.ref p) _ s4 ?_
    have e : prD kvs i = .tuple [.tuple (k.map kD), vD u] := by
      unfold prD
      rw [hkv]
      show PyData.tuple [.tuple (k.map kD), vD ((valV kvs k).getD .non)] = _
      rw [hu]
      rfl
    rw [e]
    refine .tup (XT.of upd_same ?_) (.cons (.tup (XT.of (s4 _ _ hq) ?_) (dx_keys k)) (.cons ?_ .nil))
    · intro z
      rcases z with z | z
      · exact hpf z
      · exact hpD z
    · intro z
      rcases z with z | z
      · exact hqf z
      · exact hqD z
    · rcases hk.2.1 k u hu with e | ⟨j, e⟩
      · rw [e]
        exact .non
      · rw [e]
        exact .int j
theorem same_lock {H H' : Hp} {f : Addr} {od : Obj} {u : HO} (hf : H f = some u) (s : Same (upd H f (.frz od u)) H') : Same H (upd H' f u) := fun b o e => by
  by_cases h : b = f
  · subst h
    rw [upd_same, ← e, hf]
  · rw [upd_ne h]
    exact s b o (by rw [upd_ne h]; exact e)
theorem pairs_lock {K : PySem.W.Frag} {H : Hp} {f : Addr} {kvs : List (List Key × V)} {σ : L2.St} {Q : VK} (h1 : σ[1]? = some (some (.ref f))) (h2 : 2 < σ.length) (hf : H f = some (.dT kvs)) (hk : KvOk kvs)
    (q : ∀ D H', Same H H' → Dx K H' (onlyA f) (.ref D) (prsD kvs) → Q (.ref D) H') : tLockE (tLc (iKeys (tVar 1)) (gName 2) tYes (tTup (tCons (tVar 2) (tCons (tDGet (tVar 1) (tVar 2)) tNil))) [2]) σ H Q :=
  ⟨f, .dT kvs, hf, trivial, fun od => pairs_in h1 h2 upd_same hk fun D H' s nD d => ⟨s _ _ upd_same, q D _ (same_lock hf s) (Dx.up (S := onlyA f) (Out.put (Out.refl (onlyA f) H') (show onlyA f f from rfl)) d)⟩⟩
theorem pairs_lockS {K : PySem.W.Frag} {H : Hp} {f : Addr} {kvs : List (List Key × V)} {σ : L2.St} {D : Ends} (h1 : σ[1]? = some (some (.ref f))) (h2 : 2 < σ.length) (hf : H f = some (.dT kvs)) (hk : KvOk kvs)
    (q : ∀ a H', Same H H' → Dx K H' (onlyA f) (.ref a) (prsD kvs) → D.nx (σ.set 3 (some (.ref a))) H') : tLock (tAsg (tLc (iKeys (tVar 1)) (gName 2) tYes (tTup (tCons (tVar 2) (tCons (tDGet (tVar 1) (tVar 2)) tNil))) [2]) (gName 3)) D σ H :=
  ⟨f, .dT kvs, hf, trivial, fun od => pairs_in h1 h2 upd_same hk fun a H' s nD d => ⟨s _ _ upd_same, q a _ (same_lock hf s) (Dx.up (S := onlyA f) (Out.put (Out.refl (onlyA f) H') (show onlyA f f from rfl)) d)⟩⟩
theorem dx_opt {K : PySem.W.Frag} {H : Hp} (o : Option Int) : Dx K H noS (optI o) (vD (optI o)) := by
  cases o with
  | none => exact .non
  | some i => exact .int i
def spAsked (K : PySem.W.Frag) : Sp := fun vs H Q _ => ∃ (v : V) (f : Addr) (t : Tr) (kvs : List (List Key × V)), vs = [v, .ref f] ∧ TrK H v t ∧ Wf t ∧ dep t < 16 ∧ H f = some (.dT kvs) ∧ KvOk kvs ∧ ∀ H', Same H H' → Q (.bl true) H'
section
variable {P : Program} {w : World} {K : PySem.W.Frag} {mg : Str → Option Value} {base : Heap} {A : Ads}
theorem ok_law_asked (T : Txt K mg A) : FnOk P w K mg base CX0 60 A.a_law_asked A.d_law_asked ["_law_tree_here", "_law_facts"] (spAsked K) := by
  refine T.F_law_asked.ok sc_law_asked (fun vs H Q E h => ?_) (fun cdv B outer s H vs Q E hr h => ?_)
  · obtain ⟨v, f, t, kvs, rfl, _⟩ := h
    rfl
  · obtain ⟨v, f, t, kvs, rfl, ht, hwf, hd, hf, hk, q⟩ := h
    refine ⟨_, (pss_cons (ps_lock (ps_setLc (i := 3) (own := [("_law_key", 2)]) rfl sc_law_asked.nd rfl rfl (sw_true rfl rfl rfl (by decide +kernel)) (pi_keys (pv 1)) (blkOk_by (own := [("_law_key", 2)]) (N := N_law_asked) (sc := defScope s_law_asked) (by decide +kernel)) (fun _ _ _ _ _ => pg_name (i := 2) sc_law_asked.nd rfl (Or.inl rfl)) (fun _ _ _ _ _ => pts_nil) (fun _ _ _ _ _ => by exact (pe_tup (pa_cons (pv 2) (pa_cons (pe_dget (hu_of hr) (pv 1) (pv 2) (fun _ _ => rfl)) pa_nil))))))
    (pss_cons (ps_set (i := 4) sc_law_asked.nd rfl (.inl rfl) (pe_call (ok_value T 16) (hr.mono (by omega)) rfl T.g_value T.F_value.kp T.b_value .nil pass0 (pa_cons (pv 0) (pa_cons (pv 1) pa_nil))))
    (pss_cons (ps_if (pt_cmpR (op_neD hr.units) (pe_call (ok_plain T 30) (hr.mono (by omega)) rfl T.g_law_plain T.F_law_plain.kp T.b_law_plain .nil pass0 (pa_cons (pv 4) pa_nil)) (pe_call (ok_plain T 30) (hr.mono (by omega)) rfl T.g_law_plain T.F_law_plain.kp T.b_law_plain .nil pass0 (pa_cons (pe_call (ok_law_value T 16) (hr.mono (by omega)) rfl T.g_law_value T.F_law_value.kp T.b_law_value .nil pass0 (pa_cons (pv 0) (pa_cons (pv 1) pa_nil))) pa_nil)) (nomark _)) (pss_one (ps_ret pe_bl)) pss_nil)
    (pss_one (ps_ret (pe_cmpR (op_eqD hr.units) (pe_call (ok_plain T 30) (hr.mono (by omega)) rfl T.g_law_plain T.F_law_plain.kp T.b_law_plain .nil pass0 (pa_cons (pe_lock (pe_lc (own := [("_law_key", 2)]) rfl sc_law_asked.nd (pi_keys (pv 1)) (blkOk_by (own := [("_law_key", 2)]) (N := N_law_asked) (sc := defScope s_law_asked) (by decide +kernel)) (fun _ _ _ _ _ => pg_name (i := 2) sc_law_asked.nd rfl (Or.inl rfl)) (fun _ _ _ _ _ => pts_nil) (fun _ _ _ _ _ => by exact (pe_tup (pa_cons (pv 2) (pa_cons (pe_dget (hu_of hr) (pv 1) (pv 2) (fun _ _ => rfl)) pa_nil)))))) pa_nil)) (pe_call (ok_plain T 30) (hr.mono (by omega)) rfl T.g_law_plain T.F_law_plain.kp T.b_law_plain .nil pass0 (pa_cons (pv 3) pa_nil)) (nomark _))))))), ?_⟩
    refine pairs_lockS (K := K) rfl (show 2 < 5 by decide) hf hk fun D1 H1 s1 d1 => ?_
    refine ⟨_, rfl, _, rfl, v, f, t, kvs, rfl, ht.ups s1, hwf, hd, s1 _ _ hf, hk.2.1, fun H2 s2 => ?_⟩
    have s12 := s1.trans s2
    obtain ⟨o1, o2, o3⟩ := vd_ok (optI (val kvs t))
    have osh := plD_shaped o1 (Nat.le_trans o2 (by decide))
    refine ⟨_, rfl, optI (val kvs t), _, noS, rfl, fun _ z => z.elim, dx_opt _, Nat.le_trans o2 (by decide), o3, fun H3 v3 s3 d3 => ?_⟩
    have s13 := s12.trans s3
    refine ⟨_, rfl, _, rfl, v, f, t, kvs, rfl, ht.ups s13, hwf, hd, s13 _ _ hf, hk.2.1, fun H4 s4 => ?_⟩
    refine ⟨optI (val kvs t), _, noS, rfl, fun _ z => z.elim, dx_opt _, Nat.le_trans o2 (by decide), o3, fun H5 v5 s5 d5 => ?_⟩
    have s35 := s4.trans s5
    refine ⟨_, _, (Dx.up (Out.of s35) d3).dp, d5.dp, osh, osh, ?_⟩
    rw [SeqAt.eqv_refl _ (plD_lay _ o1)]
    refine ⟨_, rfl, ifF rfl ?_⟩
    have s15 := s13.trans s35
    obtain ⟨p1, p2, p3⟩ := prs_ok hk
    have psh := plD_shaped p1 (Nat.le_trans p2 (by decide))
    refine pairs_lock (K := K) rfl (show 2 < 5 by decide) (s15 _ _ hf) hk fun D2 H6 s6 d6 => ?_
    have s16 := s15.trans s6
    refine ⟨.ref D2, _, onlyA f, rfl, fun a e => ?_, d6, Nat.le_trans p2 (by decide), p3, fun H7 v7 s7 d7 => ?_⟩
    · rw [e, s16 _ _ hf]
      exact fun z => nomatch z
    have s17 := s16.trans s7
    have s27 := ((s2.trans s3).trans s35).trans (s6.trans s7)
    refine ⟨_, rfl, .ref D1, _, onlyA f, rfl, fun a e => ?_, Dx.up (Out.of s27) d1, Nat.le_trans p2 (by decide), p3, fun H8 v8 s8 d8 => ?_⟩
    · rw [e, s17 _ _ hf]
      exact fun z => nomatch z
    refine ⟨_, _, (Dx.up (Out.of s8) d7).dp, d8.dp, psh, psh, ?_⟩
    rw [SeqAt.eqv_refl _ (plD_lay _ p1)]
    exact q _ (s17.trans s8)
end
end R1

namespace R1
open PySem PySem.Spec PyProof.Rows L2 RK
local macro_rules | `(tactic| walk_at "sq") => `(tactic| first
  | exact SqL.of upd_same | exact upd_same | exact SqL.of (by assumption) | exact SqL.of (by rw [upd_ne (by assumption)]; assumption) | assumption)
local macro_rules | `(tactic| walk_at "sd") => `(tactic| first
  | assumption | omega | (refine Or.inl ⟨?_, ?_⟩ <;> omega) | (show _ ∧ _; constructor <;> omega) | (show _ ≠ _; simp; omega) | (exact Or.inl ⟨by decide, by decide⟩) | (exact Or.inr ⟨by decide, by decide⟩) | (show _ < _; decide) | (show _ ≤ _; decide))
local macro_rules | `(tactic| walk_at "at") => `(tactic| first | rfl | (refine atI_intV ?_ ?_ <;> omega) | assumption)
local macro_rules | `(tactic| walk_at "s1") => `(tactic| first
  | refine ⟨_, rfl, ?_⟩ | refine ⟨_, _, rfl, rfl, ?_⟩ | refine ⟨rfl, ?_⟩
  | refine ⟨_, _, _, _, rfl, rfl, by walk_at "sq", by walk_at "at", ?_⟩
  | refine Or.inl ⟨_, rfl, ?_⟩
  | refine ⟨_, _, rfl, Or.inl (by walk_at "sq"), ?_⟩
  | refine And.intro (by walk_at "sd") ?_)
local macro_rules | `(tactic| walk_at "s") => `(tactic| repeat walk_at "s1")

section
variable {X : Cx} {x : Str} {c : Value} {body suite : List Stmt} {b₀ : Stmt} {np pos pos' : Pos} {tb : WX → TS} {ts : Addr → Value → Option Addr → TS}
theorem takes_no : L2.Takes X (fun _ _ _ _ => False) := fun u s' ⟨a, B, sI, pins, σ, H, cls, d, e, I, nb, up, sky, na, os, ag, w⟩ => w.elim
theorem ps_try_onlyN (hs : X.stack = X.env :: X.outer) (hf : X.env.frame = some X.env.locals) (hc : Names X x c)
    (hb : ∀ (W : WX) (pn : List (Addr × Obj)) (xe : Value → Shared → Prop), L2.Takes (X.tr pn xe) W → PassesOwn (model X.prog X.w) X.A X.env xe → PSs (X.tr pn xe) body (tb W))
    (hsu : ∀ (a : Addr) (oe : Obj) (cls : Value) (d : Option Addr) (pn : List (Addr × Obj)), Zc cls d oe → (∃ vs, oe.data = .fields vs) → PSs (X.suite a ((a, oe) :: pn)) (b₀ :: suite) (ts a cls d)) :
    PS X (.Try body [.ExceptHandler (some (.Name x np)) none (b₀ :: suite) pos'] [] [] pos) (fun D σ H => tb (wOnly X.K c ts (fun _ _ _ _ => False) D) D σ H) := ps_try_only hs hf hc takes_no hb hsu
end
theorem src_but {H H' : Hp} {c p p2 : Addr} (h : Src c H p) (b : But p2 H H') (h1 : p ≠ p2) (h2 : c ≠ p2) : Src c H' p := by
  obtain ⟨cs, pl, dg, ct, mx, e1, e2, h3⟩ := h
  exact ⟨cs, pl, dg, ct, mx, b _ _ h1 e1, b _ _ h2 e2, h3⟩
theorem src_strs {H : Hp} {c p l : Addr} {ss : List Str} (h : Src c H p) (e : H l = some (.lst (ss.map V.str))) : l ≠ p := fun z => by
  obtain ⟨cs, pl, dg, ct, mx, e1, _⟩ := h
  rw [z, e1] at e
  cases ss with
  | nil => cases e
  | cons x r => cases e
theorem dx_trS {K : PySem.W.Frag} {H : Hp} {S : ASet} (hS : ∀ a xs, S a → H a ≠ some (.tup xs)) : ∀ {t : Tr} {v : V}, TrK H v t → Dx K H S v (trD t)
  | .num _, _, ⟨p, a, b⟩ => by subst a; exact .tup (XT.of b fun z => hS _ _ z b) (.cons (.str _) (.cons (.int _) .nil))
  | .one _, _, ⟨p, a, b⟩ => by subst a; exact .tup (XT.of b fun z => hS _ _ z b) (.cons (.str _) .nil)
  | .two _ _, _, ⟨p, a, b⟩ => by subst a; exact .tup (XT.of b fun z => hS _ _ z b) (.cons (.str _) (.cons (.str _) .nil))
  | .un _ _, _, ⟨p, u, a, b, c⟩ => by subst a; exact .tup (XT.of b fun z => hS _ _ z b) (.cons (.str _) (.cons (dx_trS hS c) .nil))
  | .bin _ _ _, _, ⟨p, u1, u2, a, b, c, d⟩ => by subst a; exact .tup (XT.of b fun z => hS _ _ z b) (.cons (.str _) (.cons (dx_trS hS c) (.cons (dx_trS hS d) .nil)))
theorem src_notup {H : Hp} {c p : Addr} (h : Src c H p) : ∀ a xs, onlyA p a → H a ≠ some (.tup xs) := fun a xs z e => by
  obtain ⟨cs, pl, dg, ct, mx, e1, _⟩ := h
  rw [show a = p from z, e1] at e
  cases e
theorem keys_two {H H' : Hp} {ps : List Addr} {k1 k2 : Addr} {x0 : Str} (t : Same H H') (hks : KeysK H ps) (e1 : H' k1 = some (.tup [.str (Str.ofString "home")])) (e2 : H' k2 = some (.tup [.str (Str.ofString "start"), .str x0])) (hso : SO x0) : KeysK H' (ps ++ [k1, k2]) := fun x hx => by
  rcases List.mem_append.mp hx with z | z
  · obtain ⟨k, hk, hr⟩ := hks x z
    exact ⟨k, t _ _ hk, hr⟩
  rcases List.mem_cons.mp z with z | z
  · subst z
    exact ⟨[.inr (Str.ofString "home")], e1, show 1 ≤ 10 by decide, fun y hy => by
      rw [List.mem_singleton.mp hy]
      exact so_dec (by decide +kernel)⟩
  · rw [List.mem_singleton.mp z]
    exact ⟨[.inr (Str.ofString "start"), .inr x0], e2, show 2 ≤ 10 by decide, fun y hy => by
      rcases List.mem_cons.mp hy with e | e
      · rw [e]
        exact so_dec (by decide +kernel)
      · rw [List.mem_singleton.mp e]
        exact hso⟩
theorem putK_mem {kvs : List (List Key × V)} {k : List Key} {v : V} {kv : List Key × V} (h : kv ∈ putK kvs k v) : kv.1 = k ∨ ∃ kv' ∈ kvs, kv.1 = kv'.1 := by
  unfold putK at h
  split at h
  · obtain ⟨a, ha, e⟩ := List.mem_map.mp h
    split at e
    · rename_i e2
      left
      rw [← e]
      exact e2
    · right
      exact ⟨a, ha, by rw [← e]⟩
  · rcases List.mem_append.mp h with z | z
    · exact .inr ⟨kv, z, rfl⟩
    · left
      rw [List.mem_singleton.mp z]
theorem kv_put {kvs : List (List Key × V)} {k : List Key} {v : V} (h : KvOk kvs) (hl : kvs.length ≤ 500) (hk : k.length ≤ 10 ∧ ∀ x ∈ k, LayK x) (hv : v = .non ∨ ∃ i, v = .int i) : KvOk (putK kvs k v) := by
  refine ⟨Nat.le_trans (length_putK _ _ _) (by omega), fun j u e => ?_, fun kv hm => ?_⟩
  · rw [valV_put] at e
    split at e
    · rw [← Option.some.inj e]
      exact hv
    · exact h.2.1 j u e
  · rcases putK_mem hm with z | ⟨kv', h1, h2⟩
    · rw [z]
      exact hk
    · rw [h2]
      exact h.2.2 _ h1
theorem out_lock {S : ASet} {H H' : Hp} {f : Addr} {od : Obj} {u : HO} (hf : H f = some u) (s : Out S (upd H f (.frz od u)) H') : Out S H (upd H' f u) := fun b o n e => by
  by_cases h : b = f
  · subst h
    rw [upd_same, ← e, hf]
  · rw [upd_ne h]
    exact s b o n (by rw [upd_ne h]; exact e)
theorem paired_mem {α β : Type} {F : α → β → Prop} : ∀ {l₁ : List α} {l₂ : List β}, Paired F l₁ l₂ → ∀ b ∈ l₂, ∃ a ∈ l₁, F a b
  | _, _, .nil, _, hb => nomatch hb
  | _, _, .cons h t, b, hb => by
    rcases List.mem_cons.mp hb with e | hb
    · rw [e]
      exact ⟨_, List.mem_cons_self, h⟩
    · obtain ⟨a, ha, hf⟩ := paired_mem t b hb
      exact ⟨a, List.mem_cons_of_mem _ ha, hf⟩
theorem kv_nil : KvOk [] := ⟨Nat.zero_le _, fun k v e => (by cases e), fun kv h => nomatch h⟩
theorem out_but {S : ASet} {H H' : Hp} {p : Addr} (h : But p H H') (k : S p) : Out S H H' := fun b o n e => h b o (fun z => n (by rw [z]; exact k)) e
theorem opt_v (o : Option Int) : optI o = .non ∨ ∃ i, optI o = .int i := by
  cases o with
  | none => exact .inl rfl
  | some i => exact .inr ⟨i, rfl⟩
def spLaw (K : PySem.W.Frag) : Sp := fun vs H Q _ => ∃ (a : Addr) (ns : List Int), vs = [.ref a] ∧ SqL K H a (ns.map V.int) ∧ ns.length ≤ 63 ∧ ∀ H', Q (.bl true) H'
section
variable {P : Program} {w : World} {K : PySem.W.Frag} {mg : Str → Option Value} {base : Heap} {A : Ads}
theorem ok_law (T : Txt K mg A) : FnOk P w K mg base CX0 80 A.a_law A.d_law ["_law_script"] (spLaw K) := by
  refine T.F_law.ok sc_law (fun vs H Q E h => ?_) (fun cdv B outer s H vs Q E hr h => ?_)
  · obtain ⟨a, ns, rfl, _⟩ := h
    rfl
  · obtain ⟨a, ns, rfl, hS, hl, q⟩ := h
    refine ⟨_, (pss_cons (ps_set (i := 1) sc_law.nd rfl (.inl rfl) (pe_call (ok_law_source T) (hr.mono (by omega)) rfl T.g_law_source T.F_law_source.kp T.b_law_source .nil pass0 (pa_cons (pv 0) pa_nil)))
    (pss_cons (ps_set (i := 2) sc_law.nd rfl (.inl rfl) (pe_call (ok_law_names T) (hr.mono (by omega)) rfl T.g_law_names T.F_law_names.kp T.b_law_names .nil pass0 (pa_cons (pe_call (ok_law_source T) (hr.mono (by omega)) rfl T.g_law_source T.F_law_source.kp T.b_law_source .nil pass0 (pa_cons (pe_op op_cat (pe_slice sl_list (pv 0) (po_some pe_int) po_none) (pe_slice sl_list (pv 0) po_none (po_some pe_int))) pa_nil)) (pa_cons pe_int pa_nil))))
    (pss_cons (ps_set (i := 3) sc_law.nd rfl (.inl rfl) (pe_call (ok_law_menu T) (hr.mono (by omega)) rfl T.g_law_menu T.F_law_menu.kp T.b_law_menu .nil pass0 (pa_cons (pv 1) pa_nil)))
    (pss_cons (ps_if (pt_cmpR op_eq (pe_call (ok_law_draw T) (hr.mono (by omega)) rfl T.g_law_draw T.F_law_draw.kp T.b_law_draw .nil pass0 (pa_cons (pv 1) (pa_cons pe_int pa_nil))) pe_int (nomark _)) (pss_one (ps_set (i := 4) sc_law.nd rfl (.inl rfl) (pe_call (ok_law_chain T) (hr.mono (by omega)) rfl T.g_law_chain T.F_law_chain.kp T.b_law_chain .nil pass0 (pa_cons (pv 1) (pa_cons (pv 2) pa_nil))))) (pss_one (ps_set (i := 4) sc_law.nd rfl (.inl rfl) (pe_call (ok_law_tree T 11) (hr.mono (by omega)) rfl T.g_law_tree T.F_law_tree.kp T.b_law_tree .nil pass0 (pa_cons (pv 1) (pa_cons (pe_op op_add pe_int (pe_call (ok_law_draw T) (hr.mono (by omega)) rfl T.g_law_draw T.F_law_draw.kp T.b_law_draw .nil pass0 (pa_cons (pv 1) (pa_cons pe_int pa_nil)))) (pa_cons (pv 2) (pa_cons (pv 3) pa_nil))))))))
    (pss_cons (ps_set (i := 4) sc_law.nd rfl (.inl rfl) (pe_call (ok_law_cut T) (hr.mono (by omega)) rfl T.g_law_cut T.F_law_cut.kp T.b_law_cut .nil pass0 (pa_cons (pv 4) pa_nil)))
    (pss_cons (ps_set (i := 5) sc_law.nd rfl (.inl rfl) (pe_call (ok_plain T 30) (hr.mono (by omega)) rfl T.g_law_plain T.F_law_plain.kp T.b_law_plain .nil pass0 (pa_cons (pv 4) pa_nil)))
    (pss_cons (ps_set (i := 6) sc_law.nd rfl (.inl rfl) pe_dnewT)
    (pss_cons (ps_for PassesOwn.never rfl (pi_list (pe_op op_cat (pe_call (ok_law_keys T 16) (hr.mono (by omega)) rfl T.g_law_keys T.F_law_keys.kp T.b_law_keys .nil pass0 (pa_cons (pv 4) pa_nil)) (pe_lst (pa_cons (pe_tup (pa_cons pe_str pa_nil)) (pa_cons (pe_tup (pa_cons pe_str (pa_cons (pe_ix ix_list (pv 2) pe_int (fun _ _ => rfl)) pa_nil))) pa_nil))))) (pg_name (i := 7) sc_law.nd rfl (.inl rfl))
      (pss_one (ps_if (pt_cmpR op_gt (pe_call (ok_law_draw T) (hr.mono (by omega)) rfl T.g_law_draw T.F_law_draw.kp T.b_law_draw .nil pass0 (pa_cons (pv 1) (pa_cons pe_int pa_nil))) pe_int (nomark _)) (pss_one (ps_dput (hu_of hr) (pv 6) (pv 7) (pe_call (ok_law_worth T) (hr.mono (by omega)) rfl T.g_law_worth T.F_law_worth.kp T.b_law_worth .nil pass0 (pa_cons (pv 1) pa_nil)) rfl)) pss_nil)))
    (pss_cons (ps_set (i := 8) sc_law.nd rfl (.inl rfl) pe_dnewT)
    (pss_cons (ps_lock (ps_for PassesOwn.never rfl (pi_keys (pv 6)) (pg_name (i := 7) sc_law.nd rfl (.inl rfl))
      (pss_one (ps_dput (hu_of hr) (pv 8) (pv 7) (pe_dget (hu_of hr) (pv 6) (pv 7) (fun _ _ => rfl)) rfl))))
    (pss_cons (ps_set (i := 9) sc_law.nd rfl (.inl rfl) (pe_callTy (call_list_dT rfl) (by rfl) T.n_list (by decide +kernel) (pa_cons (pv 8) pa_nil)))
    (pss_cons (ps_if (pt_cmpR op_gt (pe_callB len_seq (by rfl) T.n_len (by decide +kernel) (pa_cons (pv 9) pa_nil)) pe_int (nomark _)) (pss_one (ps_dput (hu_of hr) (pv 8) (pe_ix ix_list (pv 9) (pe_call (ok_law_draw T) (hr.mono (by omega)) rfl T.g_law_draw T.F_law_draw.kp T.b_law_draw .nil pass0 (pa_cons (pv 1) (pa_cons (pe_callB len_seq (by rfl) T.n_len (by decide +kernel) (pa_cons (pv 9) pa_nil)) pa_nil))) (fun _ _ => rfl)) (pe_call (ok_law_worth T) (hr.mono (by omega)) rfl T.g_law_worth T.F_law_worth.kp T.b_law_worth .nil pass0 (pa_cons (pv 1) pa_nil)) rfl)) pss_nil)
    (pss_one (ps_try_onlyN rfl rfl ⟨rfl, by decide, .inl T.g_RomError⟩ (fun W pn xe tk _ => (pss_cons (ps_if (PW.pt (pw_or (pt_not (pt_val (pe_call (ok_law_asked T) (hr.mono (by omega)) rfl T.g_law_asked T.F_law_asked.kp T.b_law_asked .nil pass0 (pa_cons (pv 4) (pa_cons (pv 6) pa_nil))))) (pw_or (pt_not (pt_val (pe_call (ok_law_asked T) (hr.mono (by omega)) rfl T.g_law_asked T.F_law_asked.kp T.b_law_asked .nil pass0 (pa_cons (pv 4) (pa_cons (pv 8) pa_nil))))) (pw_or1 (pt_not (pt_val (pe_call (ok_law_asked T) (hr.mono (by omega)) rfl T.g_law_asked T.F_law_asked.kp T.b_law_asked .nil pass0 (pa_cons (pv 4) (pa_cons pe_dnewT pa_nil))))))))) (pss_one (ps_ret pe_bl)) pss_nil)
    (pss_one (ps_ret (pe_and (pe_call (ok_law_asked T) (hr.mono (by omega)) rfl T.g_law_asked T.F_law_asked.kp T.b_law_asked .nil pass0 (pa_cons (pv 4) (pa_cons (pv 6) pa_nil))) (pe_one (pe_cmpR (r := rEqD K) (op_eqD hr.units) (pe_call (ok_plain T 30) (hr.mono (by omega)) rfl T.g_law_plain T.F_law_plain.kp T.b_law_plain .nil pass0 (pa_cons (pv 4) pa_nil)) (pv 5) (nomark _))))))))
      (fun a o cls d ps hz hf => (pss_one (ps_ret pe_bl))))))))))))))))), ?_⟩
    refine ⟨_, rfl, a, ns, rfl, hS, hl, fun H1 c p s1 nc np hs1 => ?_⟩
    unfold tNoPart
    refine ⟨_, rfl, _, rfl, a, _, rfl, sqL_up hS s1, fun l1 nl1 => ?_⟩
    refine ⟨_, rfl, _, rfl, a, _, rfl, sqL_up hS (s1.trans (same_new nl1)), fun l2 nl2 => ?_⟩
    have e1 := (same_new (o := .lst (cutV (ns.map V.int) none (some 1))) nl2) _ _ upd_same
    refine ⟨l1, l2, _, _, rfl, rfl, e1, upd_same, ?_, fun l3 nl3 => ?_⟩
    · have h1 := cutV_length (ns.map V.int) (some 1) none
      have h2 := cutV_length (ns.map V.int) none (some 1)
      rw [List.length_map] at h1 h2
      exact Nat.le_trans (show _ ≤ 200 by omega) (by decide)
    have hcat : cutV (ns.map V.int) (some 1) none ++ cutV (ns.map V.int) none (some 1) = (ns.drop 1 ++ ns.take 1).map V.int := by
      rw [show (some (1 : Int)) = some ((1 : Nat) : Int) from rfl, cutV_lo, cutV_hi, List.map_append, List.map_drop, List.map_take]
    have s3 := (s1.trans (same_new nl1)).trans ((same_new nl2).trans (same_new (o := .lst (cutV (ns.map V.int) (some 1) none ++ cutV (ns.map V.int) none (some 1))) nl3))
    have s13 := (same_new nl1).trans ((same_new nl2).trans (same_new (o := .lst (cutV (ns.map V.int) (some 1) none ++ cutV (ns.map V.int) none (some 1))) nl3))
    have hs3 := src_up hs1 s13
    refine ⟨l3, ns.drop 1 ++ ns.take 1, rfl, SqL.of (upd_same.trans (by rw [hcat])), by rw [List.length_append, List.length_drop, List.length_take]; omega, fun H4 c2 p2 s4 nc2 np2 hs24 => ?_⟩
    have hs4 := src_up hs3 s4
    have pp2 : p ≠ p2 := fun z => src_ne hs3 (z ▸ np2)
    have cp2 : c ≠ p2 := fun z => src_cne hs3 (z ▸ np2)
    generalize hG : upd _ l3 _ = H3 at *
    clear hG s3 s13 hs3 e1
    refine ⟨c2, p2, 5, rfl, hs24, by decide, fun H5 l hs25 b5 hss => ?_⟩
    have hs5 := src_but hs4 b5 pp2 cp2
    have lp : l ≠ p := by
      obtain ⟨ss, g1, _⟩ := hss
      exact src_strs hs5 g1
    have hn5 : Nms H5 p l := ⟨5, by decide, by decide, lp, hss⟩
    clear hss b5 hs25 hs24 s4 hs4
    refine ⟨_, rfl, c, p, rfl, hs5, fun H6 m ms hs6 b6 em hm0 hm20 hmB => ?_⟩
    have hm6 : MenuK H6 p m := ⟨src_strs hs6 em, ms, em, hm0, hm20, hmB⟩
    have hn6 := hn5.but b6
    clear em hm0 hm20 hmB b6 hn5 hs5
    refine ⟨_, rfl, c, p, 4, rfl, hs6, by decide, by decide, fun H7 r lr hs7 b7 => ⟨rfl, _, rfl, ?_⟩⟩
    have hm7 := hm6.but b7
    have hn7 := hn6.but b7
    clear hm6 hn6 hs6 b7
    refine ite2 (fun c1 => ?_) (fun c1 => ?_)
    · refine ⟨_, rfl, _, rfl, c, p, l, rfl, hs7, hn7, fun H9 v0 t0 hs9 b9 ht0 hw0 hd0 => ?_⟩
      have hn9 := hn7.but b9
      have hd0 : dep t0 ≤ 35 := by omega
      refine ⟨_, rfl, v0, t0, rfl, ht0, hw0, hd0, fun H10 v t s10 ht hw hz => ?_⟩
      have hs10 := src_up hs9 s10
      have hn10 := hn9.but (But.of s10)
      have hsd := sz_dep t
      have hdep := tr_dep t
      refine ⟨_, rfl, v, trD t, onlyA p, rfl, fun a e => by rw [e]; exact src_ne hs10, dx_trS (src_notup hs10) ht, show _ ≤ 29 by omega, tr_wd t, fun H11 sv s11 d11 => ?_⟩
      have hs11 := src_up hs10 s11
      have hn11 := hn10.but (But.of s11)
      have ht11 := ht.ups s11
      clear hn10 hn9 hs10 hs9 s11 s10 ht ht0 hw0 hd0
      refine fun f nf => ?_
      have s12 := same_new (o := .dT []) nf
      have hfp : f ≠ p := fun z => src_ne hs11 (z ▸ nf)
      have hfc : f ≠ c := fun z => src_cne hs11 (z ▸ nf)
      have d12 : Dx K _ (inS (onlyA p) f) sv (plD (trD t)) := Dx.up (Out.of s12) (Dx.add nf d11)
      have ef : (upd H11 f (.dT [])) f = some (.dT []) := upd_same
      have hs12 := src_up hs11 s12
      have hn12 := hn11.but (But.of s12)
      have ht12 := ht11.ups s12
      generalize upd H11 f (.dT []) = H12 at *
      clear d11 hs11 hn11 ht11
      refine ⟨_, rfl, v, t, rfl, ht12, hw, by omega, by omega, fun H13 kl ps s13 nk ek hpl hks => ?_⟩
      refine ⟨lenOk (n := 1) rfl (by decide), fun k1 nk1 => ?_⟩
      obtain ⟨nn, g1, g2, g3, ss, g4, g5, g6⟩ := hn12
      obtain ⟨x0, hx0, hso⟩ : ∃ x0, (ss.map V.str)[0]? = some (.str x0) ∧ SO x0 := by
        have h0 : 0 < ss.length := by omega
        refine ⟨ss[0], ?_, (g6 _ (List.getElem_mem h0)).2⟩
        rw [List.getElem?_map, List.getElem?_eq_getElem h0]
        rfl
      have t1 := same_new (o := .tup [V.str (Str.ofString "home")]) nk1
      refine ⟨_, rfl, l, _, 0, _, rfl, rfl, SqL.of (t1 _ _ (s13 _ _ g4)), atI_nat (j := 0) hx0, lenOk (n := 2) rfl (by decide), fun k2 nk2 => ⟨lenOk (n := 2) rfl (by decide), fun L nL => ?_⟩⟩
      have t2 := same_new (o := .tup [V.str (Str.ofString "start"), V.str x0]) nk2
      have t3 := same_new (o := .lst [V.ref k1, V.ref k2]) nL
      refine ⟨kl, L, _, _, rfl, rfl, t3 _ _ (t2 _ _ (t1 _ _ ek)), upd_same, ?_, fun M nM => ?_⟩
      · rw [List.length_map]
        exact Nat.le_trans (show ps.length + 2 ≤ 200 by omega) (by decide)
      have t4 := same_new (o := .lst (ps.map V.ref ++ [V.ref k1, V.ref k2])) nM
      have t14 := t1.trans ((t2.trans t3).trans t4)
      have hkq := keys_two t14 hks ((t2.trans (t3.trans t4)) _ _ upd_same) ((t3.trans t4) _ _ upd_same) hso
      have hql : (ps ++ [k1, k2]).length ≤ 42 := by
        rw [List.length_append]
        show ps.length + 2 ≤ 42
        omega
      have s14 := s13.trans t14
      have hs14 := src_up hs12 s14
      have ht14 := ht12.ups s14
      have ef14 := s14 _ _ ef
      have d14 := Dx.up (Out.of s14) d12
      generalize hG : upd _ M (.lst (ps.map V.ref ++ [V.ref k1, V.ref k2])) = H14 at *
      have eM : H14 M = some (.lst ((ps ++ [k1, k2]).map V.ref)) := by
        rw [← hG, List.map_append]
        exact upd_same
      clear hG t4 t3 t2 t1 t14
      generalize ps ++ [k1, k2] = qs at *
      refine ⟨M, rfl, ⟨_, SqL.of eM⟩, ?_⟩
      have hMp : M ≠ p := fun z => by
        obtain ⟨cs, pl, dg, ct, mx, e1, _⟩ := hs14
        rw [z, e1] at eM
        cases qs with
        | nil => cases eM
        | cons x r =>
          cases r with
          | nil => cases eM
          | cons y r => cases eM
      have hMf : M ≠ f := fun z => by
        rw [z, ef14] at eM
        cases eM
      have hSt : ∀ x xs, H14 x = some (.tup xs) → ¬ inS (onlyA p) f x := fun x xs hx z => by
        rcases z with z | z
        · exact src_notup hs14 _ _ z hx
        · rw [z, ef14] at hx
          cases hx
      refine for_it (walk_list (K := K) (a := M) (xs := qs.map V.ref)) (fun i σ Hc => ∃ kvs o7, σ = [some (.ref a), some (.ref p), some (.ref l), some (.ref m), some v, some sv, some (.ref f), o7, none, none] ∧ Src c Hc p ∧ Out (inS (onlyA p) f) H14 Hc ∧ Hc f = some (.dT kvs) ∧ kvs.length ≤ i ∧ KvOk kvs) ⟨[], _, rfl, hs14, Out.refl _ _, ef14, Nat.zero_le _, kv_nil⟩ (fun i σ Hc _ y => ?_) (fun i x σ Hc Hd hi y e => ?_) (fun σ Hc y => ?_)
      · obtain ⟨kvs, o7, _, _, oc, _⟩ := y
        exact SqL.of (oc _ _ (fun z => by
          rcases z with z | z
          · exact hMp z
          · exact hMf z) eM)
      · obtain ⟨rfl, hx⟩ := e
        obtain ⟨kvs, o7, rfl, hsc, oc, efc, hkl, hko⟩ := y
        rw [List.length_map] at hi
        rw [List.getElem?_map, List.getElem?_eq_getElem hi] at hx
        obtain rfl := Option.some.inj hx
        obtain ⟨k, hk, hk1, hk2⟩ := hkq _ (List.getElem_mem hi)
        have hkc := oc _ _ (hSt _ _ hk) hk
        have hnp : ¬ inS (onlyA p) f qs[i] := hSt _ _ hk
        refine ⟨_, rfl, c, p, 9, rfl, hsc, by decide, by decide, fun H2 r2 lr2 hs2 b2 => ?_⟩
        have o2 := oc.trans (out_but (S := inS (onlyA p) f) b2 (.inl rfl))
        refine ⟨_, _, rfl, rfl, _, rfl, ite2 (fun c1 => ?_) (fun c1 => ?_)⟩
        · refine ⟨_, rfl, c, p, rfl, hs2, fun H3 o hs3 b3 => ⟨_, rfl, _, rfl, f, _, rfl, DPut.t (kvs := kvs) (k := k) (b3 _ _ hfp (b2 _ _ hfp efc)) (o2.trans (out_but (S := inS (onlyA p) f) b3 (.inl rfl)) _ _ hnp hk) (Nat.lt_of_le_of_lt hkl (Nat.lt_of_lt_of_le (show i < 100 by omega) (by decide))), putK kvs k (optI o), _, rfl, src_put hs3 hfp hfc, (o2.trans (out_but (S := inS (onlyA p) f) b3 (.inl rfl))).put (.inr rfl), upd_same, ?_, kv_put hko (by omega) ⟨hk1, hk2⟩ (opt_v o)⟩⟩
          have := length_putK kvs k (optI o)
          omega
        · exact ⟨kvs, _, rfl, hs2, o2, b2 _ _ hfp efc, by omega, hko⟩
      obtain ⟨kvs, o7, rfl, hs15, o15, ef15, hkl, hko⟩ := y
      rw [List.length_map] at hkl
      have ht15 := ht14.up fun x xs hx => o15 _ _ (hSt _ _ hx) hx
      have d15 := Dx.up o15 d14
      clear hMp hMf hSt hkq eM o15 ht14 d14 hs14 ef14 ef ht12 hs12 d12
      refine fun g ng => ?_
      have s16 := same_new (o := .dT []) ng
      have hgp : g ≠ p := fun z => src_ne hs15 (z ▸ ng)
      have hgc : g ≠ c := fun z => src_cne hs15 (z ▸ ng)
      have hgf : g ≠ f := fun z => by
        rw [z, ef15] at ng
        cases ng
      have d16 := Dx.up (Out.of s16) (Dx.add ng d15)
      have hs16 := src_up hs15 s16
      have ht16 := ht15.ups s16
      have ef16 := s16 _ _ ef15
      have eg16 : (upd Hc g (.dT [])) g = some (.dT []) := upd_same
      generalize upd Hc g (.dT []) = H16 at *
      refine ⟨f, .dT kvs, ef16, trivial, fun od => ⟨_, rfl, f, od, rfl, .inr ⟨kvs, upd_same, ?_⟩⟩⟩
      refine for_it walk_keysT (fun i σ Hd => ∃ kws o7, σ = [some (.ref a), some (.ref p), some (.ref l), some (.ref m), some v, some sv, some (.ref f), o7, some (.ref g), none] ∧ Out (onlyA g) (upd H16 f (.frz od (.dT kvs))) Hd ∧ Hd g = some (.dT kws) ∧ kws.length ≤ i ∧ KvOk kws) ⟨[], _, rfl, Out.refl _ _, by rw [upd_ne hgf]; exact eg16, Nat.zero_le _, kv_nil⟩ (fun i σ Hd _ y => ?_) (fun i x σ Hd He hi y e => ?_) (fun σ Hd y => ?_)
      · obtain ⟨kws, o7, _, oc, _⟩ := y
        exact oc _ _ (fun z => hgf z.symm) upd_same
      · obtain ⟨rfl, k, u0, qa, hkv, rfl, hq⟩ := e
        obtain ⟨kws, o7, rfl, oc, egc, hwl, hwo⟩ := y
        obtain ⟨u, hu⟩ := valV_mem hkv
        refine ⟨_, rfl, _, rfl, f, u, rfl, .inr ⟨kvs, k, qa, .inr ⟨_, oc _ _ (fun z => hgf z.symm) upd_same⟩, rfl, hq, hu.symm⟩, _, rfl, _, rfl, g, _, rfl, DPut.t (kvs := kws) (k := k) egc hq (Nat.lt_of_le_of_lt hwl (Nat.lt_of_lt_of_le (show i < 100 by omega) (by decide))), putK kws k u, _, rfl, oc.put rfl, upd_same, ?_, kv_put hwo (by omega) (hko.2.2 _ (List.mem_of_getElem? hkv)) (hko.2.1 k u hu)⟩
        have := length_putK kws k u
        omega
      obtain ⟨kws, o7, rfl, oc, egc, hwl, hwo⟩ := y
      refine ⟨oc _ _ (fun z => hgf z.symm) upd_same, ?_⟩
      have o17 := out_lock ef16 oc
      have eg17 := (upd_ne (o := .dT kvs) hgf).trans egc
      have ef17 : (upd Hd f (.dT kvs)) f = some (.dT kvs) := upd_same
      generalize upd Hd f (.dT kvs) = H17 at *
      have hs17 := src_but (p2 := g) hs16 (fun b o n e => o17 b o n e) (Ne.symm hgp) (Ne.symm hgc)
      have ht17 := ht16.up fun x xs hx => o17 _ _ (fun z => by
        rw [show x = g from z, eg16] at hx
        cases hx) hx
      have d17 := Dx.up (Out.mono o17 (fun b z => .inr z)) d16
      clear d16 ht16 hs16 ef16 eg16 oc o17 egc d15 ht15 hs15 ef15 s16
      refine ⟨_, rfl, g, kws, rfl, .inl eg17, fun kl2 bs nk2 ik => ?_⟩
      have s18 := same_new (o := .lst (bs.map V.ref)) nk2
      have hkp : kl2 ≠ p := fun z => src_ne hs17 (z ▸ nk2)
      have hkg : kl2 ≠ g := fun z => by
        rw [z, eg17] at nk2
        cases nk2
      have hs18 := src_up hs17 s18
      have ht18 := ht17.ups s18
      have ef18 := s18 _ _ ef17
      have eg18 := s18 _ _ eg17
      have d18 := Dx.up (Out.of s18) d17
      have ik18 := L2.Paired.mapP ik fun (pr : List Key × V) (b : Addr) (e : H17 b = some (.tup (pr.1.map kV))) => s18 _ _ e
      have ek18 : (upd H17 kl2 (.lst (bs.map V.ref))) kl2 = some (.lst (bs.map V.ref)) := upd_same
      generalize upd H17 kl2 (.lst (bs.map V.ref)) = H18 at *
      have hbl := ik.length
      clear d17 ht17 hs17 ef17 eg17 s18 ik
      refine ⟨_, rfl, kl2, _, rfl, .inl (SqL.of ek18), _, _, rfl, rfl, _, rfl, ite2 (fun c1 => ?_) (fun c1 => ?_)⟩
      · refine ⟨_, rfl, c, p, rfl, hs18, fun H19 o hs19 b19 => ?_⟩
        have hbp : 0 < bs.length := by
          have := of_decide_eq_true c1
          rw [List.length_map] at this
          omega
        refine ⟨_, rfl, _, rfl, _, rfl, _, rfl, kl2, _, rfl, .inl (SqL.of (b19 _ _ hkp ek18)), c, p, _, rfl, hs19, by rw [List.length_map]; omega, by rw [List.length_map]; omega, fun H20 k lk hs20 b20 => ?_⟩
        rw [List.length_map] at lk
        have lk : k < bs.length := by omega
        have b21 := b19.trans b20
        obtain ⟨kv, hkv, hkt⟩ := paired_mem ik18 _ (List.getElem_mem lk)
        have hbx : (bs.map V.ref)[k]? = some (.ref bs[k]) := by
          rw [List.getElem?_map, List.getElem?_eq_getElem lk]
          rfl
        have hbn : bs[k] ≠ p := fun z => src_notup hs18 _ _ z hkt
        refine ⟨kl2, _, _, _, rfl, rfl, SqL.of (b21 _ _ hkp ek18), atI_nat hbx, g, _, rfl, DPut.t (kvs := kws) (k := kv.1) (b21 _ _ hgp eg18) (b21 _ _ hbn hkt) (Nat.lt_of_le_of_lt hwo.1 (by decide)), ?_⟩
        have eg20 : (upd H20 g (.dT (putK kws kv.1 (optI o)))) g = some (.dT (putK kws kv.1 (optI o))) := upd_same
        have ef20 := (upd_ne (o := .dT (putK kws kv.1 (optI o))) (Ne.symm hgf)).trans (b21 _ _ hfp ef18)
        have o20 : Out (inS (inS (onlyA p) f) g) H18 (upd H20 g (.dT (putK kws kv.1 (optI o)))) := (out_but (S := inS (inS (onlyA p) f) g) b21 (.inl (.inl rfl))).put (.inr rfl)
        have d20 := Dx.up o20 d18
        have ht20 := ht18.up fun x xs hx => o20 x _ (fun z => by
          rcases z with (z | z) | z
          · exact src_notup hs18 _ _ z hx
          · rw [z, ef18] at hx
            cases hx
          · rw [z, eg18] at hx
            cases hx) hx
        have hwo20 := kv_put (k := kv.1) hwo (by omega) (hwo.2.2 _ hkv) (opt_v o)
        refine ⟨_, rfl, _, rfl, v, f, t, kvs, rfl, ht20, hw, by omega, ef20, hko, fun Ha sa => ⟨_, rfl, ?_⟩⟩
        show (if (!true) = true then _ else _)
        rw [if_neg (by decide)]
        refine ⟨_, rfl, _, rfl, v, g, t, _, rfl, ht20.ups sa, hw, by omega, sa _ _ eg20, hwo20, fun Hb sb => ⟨_, rfl, ?_⟩⟩
        show (if (!true) = true then _ else _)
        rw [if_neg (by decide)]
        have sab := sa.trans sb
        refine ⟨_, rfl, fun e ne => ⟨v, e, t, [], rfl, (ht20.ups sab).ups (same_new ne), hw, by omega, upd_same, kv_nil, fun Hd2 sd => ⟨_, rfl, ?_⟩⟩⟩
        have sad := sab.trans ((same_new ne).trans sd)
        show (if (!true) = true then _ else _)
        rw [if_neg (by decide)]
        refine ⟨_, rfl, _, rfl, v, f, t, kvs, rfl, ht20.ups sad, hw, by omega, sad _ _ ef20, hko, fun Hf sf => ⟨_, rfl, ?_⟩⟩
        have saf := sad.trans sf
        rw [if_pos rfl]
        refine ⟨_, rfl, v, trD t, noS, rfl, fun _ z => z.elim, dx_tr (ht20.ups saf), show _ ≤ 29 by omega, tr_wd t, fun Hg v5 sg dg => ⟨_, rfl, ?_⟩⟩
        have hsh := plD_shaped (tr_lay hw) (show (trD t).depth ≤ 20 by omega)
        refine ⟨_, _, dg.dp, (Dx.up (Out.of (saf.trans sg)) d20).dp, hsh, hsh, ?_⟩
        rw [SeqAt.eqv_refl _ (plD_lay _ (tr_lay hw))]
        exact q _
      · have ht20 := ht18
        have ef20 := ef18
        have eg20 := eg18
        have d20 := d18
        have hwo20 := hwo
        refine ⟨_, rfl, _, rfl, v, f, t, kvs, rfl, ht20, hw, by omega, ef20, hko, fun Ha sa => ⟨_, rfl, ?_⟩⟩
        show (if (!true) = true then _ else _)
        rw [if_neg (by decide)]
        refine ⟨_, rfl, _, rfl, v, g, t, _, rfl, ht20.ups sa, hw, by omega, sa _ _ eg20, hwo20, fun Hb sb => ⟨_, rfl, ?_⟩⟩
        show (if (!true) = true then _ else _)
        rw [if_neg (by decide)]
        have sab := sa.trans sb
        refine ⟨_, rfl, fun e ne => ⟨v, e, t, [], rfl, (ht20.ups sab).ups (same_new ne), hw, by omega, upd_same, kv_nil, fun Hd2 sd => ⟨_, rfl, ?_⟩⟩⟩
        have sad := sab.trans ((same_new ne).trans sd)
        show (if (!true) = true then _ else _)
        rw [if_neg (by decide)]
        refine ⟨_, rfl, _, rfl, v, f, t, kvs, rfl, ht20.ups sad, hw, by omega, sad _ _ ef20, hko, fun Hf sf => ⟨_, rfl, ?_⟩⟩
        have saf := sad.trans sf
        rw [if_pos rfl]
        refine ⟨_, rfl, v, trD t, noS, rfl, fun _ z => z.elim, dx_tr (ht20.ups saf), show _ ≤ 29 by omega, tr_wd t, fun Hg v5 sg dg => ⟨_, rfl, ?_⟩⟩
        have hsh := plD_shaped (tr_lay hw) (show (trD t).depth ≤ 20 by omega)
        refine ⟨_, _, dg.dp, (Dx.up (Out.of (saf.trans sg)) d20).dp, hsh, hsh, ?_⟩
        rw [SeqAt.eqv_refl _ (plD_lay _ (tr_lay hw))]
        exact q _
    · refine ⟨_, rfl, _, rfl, c, p, 10, rfl, hs7, by decide, by decide, fun H8 k lk hs8 b8 => ⟨_, _, rfl, rfl, _, rfl, _, rfl, c, p, l, m, 1 + k, ?_, hs8, hn7.but b8, hm7.but b8, by omega, by omega, by omega, fun H9 v0 t0 hs9 b9 ht0 hw0 hd0 => ?_⟩⟩
      · show [V.ref p, V.int ((1 : Int) + (k : Int)), V.ref l, V.ref m] = _
        rw [show ((1 + k : Nat) : Int) = (1 : Int) + (k : Int) by omega]
      have hn9 := (hn7.but b8).but b9
      have hd0 : dep t0 ≤ 35 := by omega
      refine ⟨_, rfl, v0, t0, rfl, ht0, hw0, hd0, fun H10 v t s10 ht hw hz => ?_⟩
      have hs10 := src_up hs9 s10
      have hn10 := hn9.but (But.of s10)
      have hsd := sz_dep t
      have hdep := tr_dep t
      refine ⟨_, rfl, v, trD t, onlyA p, rfl, fun a e => by rw [e]; exact src_ne hs10, dx_trS (src_notup hs10) ht, show _ ≤ 29 by omega, tr_wd t, fun H11 sv s11 d11 => ?_⟩
      have hs11 := src_up hs10 s11
      have hn11 := hn10.but (But.of s11)
      have ht11 := ht.ups s11
      clear hn10 hn9 hs10 hs9 s11 s10 ht ht0 hw0 hd0
      refine fun f nf => ?_
      have s12 := same_new (o := .dT []) nf
      have hfp : f ≠ p := fun z => src_ne hs11 (z ▸ nf)
      have hfc : f ≠ c := fun z => src_cne hs11 (z ▸ nf)
      have d12 : Dx K _ (inS (onlyA p) f) sv (plD (trD t)) := Dx.up (Out.of s12) (Dx.add nf d11)
      have ef : (upd H11 f (.dT [])) f = some (.dT []) := upd_same
      have hs12 := src_up hs11 s12
      have hn12 := hn11.but (But.of s12)
      have ht12 := ht11.ups s12
      generalize upd H11 f (.dT []) = H12 at *
      clear d11 hs11 hn11 ht11
      refine ⟨_, rfl, v, t, rfl, ht12, hw, by omega, by omega, fun H13 kl ps s13 nk ek hpl hks => ?_⟩
      refine ⟨lenOk (n := 1) rfl (by decide), fun k1 nk1 => ?_⟩
      obtain ⟨nn, g1, g2, g3, ss, g4, g5, g6⟩ := hn12
      obtain ⟨x0, hx0, hso⟩ : ∃ x0, (ss.map V.str)[0]? = some (.str x0) ∧ SO x0 := by
        have h0 : 0 < ss.length := by omega
        refine ⟨ss[0], ?_, (g6 _ (List.getElem_mem h0)).2⟩
        rw [List.getElem?_map, List.getElem?_eq_getElem h0]
        rfl
      have t1 := same_new (o := .tup [V.str (Str.ofString "home")]) nk1
      refine ⟨_, rfl, l, _, 0, _, rfl, rfl, SqL.of (t1 _ _ (s13 _ _ g4)), atI_nat (j := 0) hx0, lenOk (n := 2) rfl (by decide), fun k2 nk2 => ⟨lenOk (n := 2) rfl (by decide), fun L nL => ?_⟩⟩
      have t2 := same_new (o := .tup [V.str (Str.ofString "start"), V.str x0]) nk2
      have t3 := same_new (o := .lst [V.ref k1, V.ref k2]) nL
      refine ⟨kl, L, _, _, rfl, rfl, t3 _ _ (t2 _ _ (t1 _ _ ek)), upd_same, ?_, fun M nM => ?_⟩
      · rw [List.length_map]
        exact Nat.le_trans (show ps.length + 2 ≤ 200 by omega) (by decide)
      have t4 := same_new (o := .lst (ps.map V.ref ++ [V.ref k1, V.ref k2])) nM
      have t14 := t1.trans ((t2.trans t3).trans t4)
      have hkq := keys_two t14 hks ((t2.trans (t3.trans t4)) _ _ upd_same) ((t3.trans t4) _ _ upd_same) hso
      have hql : (ps ++ [k1, k2]).length ≤ 42 := by
        rw [List.length_append]
        show ps.length + 2 ≤ 42
        omega
      have s14 := s13.trans t14
      have hs14 := src_up hs12 s14
      have ht14 := ht12.ups s14
      have ef14 := s14 _ _ ef
      have d14 := Dx.up (Out.of s14) d12
      generalize hG : upd _ M (.lst (ps.map V.ref ++ [V.ref k1, V.ref k2])) = H14 at *
      have eM : H14 M = some (.lst ((ps ++ [k1, k2]).map V.ref)) := by
        rw [← hG, List.map_append]
        exact upd_same
      clear hG t4 t3 t2 t1 t14
      generalize ps ++ [k1, k2] = qs at *
      refine ⟨M, rfl, ⟨_, SqL.of eM⟩, ?_⟩
      have hMp : M ≠ p := fun z => by
        obtain ⟨cs, pl, dg, ct, mx, e1, _⟩ := hs14
        rw [z, e1] at eM
        cases qs with
        | nil => cases eM
        | cons x r =>
          cases r with
          | nil => cases eM
          | cons y r => cases eM
      have hMf : M ≠ f := fun z => by
        rw [z, ef14] at eM
        cases eM
      have hSt : ∀ x xs, H14 x = some (.tup xs) → ¬ inS (onlyA p) f x := fun x xs hx z => by
        rcases z with z | z
        · exact src_notup hs14 _ _ z hx
        · rw [z, ef14] at hx
          cases hx
      refine for_it (walk_list (K := K) (a := M) (xs := qs.map V.ref)) (fun i σ Hc => ∃ kvs o7, σ = [some (.ref a), some (.ref p), some (.ref l), some (.ref m), some v, some sv, some (.ref f), o7, none, none] ∧ Src c Hc p ∧ Out (inS (onlyA p) f) H14 Hc ∧ Hc f = some (.dT kvs) ∧ kvs.length ≤ i ∧ KvOk kvs) ⟨[], _, rfl, hs14, Out.refl _ _, ef14, Nat.zero_le _, kv_nil⟩ (fun i σ Hc _ y => ?_) (fun i x σ Hc Hd hi y e => ?_) (fun σ Hc y => ?_)
      · obtain ⟨kvs, o7, _, _, oc, _⟩ := y
        exact SqL.of (oc _ _ (fun z => by
          rcases z with z | z
          · exact hMp z
          · exact hMf z) eM)
      · obtain ⟨rfl, hx⟩ := e
        obtain ⟨kvs, o7, rfl, hsc, oc, efc, hkl, hko⟩ := y
        rw [List.length_map] at hi
        rw [List.getElem?_map, List.getElem?_eq_getElem hi] at hx
        obtain rfl := Option.some.inj hx
        obtain ⟨k, hk, hk1, hk2⟩ := hkq _ (List.getElem_mem hi)
        have hkc := oc _ _ (hSt _ _ hk) hk
        have hnp : ¬ inS (onlyA p) f qs[i] := hSt _ _ hk
        refine ⟨_, rfl, c, p, 9, rfl, hsc, by decide, by decide, fun H2 r2 lr2 hs2 b2 => ?_⟩
        have o2 := oc.trans (out_but (S := inS (onlyA p) f) b2 (.inl rfl))
        refine ⟨_, _, rfl, rfl, _, rfl, ite2 (fun c1 => ?_) (fun c1 => ?_)⟩
        · refine ⟨_, rfl, c, p, rfl, hs2, fun H3 o hs3 b3 => ⟨_, rfl, _, rfl, f, _, rfl, DPut.t (kvs := kvs) (k := k) (b3 _ _ hfp (b2 _ _ hfp efc)) (o2.trans (out_but (S := inS (onlyA p) f) b3 (.inl rfl)) _ _ hnp hk) (Nat.lt_of_le_of_lt hkl (Nat.lt_of_lt_of_le (show i < 100 by omega) (by decide))), putK kvs k (optI o), _, rfl, src_put hs3 hfp hfc, (o2.trans (out_but (S := inS (onlyA p) f) b3 (.inl rfl))).put (.inr rfl), upd_same, ?_, kv_put hko (by omega) ⟨hk1, hk2⟩ (opt_v o)⟩⟩
          have := length_putK kvs k (optI o)
          omega
        · exact ⟨kvs, _, rfl, hs2, o2, b2 _ _ hfp efc, by omega, hko⟩
      obtain ⟨kvs, o7, rfl, hs15, o15, ef15, hkl, hko⟩ := y
      rw [List.length_map] at hkl
      have ht15 := ht14.up fun x xs hx => o15 _ _ (hSt _ _ hx) hx
      have d15 := Dx.up o15 d14
      clear hMp hMf hSt hkq eM o15 ht14 d14 hs14 ef14 ef ht12 hs12 d12
      refine fun g ng => ?_
      have s16 := same_new (o := .dT []) ng
      have hgp : g ≠ p := fun z => src_ne hs15 (z ▸ ng)
      have hgc : g ≠ c := fun z => src_cne hs15 (z ▸ ng)
      have hgf : g ≠ f := fun z => by
        rw [z, ef15] at ng
        cases ng
      have d16 := Dx.up (Out.of s16) (Dx.add ng d15)
      have hs16 := src_up hs15 s16
      have ht16 := ht15.ups s16
      have ef16 := s16 _ _ ef15
      have eg16 : (upd Hc g (.dT [])) g = some (.dT []) := upd_same
      generalize upd Hc g (.dT []) = H16 at *
      refine ⟨f, .dT kvs, ef16, trivial, fun od => ⟨_, rfl, f, od, rfl, .inr ⟨kvs, upd_same, ?_⟩⟩⟩
      refine for_it walk_keysT (fun i σ Hd => ∃ kws o7, σ = [some (.ref a), some (.ref p), some (.ref l), some (.ref m), some v, some sv, some (.ref f), o7, some (.ref g), none] ∧ Out (onlyA g) (upd H16 f (.frz od (.dT kvs))) Hd ∧ Hd g = some (.dT kws) ∧ kws.length ≤ i ∧ KvOk kws) ⟨[], _, rfl, Out.refl _ _, by rw [upd_ne hgf]; exact eg16, Nat.zero_le _, kv_nil⟩ (fun i σ Hd _ y => ?_) (fun i x σ Hd He hi y e => ?_) (fun σ Hd y => ?_)
      · obtain ⟨kws, o7, _, oc, _⟩ := y
        exact oc _ _ (fun z => hgf z.symm) upd_same
      · obtain ⟨rfl, k, u0, qa, hkv, rfl, hq⟩ := e
        obtain ⟨kws, o7, rfl, oc, egc, hwl, hwo⟩ := y
        obtain ⟨u, hu⟩ := valV_mem hkv
        refine ⟨_, rfl, _, rfl, f, u, rfl, .inr ⟨kvs, k, qa, .inr ⟨_, oc _ _ (fun z => hgf z.symm) upd_same⟩, rfl, hq, hu.symm⟩, _, rfl, _, rfl, g, _, rfl, DPut.t (kvs := kws) (k := k) egc hq (Nat.lt_of_le_of_lt hwl (Nat.lt_of_lt_of_le (show i < 100 by omega) (by decide))), putK kws k u, _, rfl, oc.put rfl, upd_same, ?_, kv_put hwo (by omega) (hko.2.2 _ (List.mem_of_getElem? hkv)) (hko.2.1 k u hu)⟩
        have := length_putK kws k u
        omega
      obtain ⟨kws, o7, rfl, oc, egc, hwl, hwo⟩ := y
      refine ⟨oc _ _ (fun z => hgf z.symm) upd_same, ?_⟩
      have o17 := out_lock ef16 oc
      have eg17 := (upd_ne (o := .dT kvs) hgf).trans egc
      have ef17 : (upd Hd f (.dT kvs)) f = some (.dT kvs) := upd_same
      generalize upd Hd f (.dT kvs) = H17 at *
      have hs17 := src_but (p2 := g) hs16 (fun b o n e => o17 b o n e) (Ne.symm hgp) (Ne.symm hgc)
      have ht17 := ht16.up fun x xs hx => o17 _ _ (fun z => by
        rw [show x = g from z, eg16] at hx
        cases hx) hx
      have d17 := Dx.up (Out.mono o17 (fun b z => .inr z)) d16
      clear d16 ht16 hs16 ef16 eg16 oc o17 egc d15 ht15 hs15 ef15 s16
      refine ⟨_, rfl, g, kws, rfl, .inl eg17, fun kl2 bs nk2 ik => ?_⟩
      have s18 := same_new (o := .lst (bs.map V.ref)) nk2
      have hkp : kl2 ≠ p := fun z => src_ne hs17 (z ▸ nk2)
      have hkg : kl2 ≠ g := fun z => by
        rw [z, eg17] at nk2
        cases nk2
      have hs18 := src_up hs17 s18
      have ht18 := ht17.ups s18
      have ef18 := s18 _ _ ef17
      have eg18 := s18 _ _ eg17
      have d18 := Dx.up (Out.of s18) d17
      have ik18 := L2.Paired.mapP ik fun (pr : List Key × V) (b : Addr) (e : H17 b = some (.tup (pr.1.map kV))) => s18 _ _ e
      have ek18 : (upd H17 kl2 (.lst (bs.map V.ref))) kl2 = some (.lst (bs.map V.ref)) := upd_same
      generalize upd H17 kl2 (.lst (bs.map V.ref)) = H18 at *
      have hbl := ik.length
      clear d17 ht17 hs17 ef17 eg17 s18 ik
      refine ⟨_, rfl, kl2, _, rfl, .inl (SqL.of ek18), _, _, rfl, rfl, _, rfl, ite2 (fun c1 => ?_) (fun c1 => ?_)⟩
      · refine ⟨_, rfl, c, p, rfl, hs18, fun H19 o hs19 b19 => ?_⟩
        have hbp : 0 < bs.length := by
          have := of_decide_eq_true c1
          rw [List.length_map] at this
          omega
        refine ⟨_, rfl, _, rfl, _, rfl, _, rfl, kl2, _, rfl, .inl (SqL.of (b19 _ _ hkp ek18)), c, p, _, rfl, hs19, by rw [List.length_map]; omega, by rw [List.length_map]; omega, fun H20 k lk hs20 b20 => ?_⟩
        rw [List.length_map] at lk
        have lk : k < bs.length := by omega
        have b21 := b19.trans b20
        obtain ⟨kv, hkv, hkt⟩ := paired_mem ik18 _ (List.getElem_mem lk)
        have hbx : (bs.map V.ref)[k]? = some (.ref bs[k]) := by
          rw [List.getElem?_map, List.getElem?_eq_getElem lk]
          rfl
        have hbn : bs[k] ≠ p := fun z => src_notup hs18 _ _ z hkt
        refine ⟨kl2, _, _, _, rfl, rfl, SqL.of (b21 _ _ hkp ek18), atI_nat hbx, g, _, rfl, DPut.t (kvs := kws) (k := kv.1) (b21 _ _ hgp eg18) (b21 _ _ hbn hkt) (Nat.lt_of_le_of_lt hwo.1 (by decide)), ?_⟩
        have eg20 : (upd H20 g (.dT (putK kws kv.1 (optI o)))) g = some (.dT (putK kws kv.1 (optI o))) := upd_same
        have ef20 := (upd_ne (o := .dT (putK kws kv.1 (optI o))) (Ne.symm hgf)).trans (b21 _ _ hfp ef18)
        have o20 : Out (inS (inS (onlyA p) f) g) H18 (upd H20 g (.dT (putK kws kv.1 (optI o)))) := (out_but (S := inS (inS (onlyA p) f) g) b21 (.inl (.inl rfl))).put (.inr rfl)
        have d20 := Dx.up o20 d18
        have ht20 := ht18.up fun x xs hx => o20 x _ (fun z => by
          rcases z with (z | z) | z
          · exact src_notup hs18 _ _ z hx
          · rw [z, ef18] at hx
            cases hx
          · rw [z, eg18] at hx
            cases hx) hx
        have hwo20 := kv_put (k := kv.1) hwo (by omega) (hwo.2.2 _ hkv) (opt_v o)
        refine ⟨_, rfl, _, rfl, v, f, t, kvs, rfl, ht20, hw, by omega, ef20, hko, fun Ha sa => ⟨_, rfl, ?_⟩⟩
        show (if (!true) = true then _ else _)
        rw [if_neg (by decide)]
        refine ⟨_, rfl, _, rfl, v, g, t, _, rfl, ht20.ups sa, hw, by omega, sa _ _ eg20, hwo20, fun Hb sb => ⟨_, rfl, ?_⟩⟩
        show (if (!true) = true then _ else _)
        rw [if_neg (by decide)]
        have sab := sa.trans sb
        refine ⟨_, rfl, fun e ne => ⟨v, e, t, [], rfl, (ht20.ups sab).ups (same_new ne), hw, by omega, upd_same, kv_nil, fun Hd2 sd => ⟨_, rfl, ?_⟩⟩⟩
        have sad := sab.trans ((same_new ne).trans sd)
        show (if (!true) = true then _ else _)
        rw [if_neg (by decide)]
        refine ⟨_, rfl, _, rfl, v, f, t, kvs, rfl, ht20.ups sad, hw, by omega, sad _ _ ef20, hko, fun Hf sf => ⟨_, rfl, ?_⟩⟩
        have saf := sad.trans sf
        rw [if_pos rfl]
        refine ⟨_, rfl, v, trD t, noS, rfl, fun _ z => z.elim, dx_tr (ht20.ups saf), show _ ≤ 29 by omega, tr_wd t, fun Hg v5 sg dg => ⟨_, rfl, ?_⟩⟩
        have hsh := plD_shaped (tr_lay hw) (show (trD t).depth ≤ 20 by omega)
        refine ⟨_, _, dg.dp, (Dx.up (Out.of (saf.trans sg)) d20).dp, hsh, hsh, ?_⟩
        rw [SeqAt.eqv_refl _ (plD_lay _ (tr_lay hw))]
        exact q _
      · have ht20 := ht18
        have ef20 := ef18
        have eg20 := eg18
        have d20 := d18
        have hwo20 := hwo
        refine ⟨_, rfl, _, rfl, v, f, t, kvs, rfl, ht20, hw, by omega, ef20, hko, fun Ha sa => ⟨_, rfl, ?_⟩⟩
        show (if (!true) = true then _ else _)
        rw [if_neg (by decide)]
        refine ⟨_, rfl, _, rfl, v, g, t, _, rfl, ht20.ups sa, hw, by omega, sa _ _ eg20, hwo20, fun Hb sb => ⟨_, rfl, ?_⟩⟩
        show (if (!true) = true then _ else _)
        rw [if_neg (by decide)]
        have sab := sa.trans sb
        refine ⟨_, rfl, fun e ne => ⟨v, e, t, [], rfl, (ht20.ups sab).ups (same_new ne), hw, by omega, upd_same, kv_nil, fun Hd2 sd => ⟨_, rfl, ?_⟩⟩⟩
        have sad := sab.trans ((same_new ne).trans sd)
        show (if (!true) = true then _ else _)
        rw [if_neg (by decide)]
        refine ⟨_, rfl, _, rfl, v, f, t, kvs, rfl, ht20.ups sad, hw, by omega, sad _ _ ef20, hko, fun Hf sf => ⟨_, rfl, ?_⟩⟩
        have saf := sad.trans sf
        rw [if_pos rfl]
        refine ⟨_, rfl, v, trD t, noS, rfl, fun _ z => z.elim, dx_tr (ht20.ups saf), show _ ≤ 29 by omega, tr_wd t, fun Hg v5 sg dg => ⟨_, rfl, ?_⟩⟩
        have hsh := plD_shaped (tr_lay hw) (show (trD t).depth ≤ 20 by omega)
        refine ⟨_, _, dg.dp, (Dx.up (Out.of (saf.trans sg)) d20).dp, hsh, hsh, ?_⟩
        rw [SeqAt.eqv_refl _ (plD_lay _ (tr_lay hw))]
        exact q _
end
/-! ### what the top has left; the end -/
theorem all_mk {l : PySem.W.OpenLaw} {w : World} {K : PySem.W.Frag} {h : Heap} {mg : Str → Option Value} {fa f1 f2 f3 f4 f5 f6 f7 f8 f9 f10 f11 f12 f13 f14 f15 f16 f17 f18 f19 f20 f21 f22 f23 f24 f25 C_RomError t_FACTS t_COMPARISONS : Addr} (X : K.In h) (G : h.Ns mainGlobals mg) (hfa : mg "law" = some (.ref fa))
    {t_MOST : Tok}
    {od1 an1 od2 an2 od3 an3 od4 an4 od5 an5 od6 an6 od7 an7 od8 an8 od9 an9 od10 an10 od11 an11 od12 an12 od13 an13 od14 an14 od15 an15 od16 an16 od17 an17 od18 an18 od19 an19 od20 an20 od21 an21 od22 an22 od23 an23 od24 an24 od25 an25 : Option Addr} {sl1 sl2 sl3 sl4 sl5 sl6 sl7 sl8 sl9 sl10 sl11 sl12 sl13 sl14 sl15 sl16 sl17 sl18 sl19 sl20 sl21 sl22 sl23 sl24 sl25 sl_FACTS sl_COMPARISONS : Array (Option Value)} {oc1 kV1 dc1 pm1 cd1 ct1 oc2 kV2 dc2 pm2 cd2 ct2 oc3 kV3 dc3 pm3 cd3 ct3 oc4 kV4 dc4 pm4 cd4 ct4 oc5 kV5 dc5 pm5 cd5 ct5 oc6 kV6 dc6 pm6 cd6 ct6 oc7 kV7 dc7 pm7 cd7 ct7 oc8 kV8 dc8 pm8 cd8 ct8 oc9 kV9 dc9 pm9 cd9 ct9 oc10 kV10 dc10 pm10 cd10 ct10 oc11 kV11 dc11 pm11 cd11 ct11 oc12 kV12 dc12 pm12 cd12 ct12 oc13 kV13 dc13 pm13 cd13 ct13 oc14 kV14 dc14 pm14 cd14 ct14 oc15 kV15 dc15 pm15 cd15 ct15 oc16 kV16 dc16 pm16 cd16 ct16 oc17 kV17 dc17 pm17 cd17 ct17 oc18 kV18 dc18 pm18 cd18 ct18 oc19 kV19 dc19 pm19 cd19 ct19 oc20 kV20 dc20 pm20 cd20 ct20 oc21 kV21 dc21 pm21 cd21 ct21 oc22 kV22 dc22 pm22 cd22 ct22 oc23 kV23 dc23 pm23 cd23 ct23 oc24 kV24 dc24 pm24 cd24 ct24 oc25 kV25 dc25 pm25 cd25 ct25 : Value}
    {its_FACTS : Array Value} {n_FACTS : Nat}
    {its_COMPARISONS : Array Value} {n_COMPARISONS : Nat}
    (a1 : PySem.W.nsIn K mainGlobals "within" = some (some (.ref f1)))
    (l1 : K.lookup f1 = some ⟨oc1, od1, .func (PySem.W.fnOf "within" "within" (defArgs s_within) (defBody s_within) (defScope s_within) .none kV1 dc1 pm1 an1 cd1 ct1), sl1⟩)
    (c1 : PySem.W.codeIn K cd1 "within" = true)
    (k1 : PySem.W.keepIn K (.ref f1) = true)
    (a2 : PySem.W.nsIn K mainGlobals "value" = some (some (.ref f2)))
    (l2 : K.lookup f2 = some ⟨oc2, od2, .func (PySem.W.fnOf "value" "value" (defArgs s_value) (defBody s_value) (defScope s_value) .none kV2 dc2 pm2 an2 cd2 ct2), sl2⟩)
    (c2 : PySem.W.codeIn K cd2 "value" = true)
    (k2 : PySem.W.keepIn K (.ref f2) = true)
    (a3 : PySem.W.nsIn K mainGlobals "truth" = some (some (.ref f3)))
    (l3 : K.lookup f3 = some ⟨oc3, od3, .func (PySem.W.fnOf "truth" "truth" (defArgs s_truth) (defBody s_truth) (defScope s_truth) .none kV3 dc3 pm3 an3 cd3 ct3), sl3⟩)
    (c3 : PySem.W.codeIn K cd3 "truth" = true)
    (k3 : PySem.W.keepIn K (.ref f3) = true)
    (a4 : PySem.W.nsIn K mainGlobals "result" = some (some (.ref f4)))
    (l4 : K.lookup f4 = some ⟨oc4, od4, .func (PySem.W.fnOf "result" "result" (defArgs s_result) (defBody s_result) (defScope s_result) .none kV4 dc4 pm4 an4 cd4 ct4), sl4⟩)
    (c4 : PySem.W.codeIn K cd4 "result" = true)
    (k4 : PySem.W.keepIn K (.ref f4) = true)
    (a5 : PySem.W.nsIn K mainGlobals "compared" = some (some (.ref f5)))
    (l5 : K.lookup f5 = some ⟨oc5, od5, .func (PySem.W.fnOf "compared" "compared" (defArgs s_compared) (defBody s_compared) (defScope s_compared) .none kV5 dc5 pm5 an5 cd5 ct5), sl5⟩)
    (c5 : PySem.W.codeIn K cd5 "compared" = true)
    (k5 : PySem.W.keepIn K (.ref f5) = true)
    (a6 : PySem.W.nsIn K mainGlobals "_law_source" = some (some (.ref f6)))
    (l6 : K.lookup f6 = some ⟨oc6, od6, .func (PySem.W.fnOf "_law_source" "_law_source" (defArgs s_law_source) (defBody s_law_source) (defScope s_law_source) .none kV6 dc6 pm6 an6 cd6 ct6), sl6⟩)
    (c6 : PySem.W.codeIn K cd6 "_law_source" = true)
    (k6 : PySem.W.keepIn K (.ref f6) = true)
    (a7 : PySem.W.nsIn K mainGlobals "_law_draw" = some (some (.ref f7)))
    (l7 : K.lookup f7 = some ⟨oc7, od7, .func (PySem.W.fnOf "_law_draw" "_law_draw" (defArgs s_law_draw) (defBody s_law_draw) (defScope s_law_draw) .none kV7 dc7 pm7 an7 cd7 ct7), sl7⟩)
    (c7 : PySem.W.codeIn K cd7 "_law_draw" = true)
    (k7 : PySem.W.keepIn K (.ref f7) = true)
    (a8 : PySem.W.nsIn K mainGlobals "_law_names" = some (some (.ref f8)))
    (l8 : K.lookup f8 = some ⟨oc8, od8, .func (PySem.W.fnOf "_law_names" "_law_names" (defArgs s_law_names) (defBody s_law_names) (defScope s_law_names) .none kV8 dc8 pm8 an8 cd8 ct8), sl8⟩)
    (c8 : PySem.W.codeIn K cd8 "_law_names" = true)
    (k8 : PySem.W.keepIn K (.ref f8) = true)
    (a9 : PySem.W.nsIn K mainGlobals "_law_number" = some (some (.ref f9)))
    (l9 : K.lookup f9 = some ⟨oc9, od9, .func (PySem.W.fnOf "_law_number" "_law_number" (defArgs s_law_number) (defBody s_law_number) (defScope s_law_number) .none kV9 dc9 pm9 an9 cd9 ct9), sl9⟩)
    (c9 : PySem.W.codeIn K cd9 "_law_number" = true)
    (k9 : PySem.W.keepIn K (.ref f9) = true)
    (a10 : PySem.W.nsIn K mainGlobals "_law_words" = some (some (.ref f10)))
    (l10 : K.lookup f10 = some ⟨oc10, od10, .func (PySem.W.fnOf "_law_words" "_law_words" (defArgs s_law_words) (defBody s_law_words) (defScope s_law_words) .none kV10 dc10 pm10 an10 cd10 ct10), sl10⟩)
    (c10 : PySem.W.codeIn K cd10 "_law_words" = true)
    (k10 : PySem.W.keepIn K (.ref f10) = true)
    (a11 : PySem.W.nsIn K mainGlobals "_law_name" = some (some (.ref f11)))
    (l11 : K.lookup f11 = some ⟨oc11, od11, .func (PySem.W.fnOf "_law_name" "_law_name" (defArgs s_law_name) (defBody s_law_name) (defScope s_law_name) .none kV11 dc11 pm11 an11 cd11 ct11), sl11⟩)
    (c11 : PySem.W.codeIn K cd11 "_law_name" = true)
    (k11 : PySem.W.keepIn K (.ref f11) = true)
    (a12 : PySem.W.nsIn K mainGlobals "_law_leaf" = some (some (.ref f12)))
    (l12 : K.lookup f12 = some ⟨oc12, od12, .func (PySem.W.fnOf "_law_leaf" "_law_leaf" (defArgs s_law_leaf) (defBody s_law_leaf) (defScope s_law_leaf) .none kV12 dc12 pm12 an12 cd12 ct12), sl12⟩)
    (c12 : PySem.W.codeIn K cd12 "_law_leaf" = true)
    (k12 : PySem.W.keepIn K (.ref f12) = true)
    (a13 : PySem.W.nsIn K mainGlobals "_law_tree" = some (some (.ref f13)))
    (l13 : K.lookup f13 = some ⟨oc13, od13, .func (PySem.W.fnOf "_law_tree" "_law_tree" (defArgs s_law_tree) (defBody s_law_tree) (defScope s_law_tree) .none kV13 dc13 pm13 an13 cd13 ct13), sl13⟩)
    (c13 : PySem.W.codeIn K cd13 "_law_tree" = true)
    (k13 : PySem.W.keepIn K (.ref f13) = true)
    (a14 : PySem.W.nsIn K mainGlobals "_law_menu" = some (some (.ref f14)))
    (l14 : K.lookup f14 = some ⟨oc14, od14, .func (PySem.W.fnOf "_law_menu" "_law_menu" (defArgs s_law_menu) (defBody s_law_menu) (defScope s_law_menu) .none kV14 dc14 pm14 an14 cd14 ct14), sl14⟩)
    (c14 : PySem.W.codeIn K cd14 "_law_menu" = true)
    (k14 : PySem.W.keepIn K (.ref f14) = true)
    (a15 : PySem.W.nsIn K mainGlobals "_law_plain" = some (some (.ref f15)))
    (l15 : K.lookup f15 = some ⟨oc15, od15, .func (PySem.W.fnOf "_law_plain" "_law_plain" (defArgs s_law_plain) (defBody s_law_plain) (defScope s_law_plain) .none kV15 dc15 pm15 an15 cd15 ct15), sl15⟩)
    (c15 : PySem.W.codeIn K cd15 "_law_plain" = true)
    (k15 : PySem.W.keepIn K (.ref f15) = true)
    (a16 : PySem.W.nsIn K mainGlobals "_law_chain" = some (some (.ref f16)))
    (l16 : K.lookup f16 = some ⟨oc16, od16, .func (PySem.W.fnOf "_law_chain" "_law_chain" (defArgs s_law_chain) (defBody s_law_chain) (defScope s_law_chain) .none kV16 dc16 pm16 an16 cd16 ct16), sl16⟩)
    (c16 : PySem.W.codeIn K cd16 "_law_chain" = true)
    (k16 : PySem.W.keepIn K (.ref f16) = true)
    (a17 : PySem.W.nsIn K mainGlobals "_law_size" = some (some (.ref f17)))
    (l17 : K.lookup f17 = some ⟨oc17, od17, .func (PySem.W.fnOf "_law_size" "_law_size" (defArgs s_law_size) (defBody s_law_size) (defScope s_law_size) .none kV17 dc17 pm17 an17 cd17 ct17), sl17⟩)
    (c17 : PySem.W.codeIn K cd17 "_law_size" = true)
    (k17 : PySem.W.keepIn K (.ref f17) = true)
    (a18 : PySem.W.nsIn K mainGlobals "_law_cut" = some (some (.ref f18)))
    (l18 : K.lookup f18 = some ⟨oc18, od18, .func (PySem.W.fnOf "_law_cut" "_law_cut" (defArgs s_law_cut) (defBody s_law_cut) (defScope s_law_cut) .none kV18 dc18 pm18 an18 cd18 ct18), sl18⟩)
    (c18 : PySem.W.codeIn K cd18 "_law_cut" = true)
    (k18 : PySem.W.keepIn K (.ref f18) = true)
    (a19 : PySem.W.nsIn K mainGlobals "_law_keys" = some (some (.ref f19)))
    (l19 : K.lookup f19 = some ⟨oc19, od19, .func (PySem.W.fnOf "_law_keys" "_law_keys" (defArgs s_law_keys) (defBody s_law_keys) (defScope s_law_keys) .none kV19 dc19 pm19 an19 cd19 ct19), sl19⟩)
    (c19 : PySem.W.codeIn K cd19 "_law_keys" = true)
    (k19 : PySem.W.keepIn K (.ref f19) = true)
    (a20 : PySem.W.nsIn K mainGlobals "_law_worth" = some (some (.ref f20)))
    (l20 : K.lookup f20 = some ⟨oc20, od20, .func (PySem.W.fnOf "_law_worth" "_law_worth" (defArgs s_law_worth) (defBody s_law_worth) (defScope s_law_worth) .none kV20 dc20 pm20 an20 cd20 ct20), sl20⟩)
    (c20 : PySem.W.codeIn K cd20 "_law_worth" = true)
    (k20 : PySem.W.keepIn K (.ref f20) = true)
    (a21 : PySem.W.nsIn K mainGlobals "_law_bounded" = some (some (.ref f21)))
    (l21 : K.lookup f21 = some ⟨oc21, od21, .func (PySem.W.fnOf "_law_bounded" "_law_bounded" (defArgs s_law_bounded) (defBody s_law_bounded) (defScope s_law_bounded) .none kV21 dc21 pm21 an21 cd21 ct21), sl21⟩)
    (c21 : PySem.W.codeIn K cd21 "_law_bounded" = true)
    (k21 : PySem.W.keepIn K (.ref f21) = true)
    (a22 : PySem.W.nsIn K mainGlobals "_law_pair" = some (some (.ref f22)))
    (l22 : K.lookup f22 = some ⟨oc22, od22, .func (PySem.W.fnOf "_law_pair" "_law_pair" (defArgs s_law_pair) (defBody s_law_pair) (defScope s_law_pair) .none kV22 dc22 pm22 an22 cd22 ct22), sl22⟩)
    (c22 : PySem.W.codeIn K cd22 "_law_pair" = true)
    (k22 : PySem.W.keepIn K (.ref f22) = true)
    (a23 : PySem.W.nsIn K mainGlobals "_law_value" = some (some (.ref f23)))
    (l23 : K.lookup f23 = some ⟨oc23, od23, .func (PySem.W.fnOf "_law_value" "_law_value" (defArgs s_law_value) (defBody s_law_value) (defScope s_law_value) .none kV23 dc23 pm23 an23 cd23 ct23), sl23⟩)
    (c23 : PySem.W.codeIn K cd23 "_law_value" = true)
    (k23 : PySem.W.keepIn K (.ref f23) = true)
    (a24 : PySem.W.nsIn K mainGlobals "_law_asked" = some (some (.ref f24)))
    (l24 : K.lookup f24 = some ⟨oc24, od24, .func (PySem.W.fnOf "_law_asked" "_law_asked" (defArgs s_law_asked) (defBody s_law_asked) (defScope s_law_asked) .none kV24 dc24 pm24 an24 cd24 ct24), sl24⟩)
    (c24 : PySem.W.codeIn K cd24 "_law_asked" = true)
    (k24 : PySem.W.keepIn K (.ref f24) = true)
    (a25 : PySem.W.nsIn K mainGlobals "law" = some (some (.ref f25)))
    (l25 : K.lookup f25 = some ⟨oc25, od25, .func (PySem.W.fnOf "law" "law" (defArgs s_law) (defBody s_law) (defScope s_law) .none kV25 dc25 pm25 an25 cd25 ct25), sl25⟩)
    (c25 : PySem.W.codeIn K cd25 "law" = true)
    (k25 : PySem.W.keepIn K (.ref f25) = true)
    (gc_RomError : PySem.W.nsIn K mainGlobals "RomError" = some (some (.ref C_RomError)))
    (gc_FACTS : PySem.W.nsIn K mainGlobals "FACTS" = some (some (.ref t_FACTS)))
    (q_FACTS : K.lookup t_FACTS = some ⟨.type "tuple", none, .seq its_FACTS n_FACTS, sl_FACTS⟩)
    (qv_FACTS : Vals [.str (Str.ofString "start"), .str (Str.ofString "end"), .str (Str.ofString "size"), .str (Str.ofString "load"), .str (Str.ofString "base"), .str (Str.ofString "len"), .str (Str.ofString "used"), .str (Str.ofString "room"), .str (Str.ofString "at"), .str (Str.ofString "exported"), .str (Str.ofString "takes"), .str (Str.ofString "leaves"), .str (Str.ofString "kept")] its_FACTS.toList)
    (gc_COMPARISONS : PySem.W.nsIn K mainGlobals "COMPARISONS" = some (some (.ref t_COMPARISONS)))
    (q_COMPARISONS : K.lookup t_COMPARISONS = some ⟨.type "tuple", none, .seq its_COMPARISONS n_COMPARISONS, sl_COMPARISONS⟩)
    (qv_COMPARISONS : Vals [.str (Str.ofString "<"), .str (Str.ofString "<="), .str (Str.ofString "="), .str (Str.ofString "<>"), .str (Str.ofString ">"), .str (Str.ofString ">=")] its_COMPARISONS.toList)
    (gc_MOST : PySem.W.nsIn K mainGlobals "MOST" = some (some (.int 1000000000 t_MOST)))
    (z_abs : PySem.W.nsIn K mainGlobals "abs" = some none)
    (z_any : PySem.W.nsIn K mainGlobals "any" = some none)
    (z_bool : PySem.W.nsIn K mainGlobals "bool" = some none)
    (z_int : PySem.W.nsIn K mainGlobals "int" = some none)
    (z_isinstance : PySem.W.nsIn K mainGlobals "isinstance" = some none)
    (z_len : PySem.W.nsIn K mainGlobals "len" = some none)
    (z_list : PySem.W.nsIn K mainGlobals "list" = some none)
    (z_range : PySem.W.nsIn K mainGlobals "range" = some none)
    (z_str : PySem.W.nsIn K mainGlobals "str" = some none)
    (z_sum : PySem.W.nsIn K mainGlobals "sum" = some none)
    (z_tuple : PySem.W.nsIn K mainGlobals "tuple" = some none) :
    ∃ fd : FuncData, (∀ (s : Shared) (v : Value), BindsTo s fd ⟨[v], []⟩ [("_law_script", v)]) ∧ ∀ base : Heap, K.In base → base.Ns mainGlobals mg → FnOk l.prog w K mg base CX0 80 fa fd ["_law_script"] (spLaw K) := by
  have e : f25 = fa := Value.ref.inj (Option.some.inj ((PySem.W.mg_of X G a25).symm.trans hfa))
  subst e
  have T : Txt K mg ⟨f1, (PySem.W.fnOf "within" "within" (defArgs s_within) (defBody s_within) (defScope s_within) .none kV1 dc1 pm1 an1 cd1 ct1), f2, (PySem.W.fnOf "value" "value" (defArgs s_value) (defBody s_value) (defScope s_value) .none kV2 dc2 pm2 an2 cd2 ct2), f3, (PySem.W.fnOf "truth" "truth" (defArgs s_truth) (defBody s_truth) (defScope s_truth) .none kV3 dc3 pm3 an3 cd3 ct3), f4, (PySem.W.fnOf "result" "result" (defArgs s_result) (defBody s_result) (defScope s_result) .none kV4 dc4 pm4 an4 cd4 ct4), f5, (PySem.W.fnOf "compared" "compared" (defArgs s_compared) (defBody s_compared) (defScope s_compared) .none kV5 dc5 pm5 an5 cd5 ct5), f6, (PySem.W.fnOf "_law_source" "_law_source" (defArgs s_law_source) (defBody s_law_source) (defScope s_law_source) .none kV6 dc6 pm6 an6 cd6 ct6), f7, (PySem.W.fnOf "_law_draw" "_law_draw" (defArgs s_law_draw) (defBody s_law_draw) (defScope s_law_draw) .none kV7 dc7 pm7 an7 cd7 ct7), f8, (PySem.W.fnOf "_law_names" "_law_names" (defArgs s_law_names) (defBody s_law_names) (defScope s_law_names) .none kV8 dc8 pm8 an8 cd8 ct8), f9, (PySem.W.fnOf "_law_number" "_law_number" (defArgs s_law_number) (defBody s_law_number) (defScope s_law_number) .none kV9 dc9 pm9 an9 cd9 ct9), f10, (PySem.W.fnOf "_law_words" "_law_words" (defArgs s_law_words) (defBody s_law_words) (defScope s_law_words) .none kV10 dc10 pm10 an10 cd10 ct10), f11, (PySem.W.fnOf "_law_name" "_law_name" (defArgs s_law_name) (defBody s_law_name) (defScope s_law_name) .none kV11 dc11 pm11 an11 cd11 ct11), f12, (PySem.W.fnOf "_law_leaf" "_law_leaf" (defArgs s_law_leaf) (defBody s_law_leaf) (defScope s_law_leaf) .none kV12 dc12 pm12 an12 cd12 ct12), f13, (PySem.W.fnOf "_law_tree" "_law_tree" (defArgs s_law_tree) (defBody s_law_tree) (defScope s_law_tree) .none kV13 dc13 pm13 an13 cd13 ct13), f14, (PySem.W.fnOf "_law_menu" "_law_menu" (defArgs s_law_menu) (defBody s_law_menu) (defScope s_law_menu) .none kV14 dc14 pm14 an14 cd14 ct14), f15, (PySem.W.fnOf "_law_plain" "_law_plain" (defArgs s_law_plain) (defBody s_law_plain) (defScope s_law_plain) .none kV15 dc15 pm15 an15 cd15 ct15), f16, (PySem.W.fnOf "_law_chain" "_law_chain" (defArgs s_law_chain) (defBody s_law_chain) (defScope s_law_chain) .none kV16 dc16 pm16 an16 cd16 ct16), f17, (PySem.W.fnOf "_law_size" "_law_size" (defArgs s_law_size) (defBody s_law_size) (defScope s_law_size) .none kV17 dc17 pm17 an17 cd17 ct17), f18, (PySem.W.fnOf "_law_cut" "_law_cut" (defArgs s_law_cut) (defBody s_law_cut) (defScope s_law_cut) .none kV18 dc18 pm18 an18 cd18 ct18), f19, (PySem.W.fnOf "_law_keys" "_law_keys" (defArgs s_law_keys) (defBody s_law_keys) (defScope s_law_keys) .none kV19 dc19 pm19 an19 cd19 ct19), f20, (PySem.W.fnOf "_law_worth" "_law_worth" (defArgs s_law_worth) (defBody s_law_worth) (defScope s_law_worth) .none kV20 dc20 pm20 an20 cd20 ct20), f21, (PySem.W.fnOf "_law_bounded" "_law_bounded" (defArgs s_law_bounded) (defBody s_law_bounded) (defScope s_law_bounded) .none kV21 dc21 pm21 an21 cd21 ct21), f22, (PySem.W.fnOf "_law_pair" "_law_pair" (defArgs s_law_pair) (defBody s_law_pair) (defScope s_law_pair) .none kV22 dc22 pm22 an22 cd22 ct22), f23, (PySem.W.fnOf "_law_value" "_law_value" (defArgs s_law_value) (defBody s_law_value) (defScope s_law_value) .none kV23 dc23 pm23 an23 cd23 ct23), f24, (PySem.W.fnOf "_law_asked" "_law_asked" (defArgs s_law_asked) (defBody s_law_asked) (defScope s_law_asked) .none kV24 dc24 pm24 an24 cd24 ct24), f25, (PySem.W.fnOf "law" "law" (defArgs s_law) (defBody s_law) (defScope s_law) .none kV25 dc25 pm25 an25 cd25 ct25), C_RomError, t_FACTS, t_COMPARISONS, t_MOST⟩ :=
    { F_within := fun_mk (st := s_within) l1 c1 k1,
      g_within := PySem.W.mg_of X G a1,
      b_within := (fun_mk (st := s_within) l1 c1 k1).binds (ps := ["number"]) fun _ _ _ _ _ _ us hl => match us, hl with | [_], _ => rfl,
      F_value := fun_mk (st := s_value) l2 c2 k2,
      g_value := PySem.W.mg_of X G a2,
      b_value := (fun_mk (st := s_value) l2 c2 k2).binds (ps := ["tree", "facts"]) fun _ _ _ _ _ _ us hl => match us, hl with | [_, _], _ => rfl,
      F_truth := fun_mk (st := s_truth) l3 c3 k3,
      g_truth := PySem.W.mg_of X G a3,
      b_truth := (fun_mk (st := s_truth) l3 c3 k3).binds (ps := ["thing"]) fun _ _ _ _ _ _ us hl => match us, hl with | [_], _ => rfl,
      F_result := fun_mk (st := s_result) l4 c4 k4,
      g_result := PySem.W.mg_of X G a4,
      b_result := (fun_mk (st := s_result) l4 c4 k4).binds (ps := ["op", "left", "right"]) fun _ _ _ _ _ _ us hl => match us, hl with | [_, _, _], _ => rfl,
      F_compared := fun_mk (st := s_compared) l5 c5 k5,
      g_compared := PySem.W.mg_of X G a5,
      b_compared := (fun_mk (st := s_compared) l5 c5 k5).binds (ps := ["op", "left", "right"]) fun _ _ _ _ _ _ us hl => match us, hl with | [_, _, _], _ => rfl,
      F_law_source := fun_mk (st := s_law_source) l6 c6 k6,
      g_law_source := PySem.W.mg_of X G a6,
      b_law_source := (fun_mk (st := s_law_source) l6 c6 k6).binds (ps := ["_law_script"]) fun _ _ _ _ _ _ us hl => match us, hl with | [_], _ => rfl,
      F_law_draw := fun_mk (st := s_law_draw) l7 c7 k7,
      g_law_draw := PySem.W.mg_of X G a7,
      b_law_draw := (fun_mk (st := s_law_draw) l7 c7 k7).binds (ps := ["_law_source_here", "_law_below"]) fun _ _ _ _ _ _ us hl => match us, hl with | [_, _], _ => rfl,
      F_law_names := fun_mk (st := s_law_names) l8 c8 k8,
      g_law_names := PySem.W.mg_of X G a8,
      b_law_names := (fun_mk (st := s_law_names) l8 c8 k8).binds (ps := ["_law_source_here", "_law_count"]) fun _ _ _ _ _ _ us hl => match us, hl with | [_, _], _ => rfl,
      F_law_number := fun_mk (st := s_law_number) l9 c9 k9,
      g_law_number := PySem.W.mg_of X G a9,
      b_law_number := (fun_mk (st := s_law_number) l9 c9 k9).binds (ps := ["_law_source_here"]) fun _ _ _ _ _ _ us hl => match us, hl with | [_], _ => rfl,
      F_law_words := fun_mk (st := s_law_words) l10 c10 k10,
      g_law_words := PySem.W.mg_of X G a10,
      b_law_words := (fun_mk (st := s_law_words) l10 c10 k10).binds (ps := []) fun _ _ _ _ _ _ us hl => match us, hl with | [], _ => rfl,
      F_law_name := fun_mk (st := s_law_name) l11 c11 k11,
      g_law_name := PySem.W.mg_of X G a11,
      b_law_name := (fun_mk (st := s_law_name) l11 c11 k11).binds (ps := ["_law_source_here", "_law_names_here", "_law_own"]) fun _ _ _ _ _ _ us hl => match us, hl with | [_, _, _], _ => rfl,
      F_law_leaf := fun_mk (st := s_law_leaf) l12 c12 k12,
      g_law_leaf := PySem.W.mg_of X G a12,
      b_law_leaf := (fun_mk (st := s_law_leaf) l12 c12 k12).binds (ps := ["_law_source_here", "_law_names_here"]) fun _ _ _ _ _ _ us hl => match us, hl with | [_, _], _ => rfl,
      F_law_tree := fun_mk (st := s_law_tree) l13 c13 k13,
      g_law_tree := PySem.W.mg_of X G a13,
      b_law_tree := (fun_mk (st := s_law_tree) l13 c13 k13).binds (ps := ["_law_source_here", "_law_leaves", "_law_names_here", "_law_menu_here"]) fun _ _ _ _ _ _ us hl => match us, hl with | [_, _, _, _], _ => rfl,
      F_law_menu := fun_mk (st := s_law_menu) l14 c14 k14,
      g_law_menu := PySem.W.mg_of X G a14,
      b_law_menu := (fun_mk (st := s_law_menu) l14 c14 k14).binds (ps := ["_law_source_here"]) fun _ _ _ _ _ _ us hl => match us, hl with | [_], _ => rfl,
      F_law_plain := fun_mk (st := s_law_plain) l15 c15 k15,
      g_law_plain := PySem.W.mg_of X G a15,
      b_law_plain := (fun_mk (st := s_law_plain) l15 c15 k15).binds (ps := ["_law_thing"]) fun _ _ _ _ _ _ us hl => match us, hl with | [_], _ => rfl,
      F_law_chain := fun_mk (st := s_law_chain) l16 c16 k16,
      g_law_chain := PySem.W.mg_of X G a16,
      b_law_chain := (fun_mk (st := s_law_chain) l16 c16 k16).binds (ps := ["_law_source_here", "_law_names_here"]) fun _ _ _ _ _ _ us hl => match us, hl with | [_, _], _ => rfl,
      F_law_size := fun_mk (st := s_law_size) l17 c17 k17,
      g_law_size := PySem.W.mg_of X G a17,
      b_law_size := (fun_mk (st := s_law_size) l17 c17 k17).binds (ps := ["_law_tree_here"]) fun _ _ _ _ _ _ us hl => match us, hl with | [_], _ => rfl,
      F_law_cut := fun_mk (st := s_law_cut) l18 c18 k18,
      g_law_cut := PySem.W.mg_of X G a18,
      b_law_cut := (fun_mk (st := s_law_cut) l18 c18 k18).binds (ps := ["_law_tree_here"]) fun _ _ _ _ _ _ us hl => match us, hl with | [_], _ => rfl,
      F_law_keys := fun_mk (st := s_law_keys) l19 c19 k19,
      g_law_keys := PySem.W.mg_of X G a19,
      b_law_keys := (fun_mk (st := s_law_keys) l19 c19 k19).binds (ps := ["_law_tree_here"]) fun _ _ _ _ _ _ us hl => match us, hl with | [_], _ => rfl,
      F_law_worth := fun_mk (st := s_law_worth) l20 c20 k20,
      g_law_worth := PySem.W.mg_of X G a20,
      b_law_worth := (fun_mk (st := s_law_worth) l20 c20 k20).binds (ps := ["_law_source_here"]) fun _ _ _ _ _ _ us hl => match us, hl with | [_], _ => rfl,
      F_law_bounded := fun_mk (st := s_law_bounded) l21 c21 k21,
      g_law_bounded := PySem.W.mg_of X G a21,
      b_law_bounded := (fun_mk (st := s_law_bounded) l21 c21 k21).binds (ps := ["_law_number_here"]) fun _ _ _ _ _ _ us hl => match us, hl with | [_], _ => rfl,
      F_law_pair := fun_mk (st := s_law_pair) l22 c22 k22,
      g_law_pair := PySem.W.mg_of X G a22,
      b_law_pair := (fun_mk (st := s_law_pair) l22 c22 k22).binds (ps := ["_law_op", "_law_first", "_law_second"]) fun _ _ _ _ _ _ us hl => match us, hl with | [_, _, _], _ => rfl,
      F_law_value := fun_mk (st := s_law_value) l23 c23 k23,
      g_law_value := PySem.W.mg_of X G a23,
      b_law_value := (fun_mk (st := s_law_value) l23 c23 k23).binds (ps := ["_law_tree_here", "_law_facts"]) fun _ _ _ _ _ _ us hl => match us, hl with | [_, _], _ => rfl,
      F_law_asked := fun_mk (st := s_law_asked) l24 c24 k24,
      g_law_asked := PySem.W.mg_of X G a24,
      b_law_asked := (fun_mk (st := s_law_asked) l24 c24 k24).binds (ps := ["_law_tree_here", "_law_facts"]) fun _ _ _ _ _ _ us hl => match us, hl with | [_, _], _ => rfl,
      F_law := fun_mk (st := s_law) l25 c25 k25,
      g_law := PySem.W.mg_of X G a25,
      b_law := (fun_mk (st := s_law) l25 c25 k25).binds (ps := ["_law_script"]) fun _ _ _ _ _ _ us hl => match us, hl with | [_], _ => rfl,
      g_RomError := PySem.W.mg_of X G gc_RomError,
      g_FACTS := PySem.W.mg_of X G gc_FACTS,
      g_COMPARISONS := PySem.W.mg_of X G gc_COMPARISONS,
      g_MOST := PySem.W.mg_of X G gc_MOST,
      q_FACTS := .inr ⟨_, _, _, q_FACTS, rfl, rfl, by rw [← Array.length_toList, ← Vals.length qv_FACTS]; exact lenOk (n := 13) rfl (by decide), qv_FACTS⟩,
      y_FACTS := ⟨_, q_FACTS, rfl, rfl⟩,
      q_COMPARISONS := .inr ⟨_, _, _, q_COMPARISONS, rfl, rfl, by rw [← Array.length_toList, ← Vals.length qv_COMPARISONS]; exact lenOk (n := 6) rfl (by decide), qv_COMPARISONS⟩,
      y_COMPARISONS := ⟨_, q_COMPARISONS, rfl, rfl⟩,
      n_abs := PySem.W.mg_none_of X G z_abs,
      n_any := PySem.W.mg_none_of X G z_any,
      n_bool := PySem.W.mg_none_of X G z_bool,
      n_int := PySem.W.mg_none_of X G z_int,
      n_isinstance := PySem.W.mg_none_of X G z_isinstance,
      n_len := PySem.W.mg_none_of X G z_len,
      n_list := PySem.W.mg_none_of X G z_list,
      n_range := PySem.W.mg_none_of X G z_range,
      n_str := PySem.W.mg_none_of X G z_str,
      n_sum := PySem.W.mg_none_of X G z_sum,
      n_tuple := PySem.W.mg_none_of X G z_tuple }
  exact ⟨(PySem.W.fnOf "law" "law" (defArgs s_law) (defBody s_law) (defScope s_law) .none kV25 dc25 pm25 an25 cd25 ct25), fun s v => .of_eq rfl, fun base _ _ => ok_law T⟩
end R1
open PySem PySem.W PyProof.Rows
set_option maxHeartbeats 0 in
theorem PySem.Challenge.cw_romwright_k27_value_of_trees_holds : PySem.Challenge.rw_romwright_k27_value_of_trees.Holds := by
  w_on; o_law; k_head; (case hw => w_witness2)
  k_fill
  refine L2.walk_of (l := PySem.Challenge.rw_romwright_k27_value_of_trees) (n := 63) (k := 80) (x := "_law_script") (CX := fun _ => L2.CX0) (sp := fun w => R1.spLaw _) rfl (by decide) rfl ⟨rfl, by decide, by decide⟩ (fun w h Y => PySem.W.kIn_of Y) ?F (fun _ _ a ns hl _ hS => ⟨a, ns, rfl, hS, hl, fun _ => rfl⟩) (fun _ _ _ _ _ h => h)
  case F =>
    intro w mg fa h KX G hmg
    refine' R1.all_mk KX G hmg ?a1 ?l1 ?c1 ?k1 ?a2 ?l2 ?c2 ?k2 ?a3 ?l3 ?c3 ?k3 ?a4 ?l4 ?c4 ?k4 ?a5 ?l5 ?c5 ?k5 ?a6 ?l6 ?c6 ?k6 ?a7 ?l7 ?c7 ?k7 ?a8 ?l8 ?c8 ?k8 ?a9 ?l9 ?c9 ?k9 ?a10 ?l10 ?c10 ?k10 ?a11 ?l11 ?c11 ?k11 ?a12 ?l12 ?c12 ?k12 ?a13 ?l13 ?c13 ?k13 ?a14 ?l14 ?c14 ?k14 ?a15 ?l15 ?c15 ?k15 ?a16 ?l16 ?c16 ?k16 ?a17 ?l17 ?c17 ?k17 ?a18 ?l18 ?c18 ?k18 ?a19 ?l19 ?c19 ?k19 ?a20 ?l20 ?c20 ?k20 ?a21 ?l21 ?c21 ?k21 ?a22 ?l22 ?c22 ?k22 ?a23 ?l23 ?c23 ?k23 ?a24 ?l24 ?c24 ?k24 ?a25 ?l25 ?c25 ?k25 ?gc_RomError ?gc_FACTS ?q_FACTS ?qv_FACTS ?gc_COMPARISONS ?q_COMPARISONS ?qv_COMPARISONS ?gc_MOST ?z_abs ?z_any ?z_bool ?z_int ?z_isinstance ?z_len ?z_list ?z_range ?z_str ?z_sum ?z_tuple
    (case a1 => k_is)
    (case a2 => k_is)
    (case a3 => k_is)
    (case a4 => k_is)
    (case a5 => k_is)
    (case a6 => k_is)
    (case a7 => k_is)
    (case a8 => k_is)
    (case a9 => k_is)
    (case a10 => k_is)
    (case a11 => k_is)
    (case a12 => k_is)
    (case a13 => k_is)
    (case a14 => k_is)
    (case a15 => k_is)
    (case a16 => k_is)
    (case a17 => k_is)
    (case a18 => k_is)
    (case a19 => k_is)
    (case a20 => k_is)
    (case a21 => k_is)
    (case a22 => k_is)
    (case a23 => k_is)
    (case a24 => k_is)
    (case a25 => k_is)
    (case gc_RomError => k_is)
    (case gc_FACTS => k_is)
    (case gc_COMPARISONS => k_is)
    (case gc_MOST => k_is)
    (case l1 => k_is)
    (case c1 => k_is)
    (case k1 => k_is)
    (case l2 => k_is)
    (case c2 => k_is)
    (case k2 => k_is)
    (case l3 => k_is)
    (case c3 => k_is)
    (case k3 => k_is)
    (case l4 => k_is)
    (case c4 => k_is)
    (case k4 => k_is)
    (case l5 => k_is)
    (case c5 => k_is)
    (case k5 => k_is)
    (case l6 => k_is)
    (case c6 => k_is)
    (case k6 => k_is)
    (case l7 => k_is)
    (case c7 => k_is)
    (case k7 => k_is)
    (case l8 => k_is)
    (case c8 => k_is)
    (case k8 => k_is)
    (case l9 => k_is)
    (case c9 => k_is)
    (case k9 => k_is)
    (case l10 => k_is)
    (case c10 => k_is)
    (case k10 => k_is)
    (case l11 => k_is)
    (case c11 => k_is)
    (case k11 => k_is)
    (case l12 => k_is)
    (case c12 => k_is)
    (case k12 => k_is)
    (case l13 => k_is)
    (case c13 => k_is)
    (case k13 => k_is)
    (case l14 => k_is)
    (case c14 => k_is)
    (case k14 => k_is)
    (case l15 => k_is)
    (case c15 => k_is)
    (case k15 => k_is)
    (case l16 => k_is)
    (case c16 => k_is)
    (case k16 => k_is)
    (case l17 => k_is)
    (case c17 => k_is)
    (case k17 => k_is)
    (case l18 => k_is)
    (case c18 => k_is)
    (case k18 => k_is)
    (case l19 => k_is)
    (case c19 => k_is)
    (case k19 => k_is)
    (case l20 => k_is)
    (case c20 => k_is)
    (case k20 => k_is)
    (case l21 => k_is)
    (case c21 => k_is)
    (case k21 => k_is)
    (case l22 => k_is)
    (case c22 => k_is)
    (case k22 => k_is)
    (case l23 => k_is)
    (case c23 => k_is)
    (case k23 => k_is)
    (case l24 => k_is)
    (case c24 => k_is)
    (case k24 => k_is)
    (case l25 => k_is)
    (case c25 => k_is)
    (case k25 => k_is)
    (case q_FACTS => k_is)
    (case qv_FACTS => repeat (first | exact .nil | refine .cons (by first | exact ⟨_, rfl⟩ | rfl) ?_))
    (case q_COMPARISONS => k_is)
    (case qv_COMPARISONS => repeat (first | exact .nil | refine .cons (by first | exact ⟨_, rfl⟩ | rfl) ?_))
    (case z_abs => k_is)
    (case z_any => k_is)
    (case z_bool => k_is)
    (case z_int => k_is)
    (case z_isinstance => k_is)
    (case z_len => k_is)
    (case z_list => k_is)
    (case z_range => k_is)
    (case z_str => k_is)
    (case z_sum => k_is)
    (case z_tuple => k_is)

