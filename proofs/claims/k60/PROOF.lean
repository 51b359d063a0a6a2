import PyProof.Rows.All
import Wide.All
import OpenK.AllK
import Wide.FinOn
import HandS.ForMost
import HandS.Wide
import HandS.Walk
import HandS.IsInst
import HandS.TupAny
import HandS.StrMore
import HandS.Replace
import HandS.Style
import HandS.Evl
import HandS.ForExc
import HandS.ExcInit
import HandS.ExcField
import HandS.ExcIs
import KE.KExcIs
import HandS.HotCalls
import HandS.ExcInitHot
import KE.KxField
import HandS.FStr
import HandS.Iter
import PyProof.Rows.ChunkEnd
import HandS.Star
import HandS.Strs
import HandS.WideBits
import PySem.Challenge.RW_romwright_k60_pieces_back
set_option Elab.async false
set_option linter.all false
set_option maxRecDepth 100000
set_option maxHeartbeats 4000000
namespace RK
open PySem PySem.Spec PyProof.Rows L2
/-! ### heaps -/
/-- all but what stands at p is as it was -/
def But (p : Addr) (H H' : Hp) : Prop := ∀ b o, b ≠ p → H b = some o → H' b = some o
theorem But.refl (p : Addr) (H : Hp) : But p H H := fun _ _ _ h => h
theorem But.upd {p : Addr} {H H' : Hp} {o : HO} (h : But p H H') : But p H (upd H' p o) := fun b u n e => by
  rw [upd_ne n]
  exact h b u n e
theorem But.trans {p : Addr} {H H1 H2 : Hp} (a : But p H H1) (b : But p H1 H2) : But p H H2 := fun c o n h => b c o n (a c o n h)
theorem but_new {p D : Addr} {H H' : Hp} {o : HO} (h : But p H H') (n : H D = none) : But p H (upd H' D o) := fun b u nb e => by
  rw [upd_ne (ne_of_none e n)]
  exact h b u nb e
theorem But.of {p : Addr} {H H' : Hp} (h : Same H H') : But p H H' := fun b o _ e => h b o e
theorem same_new {H : Hp} {p : Addr} {o : HO} (h : H p = none) : Same H (upd H p o) := fun b x e => by
  rw [upd_ne (ne_of_none e h)]
  exact e
theorem sqT_up {K : PySem.W.Frag} {H H' : Hp} {a : Addr} {xs : List V} (h : SqT K H a xs) (e : Same H H') : SqT K H' a xs := by
  rcases h with (h | ⟨o, h⟩) | h
  · exact .inl (.inl (e _ _ h))
  · exact .inl (.inr ⟨o, e _ _ h⟩)
  · exact .inr h
theorem sqL_up {K : PySem.W.Frag} {H H' : Hp} {a : Addr} {xs : List V} (h : SqL K H a xs) (e : Same H H') : SqL K H' a xs := e.seq h
/-- a new object that H did not know changes -/
theorem same_mut {H H' : Hp} {p : Addr} {o : HO} (e : Same H H') (h : H p = none) : Same H (upd H' p o) := fun a u ha => by
  rw [upd_ne (ne_of_none ha h)]
  exact e a u ha
/-- the heap without p -/
def hid (H : Hp) (p : Addr) : Hp := fun b => if b = p then none else H b
theorem hid_same {H : Hp} {p : Addr} : Same (hid H p) H := fun b o e => by
  unfold hid at e
  split at e
  · cases e
  · exact e
theorem hid_at {H : Hp} {p b : Addr} {o : HO} (h : H b = some o) (n : b ≠ p) : hid H p b = some o := by
  unfold hid
  rw [if_neg n]
  exact h
theorem hid_but {H H' : Hp} {p : Addr} (h : But p H H') : Same (hid H p) (hid H' p) := fun b o e => by
  unfold hid at e ⊢
  split at e
  · cases e
  · rename_i n
    rw [if_neg n]
    exact h b o n e
mutual
theorem dpUp {K : PySem.W.Frag} {H H' : Hp} (e : Same H H') : ∀ {v : V} {d : PyData}, Dp K H v d → Dp K H' v d
  | _, _, .non => .non
  | _, _, .bl b => .bl b
  | _, _, .int i => .int i
  | _, _, .str x => .str x
  | _, _, .lst h t => .lst (sqL_up h e) (dpAllUp e t)
  | _, _, .tup h t => .tup (sqT_up h e) (dpAllUp e t)
theorem dpAllUp {K : PySem.W.Frag} {H H' : Hp} (e : Same H H') : ∀ {vs : List V} {ds : List PyData}, DpAll K H vs ds → DpAll K H' vs ds
  | _, _, .nil => .nil
  | _, _, .cons h t => .cons (dpUp e h) (dpAllUp e t)
end
/-! ### data of any depth, none of whose changeable objects lies in S -/
abbrev ASet := Addr → Prop
def noS : ASet := fun _ => False
def inS (S : ASet) (a : Addr) : ASet := fun b => S b ∨ b = a
/-- at a: a list | a tuple that is not in S -/
def XL (K : PySem.W.Frag) (H : Hp) (S : ASet) (a : Addr) (xs : List V) : Prop := (¬ S a ∧ Rd H a (.lst xs)) ∨ SqL K (fun _ => none) a xs
def XT (K : PySem.W.Frag) (H : Hp) (S : ASet) (a : Addr) (xs : List V) : Prop := (¬ S a ∧ Rd H a (.tup xs)) ∨ SqT K (fun _ => none) a xs
/-- what stood outside of S stands -/
def Out (S : ASet) (H H' : Hp) : Prop := ∀ b o, ¬ S b → H b = some o → H' b = some o
theorem Out.of {S : ASet} {H H' : Hp} (h : Same H H') : Out S H H' := fun b o _ e => h b o e
theorem Out.refl (S : ASet) (H : Hp) : Out S H H := fun _ _ _ h => h
theorem Out.trans {S : ASet} {H H1 H2 : Hp} (a : Out S H H1) (b : Out S H1 H2) : Out S H H2 := fun c o n h => b c o n (a c o n h)
theorem Out.mono {S S' : ASet} {H H' : Hp} (h : Out S H H') (k : ∀ a, S a → S' a) : Out S' H H' := fun b o n e => h b o (fun z => n (k b z)) e
theorem Out.put {S : ASet} {H H' : Hp} {a : Addr} {o : HO} (h : Out S H H') (ha : S a) : Out S H (upd H' a o) := fun b u n e => by
  rw [upd_ne fun z => n (by rw [z]; exact ha)]
  exact h b u n e
section
variable {K : PySem.W.Frag} {H H' : Hp} {S S' : ASet} {v x : V} {a p : Addr} {xs : List V} {d : PyData} {ds : List PyData}
theorem XL.sq (h : XL K H S a xs) : SqL K H a xs := by
  rcases h with ⟨_, h⟩ | (h | ⟨_, h⟩) | h
  · exact .inl h
  · cases h
  · cases h
  · exact .inr h
theorem XT.sq (h : XT K H S a xs) : SqT K H a xs := by
  rcases h with ⟨_, h⟩ | (h | ⟨_, h⟩) | h
  · exact .inl h
  · cases h
  · cases h
  · exact .inr h
theorem XL.of (h : H a = some (.lst xs)) (n : ¬ S a) : XL K H S a xs := .inl ⟨n, .inl h⟩
theorem XT.of (h : H a = some (.tup xs)) (n : ¬ S a) : XT K H S a xs := .inl ⟨n, .inl h⟩
theorem XL.up (h : XL K H S a xs) (e : Out S H H') : XL K H' S a xs := by
  rcases h with ⟨n, h | ⟨o, h⟩⟩ | h
  · exact .inl ⟨n, .inl (e _ _ n h)⟩
  · exact .inl ⟨n, .inr ⟨o, e _ _ n h⟩⟩
  · exact .inr h
theorem XT.up (h : XT K H S a xs) (e : Out S H H') : XT K H' S a xs := by
  rcases h with ⟨n, h | ⟨o, h⟩⟩ | h
  · exact .inl ⟨n, .inl (e _ _ n h)⟩
  · exact .inl ⟨n, .inr ⟨o, e _ _ n h⟩⟩
  · exact .inr h
/-- a further address that is not in the heap is kept out -/
theorem XL.add (h : XL K H S a xs) (hp : H p = none) : XL K H (inS S p) a xs := by
  rcases h with ⟨n, h⟩ | h
  · refine .inl ⟨fun z => ?_, h⟩
    rcases z with z | z
    · exact n z
    · subst z
      rcases h with h | ⟨o, h⟩ <;> rw [hp] at h <;> cases h
  · exact .inr h
theorem XT.add (h : XT K H S a xs) (hp : H p = none) : XT K H (inS S p) a xs := by
  rcases h with ⟨n, h⟩ | h
  · refine .inl ⟨fun z => ?_, h⟩
    rcases z with z | z
    · exact n z
    · subst z
      rcases h with h | ⟨o, h⟩ <;> rw [hp] at h <;> cases h
  · exact .inr h
theorem XL.less (h : XL K H S a xs) (k : ∀ a, S' a → S a) : XL K H S' a xs := by
  rcases h with ⟨n, h⟩ | h
  · exact .inl ⟨fun z => n (k _ z), h⟩
  · exact .inr h
theorem XT.less (h : XT K H S a xs) (k : ∀ a, S' a → S a) : XT K H S' a xs := by
  rcases h with ⟨n, h⟩ | h
  · exact .inl ⟨fun z => n (k _ z), h⟩
  · exact .inr h
mutual
inductive Dx (K : PySem.W.Frag) (H : Hp) (S : ASet) : V → PyData → Prop
  | non : Dx K H S .non .none
  | bl (b : Bool) : Dx K H S (.bl b) (.bool b)
  | int (i : Int) : Dx K H S (.int i) (.int i)
  | str (x : Str) : Dx K H S (.str x) (.str x)
  | lst {a : Addr} {xs : List V} {ds : List PyData} : XL K H S a xs → DxAll K H S xs ds → Dx K H S (.ref a) (.list ds)
  | tup {a : Addr} {xs : List V} {ds : List PyData} : XT K H S a xs → DxAll K H S xs ds → Dx K H S (.ref a) (.tuple ds)
inductive DxAll (K : PySem.W.Frag) (H : Hp) (S : ASet) : List V → List PyData → Prop
  | nil : DxAll K H S [] []
  | cons {v : V} {vs : List V} {d : PyData} {ds : List PyData} : Dx K H S v d → DxAll K H S vs ds → DxAll K H S (v :: vs) (d :: ds)
end
mutual
theorem Dx.up (e : Out S H H') : ∀ {v : V} {d : PyData}, Dx K H S v d → Dx K H' S v d
  | _, _, .non => .non
  | _, _, .bl b => .bl b
  | _, _, .int i => .int i
  | _, _, .str x => .str x
  | _, _, .lst h t => .lst (h.up e) (DxAll.up e t)
  | _, _, .tup h t => .tup (h.up e) (DxAll.up e t)
theorem DxAll.up (e : Out S H H') : ∀ {vs : List V} {ds : List PyData}, DxAll K H S vs ds → DxAll K H' S vs ds
  | _, _, .nil => .nil
  | _, _, .cons h t => .cons (Dx.up e h) (DxAll.up e t)
end
mutual
theorem Dx.add (hp : H p = none) : ∀ {v : V} {d : PyData}, Dx K H S v d → Dx K H (inS S p) v d
  | _, _, .non => .non
  | _, _, .bl b => .bl b
  | _, _, .int i => .int i
  | _, _, .str x => .str x
  | _, _, .lst h t => .lst (h.add hp) (DxAll.add hp t)
  | _, _, .tup h t => .tup (h.add hp) (DxAll.add hp t)
theorem DxAll.add (hp : H p = none) : ∀ {vs : List V} {ds : List PyData}, DxAll K H S vs ds → DxAll K H (inS S p) vs ds
  | _, _, .nil => .nil
  | _, _, .cons h t => .cons (Dx.add hp h) (DxAll.add hp t)
end
mutual
theorem Dx.less (k : ∀ a, S' a → S a) : ∀ {v : V} {d : PyData}, Dx K H S v d → Dx K H S' v d
  | _, _, .non => .non
  | _, _, .bl b => .bl b
  | _, _, .int i => .int i
  | _, _, .str x => .str x
  | _, _, .lst h t => .lst (h.less k) (DxAll.less k t)
  | _, _, .tup h t => .tup (h.less k) (DxAll.less k t)
theorem DxAll.less (k : ∀ a, S' a → S a) : ∀ {vs : List V} {ds : List PyData}, DxAll K H S vs ds → DxAll K H S' vs ds
  | _, _, .nil => .nil
  | _, _, .cons h t => .cons (Dx.less k h) (DxAll.less k t)
end
mutual
theorem Dx.dp : ∀ {v : V} {d : PyData}, Dx K H S v d → Dp K H v d
  | _, _, .non => .non
  | _, _, .bl b => .bl b
  | _, _, .int i => .int i
  | _, _, .str x => .str x
  | _, _, .lst h t => .lst h.sq (DxAll.dp t)
  | _, _, .tup h t => .tup h.sq (DxAll.dp t)
theorem DxAll.dp : ∀ {vs : List V} {ds : List PyData}, DxAll K H S vs ds → DpAll K H vs ds
  | _, _, .nil => .nil
  | _, _, .cons h t => .cons (Dx.dp h) (DxAll.dp t)
end
theorem dxAll_get : ∀ {vs : List V} {ds : List PyData} {i : Nat} {x : V}, DxAll K H S vs ds → vs[i]? = some x → ∃ d, ds[i]? = some d ∧ Dx K H S x d
  | _, _, _, _, .nil, e => by simp at e
  | _, _, 0, _, .cons h _, e => by
    simp at e
    subst e
    exact ⟨_, rfl, h⟩
  | _, _, i + 1, x, .cons _ t, e => by
    obtain ⟨d, h1, h2⟩ := dxAll_get (i := i) (x := x) t (by simpa using e)
    exact ⟨d, by simpa using h1, h2⟩
theorem Dx.of_get {vs : List V} {ds : List PyData} {i : Nat} (h : DxAll K H S vs ds) (e : vs[i]? = some x) (e2 : ds[i]? = some d) : Dx K H S x d := by
  obtain ⟨d', h1, h2⟩ := dxAll_get h e
  rw [e2] at h1
  rw [Option.some.inj h1]
  exact h2
theorem dxAll_len : ∀ {vs : List V} {ds : List PyData}, DxAll K H S vs ds → vs.length = ds.length
  | _, _, .nil => rfl
  | _, _, .cons _ t => by
    rw [List.length_cons, List.length_cons, dxAll_len t]
theorem dxAll_app : ∀ {vs ws : List V} {ds es : List PyData}, DxAll K H S vs ds → DxAll K H S ws es → DxAll K H S (vs ++ ws) (ds ++ es)
  | _, _, _, _, .nil, h => h
  | _, _, _, _, .cons a t, h => .cons a (dxAll_app t h)
theorem dxAll_ints : ∀ ns : List Int, DxAll K H S (ns.map V.int) (ns.map PyData.int)
  | [] => .nil
  | n :: r => .cons (.int n) (dxAll_ints r)
theorem dxAll_strs : ∀ ns : List Str, DxAll K H S (ns.map V.str) (ns.map PyData.str)
  | [] => .nil
  | n :: r => .cons (.str n) (dxAll_strs r)
theorem dxAll_ints_inv : ∀ {vs : List V} {ns : List Int}, DxAll K H S vs (ns.map PyData.int) → vs = ns.map V.int
  | _, [], .nil => rfl
  | _, n :: r, .cons h t => by
    cases h
    rw [dxAll_ints_inv t]
    rfl
end
section
variable {K : PySem.W.Frag} {H H' : Hp} {v x : V} {a p : Addr} {xs : List V} {d : PyData} {ds : List PyData}
/-! ### isinstance -/
def tn : PyData → String
  | .none => "NoneType"
  | .bool _ => "bool"
  | .int _ => "int"
  | .str _ => "str"
  | .list _ => "list"
  | .tuple _ => "tuple"
  | .dict _ => "dict"
def isB (a c : String) : Bool := a == c || (a == "bool" && c == "int")
theorem kitT : ∀ a ∈ (["NoneType", "bool", "int", "str", "list", "tuple"] : List String), ∀ c ∈ (["int", "bool", "str", "list", "tuple"] : List String), kitB a c = some (isB a c) := by decide +kernel
theorem dp_tn (h : Dp K H v d) : tn d ∈ (["NoneType", "bool", "int", "str", "list", "tuple"] : List String) := by
  cases h <;> simp [tn]
theorem dp_ty (h : Dp K H v d) : TyX K H v (.type (tn d)) := by
  cases h with
  | non => exact .base .non
  | bl b => exact .base (.bl b)
  | int i => exact .base (.int i)
  | str x => exact .base (.str x)
  | lst h _ =>
    rcases h with (h | ⟨o, h⟩) | ⟨o, its, n, hk, hc, _⟩
    · exact .base (.lst h)
    · exact .base (.frz h)
    · exact .kList hk hc
  | tup h _ =>
    rcases h with (h | ⟨o, h⟩) | ⟨o, its, n, hk, hc, _⟩
    · exact .base (.tup h)
    · exact .fTuple h
    · exact .kTuple hk hc
theorem r_isi {c : String} {Q : VK} (h : Dp K H v d) (hc : c ∈ (["int", "bool", "str", "list", "tuple"] : List String)) (q : Q (.bl (isB (tn d) c)) H) : rIsi K [v, .ty c] H Q :=
  ⟨v, .ty c, _, _, _, rfl, .ty c, dp_ty h, kit_ty (kitT _ (dp_tn h) c hc), q⟩
theorem kit_any {t : String} (ht : t ∈ (["NoneType", "bool", "int", "str", "list", "tuple"] : List String)) : ∀ cs : List String, (∀ c ∈ cs, c ∈ (["int", "bool", "str", "list", "tuple"] : List String)) →
    PySem.W.kitAny K (.type t) (cs.map Value.type) = some (cs.any (isB t))
  | [], _ => rfl
  | c :: r, h => by
    have h1 : PySem.W.kitOne K (.type t) (.type c) = some (isB t c) := kit_ty (kitT t ht c (h c List.mem_cons_self))
    have h2 := kit_any ht r fun x hx => h x (List.mem_cons_of_mem _ hx)
    show PySem.W.kitAny K (.type t) (.type c :: r.map Value.type) = some (isB t c || r.any (isB t))
    refine kitAny_cons h1 (fun e => ?_) (fun e => ?_)
    · rw [e, Bool.false_or]
      exact h2
    · rw [e, Bool.true_or]
theorem paired_ty : ∀ cs : List String, Paired ClsV (cs.map V.ty) (cs.map Value.type)
  | [] => .nil
  | c :: r => .cons (.ty c) (paired_ty r)
theorem r_isiT {cs : List String} {Q : VK} (h : Dp K H v d) (hp : H p = some (.tup (cs.map V.ty))) (hc : ∀ c ∈ cs, c ∈ (["int", "bool", "str", "list", "tuple"] : List String)) (q : Q (.bl (cs.any (isB (tn d)))) H) : rIsiT K [v, .ref p] H Q :=
  ⟨v, p, _, _, _, _, rfl, hp, paired_ty cs, dp_ty h, kit_any (dp_tn h) cs hc, q⟩
end
theorem ifT {c : Bool} {A B : Prop} (h : c = true) (a : A) : if c = true then A else B := by
  rw [if_pos h]
  exact a
theorem ifF {c : Bool} {A B : Prop} (h : c = false) (b : B) : if c = true then A else B := by
  rw [h, if_neg Bool.false_ne_true]
  exact b
theorem ifB {c : Bool} {A B : Prop} (ht : c = true → A) (hf : c = false → B) : if c = true then A else B := by
  cases c with
  | true => exact ifT rfl (ht rfl)
  | false => exact ifF rfl (hf rfl)
theorem lenOk {α : Type} {xs : List α} {n : Nat} (h : xs.length = n) (hn : n ≤ 100000) : xs.length ≤ sizeLine := by
  rw [h]
  exact Nat.le_trans hn (by decide)
theorem range_getD {α β : Type} (g : α → β) (z : α) : ∀ l : List α, (List.range l.length).map (fun i => g (l.getD i z)) = l.map g := fun l => by
  apply List.ext_getElem?
  intro i
  by_cases h : i < l.length
  · rw [List.getElem?_map, List.getElem?_range h, List.getElem?_map, List.getElem?_eq_getElem h]
    simp [List.getD_eq_getElem?_getD, List.getElem?_eq_getElem h]
  · rw [List.getElem?_eq_none (by simp; omega), List.getElem?_eq_none (by simp; omega)]
theorem depth_get : ∀ {ds : List PyData} {i : Nat} {d : PyData}, ds[i]? = some d → d.depth ≤ PyData.depthAll ds
  | [], _, _, h => by simp at h
  | x :: r, 0, d, h => by
    simp at h
    subst h
    exact Nat.le_max_left _ _
  | x :: r, i + 1, d, h => Nat.le_trans (depth_get (ds := r) (i := i) (by simpa using h)) (Nat.le_max_right _ _)
/-! no list or tuple in it is very long -/
mutual
def wdB : PyData → Bool
  | .list xs => decide (xs.length ≤ 100000) && wdA xs
  | .tuple xs => decide (xs.length ≤ 100000) && wdA xs
  | .none => true
  | .bool _ => true
  | .int _ => true
  | .str _ => true
  | .dict _ => true
def wdA : List PyData → Bool
  | [] => true
  | x :: r => wdB x && wdA r
end
theorem wdA_get : ∀ {ds : List PyData} {i : Nat} {d : PyData}, wdA ds = true → ds[i]? = some d → wdB d = true
  | [], _, _, _, h => by simp at h
  | x :: r, 0, d, w, h => by
    simp at h
    subst h
    exact (Bool.and_eq_true_iff.mp w).1
  | x :: r, i + 1, d, w, h => wdA_get (ds := r) (i := i) (Bool.and_eq_true_iff.mp w).2 (by simpa using h)
theorem wdA_all : ∀ {ds : List PyData}, (∀ d ∈ ds, wdB d = true) → wdA ds = true
  | [], _ => rfl
  | x :: r, h => Bool.and_eq_true_iff.mpr ⟨h x List.mem_cons_self, wdA_all fun d hd => h d (List.mem_cons_of_mem _ hd)⟩
/-! ### rules whose reading has a name -/
def rTupOf (K : PySem.W.Frag) : List V → Hp → VK → Prop := fun xs H Q => ∃ p ys, xs = [.ref p] ∧ ((SqL K H p ys ∧ ∀ l, H l = none → Q (.ref l) (upd H l (.tup ys))) ∨ (SqT K H p ys ∧ Q (.ref p) H))
section
variable {X : Cx}
theorem tuple_of : CallR X (.type "tuple") (rTupOf X.K) := call_tuple_of
theorem len_seq : CallR X (.builtin "len") (Evl.rLenS X.K) := call_len_seq
theorem list_of : CallR X (.type "list") (Evl.rListS X.K) := call_list_of
end
/-! ### what a walk goes over, lists or tuples -/
theorem PI_or {X : Cx} {tg l : Expr} {w1 w2 : TI} (h1 : PI X tg l w1) (h2 : PI X tg l w2) : PI X tg l (fun σ H R => w1 σ H R ∨ w2 σ H R) :=
  ⟨fun pins s σ H R I h => h.elim (h1.run pins s σ H R I) (h2.run pins s σ H R I)⟩
/-! ### comprehensions without tests whose elements have a value each; the target is the name at k -/
section
variable {J : It} {n : Nat} {G : Hp → Prop} {Y : Nat → Hp → V → Hp → Prop}
theorem lc_vals (w : Walk J n G Y) {te : TE} {σ : L2.St} {H1 : Hp} {D : Addr} {Qd : Hp → Prop} {k : Nat} (I : Nat → V → Prop) (f : Nat → V) (hD : H1 D = none) (hG : ∀ H, Same H1 H → G H) (hn : n ≤ 1000000)
    (hY : ∀ i H x H', i < n → Y i H x H' → H' = H ∧ I i x)
    (hs : ∀ i x H, i < n → Same H1 H → I i x → ∀ Q : VK, (∀ H3, Same H H3 → Q (f i) H3) → te ((σ.set k none).set k (some x)) H Q) (hd : ∀ H, Same H1 H → H D = some (.lst ((List.range n).map f)) → Qd H) :
    ∃ W : Nat → Nat → Hp → Prop, (∃ m, W 0 m (upd H1 D (.lst []))) ∧ ∀ i m H, W i m H →
      (J.stop i H ∧ Qd H) ∨ (J.go i H ∧ ∃ Nx : Hp → Prop, (∀ H', Nx H' → ∃ m', m' < m ∧ W (i + 1) m' H') ∧ ∀ x H', J.yld i H x H' → gName k x (wipe σ [k]) H' fun σ2 H2 => wipe σ2 [k] = wipe σ [k] ∧ tYes σ2 H2 fun b H3 =>
        if b = true then te σ2 H3 fun y H4 => ∃ acc, H4 D = some (.lst acc) ∧ acc.length < sizeLine ∧ Nx (upd H4 D (.lst (acc ++ [y]))) else Nx H3) := by
  refine lc_it w (fun i H => Same H1 H ∧ H D = some (.lst ((List.range i).map f))) ⟨same_new hD, upd_same⟩ (fun i H _ h => hG H h.1) (fun i x H H' hi hp y => ?_) fun H h => hd H h.1 h.2
  obtain ⟨sm, e⟩ := hp
  obtain ⟨rfl, hx⟩ := hY i H x H' hi y
  refine ⟨?_, ?_⟩
  · show ((σ.set k none).set k (some x)).set k none = σ.set k none
    rw [List.set_set, List.set_set]
  show te ((σ.set k none).set k (some x)) H' _
  refine hs i x H' hi sm hx _ fun H3 s3 => ?_
  have e3 : H3 D = some (.lst ((List.range i).map f)) := s3 _ _ e
  refine ⟨_, e3, ?_, same_mut (sm.trans s3) hD, ?_⟩
  · rw [List.length_map, List.length_range]
    exact Nat.lt_of_lt_of_le (Nat.lt_of_lt_of_le hi hn) (by decide)
  · rw [upd_same, List.range_succ, List.map_append]
    rfl
/-- a comprehension whose elements may change what stands; Pv speaks of the turn, the list so far and the heap -/
theorem lc_inv (w : Walk J n G Y) {te : TE} {σ : L2.St} {H1 : Hp} {D : Addr} {Qd : Hp → Prop} {k : Nat} (I : Nat → V → Prop) (Pv : Nat → List V → Hp → Prop) (hn : n ≤ 1000000) (h0 : Pv 0 [] (upd H1 D (.lst [])))
    (hG : ∀ i acc H, Pv i acc H → G H) (hY : ∀ i H x H', i < n → Y i H x H' → H' = H ∧ I i x)
    (hs : ∀ i x acc H, i < n → acc.length = i → Pv i acc H → H D = some (.lst acc) → I i x → ∀ Q : VK, (∀ v H3, H3 D = some (.lst acc) → Pv (i + 1) (acc ++ [v]) (upd H3 D (.lst (acc ++ [v]))) → Q v H3) → te ((σ.set k none).set k (some x)) H Q)
    (hd : ∀ acc H, acc.length = n → Pv n acc H → H D = some (.lst acc) → Qd H) :
    ∃ W : Nat → Nat → Hp → Prop, (∃ m, W 0 m (upd H1 D (.lst []))) ∧ ∀ i m H, W i m H →
      (J.stop i H ∧ Qd H) ∨ (J.go i H ∧ ∃ Nx : Hp → Prop, (∀ H', Nx H' → ∃ m', m' < m ∧ W (i + 1) m' H') ∧ ∀ x H', J.yld i H x H' → gName k x (wipe σ [k]) H' fun σ2 H2 => wipe σ2 [k] = wipe σ [k] ∧ tYes σ2 H2 fun b H3 =>
        if b = true then te σ2 H3 fun y H4 => ∃ acc, H4 D = some (.lst acc) ∧ acc.length < sizeLine ∧ Nx (upd H4 D (.lst (acc ++ [y]))) else Nx H3) := by
  refine lc_it w (fun i H => ∃ acc, acc.length = i ∧ H D = some (.lst acc) ∧ Pv i acc H) ⟨[], rfl, upd_same, h0⟩ (fun i H _ h => ?_) (fun i x H H' hi hp y => ?_) fun H h => ?_
  · obtain ⟨acc, _, _, p⟩ := h
    exact hG i acc H p
  · obtain ⟨acc, hl, e, p⟩ := hp
    obtain ⟨rfl, hx⟩ := hY i H x H' hi y
    refine ⟨?_, ?_⟩
    · show ((σ.set k none).set k (some x)).set k none = σ.set k none
      rw [List.set_set, List.set_set]
    show te ((σ.set k none).set k (some x)) H' _
    refine hs i x acc H' hi hl p e hx _ fun v H3 e3 p3 => ⟨acc, e3, ?_, acc ++ [v], ?_, upd_same, p3⟩
    · rw [hl]
      exact Nat.lt_of_lt_of_le (Nat.lt_of_lt_of_le hi hn) (by decide)
    · rw [List.length_append, hl]
      rfl
  · obtain ⟨acc, hl, e, p⟩ := h
    exact hd acc H hl p e
theorem lc_data {K : PySem.W.Frag} {S : ASet} (w : Walk J n G Y) {te : TE} {σ : L2.St} {H1 : Hp} {D : Addr} {Qd : Hp → Prop} {k : Nat} (I : Nat → V → Prop) (f : Nat → PyData) (hS : ∀ a, S a → H1 a ≠ none) (hD : H1 D = none) (hG : ∀ H, Same H1 H → G H) (hn : n ≤ 1000000)
    (hY : ∀ i H x H', i < n → Y i H x H' → H' = H ∧ I i x)
    (hs : ∀ i x H, i < n → Same H1 H → H D ≠ none → I i x → ∀ Q : VK, (∀ v H3, Same H H3 → Dx K H3 (inS S D) v (f i) → Q v H3) → te ((σ.set k none).set k (some x)) H Q)
    (hd : ∀ H, Same H1 H → Dx K H S (.ref D) (.list ((List.range n).map f)) → Qd H) :
    ∃ W : Nat → Nat → Hp → Prop, (∃ m, W 0 m (upd H1 D (.lst []))) ∧ ∀ i m H, W i m H →
      (J.stop i H ∧ Qd H) ∨ (J.go i H ∧ ∃ Nx : Hp → Prop, (∀ H', Nx H' → ∃ m', m' < m ∧ W (i + 1) m' H') ∧ ∀ x H', J.yld i H x H' → gName k x (wipe σ [k]) H' fun σ2 H2 => wipe σ2 [k] = wipe σ [k] ∧ tYes σ2 H2 fun b H3 =>
        if b = true then te σ2 H3 fun y H4 => ∃ acc, H4 D = some (.lst acc) ∧ acc.length < sizeLine ∧ Nx (upd H4 D (.lst (acc ++ [y]))) else Nx H3) := by
  have hnS : ¬ S D := fun z => hS D z hD
  refine lc_it w (fun i H => Same H1 H ∧ ∃ acc, H D = some (.lst acc) ∧ DxAll K H (inS S D) acc ((List.range i).map f)) ⟨same_new hD, [], upd_same, .nil⟩ (fun i H _ h => hG H h.1) (fun i x H H' hi hp y => ?_) fun H h => ?_
  · obtain ⟨sm, acc, e, da⟩ := hp
    obtain ⟨rfl, hx⟩ := hY i H x H' hi y
    refine ⟨?_, ?_⟩
    · show ((σ.set k none).set k (some x)).set k none = σ.set k none
      rw [List.set_set, List.set_set]
    show te ((σ.set k none).set k (some x)) H' _
    refine hs i x H' hi sm (by rw [e]; exact fun z => nomatch z) hx _ fun v H3 s3 dv => ?_
    have hl : acc.length = i := by rw [dxAll_len da, List.length_map, List.length_range]
    refine ⟨acc, s3 _ _ e, ?_, same_mut (sm.trans s3) hD, acc ++ [v], upd_same, ?_⟩
    · rw [hl]
      exact Nat.lt_of_lt_of_le (Nat.lt_of_lt_of_le hi hn) (by decide)
    · rw [List.range_succ, List.map_append]
      have o : Out (inS S D) H3 (upd H3 D (.lst (acc ++ [v]))) := (Out.refl _ _).put (.inr rfl)
      exact dxAll_app (DxAll.up o (DxAll.up (Out.of s3) da)) (.cons (Dx.up o dv) .nil)
  · obtain ⟨sm, acc, e, da⟩ := h
    exact hd H sm (.lst (XL.of e hnS) (DxAll.less (fun a z => .inl z) da))
end
end RK

namespace RK
open PySem PySem.Spec PyProof.Rows L2 PySem.Builtin.Str
/-! ### texts as lists of code points -/
def sO (l : List Nat) : Str := ⟨l.toArray⟩
theorem sO_eta (x : Str) : sO x.cps.toList = x := rfl
theorem sO_list (l : List Nat) : (sO l).cps.toList = l := rfl
theorem sO_len (l : List Nat) : (sO l).length = l.length := rfl
theorem sO_inj {a b : List Nat} (h : sO a = sO b) : a = b := by
  have := congrArg (fun s : Str => s.cps.toList) h
  exact this
theorem sO_app (a b : List Nat) : sO a ++ sO b = sO (a ++ b) := by
  show (⟨a.toArray ++ b.toArray⟩ : Str) = ⟨(a ++ b).toArray⟩
  rw [List.append_toArray]
theorem sO_at {l : List Nat} {i : Nat} {c : Nat} (h : l[i]? = some c) : atI (sO l).cps.toList (i : Int) = some c := atI_nat h
theorem join_fold (l : List Str) : ∀ (acc : Array Nat), (l.foldl (fun acc p => acc ++ (sO []).cps ++ p.cps) acc) = (acc.toList ++ (l.map fun s => s.cps.toList).flatten).toArray := by
  induction l with
  | nil => intro acc; simp
  | cons p r ih =>
    intro acc
    rw [List.foldl_cons, ih]
    simp [sO]
theorem join_nil (l : List Str) : Txt.join (sO []) l = sO (l.map fun s => s.cps.toList).flatten := by
  cases l with
  | nil => rfl
  | cons p r =>
    show (⟨(r.foldl (fun acc p => acc ++ (sO []).cps ++ p.cps) p.cps)⟩ : Str) = _
    rw [join_fold]
    simp [sO]
theorem strip_take (goes : Nat → Bool) : ∀ l : List Nat, l.take (l.length - (l.reverse.takeWhile goes).length) = (l.reverse.dropWhile goes).reverse := fun l => by
  have h : l.reverse = l.reverse.takeWhile goes ++ l.reverse.dropWhile goes := (List.takeWhile_append_dropWhile).symm
  have h2 : l = (l.reverse.dropWhile goes).reverse ++ (l.reverse.takeWhile goes).reverse := by
    rw [← List.reverse_append, List.takeWhile_append_dropWhile, List.reverse_reverse]
  have h3 : l.length = (l.reverse.dropWhile goes).length + (l.reverse.takeWhile goes).length := by
    have := congrArg List.length h2
    rw [List.length_append, List.length_reverse, List.length_reverse] at this
    exact this
  have h4 : l.length - (l.reverse.takeWhile goes).length = (l.reverse.dropWhile goes).reverse.length := by
    rw [List.length_reverse]
    omega
  rw [h4]
  conv => lhs; arg 2; rw [h2]
  rw [List.take_left]
theorem rstrip_sO (l : List Nat) : Txt.rstrip (sO l) = sO (l.reverse.dropWhile Unicode.isSpace).reverse := by
  have hi : stripHi Unicode.isSpace true (sO l) 0 = l.length - (l.reverse.takeWhile Unicode.isSpace).length := rfl
  show (if (stripSame Unicode.isSpace false true (sO l)) = true then sO l else stripped Unicode.isSpace false true (sO l)) = _
  have e : stripped Unicode.isSpace false true (sO l) = sO (l.reverse.dropWhile Unicode.isSpace).reverse := by
    show (⟨l.toArray.extract 0 (l.length - (l.reverse.takeWhile Unicode.isSpace).length)⟩ : Str) = _
    rw [List.extract_toArray, List.extract_eq_take_drop, List.drop_zero, Nat.sub_zero, strip_take]
    rfl
  split
  · rename_i h
    have h1 : (l.length - (l.reverse.takeWhile Unicode.isSpace).length == l.length) = true := (Bool.and_eq_true_iff.mp h).2
    have h2 : l.length - (l.reverse.takeWhile Unicode.isSpace).length = l.length := by simpa using h1
    have h3 := strip_take Unicode.isSpace l
    rw [h2, List.take_length] at h3
    rw [← h3]
  · exact e
theorem ljust_sO (l : List Nat) (n : Nat) (h : l.length ≤ n) : Txt.ljust (sO l) (n : Int) = sO (l ++ List.replicate (n - l.length) 32) := by
  show (if (n : Int) ≤ (l.length : Nat) then sO l else padded (sO l) 0 ((n : Int).toNat - l.length) 32) = _
  split
  · rename_i h2
    have : n - l.length = 0 := by omega
    rw [this]
    simp [sO]
  · show (⟨Array.replicate 0 32 ++ l.toArray ++ Array.replicate ((n : Int).toNat - l.length) 32⟩ : Str) = _
    rw [Int.toNat_natCast]
    simp [sO]
/-- parts of a text -/
theorem cut_lo (l : List Nat) (k : Nat) : cutS (sO l) (some (k : Int)) none = sO (l.drop k) := by
  show (⟨((l.drop (HT.sIx l.length 0 (some (k : Int)))).take (HT.sIx l.length l.length none - HT.sIx l.length 0 (some (k : Int)))).toArray⟩ : Str) = _
  rw [HT.sIx_nat, HT.sIx_none]
  have e : (l.drop (min k l.length)).take (l.length - min k l.length) = l.drop k := by
    rw [List.take_of_length_le (by rw [List.length_drop]; omega)]
    by_cases h : k ≤ l.length
    · rw [Nat.min_eq_left h]
    · rw [Nat.min_eq_right (by omega), List.drop_length, List.drop_of_length_le (by omega)]
  rw [e]
  rfl
theorem cut_hi (l : List Nat) (k : Nat) : cutS (sO l) none (some (k : Int)) = sO (l.take k) := by
  show (⟨((l.drop (HT.sIx l.length 0 none)).take (HT.sIx l.length l.length (some (k : Int)) - HT.sIx l.length 0 none)).toArray⟩ : Str) = _
  rw [HT.sIx_nat, HT.sIx_none, List.drop_zero, Nat.sub_zero]
  have e : l.take (min k l.length) = l.take k := by
    by_cases h : k ≤ l.length
    · rw [Nat.min_eq_left h]
    · rw [Nat.min_eq_right (by omega), List.take_length, List.take_of_length_le (by omega)]
  rw [e]
  rfl
theorem rep_fold (a : Array Nat) : ∀ (n : Nat) (acc : Array Nat), (List.replicate n a).foldl (· ++ ·) acc = (acc.toList ++ (List.replicate n a.toList).flatten).toArray
  | 0, acc => by simp
  | n + 1, acc => by
    rw [List.replicate_succ, List.foldl_cons, rep_fold a n, List.replicate_succ]
    simp
section
variable {X : Cx}
/-- a text times a small number -/
theorem op_rep_str : OpR X (binaryOp .Mult) (fun x y H Q => ∃ (l : List Nat) (n : Nat), x = .str (sO l) ∧ y = .int (n : Int) ∧ l.length ≤ 1000 ∧ n ≤ 1000 ∧ Q (.str (sO (List.replicate n l).flatten)) H) := by
  intro pins s σ H x y v u Q I rx ry h
  obtain ⟨l, n, rfl, rfl, hl, hn, q⟩ := h
  obtain ⟨t, rfl⟩ := rx
  obtain ⟨t2, rfl⟩ := ry
  have big : l.length * n ≤ 1000000 := Nat.mul_le_mul hl hn
  refine P.mul_str ?_ (fun _ _ => ?_) (fun _ _ => ?_) ?_
  · rw [decide_eq_false (show ¬ (n : Int) < -(2 ^ 63) by omega), decide_eq_false (show ¬ (n : Int) ≥ 2 ^ 63 by omega)]
    rfl
  · show ¬ ((l.length : Nat) : Int) > (2 ^ 63 - 1) / (n : Int)
    have h1 : (0 : Int) < n := by omega
    have h2 : (1000 : Int) ≤ (2 ^ 63 - 1) / (n : Int) := (Int.le_ediv_iff_mul_le h1).mpr (by omega)
    omega
  · show tooLong (l.length * (n : Int).toNat) = false
    rw [Int.toNat_natCast]
    exact decide_eq_false (by show ¬ _; have : (1000000 : Nat) ≤ sizeLine := by decide
                              omega)
  · have fin : ∀ (z : Str) tk tok, z = sO (List.replicate n l).flatten → EP X pins σ Q (Value.str z tok) { s with toks := tk } := fun z tk tok e => by subst e; exact ⟨.str _, H, I.tok _, ⟨_, rfl⟩, q⟩
    have hsz : ∀ z : Str, z = sO (List.replicate n l).flatten → z.length ≤ sizeLine := fun z e => by
      rw [e, sO_len]
      have e2 : (List.replicate n l).flatten.length = n * l.length := by simp
      rw [e2, Nat.mul_comm]
      exact Nat.le_trans big (by decide)
    split
    · have : n = 0 := by omega
      subst this
      exact ⟨by decide, fin _ _ _ rfl⟩
    · split
      · rename_i h2
        rcases Bool.or_eq_true_iff.mp h2 with h3 | h3
        · have h4 : (n : Int) = 1 := by simpa using h3
          have h5 : n = 1 := by omega
          subst h5
          refine fin _ s.toks _ ?_
          simp
        · have h4 : l.length = 0 := (eq_of_beq h3 : (sO l).length = 0)
          have h5 : l = [] := List.eq_nil_of_length_eq_zero h4
          subst h5
          refine fin _ s.toks _ ?_
          have : (List.replicate n ([] : List Nat)).flatten = [] := by simp
          rw [this]
      · have e : (⟨(List.replicate (n : Int).toNat (sO l).cps).foldl (· ++ ·) #[]⟩ : Str) = sO (List.replicate n l).flatten := by
          rw [rep_fold, Int.toNat_natCast]
          simp [sO]
        exact ⟨hsz _ e, fin _ _ _ e⟩
end
end RK

namespace RK
open PySem PySem.Spec PyProof.Rows L2 PySem.Builtin.Str
/-! ### names and the words that pack them -/
def sg (k : Nat) : Nat := if k = 0 then 32 else if k ≤ 26 then 96 + k else 21 + k
abbrev LTR : List Nat := (Str.ofString "abcdefghijklmnopqrstuvwxyz").cps.toList
abbrev SGN : List Nat := (Str.ofString " abcdefghijklmnopqrstuvwxyz0123456789").cps.toList
theorem SGN_eq : SGN = (List.range 37).map sg := by decide +kernel
theorem LTR_eq : LTR = (List.range 26).map fun k => sg (k + 1) := by decide +kernel
def isN (l : List Nat) : Bool := (decide (1 ≤ l.length) && decide (l.length ≤ 9) && decide (l.headD 0 ∈ LTR)) && l.all fun c => decide (c ∈ SGN) && !decide (c = 32)
theorem dec_blank (c : Nat) : decide (V.str (sO [c]) = V.str (Str.ofString " ")) = decide (c = 32) := by
  have e : Str.ofString " " = sO [32] := by decide +kernel
  rw [e, decide_eq_decide]
  constructor
  · intro h
    have := sO_inj (V.str.inj h)
    exact (List.cons.inj this).1
  · intro h
    rw [h]
/-- the codes of a name -/
structure Nk (ks : List Nat) : Prop where
  pos : 1 ≤ ks.length
  le : ks.length ≤ 9
  head : 1 ≤ ks.headD 0 ∧ ks.headD 0 ≤ 26
  all : ∀ k ∈ ks, 1 ≤ k ∧ k ≤ 36
theorem sg_mem {k : Nat} (h : k ≤ 36) : sg k ∈ SGN := by
  rw [SGN_eq]
  exact List.mem_map.mpr ⟨k, List.mem_range.mpr (by omega), rfl⟩
theorem sg_ne {k : Nat} (h : 1 ≤ k) : sg k ≠ 32 := by
  unfold sg
  split
  · omega
  · split <;> omega
theorem sg_inj {a b : Nat} (ha : a ≤ 36) (hb : b ≤ 36) (h : sg a = sg b) : a = b := by
  unfold sg at h
  split at h <;> split at h <;> (try split at h) <;> (try split at h) <;> omega
theorem sg_lt {k : Nat} (h : k ≤ 36) : sg k ∈ LTR ↔ 1 ≤ k ∧ k ≤ 26 := by
  rw [LTR_eq, List.mem_map]
  constructor
  · rintro ⟨j, hj, e⟩
    have hj := List.mem_range.mp hj
    have := sg_inj (by omega) h e
    omega
  · rintro ⟨h1, h2⟩
    exact ⟨k - 1, List.mem_range.mpr (by omega), by rw [Nat.sub_add_cancel h1]⟩
theorem isN_codes {ks : List Nat} (h36 : ∀ k ∈ ks, k ≤ 36) : isN (ks.map sg) = (decide (1 ≤ ks.length) && decide (ks.length ≤ 9) && decide (1 ≤ ks.headD 0 ∧ ks.headD 0 ≤ 26) && ks.all fun k => decide (1 ≤ k)) := by
  unfold isN
  rw [List.length_map]
  have e1 : decide ((ks.map sg).headD 0 ∈ LTR) = decide (1 ≤ ks.headD 0 ∧ ks.headD 0 ≤ 26) := by
    cases ks with
    | nil => decide +kernel
    | cons k r =>
      show decide (sg k ∈ LTR) = decide (1 ≤ k ∧ k ≤ 26)
      rw [decide_eq_decide]
      exact sg_lt (h36 k List.mem_cons_self)
  have e2 : ((ks.map sg).all fun c => decide (c ∈ SGN) && !decide (c = 32)) = ks.all fun k => decide (1 ≤ k) := by
    rw [List.all_map]
    apply Bool.eq_iff_iff.mpr
    rw [List.all_eq_true, List.all_eq_true]
    constructor
    · intro h k hk
      have := h k hk
      apply decide_eq_true
      rcases Nat.eq_zero_or_pos k with z | z
      · subst z
        exact absurd this (by decide +kernel)
      · exact z
    · intro h k hk
      have hk1 : 1 ≤ k := of_decide_eq_true (h k hk)
      show (decide (sg k ∈ SGN) && !decide (sg k = 32)) = true
      rw [decide_eq_true (sg_mem (h36 k hk)), decide_eq_false (sg_ne hk1)]
      rfl
  rw [e1, e2]
theorem isN_of {ks : List Nat} (h : Nk ks) : isN (ks.map sg) = true := by
  rw [isN_codes fun k hk => (h.all k hk).2, decide_eq_true h.pos, decide_eq_true h.le, decide_eq_true h.head]
  rw [List.all_eq_true.mpr fun k hk => decide_eq_true (h.all k hk).1]
  rfl
theorem isN_long {l : List Nat} (h : 10 ≤ l.length) : isN l = false := by
  unfold isN
  rw [decide_eq_false (show ¬ l.length ≤ 9 by omega), Bool.and_false]
  rfl
theorem isN_head {l : List Nat} (h : l.headD 0 ∉ LTR) : isN l = false := by
  unfold isN
  rw [decide_eq_false h, Bool.and_false]
  rfl
theorem isN_mem {l : List Nat} {c : Nat} (h : c ∈ l) (hc : (decide (c ∈ SGN) && !decide (c = 32)) = false) : isN l = false := by
  unfold isN
  rw [show (l.all fun c => decide (c ∈ SGN) && !decide (c = 32)) = false from ?_, Bool.and_false]
  apply Bool.eq_false_iff.mpr
  intro z
  have := List.all_eq_true.mp z c h
  rw [hc] at this
  cases this
/-! words -/
def cds (w : Nat) : List Nat := [w / 1600, w / 40 % 40, w % 40]
def rtrim (ks : List Nat) : List Nat := (ks.reverse.dropWhile (· == 0)).reverse
theorem rtrim_app (l : List Nat) (x : Nat) : rtrim (l ++ [x]) = if x = 0 then rtrim l else l ++ [x] := by
  unfold rtrim
  rw [List.reverse_append]
  show ((x :: l.reverse).dropWhile (· == 0)).reverse = _
  rw [List.dropWhile_cons]
  by_cases h : x = 0
  · rw [if_pos h, if_pos (by rw [h]; rfl)]
  · rw [if_neg h, if_neg (by simpa using h)]
    simp
theorem rtrim_pre (l : List Nat) : rtrim l = l.take (rtrim l).length := by
  have h : l.reverse = l.reverse.takeWhile (· == 0) ++ l.reverse.dropWhile (· == 0) := (List.takeWhile_append_dropWhile).symm
  have h2 : l = rtrim l ++ (l.reverse.takeWhile (· == 0)).reverse := by
    unfold rtrim
    rw [← List.reverse_append, List.takeWhile_append_dropWhile, List.reverse_reverse]
  conv => rhs; arg 2; rw [h2]
  rw [List.take_left]
theorem rtrim_big {l : List Nat} {x : Nat} (h : x ∈ l) (hx : x ≠ 0) : x ∈ rtrim l := by
  have h2 : l = rtrim l ++ (l.reverse.takeWhile (· == 0)).reverse := by
    unfold rtrim
    rw [← List.reverse_append, List.takeWhile_append_dropWhile, List.reverse_reverse]
  rw [h2] at h
  rcases List.mem_append.mp h with h | h
  · exact h
  · have := List.mem_reverse.mp h
    have h3 : ∀ (r : List Nat), x ∈ r.takeWhile (· == 0) → x = 0 := fun r => by
      induction r with
      | nil => intro z; cases z
      | cons y r ih =>
        rw [List.takeWhile_cons]
        split
        · rename_i hy
          intro z
          rcases List.mem_cons.mp z with z | z
          · rw [z]; simpa using hy
          · exact ih z
        · intro z; cases z
    exact absurd (h3 _ this) hx
theorem rtrim_sub {l : List Nat} {x : Nat} (h : x ∈ rtrim l) : x ∈ l := by
  rw [rtrim_pre] at h
  exact List.mem_of_mem_take h
theorem rtrim_len (l : List Nat) : (rtrim l).length ≤ l.length := by
  rw [rtrim_pre, List.length_take]
  omega
theorem rtrim_head {l : List Nat} (h : rtrim l ≠ []) : (rtrim l).headD 0 = l.headD 0 := by
  rw [rtrim_pre] at h ⊢
  cases l with
  | nil => simp at h
  | cons x r =>
    cases e : (rtrim (x :: r)).length with
    | zero => rw [e] at h; exact absurd rfl h
    | succ n => rfl
/-- the program's way -/
def wn (ks : List Nat) : Option (List Nat) := if ks.any (fun k => decide (37 ≤ k)) then none else if isN ((rtrim ks).map sg) then some ((rtrim ks).map sg) else none
/-- the law's way -/
def un (ks : List Nat) : Option (List Nat) := if (rtrim ks).all (fun k => decide (1 ≤ k ∧ k ≤ 36)) && (decide ((rtrim ks).length ≠ 0) && decide (ks.headD 0 ≤ 26)) then some ((rtrim ks).map sg) else none
theorem wn_un (ks : List Nat) (h9 : ks.length ≤ 9) : wn ks = un ks := by
  unfold wn un
  by_cases hb : ks.any (fun k => decide (37 ≤ k)) = true
  · rw [if_pos hb]
    obtain ⟨k, hk, hk2⟩ := List.any_eq_true.mp hb
    have hk3 : 37 ≤ k := of_decide_eq_true hk2
    have : (rtrim ks).all (fun k => decide (1 ≤ k ∧ k ≤ 36)) = false := by
      apply Bool.eq_false_iff.mpr
      intro z
      have := of_decide_eq_true (List.all_eq_true.mp z k (rtrim_big hk (by omega)))
      omega
    rw [this]
    rfl
  · rw [if_neg hb]
    have h36 : ∀ k ∈ ks, k ≤ 36 := fun k hk => by
      apply Decidable.byContradiction
      intro z
      exact hb (List.any_eq_true.mpr ⟨k, hk, decide_eq_true (by omega)⟩)
    have h36' : ∀ k ∈ rtrim ks, k ≤ 36 := fun k hk => h36 k (rtrim_sub hk)
    have hl := rtrim_len ks
    have e : isN ((rtrim ks).map sg) = ((rtrim ks).all (fun k => decide (1 ≤ k ∧ k ≤ 36)) && (decide ((rtrim ks).length ≠ 0) && decide (ks.headD 0 ≤ 26))) := by
      rw [isN_codes h36']
      apply Bool.eq_iff_iff.mpr
      simp only [Bool.and_eq_true, decide_eq_true_eq, List.all_eq_true]
      constructor
      · rintro ⟨⟨⟨h1, _⟩, h3, h4⟩, h5⟩
        have hne : rtrim ks ≠ [] := fun z => by rw [z] at h1; exact absurd h1 (by decide)
        rw [rtrim_head hne] at h3 h4
        exact ⟨fun k hk => ⟨h5 k hk, h36' k hk⟩, by omega, h4⟩
      · rintro ⟨h1, h2, h3⟩
        have hne : rtrim ks ≠ [] := fun z => by rw [z] at h2; exact h2 rfl
        refine ⟨⟨⟨by omega, by omega⟩, ?_⟩, fun k hk => (h1 k hk).1⟩
        have hm : (rtrim ks).headD 0 ∈ rtrim ks := by
          cases hr : rtrim ks with
          | nil => exact absurd hr hne
          | cons x r => exact List.mem_cons_self
        have := h1 _ hm
        rw [rtrim_head hne] at this ⊢
        exact ⟨this.1, h3⟩
    rw [e]
def pad (ks : List Nat) : List Nat := ks ++ List.replicate (9 - ks.length) 0
theorem pad_len {ks : List Nat} (h : ks.length ≤ 9) : (pad ks).length = 9 := by
  unfold pad
  rw [List.length_append, List.length_replicate]
  omega
def pk1 (cs : List Nat) (k : Nat) : Nat := (cs.getD k 0 * 40 + cs.getD (k + 1) 0) * 40 + cs.getD (k + 2) 0
def pk3 (cs : List Nat) : List Nat := [pk1 cs 0, pk1 cs 3, pk1 cs 6]
theorem cds_pk1 {cs : List Nat} {k : Nat} (h : ∀ x ∈ cs, x ≤ 39) : cds (pk1 cs k) = [cs.getD k 0, cs.getD (k + 1) 0, cs.getD (k + 2) 0] := by
  have g : ∀ i, cs.getD i 0 ≤ 39 := fun i => by
    rw [List.getD_eq_getElem?_getD]
    cases e : cs[i]? with
    | none => exact Nat.zero_le _
    | some x => exact h x (List.mem_of_getElem? e)
  have a := g k
  have b := g (k + 1)
  have c := g (k + 2)
  unfold cds pk1
  congr 1
  · omega
  · congr 1
    · omega
    · congr 1
      omega
theorem cds_pk3 {cs : List Nat} (h : ∀ x ∈ cs, x ≤ 39) (h9 : cs.length = 9) : (pk3 cs).flatMap cds = cs := by
  match cs, h9 with
  | [a, b, c, d, e, f, g, i, j], _ =>
    show cds _ ++ (cds _ ++ (cds _ ++ [])) = _
    rw [cds_pk1 h, cds_pk1 h, cds_pk1 h]
    rfl
theorem rtrim_pad {ks : List Nat} (h : Nk ks) : rtrim (pad ks) = ks := by
  unfold pad
  generalize 9 - ks.length = n
  induction n with
  | zero =>
    rw [List.replicate_zero, List.append_nil]
    cases e : ks.reverse with
    | nil =>
      have := congrArg List.reverse e
      rw [List.reverse_reverse] at this
      rw [this]
      rfl
    | cons x r =>
      have e2 : ks = r.reverse ++ [x] := by
        have := congrArg List.reverse e
        rw [List.reverse_reverse, List.reverse_cons] at this
        exact this
      rw [e2, rtrim_app, if_neg]
      have := h.all x (by rw [e2]; simp)
      omega
  | succ n ih =>
    rw [List.replicate_succ', ← List.append_assoc, rtrim_app, if_pos rfl]
    exact ih
theorem pad_le {ks : List Nat} (h : Nk ks) : ∀ x ∈ pad ks, x ≤ 39 := fun x hx => by
  unfold pad at hx
  rcases List.mem_append.mp hx with hx | hx
  · have := h.all x hx
    omega
  · have := List.eq_of_mem_replicate hx
    omega
theorem wn_pad {ks : List Nat} (h : Nk ks) : wn (pad ks) = some (ks.map sg) := by
  unfold wn
  rw [rtrim_pad h, isN_of h, if_neg, if_pos rfl]
  intro z
  obtain ⟨k, hk, hk2⟩ := List.any_eq_true.mp z
  have hk3 : 37 ≤ k := of_decide_eq_true hk2
  unfold pad at hk
  rcases List.mem_append.mp hk with hx | hx
  · have := h.all k hx
    omega
  · have := List.eq_of_mem_replicate hx
    omega
/-- signs found in the tables -/
theorem find_sg : ∀ k : _root_.Fin 37, Txt.find (Str.ofString " abcdefghijklmnopqrstuvwxyz0123456789") (sO [sg k.val]) = (k.val : Int) := by decide +kernel
theorem occ_sg : ∀ k : _root_.Fin 37, occurrences (Str.ofString " abcdefghijklmnopqrstuvwxyz0123456789") (sO [sg k.val]) 0 (Str.ofString " abcdefghijklmnopqrstuvwxyz0123456789").length 1 = [k.val] := by decide +kernel
theorem space_sg : ∀ k : _root_.Fin 37, Unicode.isSpace (sg k.val) = (k.val == 0) := by decide +kernel
theorem rstrip_sg {ks : List Nat} (h : ∀ k ∈ ks, k ≤ 36) : Txt.rstrip (sO (ks.map sg)) = sO ((rtrim ks).map sg) := by
  rw [rstrip_sO]
  unfold rtrim
  rw [← List.map_reverse]
  have e : ∀ r : List Nat, (∀ k ∈ r, k ≤ 36) → (r.map sg).dropWhile Unicode.isSpace = (r.dropWhile (· == 0)).map sg := fun r => by
    induction r with
    | nil => intro _; rfl
    | cons x r ih =>
      intro hr
      rw [List.map_cons, List.dropWhile_cons, List.dropWhile_cons]
      have hx : Unicode.isSpace (sg x) = (x == 0) := space_sg ⟨x, by have := hr x List.mem_cons_self; omega⟩
      rw [hx]
      split
      · exact ih fun k hk => hr k (List.mem_cons_of_mem _ hk)
      · rfl
  rw [e _ fun k hk => h k (List.mem_reverse.mp hk), ← List.map_reverse]
/-! lists of small numbers as they stand in the program -/
def intV (l : List Nat) : List V := l.map fun (n : Nat) => V.int (n : Int)
theorem atI_intV {cs : List Nat} {k : Int} (h0 : 0 ≤ k) (h1 : k < (cs.length : Int)) : atI (intV cs) k = some (.int ((cs.getD k.toNat 0 : Nat) : Int)) := by
  obtain ⟨j, rfl⟩ : ∃ j : Nat, k = (j : Int) := ⟨k.toNat, by omega⟩
  have hj : j < cs.length := by omega
  refine atI_nat ?_
  unfold intV
  rw [List.getElem?_map, List.getElem?_eq_getElem hj, Int.toNat_natCast, List.getD_eq_getElem?_getD, List.getElem?_eq_getElem hj]
  rfl
theorem intV_map {α : Type} (g : α → Nat) (l : List α) : intV (l.map g) = l.map fun x => V.int ((g x : Nat) : Int) := by
  unfold intV
  rw [List.map_map]
  rfl
theorem intV_ints (l : List Nat) : intV l = (l.map fun (n : Nat) => (n : Int)).map V.int := by
  unfold intV
  rw [List.map_map]
  rfl
theorem intV_range (cs : List Nat) : (List.range cs.length).map (fun i => V.int ((cs.getD i 0 : Nat) : Int)) = intV cs := range_getD (fun n : Nat => V.int (n : Int)) 0 cs
theorem ljust_pad {ks : List Nat} (h : ks.length ≤ 9) : Txt.ljust (sO (ks.map sg)) 9 = sO ((pad ks).map sg) := by
  have e := ljust_sO (ks.map sg) 9 (by rw [List.length_map]; exact h)
  rw [List.length_map] at e
  unfold pad
  rw [List.map_append, List.map_replicate]
  exact e
/-! numbers as data -/
def intsD (l : List Nat) : PyData := .tuple ((l.map fun (n : Nat) => (n : Int)).map PyData.int)
theorem lay_ints : ∀ l : List Int, PyData.canLayAll0 (l.map PyData.int) = true
  | [] => rfl
  | _ :: r => lay_ints r
theorem lay_intsD (l : List Nat) : (intsD l).canLay0 = true := lay_ints _
theorem dep_ints : ∀ l : List Int, PyData.depthAll (l.map PyData.int) = 0
  | [] => rfl
  | x :: r => by
    show max 0 (PyData.depthAll (r.map PyData.int)) = 0
    rw [dep_ints r]
    rfl
theorem dep_intsD (l : List Nat) : (intsD l).depth ≤ 1 := by
  show PyData.depthAll _ + 1 ≤ 1
  rw [dep_ints]
  exact Nat.le_refl 1
theorem wd_ints : ∀ l : List Int, wdA (l.map PyData.int) = true
  | [] => rfl
  | _ :: r => wd_ints r
theorem wd_intsD {l : List Nat} (h : l.length ≤ 100000) : wdB (intsD l) = true := by
  show (decide (_ ≤ 100000) && wdA _) = true
  rw [wd_ints, List.length_map, List.length_map, decide_eq_true h]
  rfl
theorem dx_intsD {K : PySem.W.Frag} {H : Hp} {p : Addr} {l : List Nat} (h : H p = some (.tup (intV l))) : Dx K H noS (.ref p) (intsD l) := by
  rw [intV_ints] at h
  exact .tup (XT.of h fun z => z.elim) (dxAll_ints _)
/-! parts of a tuple -/
theorem cutV_lo {xs : List V} (k : Nat) : cutV xs (some (k : Int)) none = xs.drop k := by
  show (xs.drop (HT.sIx xs.length 0 (some (k : Int)))).take (HT.sIx xs.length xs.length none - HT.sIx xs.length 0 (some (k : Int))) = _
  rw [HT.sIx_nat, HT.sIx_none, List.take_of_length_le (by rw [List.length_drop]; omega)]
  by_cases h : k ≤ xs.length
  · rw [Nat.min_eq_left h]
  · rw [Nat.min_eq_right (by omega), List.drop_length, List.drop_of_length_le (by omega)]
theorem cutV_hi {xs : List V} (k : Nat) : cutV xs none (some (k : Int)) = xs.take k := by
  show (xs.drop (HT.sIx xs.length 0 none)).take (HT.sIx xs.length xs.length (some (k : Int)) - HT.sIx xs.length 0 none) = _
  rw [HT.sIx_nat, HT.sIx_none, List.drop_zero, Nat.sub_zero]
  by_cases h : k ≤ xs.length
  · rw [Nat.min_eq_left h]
  · rw [Nat.min_eq_right (by omega), List.take_length, List.take_of_length_le (by omega)]
theorem slA_of {K : PySem.W.Frag} {H : Hp} {a : Addr} {xs : List V} {lo hi : Option Int} {Q : VK} (h : SqT K H a xs) (q : ∀ p H', Same H H' → SqT K H' p (cutV xs lo hi) → Q (.ref p) H') : rSlA K (.ref a) lo hi H Q := by
  refine ⟨a, xs, rfl, h, fun e => q a H (Same.refl _) ?_, fun _ p hp => q p _ (same_new hp) (SqT.of upd_same)⟩
  have : cutV xs lo hi = xs := by
    show (xs.drop (HT.sIx xs.length 0 lo)).take (HT.sIx xs.length xs.length hi - HT.sIx xs.length 0 lo) = _
    rw [e.1, e.2, List.drop_zero, Nat.sub_zero, List.take_length]
  rw [this]
  exact h
end RK

namespace RK
open PySem PySem.Spec PyProof.Rows L2
/-! ### an own error that keeps one thing, and a try whose first clause names it -/
/-- what the first clause wishes: the error is its own -/
def wHit (K : PySem.W.Frag) (c : Value) (i : Nat) (ts : Addr → Value → Option Addr → TS) (D : Ends) : WX := fun cls d σ H => PySem.W.exmOne K cls c = some true ∧
  ∀ a, H a = none → ts a cls d ⟨fun σ' H' => D.nx (σ'.set i none) H', D.rt, fun σ' H' => D.bk (σ'.set i none) H', fun σ' H' => D.ct (σ'.set i none) H'⟩ (σ.set i (some (.ref a))) H
section
variable {X : Cx} {x n : Str} {c : Value} {i : Nat} {body suite : List Stmt} {hds : List ExceptHandler} {b₀ : Stmt} {np pos pos' : Pos} {tb : WX → TS} {ts : Addr → Value → Option Addr → TS} {pins : List (Addr × Obj)}
/-- what the body leaves, seen from outside the try -/
theorem flow_out {D : Ends} {xe : Value → Shared → Prop} (ok : X.Ok) {f : Flow} {s1 : Shared} (h : SP (X.tr (X.pn ++ pins) xe) [] D f s1) : SP X pins D f s1 := by
  cases f with
  | ret u => exact let ⟨v, σ', H', J, r, q⟩ := h; ⟨v, σ', H', J.ofTry ok, r, q⟩
  | next => exact let ⟨σ', H', J, q⟩ := h; ⟨σ', H', J.ofTry ok, q⟩
  | brk => exact let ⟨σ', H', J, q⟩ := h; ⟨σ', H', J.ofTry ok, q⟩
  | cont => exact let ⟨σ', H', J, q⟩ := h; ⟨σ', H', J.ofTry ok, q⟩
/-- an error that flies stands in no frame -/
theorem no_frame {B h : Heap} {l : List Env} {a : Addr} {o : Obj} {vs : Array Value} (ff : h.FunFrames B l) (e : h.get? a = some o) (hd : o.data = .fields vs) : a ∉ frs l := fun hm => by
  obtain ⟨_, o2, e2, no⟩ := ff.mem hm
  have : o2 = o := Option.some.inj (e2.symm.trans e)
  exact no vs (this ▸ hd)
/-- the first clause's test -/
theorem names_it {a : Addr} {o : Obj} {σ : L2.St} {H : Hp} {s : Shared} {Q : Value → Shared → Prop} {E : Value → Shared → Prop} (hc : Names X x c) (S : Inv (X.suite a ((a, o) :: (X.pn ++ pins))) [] σ H s) (q : Q c s) :
    wpAny (model X.prog X.w) (X.A.mark (some (.ref a))) (eval (.Name x np) X.env) Q E s := by
  rcases hc with ⟨hg, hd, h | ⟨h1, h2, h3⟩⟩
  · exact ld_glob (X := Cx.suite X a ((a, o) :: (X.pn ++ pins))) S hg h q hd
  · exact ld_blt (X := Cx.suite X a ((a, o) :: (X.pn ++ pins))) S hg h1 h2 q h3 hd
end

/-! ### an own error class C: __init__(self, f): self.f = f -/
/-- what __init__ does of a fresh error -/
def spKeep (f : Str) (C : Addr) : Sp := fun vs H Q _ => ∃ (a : Addr) (v : V), vs = [.ref a, v] ∧ H a = some (exo a C none) ∧ ∀ dx, H dx = none → dx ≠ a → Q .non (upd (upd H dx (exd dx [(f, v)])) a (exo a C (some dx)))
structure ErrC (K : PySem.W.Frag) (mg : Str → Option Value) (x f : Str) (C fI : Addr) (fd : FuncData) : Prop where
  g : mg x = some (.ref C)
  ox : OexC K C
  no : PySem.W.findIn K (.ref C) f = some none
  iC : PySem.W.findIn K (.ref C) "__init__" = some (some (.ref fI))
  tI : PySem.W.typeIn K (.ref fI) = some (.type "function")
  b : Binds K fd ["self", f] []
  xf : XfC K C
  ex : ExcC K C
  te : PySem.W.exmOne K (.ref C) (.ref C) = some true
section
variable {X : Cx} {x f : Str} {C fI : Addr} {fd : FuncData} {k : Nat} {e : Expr} {es : List Expr} {ta : TA} {p pos : Pos}
/-- C(e), to be raised -/
theorem pmk_err (T : ErrC X.K X.mg x f C fI fd) (F1 : FnOk X.prog X.w X.K X.mg X.base CX0 k fI fd ["self", f] (spKeep f C)) (hr : Room (k + 1) X.A) (ha : PA X (e :: es) ta) (hg : Gl X x := by rfl) (hdb : (x == ("__debug__" : Str)) = false := by decide)
    (he : starEach (e :: es) X.env = (false, eval e X.env) :: starEach es X.env := by rfl) (hpl : (backTo pos (starEach es X.env)).any (·.1) = false := by rfl) : PMk X (.Call (.Name x p) (e :: es) [] pos) (tMkO C (spKeep f C) [] ta) :=
  pmk_oex T.ox T.iC T.tI F1 hr T.b .nil (fun _ _ _ _ _ _ _ z => z.elim) hg T.g ha hdb he hpl
/-- the end of its reading -/
theorem keep_end {H1 : Hp} {v : V} {Q : XK} (q : ∀ d H2, Same H1 H2 → H1 d = none → H2 d = some (.xd [(f, v)]) → Q (.ref C) (some d) H2) : ([v] : List V).length ≤ 1000 ∧ ∀ a, H1 a = none → spKeep f C (.ref a :: ([v] ++ [])) (upd H1 a (exo a C none))
    (fun v H2 => v = .non ∧ ∃ (d : Addr) (fs : List (Str × V)), H2 a = some (exo a C (some d)) ∧ H2 d = some (exd d fs) ∧ H1 d = none ∧ Q (.ref C) (some d) (upd (del H2 a) d (.xd fs))) (fun _ _ _ => False) := by
  refine ⟨by show 1 ≤ 1000; decide, fun a na => ⟨a, v, rfl, upd_same, fun dx nd ne => ⟨rfl, dx, [(f, v)], upd_same, ?_, ?_, ?_⟩⟩⟩
  · rw [upd_ne ne, upd_same]
  · rw [upd_ne ne] at nd
    exact nd
  · rw [upd_ne ne] at nd
    refine q dx _ (fun b o eb => ?_) nd upd_same
    have b1 : b ≠ dx := ne_of_none eb nd
    have b2 : b ≠ a := ne_of_none eb na
    rw [upd_ne b1, del_ne b2, upd_ne b2, upd_ne b1, upd_ne b2]
    exact eb
/-- isinstance(e, c), e the error in hand whose own dict is dd -/
def rIsEx (K : PySem.W.Frag) (D a dd : Addr) : List V → Hp → VK → Prop := fun xs H Q => ∃ (c : V) (cv : Value) (b : Bool) (fs : List (Str × V)), xs = [.ref a, c] ∧ (∀ u, RelV c u → u = cv) ∧ PySem.W.kitOne K (.ref D) cv = some b ∧ H dd = some (.xd fs) ∧ Q (.bl b) H
theorem call_isEx {a D : Addr} {o : Obj} {cls : Value} {d : Option Addr} {ps : List (Addr × Obj)} (T : ExcC X.K D) (hz : Zc cls d o) (hf : ∃ vs, o.data = .fields vs) :
    CallR (X.suite a ((a, o) :: ps)) (.builtin "isinstance") (fun xs H Q => ∃ dd, cls = .ref D ∧ d = some dd ∧ rIsEx X.K D a dd xs H Q) := by
  intro pins s σ H xs us Q I r h
  obtain ⟨dd, rfl, rfl, c, cv, b, fs, rfl, hcv, hk, hd, q⟩ := h
  obtain ⟨u1, u2, rfl, r1, r2⟩ := vals2 r
  obtain rfl := hcv u2 r2
  cases r1
  obtain ⟨ga, _⟩ := I.pin (a, o) (List.mem_append_left _ List.mem_cons_self)
  obtain ⟨vs, ef⟩ := hf
  obtain ⟨mA, hns, _⟩ := (show ObjOk X.prog X.w H s.heap dd (.xd fs) from I.hok dd _ hd)
  obtain ⟨od, ho, _⟩ := lookIn_ns hns
  have J : PySem.W.InstAt s.heap a o D (some od) := ⟨ga, hz.1, by unfold PySem.W.notCls; rw [ef], by rw [hz.2]; exact ho⟩
  have hc : (PySem.W.clsIn X.K D).isSome = true := by
    have := T.hd
    unfold PySem.W.hasDictIn at this
    cases e : PySem.W.clsIn X.K D with
    | none => rw [e] at this; cases this
    | some => rfl
  exact PySem.W.kia_one (PySem.W.kitx_exc hc T.hg T.hk T.hs T.ha T.hn T.ht T.hm) I.kIn J hk (fun z => nomatch z) fun tk => ⟨.bl b, H, I.kept (t' := tk) fun _ _ z => z, rfl, q⟩
end
end RK

namespace RK
open PySem PySem.Spec PyProof.Rows L2 HotX
/-! ### the end of a walk over a list or a tuple while an error is handled -/
section
variable {prog : Program} {w : World} {A : Around} {E : Value → Shared → Prop} {s : Shared}
theorem next_list_hot {it l x1 : Addr} {i : Nat} {items : Array Value} {Q : Option Value → Shared → Prop} (hot : HotAt A x1 s.heap) (ne : x1 ≠ it) (hit : s.heap.IsListIter it l i) (hl : s.heap.IsList l items) (hx : items[i]? = none)
    (hQ : ∀ h', (∀ b o, b ≠ it → s.heap.get? b = some o → h'.get? b = some o) → Q none { s with heap := h' }) : wpAny (model prog w) A (pyNext (.ref it)) Q E s := by
  obtain ⟨hh, o1, vs1, h1, d1, c1⟩ := hot
  obtain ⟨oi, gi, ci, di⟩ := id hit
  obtain ⟨ol, gl, _, nl, dl⟩ := hl
  unfold pyNext
  refine wpAny_bind (wpAny_attempt (wpAny_callSpecial?_slot (name := "__next__") hit.typeIs slot_listiter_next (wpAny_call_entry slot_listiter_next hit.typeIs entry_listiter_next ?_ (args_listiter_next _))))
  refine wpAny_bind (m := field (.ref it) 0) (wpAny_field gi di (x := .ref l) rfl ?_)
  refine (if_neg (Bool.false_ne_true : ¬ ((Value.ref l == Value.none) = true))).symm ▸ ?_
  refine wpAny_bind (m := field (.ref it) 1) (wpAny_field gi di (x := .int i 0) rfl (wpAny_bind (m := seqItems? (.ref l)) (wpAny_seqItems gl dl ?_)))
  simp only [Int.toNat_natCast, hx]
  refine wpAny_bind (wpAny_rule (wpAny_bind (wpAny_setField gi di (by simp) (wpAny_bind (m := newExc (.type "StopIteration") []) ?_))))
  simp only [newExc, newTuple]
  refine wpAny_bind (wpAny_newObj_type (wpAny_bind (m := firstArgMember _ _) (wpAny_of_eq (a := Value.none) (by first | rfl | (simp only [firstArgMember]; rfl)) (wpAny_newObj_type ?_ (by size_fits)))) (by size_fits))
  have k0 : ∀ b o, b ≠ it → s.heap.get? b = some o → (s.heap.update it (Obj.mapFields (·.setIfInBounds 0 Value.none))).get? b = some o := fun b o n e => by
    rw [Heap.get?_update_other _ _ (Ne.symm n)]; exact e
  have u1 := Heap.get?_push_of_some { cls := .type "tuple", data := .seq #[] } (k0 _ _ ne h1)
  refine raiseNew_hot ⟨hh, o1, vs1, Heap.get?_push_of_some _ u1, d1, c1⟩ (Nat.ne_of_lt (Heap.lt_size u1)) (Heap.get?_push_size _ rfl) rfl (by first | (simp; done) | (simp; omega)) (wpAny_bind (wpAny_isInstance (T := "StopIteration") (b := true) ⟨_, Heap.get?_update_self _ (Heap.get?_push_size _ rfl) rfl, rfl⟩ isSubtype_stop (wpAny_pure (hQ _ fun b o n e => ?_))))
  have u2 := Heap.get?_push_of_some { cls := .type "tuple", data := .seq #[] } (k0 _ _ n e)
  rw [Heap.get?_update_other _ _ (Nat.ne_of_gt (Heap.lt_size u2))]; exact Heap.get?_push_of_some _ u2
theorem next_tuple_hot {it l x1 : Addr} {i : Nat} {items : Array Value} {Q : Option Value → Shared → Prop} (hot : HotAt A x1 s.heap) (ne : x1 ≠ it) (hit : s.heap.IsTupleIter it l i) (hl : s.heap.IsTuple l items) (hx : items[i]? = none)
    (hQ : ∀ h', (∀ b o, b ≠ it → s.heap.get? b = some o → h'.get? b = some o) → Q none { s with heap := h' }) : wpAny (model prog w) A (pyNext (.ref it)) Q E s := by
  obtain ⟨hh, o1, vs1, h1, d1, c1⟩ := hot
  obtain ⟨oi, gi, ci, di⟩ := id hit
  obtain ⟨ol, gl, _, nl, dl⟩ := hl
  unfold pyNext
  refine wpAny_bind (wpAny_attempt (wpAny_callSpecial?_slot (name := "__next__") hit.typeIs F.slot_tuple_iterator_next (wpAny_call_entry F.slot_tuple_iterator_next hit.typeIs F.entry_tuple_iterator_next ?_ (F.args_tuple_iterator_next_1 _))))
  refine wpAny_bind (m := field (.ref it) 0) (wpAny_field gi di (x := .ref l) rfl ?_)
  refine (if_neg (Bool.false_ne_true : ¬ ((Value.ref l == Value.none) = true))).symm ▸ ?_
  refine wpAny_bind (m := field (.ref it) 1) (wpAny_field gi di (x := .int i 0) rfl (wpAny_bind (m := seqItems? (.ref l)) (wpAny_seqItems gl dl ?_)))
  simp only [Int.toNat_natCast, hx]
  refine wpAny_bind (wpAny_rule (wpAny_bind (wpAny_setField gi di (by simp) (wpAny_bind (m := newExc (.type "StopIteration") []) ?_))))
  simp only [newExc, newTuple]
  refine wpAny_bind (wpAny_newObj_type (wpAny_bind (m := firstArgMember _ _) (wpAny_of_eq (a := Value.none) (by first | rfl | (simp only [firstArgMember]; rfl)) (wpAny_newObj_type ?_ (by size_fits)))) (by size_fits))
  have k0 : ∀ b o, b ≠ it → s.heap.get? b = some o → (s.heap.update it (Obj.mapFields (·.setIfInBounds 0 Value.none))).get? b = some o := fun b o n e => by
    rw [Heap.get?_update_other _ _ (Ne.symm n)]; exact e
  have u1 := Heap.get?_push_of_some { cls := .type "tuple", data := .seq #[] } (k0 _ _ ne h1)
  refine raiseNew_hot ⟨hh, o1, vs1, Heap.get?_push_of_some _ u1, d1, c1⟩ (Nat.ne_of_lt (Heap.lt_size u1)) (Heap.get?_push_size _ rfl) rfl (by first | (simp; done) | (simp; omega)) (wpAny_bind (wpAny_isInstance (T := "StopIteration") (b := true) ⟨_, Heap.get?_update_self _ (Heap.get?_push_size _ rfl) rfl, rfl⟩ isSubtype_stop (wpAny_pure (hQ _ fun b o n e => ?_))))
  have u2 := Heap.get?_push_of_some { cls := .type "tuple", data := .seq #[] } (k0 _ _ n e)
  rw [Heap.get?_update_other _ _ (Nat.ne_of_gt (Heap.lt_size u2))]; exact Heap.get?_push_of_some _ u2
end
/-! ### walks over lists and tuples there -/
section
variable {P : Program} {w : World} {K : PySem.W.Frag} {tg : Expr} (a it : Addr)
theorem turn_listH : L2H.TurnH P w K tg (Itl K a) [it] it (fun i h => h.IsListIter it a i) := by
  have T : Turn P w K tg (Itl K a) [it] it (fun i h => h.IsListIter it a i) := turn_list a it
  refine ⟨T.mem, T.obj, T.keep, ?_, ?_, T.self⟩
  · rintro X rfl rfl rfl - i pins s σ H E I hf st ⟨xs, x, hq, hx⟩
    obtain ⟨its, rv, pl, _⟩ := I.list hq
    obtain ⟨u, hu, ru⟩ := rv.get hx
    obtain ⟨g0, g1, g2, g3, g4, g5⟩ := hf it T.mem
    refine wpAny_pyNext_list_item st pl.isList (x := u) (by simpa using hu) fun h2 st2 sb => ⟨u, rfl, ?_⟩
    obtain ⟨o, eo, co, dd⟩ := id st2
    refine go_of (s := { s with heap := h2 }) eo co dd (by decide) ⟨x, H, I.turned (t' := s.toks) (fun b ob hb e => (sb.2 b hb).trans e) g0 g1 g3 g4 g5, ru, ⟨rfl, fun ys hy => ?_⟩, st2, fun b hb => (hf b hb).1⟩
    rw [I.list_inj hy hq, hx]
  · rintro X rfl rfl rfl hc i pins s σ H E I hf st ⟨xs, hq, hx⟩
    obtain ⟨its, rv, pl, _⟩ := I.list hq
    obtain ⟨g0, g1, g2, g3, g4, g5⟩ := hf it T.mem
    obtain ⟨p, ⟨hh, vs1, d1, c1⟩, hp⟩ := hc
    have P1 := I.pin p (List.mem_append_left _ hp)
    have hl := rv.length
    exact next_list_hot ⟨hh, p.2, vs1, P1.1, d1, c1⟩ (g5 p (List.mem_append_left _ hp)) st pl.isList (by simp; omega) fun h2 eb => ⟨rfl, I.turned (t' := s.toks) (fun b ob hb e => eb b ob hb e) g0 g1 g3 g4 g5⟩
theorem turn_tupleH : L2H.TurnH P w K tg (Itt K a) [it] it (fun i h => h.IsTupleIter it a i) := by
  have T : Turn P w K tg (Itt K a) [it] it (fun i h => h.IsTupleIter it a i) := turn_tuple a it
  refine ⟨T.mem, T.obj, T.keep, ?_, ?_, T.self⟩
  · rintro X rfl rfl rfl - i pins s σ H E I hf st ⟨xs, x, hq, hx⟩
    obtain ⟨its, rv, pl, _⟩ := I.tuple hq
    obtain ⟨u, hu, ru⟩ := rv.get hx
    obtain ⟨g0, g1, g2, g3, g4, g5⟩ := hf it T.mem
    refine wpAny_pyNext_tuple_item st (show s.heap.IsTuple a its.toArray from pl) (x := u) (by simpa using hu) fun h2 st2 sb => ⟨u, rfl, ?_⟩
    obtain ⟨o, eo, co, dd⟩ := id st2
    refine go_of (s := { s with heap := h2 }) eo co dd (by decide) ⟨x, H, I.turned (t' := s.toks) (fun b ob hb e => (sb.2 b hb).trans e) g0 g1 g3 g4 g5, ru, ⟨rfl, fun ys hy => ?_⟩, st2, fun b hb => (hf b hb).1⟩
    rw [I.tuple_inj hy hq, hx]
  · rintro X rfl rfl rfl hc i pins s σ H E I hf st ⟨xs, hq, hx⟩
    obtain ⟨its, rv, pl, _⟩ := I.tuple hq
    obtain ⟨g0, g1, g2, g3, g4, g5⟩ := hf it T.mem
    obtain ⟨p, ⟨hh, vs1, d1, c1⟩, hp⟩ := hc
    have P1 := I.pin p (List.mem_append_left _ hp)
    have hl := rv.length
    exact next_tuple_hot ⟨hh, p.2, vs1, P1.1, d1, c1⟩ (g5 p (List.mem_append_left _ hp)) st (show s.heap.IsTuple a its.toArray from pl) (by simp; omega) fun h2 eb => ⟨rfl, I.turned (t' := s.toks) (fun b ob hb e => eb b ob hb e) g0 g1 g3 g4 g5⟩
end
section
variable {X : Cx} {tg l : Expr} {tl : TE}
theorem pi_listH (hl : PE X l tl) : L2H.PIH X tg l (iList X.K tl) := by
  refine ⟨fun pins s σ H R I h => thn (hl.run pins s σ H _ I h) fun v s1 ⟨x, H1, I1, r1, a, ex, ⟨xs, hq⟩, q⟩ => ?_⟩
  subst ex; cases r1
  obtain ⟨its, rv, pl, _⟩ := I1.list hq
  refine wpAny_pyIter_list pl.isList ⟨s1.heap.objs.size, [s1.heap.objs.size], _, _, H1, rfl, I1.kept (t' := s1.toks) fun b o e => Heap.get?_push_of_some _ e, turn_listH a _, ⟨_, Heap.get?_push_size _ rfl, rfl, rfl⟩, fun b hb => ?_, q⟩
  rw [List.mem_singleton.mp hb]
  exact I1.fpOk (Nat.le_refl _) (I1.hok.fresh (Nat.le_refl _))
theorem pi_tupH (hl : PE X l tl) : L2H.PIH X tg l (iTup X.K tl) := by
  refine ⟨fun pins s σ H R I h => thn (hl.run pins s σ H _ I h) fun v s1 ⟨x, H1, I1, r1, a, ex, ⟨xs, hq⟩, q⟩ => ?_⟩
  subst ex; cases r1
  obtain ⟨its, rv, pl, _⟩ := I1.tuple hq
  refine wpAny_pyIter_tuple (show s1.heap.IsTuple a its.toArray from pl) ⟨s1.heap.objs.size, [s1.heap.objs.size], _, _, H1, rfl, I1.kept (t' := s1.toks) fun b o e => Heap.get?_push_of_some _ e, turn_tupleH a _, ⟨_, Heap.get?_push_size _ rfl, rfl, rfl⟩, fun b hb => ?_, q⟩
  rw [List.mem_singleton.mp hb]
  exact I1.fpOk (Nat.le_refl _) (I1.hok.fresh (Nat.le_refl _))
theorem PIH_or {w1 w2 : TI} (h1 : L2H.PIH X tg l w1) (h2 : L2H.PIH X tg l w2) : L2H.PIH X tg l (fun σ H R => w1 σ H R ∨ w2 σ H R) :=
  ⟨fun pins s σ H R I h => h.elim (h1.run pins s σ H R I) (h2.run pins s σ H R I)⟩
end
/-! ### list comprehensions there: the block keeps the error that is handled among its pins -/
abbrev blkH (X : Cx) (s : Shared) (H : Hp) (scope : Scope) (ce : Env) (fp : List Addr) (p : Addr × Obj) : Cx := { X.blk s H scope ce fp with pn := [p] }
section
variable {X : Cx} {pins : List (Addr × Obj)} {s : Shared} {σ : L2.St} {H : Hp} {Q : VK} {elt tg iter : Expr} {ifs : List Expr} {scope : Scope} {own : List (Str × Nat)} {pos pos2 : Pos} {wi : TI} {g : TG} {tt : TT} {te : TE}
theorem okH {s3 : Shared} {ce : Env} {fp : List Addr} {p : Addr × Obj} (nc : X.calm = false) (ok : (X.blk s3 H scope ce fp).Ok) : (blkH X s3 H scope ce fp p).Ok :=
  ⟨ok.mod, ok.kind, ok.glob, ok.blt, ok.above, ok.inj, ok.has, ok.cab, fun z => absurd (nc.symm.trans z) Bool.false_ne_true, ok.frames, ok.stk, ok.exf, ok.bs, ok.bsz, ok.noex, ok.exfs, ok.funs, ok.frf⟩
theorem comp_hot {Qf : Value → Shared → Prop} (nc : X.calm = false) {p : Addr × Obj} (hot : L2H.Hot1 X.A p) (hp : p ∈ X.pn) (hN : X.N.Nodup) (I : Inv X pins σ H s) (hi : L2H.PIH X tg iter wi) (ok : BlkOk X.N X.env.scope scope own)
    (hg : ∀ s H C cl fp, PG (blkH X s H scope (compEnvC scope cl C X.env) fp p) tg g) (ht : ∀ s H C cl fp, PTs (blkH X s H scope (compEnvC scope cl C X.env) fp p) ifs tt)
    (he : ∀ s H C cl fp, PE (blkH X s H scope (compEnvC scope cl C X.env) fp p) elt te) (hs : ∀ x, foldedSetIterable iter X.env x = pure x) (h : tLc wi g tt te (own.map (·.2)) σ H Q)
    (hR : ∀ D C s' m H', Inv X pins σ H' s' → Q (.ref D) H' → s'.heap.Ns C m → FpOk X pins H' C → compPost (model X.prog X.w) X.A X.xe none Qf (.ref D) C (.ok .next) s') :
    wpAny (model X.prog X.w) X.A (comprehension (.ListComp elt [⟨tg, iter, ifs, 0⟩] scope pos) scope X.env pos2 (newList []) false (eval iter X.env) none) Qf X.xe s := by
  have free : ∀ y ∈ scope.names, y.2 = .free → ∃ c, X.env.cells.lookup y.1 = some c := fun y hy e => I.ok.has _ (ok.free y hy e)
  refine wpAny_comprehension_free (use := none) rfl hs (closure_ok free) ok.kind (fun y hy e => (ok.uniq y hy).trans (congrArg some e)) (thn (hi.run pins s σ H _ I h) fun _ t1 hx => thn hx fun _ t2 ⟨it, fp, tn, J, H2, ei, I2, T, st2, f2, q⟩ => ?_)
  subst ei
  refine wpAny_newObj_type (newEnv_comp ?_) (Nat.zero_le _)
  have nD : H2 t2.heap.objs.size = none := I2.hok.fresh (Nat.le_refl _)
  obtain ⟨W, ⟨m0, w0⟩, turn⟩ := q _ nD
  generalize eD : t2.heap.objs.size = D at nD w0 turn ⊢
  generalize e3 : ({ t2 with heap := t2.heap.push { cls := .type "list", data := .seq ([] : List Value).toArray } } : Shared) = t3
  have hp3 : t3.heap = t2.heap.push { cls := .type "list", data := .seq ([] : List Value).toArray } := by rw [← e3]
  have I3 : Inv X pins σ (upd H2 D (.lst [])) t3 := by
    rw [← e3]
    exact I2.laid (t' := t2.toks) (fun b o e => Heap.get?_push_of_some _ e) (Nat.le_of_eq eD) ⟨Nat.zero_le _, [], 0, .nil, by rw [← eD]; exact Heap.get?_push_size _ rfl⟩
  have f3 : ∀ b ∈ fp, FpOk X pins (upd H2 D (.lst [])) b ∧ b < t3.heap.objs.size := fun b hb => by
    obtain ⟨o, eo, _⟩ := T.obj _ _ st2 b hb
    have lt : b < D := by rw [← eD]; exact Heap.lt_size eo
    exact ⟨⟨(upd_ne (Nat.ne_of_lt lt)).trans (f2 b hb).1, (f2 b hb).2⟩, by rw [hp3, Heap.size_push, eD]; exact Nat.lt_succ_of_lt lt⟩
  have I4 := block_start I3 ok hN f3
  have P3 := I3.pin p (List.mem_append_left _ hp)
  have pS : p.1 ∉ frs X.stack := fun hm => (List.mem_cons.mp (I3.stkSub p.1 hm)).elim P3.2.2.1 P3.2.2.2.1
  have pg := hg t3 (upd H2 D (.lst [])) t3.heap.objs.size (cellsFrom (t3.heap.objs.size + 1) scope.names (cloFrom X.env.cells scope.names [])) fp
  have pt := ht t3 (upd H2 D (.lst [])) t3.heap.objs.size (cellsFrom (t3.heap.objs.size + 1) scope.names (cloFrom X.env.cells scope.names [])) fp
  have pe := he t3 (upd H2 D (.lst [])) t3.heap.objs.size (cellsFrom (t3.heap.objs.size + 1) scope.names (cloFrom X.env.cells scope.names [])) fp
  show codeAny _ _ (.compStart _ 0 (.ref it) (.ref D) (compEnvC scope (cellsFrom (t3.heap.objs.size + 1) scope.names (cloFrom X.env.cells scope.names [])) t3.heap.objs.size X.env)) (compPost _ X.A X.xe none Qf (.ref D) t3.heap.objs.size) { t3 with heap := pushCells (t3.heap.push { cls := .type "dict", data := .dict #[] }) scope.names }
  have nfp : ∀ b ∈ fp, (upd H2 D (.lst [])) b = none := fun b hb => (f3 b hb).1.1
  generalize hce : compEnvC scope (cellsFrom (t3.heap.objs.size + 1) scope.names (cloFrom X.env.cells scope.names [])) t3.heap.objs.size X.env = ce at I4 pg pt pe ⊢
  have cL : ce.locals = t3.heap.objs.size := by rw [← hce]; rfl
  generalize hH3 : upd H2 D (.lst []) = H3 at I3 I4 P3 pg pt pe w0 nfp f3
  generalize hs4 : ({ t3 with heap := pushCells (t3.heap.push { cls := .type "dict", data := .dict #[] }) scope.names } : Shared) = t4 at I4 ⊢
  have k4 : ∀ b o, t3.heap.get? b = some o → t4.heap.get? b = some o := fun b o e => by rw [← hs4]; exact pushCells_keeps _ _ _ _ (Heap.get?_push_of_some _ e)
  have k3 : ∀ b o, t2.heap.get? b = some o → t4.heap.get? b = some o := fun b o e => k4 b o (by rw [hp3]; exact Heap.get?_push_of_some _ e)
  have st4 : tn 0 t4.heap := T.keep _ _ _ st2 fun b _ o e => k3 b o e
  have J4 : Inv (blkH X t3 H3 scope ce fp p) [] (wipe σ (own.map (·.2))) H3 t4 := ⟨okH nc I4.ok, I4.os, I4.bare, I4.base, I4.loc, I4.cell, I4.free, I4.freeC, fun r hr => by
    have er : r = p := by simpa using hr
    subst er
    exact ⟨k4 _ _ P3.1, P3.2.1, by rw [show (blkH X t3 H3 scope ce fp r).env.locals = t3.heap.objs.size from cL]; exact Nat.ne_of_lt (Heap.lt_size P3.1), pS, P3.2.2.2.2⟩, I4.hok, I4.len⟩
  have hc : L2H.HotC (blkH X t3 H3 scope ce fp p) := ⟨p, hot, List.mem_cons_self⟩
  have stat : ∀ {σ' : L2.St} {H' : Hp} {s' : Shared}, Inv (blkH X t3 H3 scope ce fp p) [] σ' H' s' → (∀ b ∈ fp, H' b = none) → ∀ b ∈ fp, FpOk (blkH X t3 H3 scope ce fp p) [] H' b := fun I' hn b hb =>
    ⟨hn b hb, (I'.ok.exf b hb).1, I'.ok.exfs b hb, .inl hb, (I'.ok.exf b hb).2, fun r hr => by
      have er : r = p := by simpa using hr
      rw [er]
      exact (f2 b hb).2.2.2.2.2 p (List.mem_append_left _ hp)⟩
  have loop : codeAny (model X.prog X.w) X.A (.compLoop (.ListComp elt [⟨tg, iter, ifs, 0⟩] scope pos) 0 (.ref it) (.ref D) ce) (compPost (model X.prog X.w) X.A X.xe none Qf (.ref D) t3.heap.objs.size) t4 := by
    refine compLoop_any (fun n s' => ∃ i H', Inv (blkH X t3 H3 scope ce fp p) [] (wipe σ (own.map (·.2))) H' s' ∧ tn i s'.heap ∧ (∀ b ∈ fp, H' b = none) ∧ W i n H') (fun n t5 ⟨i, H5, I5, st5, n5, w5⟩ => ?_) m0 ⟨0, H3, J4, st4, nfp, w0⟩
    rcases turn i n H5 w5 with ⟨stop, qq⟩ | ⟨go, Nx, hNx, step⟩
    · refine thnF (T.done (blkH X t3 H3 scope ce fp p) rfl rfl rfl hc i [] t5 _ H5 (fun _ _ => False) I5 (stat I5 n5) st5 stop) fun r t6 ⟨er, I6⟩ => ?_
      subst er
      have I7 : Inv X pins σ H5 t6 := I3.call' (ch := fp) I6.os I6.base I6.hok I6.bare fun b hb => ⟨(f3 b hb).1.2.2.2.1, (f3 b hb).1.2.1, (f3 b hb).1.2.2.2.2.1, (f3 b hb).1.2.2.2.2.2⟩
      have nC : H5 t3.heap.objs.size = none := cL ▸ (I6.free : H5 ce.locals = none)
      obtain ⟨m, hn, _⟩ := I6.loc
      exact hR D _ t6 m H5 I7 qq (cL ▸ (hn : t6.heap.Ns ce.locals m)) (I3.fpOk (Nat.le_refl _) nC)
    · refine thnF (T.item (blkH X t3 H3 scope ce fp p) rfl rfl rfl hc i [] t5 _ H5 (fun _ _ => False) I5 (stat I5 n5) st5 go) fun r t6 ⟨u, er, h6⟩ => ?_
      subst er
      refine thnF h6 fun _ t7 ⟨x, H7, I7, r7, y7, st7, n7⟩ => thnF (pg.run _ t7 _ H7 x u _ (I7.pinned (stat I7 n7) (T.obj _ _ st7)) r7 (step x H7 y7)) fun _ t8 ⟨σ8, H8, I8, hw8, q8⟩ => thnF (pt.run _ t8 σ8 H8 _ I8 q8) fun b t9 ⟨H9, I9, q9⟩ => ?_
      have back : ∀ {s' : Shared} {H' : Hp}, Inv (blkH X t3 H3 scope ce fp p) ([] ++ pinsAt fp t7.heap) σ8 H' s' → Nx H' → ∃ m, m < n ∧ ∃ i H', Inv (blkH X t3 H3 scope ce fp p) [] (wipe σ (own.map (·.2))) H' s' ∧ tn i s'.heap ∧ (∀ b ∈ fp, H' b = none) ∧ W i m H' := fun {s' H'} I' nx => by
        obtain ⟨m', lt, w'⟩ := hNx H' nx
        have at_ : ∀ b ∈ fp, ∀ o, t7.heap.get? b = some o → s'.heap.get? b = some o ∧ H' b = none := fun b hb o e => ⟨(I'.pin (b, o) (.tail _ (mem_pinsAt hb e))).1, (I'.pin (b, o) (.tail _ (mem_pinsAt hb e))).2.1⟩
        refine ⟨m', lt, i + 1, H', (I'.unpinned (pins := [])).weak (by rw [← hw8, wipe_length]) (fun j v e => (wipe_some (hw8 ▸ e)).1), T.keep _ _ _ st7 fun b hb o e => (at_ b hb o e).1, fun b hb => ?_, w'⟩
        exact let ⟨o, e, _⟩ := T.obj _ _ st7 b hb; (at_ b hb o e).2
      cases b with
      | false => exact back I9 q9
      | true => exact thnF (pe.run _ t9 σ8 H9 _ I9 q9) fun z t10 ⟨yv, H10, I10, r10, acc, d10, z10, nx⟩ => app_ok (X := blkH X t3 H3 scope ce fp p) I10 d10 z10 r10 fun t11 I11 => back I11 nx
  exact codeAny_compStart_list loop (T.self X.A 0 _ _ _ st4 loop)
theorem pe_lcH (nc : X.calm = false) {p : Addr × Obj} (hot : L2H.Hot1 X.A p) (hp : p ∈ X.pn) (hN : X.N.Nodup) (hi : L2H.PIH X tg iter wi) (ok : BlkOk X.N X.env.scope scope own)
    (hg : ∀ s H C cl fp, PG (blkH X s H scope (compEnvC scope cl C X.env) fp p) tg g) (ht : ∀ s H C cl fp, PTs (blkH X s H scope (compEnvC scope cl C X.env) fp p) ifs tt)
    (he : ∀ s H C cl fp, PE (blkH X s H scope (compEnvC scope cl C X.env) fp p) elt te) (hs : ∀ x, foldedSetIterable iter X.env x = pure x := by intro _; rfl) : PE X (.ListComp elt [⟨tg, iter, ifs, 0⟩] scope pos) (tLc wi g tt te (own.map (·.2))) := by
  refine ⟨fun pins s σ H Q I h => ?_⟩
  rw [eval_ListComp]
  exact comp_hot nc hot hp hN I hi ok hg ht he hs h fun D C s2 m H2 I2 q hn f => ⟨m, hn, fun h2 sb => ⟨.ref D, H2, I2.turned (t' := s2.toks) (fun b o hb e => (sb.2 b hb).trans e) f.1 f.2.1 f.2.2.2.1 f.2.2.2.2.1 f.2.2.2.2.2, rfl, q⟩⟩
end
/-! ### errors raised where nothing is handled, their context None -/
section
variable {X : Cx} {x f : Str} {C fI : Addr} {fd : FuncData} {k : Nat} {e : Expr} {ta : TA} {p pos : Pos}
theorem pmk_errN (T : ErrC X.K X.mg x f C fI fd) (F1 : FnOk X.prog X.w X.K X.mg X.base CX0 k fI fd ["self", f] (spKeep f C)) (hr : Room (k + 1) X.A) (ha : PA X [e] ta) (hg : Gl X x := by rfl) (hdb : (x == ("__debug__" : Str)) = false := by decide)
    (he : starEach [e] X.env = (false, eval e X.env) :: starEach [] X.env := by rfl) (hpl : (backTo pos (starEach [] X.env)).any (·.1) = false := by rfl) : L2N.PMk X (.Call (.Name x p) [e] [] pos) (tMkO C (spKeep f C) [] ta) := by
  intro pins s σ H Q I h
  obtain ⟨nm, q, N, bs, bm, sn, sub, ab, col, dd, k0, k1, k2, k3, k5, lkC, vbm⟩ := T.ox.cls
  refine wpAny_Call_Name_kw (ld_glob I hg T.g (PySem.W.callWith_K (h₀ := X.base) I.ok.mod.kin T.ox.kC (thn (ha.run pos pins s σ H _ I h) fun us s1 ⟨vs, H1, I1, r1, lv, q1⟩ => ⟨I1.kIn, ?_⟩) he hpl) hdb)
  obtain ⟨hp, g, dr, tk, os⟩ := s1
  generalize ea : hp.objs.size + 1 = a
  have ge : hp.objs.size ≤ a := by omega
  have hq := q1 a (I1.hok.fresh ge)
  have kk : ∀ b o, hp.get? b = some o → ((hp.push (PySem.W.kdv_tup us)).push (PySem.HandSPX.excO C hp.objs.size)).get? b = some o := fun b o z => Heap.get?_push_of_some _ (Heap.get?_push_of_some _ z)
  have ga : ((hp.push (PySem.W.kdv_tup us)).push (PySem.HandSPX.excO C hp.objs.size)).get? a = some (PySem.HandSPX.excO C hp.objs.size) := by rw [← ea]; heap_get
  have I2 : Inv X pins σ (upd H1 a (exo a C none)) ⟨(hp.push (PySem.W.kdv_tup us)).push (PySem.HandSPX.excO C hp.objs.size), g, dr, tk, os⟩ := I1.laid (t' := tk) (o := exo a C none) kk ge (exo_ok ga)
  have r2 : Vals (V.ref a :: (vs ++ [])) (Value.ref a :: (us ++ [])) := .cons rfl (r1.append .nil)
  have lu : us.length ≤ sizeLine := by
    have := Paired.length r1; have : (1000 : Nat) ≤ sizeLine := by decide
    omega
  have ll : (Value.ref a :: us ++ []).length = (["self", f] : List Str).length := (r2.length).symm.trans (F1.len _ _ _ _ hq)
  have bb := T.b ⟨(hp.push (PySem.W.kdv_tup us)).push (PySem.HandSPX.excO C hp.objs.size), g, dr, tk, os⟩ (Value.ref a :: us) I2.kIn ll
  subst ea
  refine wpAny_call (PySem.HandSPX.call_own F.excBase_ValueError (fun Y => PySem.HandSPX.refsVE_contains Y bm vbm) (I1.kIn _ _ lkC) (PySem.W.looks_findIn I1.kIn T.iC) (fun self => PySem.W.bind_fn I1.kIn self T.tI) lu
    (codeAny_mono (F1.run _ X.stack _ _ ⟨Value.ref _ :: us, []⟩ _ _ _ (fun _ _ _ => False) (hr.make C us []) (I2.env0.make C us []) bb r2 hq) fun r s2 z => ?_))
  match r, z with
  | .error _, z => exact False.elim z
  | .ok .next, z => exact False.elim z
  | .ok .brk, z => exact False.elim z
  | .ok .cont, z => exact False.elim z
  | .ok (.ret u), ⟨v, H2, os2, bare2, un2, hok2, rv, ev, d, fs, e1, e2, e3, q2⟩ =>
    subst ev
    obtain ⟨h2, g2, d2, t2, os3⟩ := s2
    obtain ⟨t0, G, J, kG, gn, go, na⟩ := mk_end0 (d2 := d2) (t2 := t2) I1 ge kk un2 hok2 os2 bare2 e1 e2 e3
    exact ⟨rv, _, _, _, ⟨G, g2, d2, t2, os3⟩, _, .ref C, some d, rfl, J, kG, gn, go, ⟨rfl, rfl, fun vs z => by cases z; rfl⟩, rfl, rfl, na, rfl, bare2, raises_own T.ox.exC T.ox.tyC, q2⟩
/-- a def that may raise so -/
theorem Fun.okN {P : Program} {w : World} {K : PySem.W.Frag} {mg : Str → Option Value} {base : Heap} {x qual : Str} {st : Stmt} {f : Addr} {fd : FuncData} {N ps : List Str} {k : Nat} {sp : Sp} (F : Fun K x qual st f fd) (S : FnScope N ps (defScope st))
    (len : ∀ vs H Q E, sp vs H Q E → vs.length = ps.length) (body : ∀ (cdv : Value) (A : Around) (outer : List Env) (s : Shared) (H : Hp) (vs : List V) (Q : VK) (E : XK), Room k (A.deeper (envOfC qual (defScope st) s.heap.objs.size f cdv)) → sp vs H Q E →
      ∃ t, PSs (cxOf (L2N.CX P w) P w K mg base N qual (defScope st) f cdv A outer s H E) (defBody st) t ∧ t { nx := fun _ H' => Q .non H', rt := Q } (start N vs) H) : FnOk P w K mg base (L2N.CX P w) (k + 1) f fd ps sp := by
  obtain ⟨oc, od, kV, doc, pm, an, cdv, ct, osl, rfl, lk, hcd⟩ := F.ex
  exact fn_of lk hcd S len fun A outer s H vs Q E hr z => body cdv A outer s H vs Q E hr z
/-- a def called while an error is handled -/
theorem Fun.okH {P : Program} {w : World} {K : PySem.W.Frag} {mg : Str → Option Value} {base : Heap} {x qual : Str} {st : Stmt} {f : Addr} {fd : FuncData} {N ps : List Str} {k : Nat} {sp : Sp} (F : Fun K x qual st f fd) (S : FnScope N ps (defScope st))
    (len : ∀ vs H Q E, sp vs H Q E → vs.length = ps.length) (body : ∀ (cdv : Value) (A : Around) (outer : List Env) (s : Shared) (H : Hp) (vs : List V) (Q : VK) (E : XK) (p : Addr × Obj), L2H.Hot1 A p → L2H.RoomH k (A.deeper (envOfC qual (defScope st) s.heap.objs.size f cdv)) → sp vs H Q E →
      ∃ t, PSs (L2H.cxH CX0 P w K mg base N qual (defScope st) f cdv A outer s H E p).nox (defBody st) t ∧ t { nx := fun _ H' => Q .non H', rt := Q } (start N vs) H) : L2H.FnH P w K mg base CX0 (k + 1) f fd ps sp := by
  obtain ⟨oc, od, kV, doc, pm, an, cdv, ct, osl, rfl, lk, hcd⟩ := F.ex
  refine L2H.fn_ofH lk hcd S len fun A outer s H vs Q E p hot hr z => ?_
  obtain ⟨t, h1, h2⟩ := body cdv A outer s H vs Q E p hot hr z
  exact ⟨t, h1.nox, h2⟩
end
section
variable {X : Cx} {x n : Str} {c : Value} {i : Nat} {body suite : List Stmt} {hds : List ExceptHandler} {b₀ : Stmt} {np pos pos' : Pos} {tb : WX → TS} {ts : Addr → Value → Option Addr → TS} {pins : List (Addr × Obj)}
theorem ps_try_hitN (st : X.stack = X.env :: X.outer) (fr : X.env.frame = some X.env.locals) (ndN : X.N.Nodup) (ni : X.N[i]? = some n) (nl : X.env.kindOf n = some .local) (nc : Names X x c)
    (hB : ∀ (W : WX) (ps : List (Addr × Obj)) (xe : Value → Shared → Prop), L2N.Takes (X.tr ps xe) W → PassesOwn (model X.prog X.w) X.A X.env xe → PSs (X.tr ps xe) body (tb W))
    (hS : ∀ (a : Addr) (o : Obj) (cls : Value) (d : Option Addr) (ps : List (Addr × Obj)), L2N.Zn cls d o → (∃ vs, o.data = .fields vs) → PSs (X.suite a ((a, o) :: ps)) (b₀ :: suite) (ts a cls d)) :
    PS X (.Try body (.ExceptHandler (some (.Name x np)) (some n) (b₀ :: suite) pos' :: hds) [] [] pos) (fun D σ H => tb (wHit X.K c i ts D) D σ H) := by
  refine ⟨fun pins s σ H D I h => wpAny_Try_except ?_⟩
  have fr2 : X.A.frames = some (X.env :: X.outer) := I.ok.frames.trans (congrArg some st)
  refine wpAny_mono ((hB _ (X.pn ++ pins) (fun e s₁ => wpAny (model X.prog X.w) X.A (noteFrame e X.env) (fun _ s₂ => wpAny (model X.prog X.w) X.A (setFlight e none) (fun _ s₃ => wpAny (model X.prog X.w) X.A
    (handleBy e X.env (.ExceptHandler (some (.Name x np)) (some n) (b₀ :: suite) pos' :: hds)) (SP X pins D) X.xe s₃) X.xe s₂) X.xe s₁) (fun u t xx => ?_) PassesOwn.looking).run [] s σ H D (I.toTry _) h) (fun f t q => ?_) (fun _ _ z => z)
  case refine_2 =>
    have q' := flow_out (pins := pins) I.ok q
    cases f with
    | next => exact wpAny_execs_nil q'
    | _ => exact q'
  obtain ⟨a, B, t0, ps, σ1, H1, cls, d, eu, J0, nB, u1, sk, na, eo, bare, hit, go⟩ := xx
  subst eu
  have J := J0.ofTry I.ok
  rw [show (X.tr (X.pn ++ pins) _).stack = X.env :: X.outer from st] at sk
  refine L2N.Sky.land L2N.Zn.steady fr2 fr sk fun h3 f3 u3 => ?_
  have J3 : Inv X pins σ1 H1 { t with heap := h3 } := J.landed nB f3.1 (u1.trans u3) eo bare
  obtain ⟨o3, v3, g3, z3, d3⟩ := f3.there
  have out := no_frame f3.2.2.1 g3 d3
  have aL : a ≠ X.env.locals := fun e => out (List.mem_filterMap.mpr ⟨X.env, .head _, by rw [e]; exact fr⟩)
  have aF : a ∉ X.fs := fun m => out (by rw [show frs (X.env :: X.outer) = X.env.locals :: frs X.outer from List.filterMap_cons_some fr]; exact .tail _ m)
  refine wpAny_handleBy_cons (codeAny_handlers_test (names_it nc (J3.suite g3 d3 na aL aF) ?_)) (by intro z; cases z)
  refine (PySem.W.exm_one (M := model X.prog X.w) J3.kIn (fun _ _ _ _ k z => wpAny_typeOf_ref (k _ _ g3) (by rw [z3.1]; exact z)) hit).here ?_
  refine codeAny_handlers_suite_as (HandSPX.lands_againZ f3 fun h4 f4 u4 => ?_)
  have J4 : Inv X pins σ1 H1 { t with heap := h4 } := J.landed nB f4.1 ((u1.trans u3).trans u4) eo bare
  obtain ⟨o4, v4, g4, z4, d4⟩ := f4.there
  refine store_ok (X := Cx.suite X a ((a, o4) :: (X.pn ++ pins))) (v := .ref a) (J4.suite g4 d4 na aL aF) ndN ni (.inl nl) rfl (fun t5 S5 => ?_) (.inr nl)
  refine wpAny_mono ((hS a o4 cls d (X.pn ++ pins) z4 ⟨_, d4⟩).run [] t5 _ H1 _ S5 (go a na)) (fun f t6 q => ?_) (fun _ _ z => z.elim)
  cases f with
  | ret u => exact let ⟨v6, σ6, H6, S6, r6, q6⟩ := q; gone_ok (S6.unsuite I.ok) ndN ni nl fun t7 J7 => ⟨v6, _, H6, J7, r6, q6⟩
  | next => exact let ⟨σ6, H6, S6, q6⟩ := q; gone_ok (S6.unsuite I.ok) ndN ni nl fun t7 J7 => ⟨_, H6, J7, q6⟩
  | brk => exact let ⟨σ6, H6, S6, q6⟩ := q; gone_ok (S6.unsuite I.ok) ndN ni nl fun t7 J7 => ⟨_, H6, J7, q6⟩
  | cont => exact let ⟨σ6, H6, S6, q6⟩ := q; gone_ok (S6.unsuite I.ok) ndN ni nl fun t7 J7 => ⟨_, H6, J7, q6⟩
/-- the suite's context bears the error -/
theorem hot_suite {a : Addr} {o : Obj} {cls : Value} {d : Option Addr} {ps : List (Addr × Obj)} (z : L2N.Zn cls d o) (h : ∃ vs, o.data = .fields vs) : L2H.HotC (X.suite a ((a, o) :: ps)) :=
  let ⟨vs, e⟩ := h
  ⟨(a, o), ⟨rfl, vs, e, z.2.2 vs e⟩, List.mem_cons_self⟩
theorem passN : Passes (L2N.CX X.prog X.w) X E0 := fun _ _ _ _ _ _ _ h => let ⟨_, _, _, _, _, _, _, _, _, _, _, _, z⟩ := h; z.elim
/-- nothing leaves a suite -/
theorem pass_at0 {σ : L2.St} : PassesAt CX0 X σ (fun _ _ _ => False) := fun _ _ _ _ _ _ h => h.elim
end
theorem unitsH {k : Nat} {A : Around} (r : L2H.RoomH k A) : A.units + 64 < cLine := by
  have := r.un
  omega
end RK

namespace RK
open PySem PySem.Spec PyProof.Rows L2 PySem.Builtin.Str
/-! ### {n:04x} of a word -/
def hx (k : Nat) : Nat := if k < 10 then 48 + k else 87 + k
def hexd (n : Nat) : List Nat := [hx (n / 4096), hx (n / 256 % 16), hx (n / 16 % 16), hx (n % 16)]
theorem hx_char : ∀ k : _root_.Fin 16, (Nat.digitChar k.val).toNat = hx k.val := by decide +kernel
theorem tod16 {n : Nat} (h : n < 65536) : (Nat.toDigits 16 n).length ≤ 4 ∧ List.replicate (4 - (Nat.toDigits 16 n).length) 48 ++ (Nat.toDigits 16 n).map Char.toNat = hexd n := by
  have hc : ∀ k, k < 16 → (Nat.digitChar k).toNat = hx k := fun k hk => hx_char ⟨k, hk⟩
  have z : hx 0 = 48 := rfl
  have base : ∀ k, k < 16 → Nat.toDigits 16 k = [Nat.digitChar k] := fun k hk => Nat.toDigits_of_lt_base hk
  have step : ∀ k, 16 ≤ k → Nat.toDigits 16 k = Nat.toDigits 16 (k / 16) ++ [Nat.digitChar (k % 16)] := fun k hk => Nat.toDigits_of_base_le (by decide) hk
  unfold hexd
  by_cases h1 : n < 16
  · rw [base n h1, show n / 4096 = 0 by omega, show n / 256 % 16 = 0 by omega, show n / 16 % 16 = 0 by omega, show n % 16 = n by omega]
    refine ⟨show 1 ≤ 4 by decide, ?_⟩
    show List.replicate 3 48 ++ [(Nat.digitChar n).toNat] = _
    rw [hc n h1]
    rfl
  rw [step n (by omega)]
  by_cases h2 : n / 16 < 16
  · rw [base (n / 16) h2, show n / 4096 = 0 by omega, show n / 256 % 16 = 0 by omega, show n / 16 % 16 = n / 16 by omega]
    refine ⟨show 2 ≤ 4 by decide, ?_⟩
    show List.replicate 2 48 ++ [(Nat.digitChar (n / 16)).toNat, (Nat.digitChar (n % 16)).toNat] = _
    rw [hc _ h2, hc _ (Nat.mod_lt _ (by decide))]
    rfl
  rw [step (n / 16) (by omega)]
  by_cases h3 : n / 16 / 16 < 16
  · rw [base (n / 16 / 16) h3, show n / 4096 = 0 by omega, show n / 256 % 16 = n / 16 / 16 by omega]
    refine ⟨show 3 ≤ 4 by decide, ?_⟩
    show List.replicate 1 48 ++ [(Nat.digitChar (n / 16 / 16)).toNat, (Nat.digitChar (n / 16 % 16)).toNat, (Nat.digitChar (n % 16)).toNat] = _
    rw [hc _ h3, hc _ (Nat.mod_lt _ (by decide)), hc _ (Nat.mod_lt _ (by decide))]
    rfl
  rw [step (n / 16 / 16) (by omega), base (n / 16 / 16 / 16) (by omega), show n / 4096 = n / 16 / 16 / 16 by omega, show n / 256 = n / 16 / 16 by omega]
  refine ⟨show 4 ≤ 4 by decide, ?_⟩
  show List.replicate 0 48 ++ [(Nat.digitChar (n / 16 / 16 / 16)).toNat, (Nat.digitChar (n / 16 / 16 % 16)).toNat, (Nat.digitChar (n / 16 % 16)).toNat, (Nat.digitChar (n % 16)).toNat] = _
  rw [hc _ (by omega), hc _ (Nat.mod_lt _ (by decide)), hc _ (Nat.mod_lt _ (by decide)), hc _ (Nat.mod_lt _ (by decide))]
  rfl
section
variable {X : Cx}
open Builtin PySem.W Builtin.Float
abbrev sp4 : Str := ⟨#[48, 52, 120]⟩
theorem ret_text2 {M : Model} {A : Around} {E : Value → Shared → Prop} {s : Shared} {X T : PySem.Str} {Q : Fin → Shared → Prop} (e : X = T) (hL : T.length ≤ sizeLine) (h : ∀ t k, Q (.done (.ret (.str T t))) { s with toks := k }) : wpAny M A (retStr X) Q E s := by
  subst e
  exact KXf.ret_text rfl hL h
def f4 : Builtin.Float.FormatSpec := { fill := 48, align := 61, width := some 4, type := some 120 }
theorem fmt4_meets {n : Nat} (h : n < 65536) (t u : Tok) : Meets («int.__format__» ⟨[.int (n : Int) t, .str sp4 u], []⟩) (fun _ R s => ∀ t' k, R (.ok (.ret (.str (sO (hexd n)) t'))) { s with toks := k }) := by
  apply KPc.meets_of
  intro prog w A s Q E hq
  unfold Builtin.«int.__format__»
  refine wpAny_bind (wpAny_of_eq (a := (_, _)) rfl ?_)
  refine wpAny_bind (wpAny_of_eq (a := _) rfl ?_)
  refine wpAny_ite (KPc.ite_no Bool.false_ne_true ?_)
  refine wpAny_bind (wpAny_typeNameOf (T := "str") (typeIs_str _ _ _) (by decide) fun _ => ?_)
  refine wpAny_bind (wpAny_of_eq (a := some _) rfl ?_)
  refine wpAny_ite (KPc.ite_no (by decide) ?_)
  refine wpAny_ite (KPc.ite_no (by decide) ?_)
  refine wpAny_bind (wpAny_typeNameOfCut_int ?_)
  have hp : parseFormatSpec sp4.cps.toList "int" 62 = .ok f4 := rfl
  have hty : f4.type.getD (if (sp4.cps.back? == some 0) = true then 0 else 100) = 120 := rfl
  have h1 : f4.precision = none := rfl
  have h2 : f4.noNeg0 = false := rfl
  have h3 : f4.alt = false := rfl
  have h4 : f4.width = some 4 := rfl
  have h5 : f4.grouping = none := rfl
  have h6 : f4.sign = none := rfl
  have h7 : f4.fill = 48 := rfl
  have h8 : f4.align = 61 := rfl
  obtain ⟨f, hf⟩ : ∃ f, f = f4 := ⟨_, rfl⟩
  rw [← hf] at hp hty h1 h2 h3 h4
  simp only [hp, hty]
  rw [if_pos (by decide)]
  show wpAny _ _ (if _ then _ else _) _ _ _
  rw [if_neg (by simp [h1])]
  show wpAny _ _ (if _ then _ else _) _ _ _
  rw [if_neg (by simp [h2])]
  show wpAny _ _ (if _ then _ else _) _ _ _
  rw [if_neg (by decide)]
  show wpAny _ _ (if _ then _ else _) _ _ _
  rw [if_neg (by decide)]
  show wpAny _ _ (if _ then _ else _) _ _ _
  rw [if_neg (by simp [h4])]
  refine ret_text2 (T := sO (hexd n)) ?_ ?_ hq
  case refine_1 =>
    obtain ⟨hl, ht⟩ := tod16 h
    simp only [h3, Bool.false_eq_true, if_false, Int.natAbs_natCast, decide_eq_false (by omega : ¬ (n : Int) < 0), show ((120 : Nat) == 88) = false by decide, show ((16 : Nat) == 10) = false by decide]
    generalize Nat.toDigits 16 n = ds at hl ht
    subst hf
    conv => lhs; whnf
    simp only [h4, h5, h6, h7, h8, List.length_nil, Bool.false_eq_true, if_false, beq_self_eq_true, Bool.and_self, if_true]
    have e4 : ((4 : Nat) : Int) - (((0 : Nat) : Int) + ((0 : Nat) : Int) + ((0 : Nat) : Int)) = 4 := by decide
    rw [e4]
    clear h1 h2 h3 h4 h5 h6 h7 h8 hty hp hq
    cases ds with
    | nil =>
      show _ = sO (hexd n)
      rw [← ht]
      rfl
    | cons c r =>
      have hm : ((c :: r).map Char.toNat).length = (c :: r).length := List.length_map ..
      show (⟨(([] ++ [] ++ [] ++ List.replicate (4 - ((List.replicate (4 - ((c :: r).map Char.toNat).length) 48 ++ (c :: r).map Char.toNat).length : Int)).toNat 48 ++ (List.replicate (4 - ((c :: r).map Char.toNat).length) 48 ++ (c :: r).map Char.toNat)) ++ [] ++ []).toArray⟩ : Str) = _
      rw [hm, ht]
      rfl
  case refine_2 => exact Nat.le_trans (show 4 ≤ 100 by decide) (by decide)
/-- {e:04x} of a word -/
def tF4 (te : TE) : TE := fun σ H Q => te σ H fun x H1 => ∃ n : Nat, x = .int (n : Int) ∧ n < 65536 ∧ Q (.str (sO (hexd n))) H1
theorem pe_fmt4 {e spec : Expr} {te : TE} {pos : Pos} (he : PE X e te) (hs : PE X spec (tC (.str (Str.ofString "04x")))) : PE X (.FormattedValue e (-1) (some spec) pos) (tF4 te) := by
  refine ⟨fun pins s σ H Q I h => ?_⟩
  refine wpAny_FormattedValue_spec (thn (he.run pins s σ H _ I h) fun v s1 ⟨x, H1, I1, r1, q⟩ => ?_)
  obtain ⟨n, rfl, hn, q⟩ := q
  obtain ⟨t, rfl⟩ := r1
  refine thn (hs.run pins s1 σ H1 (fun x H2 => x = .str (Str.ofString "04x") ∧ Q (.str (sO (hexd n))) H2) I1 ⟨rfl, q⟩) fun u s2 ⟨y, H2, I2, r2, ey, q2⟩ => ?_
  subst ey
  obtain ⟨t2, rfl⟩ := r2
  refine ⟨_, _, rfl, KXf.field_int (spec' := sp4) (by decide +kernel) rfl (by decide) (fun u => fmt4_meets hn _ u) fun t' k => ⟨.str _, H2, I2.tok _, ⟨_, rfl⟩, q2⟩⟩
end
/-! digits -/
abbrev HXD : List Nat := (Str.ofString "0123456789abcdef").cps.toList
/-- a digit's value -/
def dv (c : Nat) : Nat := if c ≤ 57 then c - 48 else c - 87
theorem HXD_eq : HXD = (List.range 16).map hx := by decide +kernel
theorem hx_mem {k : Nat} (h : k < 16) : hx k ∈ HXD := by
  rw [HXD_eq]
  exact List.mem_map.mpr ⟨k, List.mem_range.mpr h, rfl⟩
theorem hxd_of {c : Nat} (h : c ∈ HXD) : ∃ k, k < 16 ∧ c = hx k := by
  rw [HXD_eq] at h
  obtain ⟨k, h1, h2⟩ := List.mem_map.mp h
  exact ⟨k, List.mem_range.mp h1, h2.symm⟩
theorem hx_dv : ∀ k : _root_.Fin 16, dv (hx k.val) = k.val := by decide +kernel
theorem hx_find : ∀ k : _root_.Fin 16, Txt.find (Str.ofString "0123456789abcdef") (sO [hx k.val]) = (k.val : Int) := by decide +kernel
theorem hx_occ : ∀ k : _root_.Fin 16, occurrences (Str.ofString "0123456789abcdef") (sO [hx k.val]) 0 (Str.ofString "0123456789abcdef").length 1 = [k.val] := by decide +kernel
theorem hx_at : ∀ k : _root_.Fin 16, (Str.ofString "0123456789abcdef").cps.toList[k.val]? = some (hx k.val) := by decide +kernel
theorem find_dv {c : Nat} (h : c ∈ HXD) : Txt.find (Str.ofString "0123456789abcdef") (sO [c]) = (dv c : Int) := by
  obtain ⟨k, hk, rfl⟩ := hxd_of h
  rw [hx_find ⟨k, hk⟩, hx_dv ⟨k, hk⟩]
theorem occ_dv {c : Nat} (h : c ∈ HXD) : occurrences (Str.ofString "0123456789abcdef") (sO [c]) 0 (Str.ofString "0123456789abcdef").length 1 = [dv c] := by
  obtain ⟨k, hk, rfl⟩ := hxd_of h
  rw [hx_occ ⟨k, hk⟩, hx_dv ⟨k, hk⟩]
/-- the first place that is no digit | the length, if it is no multiple of four -/
def fbad (l : List Nat) : Option Nat := match l.findIdx? (fun c => !decide (c ∈ HXD)) with
  | some i => some i
  | none => if l.length % 4 = 0 then none else some l.length
theorem fbad_at {l : List Nat} {i : Nat} (hi : i < l.length) (h : l.getD i 0 ∉ HXD) (hp : ∀ j, j < i → l.getD j 0 ∈ HXD) : fbad l = some i := by
  have e : l.findIdx? (fun c => !decide (c ∈ HXD)) = some i := by
    rw [List.findIdx?_eq_some_iff_getElem]
    refine ⟨hi, ?_, fun j hj => ?_⟩
    · rw [List.getD_eq_getElem?_getD, List.getElem?_eq_getElem hi] at h
      have h2 : l[i] ∉ HXD := h
      rw [decide_eq_false h2]
      rfl
    · have := hp j hj
      rw [List.getD_eq_getElem?_getD, List.getElem?_eq_getElem (by omega)] at this
      have h2 : l[j] ∈ HXD := this
      rw [decide_eq_true h2]
      decide
  unfold fbad
  rw [e]
theorem fbad_all {l : List Nat} (h : ∀ j, j < l.length → l.getD j 0 ∈ HXD) : fbad l = if l.length % 4 = 0 then none else some l.length := by
  have e : l.findIdx? (fun c => !decide (c ∈ HXD)) = none := by
    rw [List.findIdx?_eq_none_iff]
    intro c hc
    obtain ⟨j, hj, rfl⟩ := List.mem_iff_getElem.mp hc
    have := h j hj
    rw [List.getD_eq_getElem?_getD, List.getElem?_eq_getElem hj] at this
    have h2 : l[j] ∈ HXD := this
    rw [decide_eq_true h2]
    rfl
  unfold fbad
  rw [e]
theorem fbad_none {l : List Nat} (h : fbad l = none) : (∀ c ∈ l, c ∈ HXD) ∧ l.length % 4 = 0 := by
  unfold fbad at h
  cases e : l.findIdx? (fun c => !decide (c ∈ HXD)) with
  | some i => rw [e] at h; cases h
  | none =>
    rw [e] at h
    have h2 : (if l.length % 4 = 0 then none else some l.length) = none := h
    refine ⟨fun c hc => ?_, ?_⟩
    · have := List.findIdx?_eq_none_iff.mp e c hc
      apply Decidable.byContradiction
      intro z
      rw [decide_eq_false z] at this
      cases this
    · apply Decidable.byContradiction
      intro z
      rw [if_neg z] at h2
      cases h2
def val4 (l : List Nat) : Nat := l.foldl (fun a c => a * 16 + dv c) 0
theorem val4_app (l : List Nat) (c : Nat) : val4 (l ++ [c]) = val4 l * 16 + dv c := by
  unfold val4
  rw [List.foldl_append]
  rfl
/-- the words of a text of digits -/
def rdw (l : List Nat) : List Nat := (List.range (l.length / 4)).map fun k => val4 ((l.drop (4 * k)).take 4)
theorem val4_hexd {w : Nat} (h : w ≤ 65535) : val4 (hexd w) = w := by
  have e : ∀ k, k < 16 → dv (hx k) = k := fun k hk => hx_dv ⟨k, hk⟩
  show (((0 * 16 + dv (hx (w / 4096))) * 16 + dv (hx (w / 256 % 16))) * 16 + dv (hx (w / 16 % 16))) * 16 + dv (hx (w % 16)) = w
  rw [e _ (by omega), e _ (by omega), e _ (by omega), e _ (by omega)]
  omega
theorem flat_hexd (ws : List Nat) : (ws.flatMap hexd).length = 4 * ws.length := by
  induction ws with
  | nil => rfl
  | cons x r ih =>
    rw [List.flatMap_cons, List.length_append, ih, List.length_cons]
    show 4 + _ = _
    omega
theorem rdw_flat {ws : List Nat} (h : ∀ w ∈ ws, w ≤ 65535) : rdw (ws.flatMap hexd) = ws := by
  unfold rdw
  rw [flat_hexd, show 4 * ws.length / 4 = ws.length by omega]
  apply List.ext_getElem?
  intro i
  by_cases hi : i < ws.length
  · rw [List.getElem?_map, List.getElem?_range hi]
    have e : ∀ (ws : List Nat) (i : Nat), i < ws.length → ((ws.flatMap hexd).drop (4 * i)).take 4 = hexd (ws.getD i 0) := fun ws => by
      induction ws with
      | nil => intro i hi; exact absurd hi (Nat.not_lt_zero _)
      | cons x r ih =>
        intro i hi
        cases i with
        | zero => rfl
        | succ i =>
          rw [List.flatMap_cons, show 4 * (i + 1) = 4 * i + 4 by omega]
          have := ih i (by simpa using hi)
          show ((hexd x ++ _).drop (4 * i + 4)).take 4 = _
          rw [show 4 * i + 4 = (hexd x).length + 4 * i from by show _ = 4 + 4 * i; omega, List.drop_length_add_append]
          exact this
    show some (val4 _) = _
    rw [e ws i hi, List.getD_eq_getElem?_getD, List.getElem?_eq_getElem hi]
    exact congrArg some (val4_hexd (h _ (List.getElem_mem hi)))
  · rw [List.getElem?_eq_none (by simp; omega), List.getElem?_eq_none (by omega)]
theorem fbad_flat {ws : List Nat} (hw : ∀ w ∈ ws, w ≤ 65535) : fbad (ws.flatMap hexd) = none := by
  have hm : ∀ c ∈ ws.flatMap hexd, c ∈ HXD := fun c hc => by
    obtain ⟨w, h1, h⟩ := List.mem_flatMap.mp hc
    have := hw w h1
    unfold hexd at h
    rcases List.mem_cons.mp h with z | h
    · rw [z]; exact hx_mem (by omega)
    rcases List.mem_cons.mp h with z | h
    · rw [z]; exact hx_mem (by omega)
    rcases List.mem_cons.mp h with z | h
    · rw [z]; exact hx_mem (by omega)
    rw [List.mem_singleton.mp h]
    exact hx_mem (by omega)
  rw [fbad_all fun j hj => by rw [List.getD_eq_getElem?_getD, List.getElem?_eq_getElem hj]; exact hm _ (List.getElem_mem hj), flat_hexd, if_pos (by omega)]
theorem cut_mid (l : List Nat) (a b : Nat) (h : a ≤ b) : cutS (sO l) (some (a : Int)) (some (b : Int)) = sO ((l.drop a).take (b - a)) := by
  show (⟨((l.drop (HT.sIx l.length 0 (some (a : Int)))).take (HT.sIx l.length l.length (some (b : Int)) - HT.sIx l.length 0 (some (a : Int)))).toArray⟩ : Str) = _
  rw [HT.sIx_nat, HT.sIx_nat]
  have e : (l.drop (min a l.length)).take (min b l.length - min a l.length) = (l.drop a).take (b - a) := by
    by_cases h1 : a ≤ l.length
    · rw [Nat.min_eq_left h1]
      by_cases h2 : b ≤ l.length
      · rw [Nat.min_eq_left h2]
      · rw [Nat.min_eq_right (by omega), List.take_of_length_le (by rw [List.length_drop]; omega), List.take_of_length_le (by rw [List.length_drop]; omega)]
    · have h3 : min a l.length = l.length := by omega
      rw [h3, List.drop_length, List.drop_of_length_le (by omega)]
      simp
  rw [e]
  rfl
end RK

namespace RK
open PySem PySem.Spec PyProof.Rows L2 PySem.Builtin.Str
/-! ### enumerate(text) -/
def Itse (x : Str) : It := ⟨fun i _ => i < x.cps.size, fun i H v H' => ∃ T c, v = .ref T ∧ H T = none ∧ H' = upd H T (.tup [.int (i : Nat), .str ⟨#[c]⟩]) ∧ x.cps[i]? = some c, fun i _ => x.cps.size ≤ i⟩
theorem draws_str {prog : Program} {w : World} {A : Around} (hh : A.handled = none) (it : Addr) (x : Str) (t : Tok) :
    Draws prog w A it [it] x.cps.size (fun i v => ∃ c u, x.cps[i]? = some c ∧ v = .str ⟨#[c]⟩ u) (fun i h => h.IsStrIter it (strIterType x) x t i) := by
  unfold strIterType
  cases x.cps.all (· < 128)
  · exact Draws.strWide hh it x t
  · exact Draws.strAscii hh it x t
theorem turn_enumS {P : Program} {w : World} {K : PySem.W.Frag} {elts : List Expr} {kk : Nat} {tpos : Pos} (x : Str) (t : Tok) (e it : Addr) :
    Turn P w K (.Tuple elts kk tpos) (Itse x) [e, it] e (fun i h => (∃ old, IsEnum h e it ((i : Nat) : Int) old) ∧ h.IsStrIter it (strIterType x) x t i ∧ e ≠ it ∧ i ≤ x.cps.size) where
  mem := by simp
  obj := fun i h st b hb => by
    obtain ⟨⟨old, he⟩, ⟨o, ho, hc, hd⟩, _⟩ := st
    have e' : b = e ∨ b = it := by simpa using hb
    rcases e' with z | z
    · rw [z]; exact ⟨_, he, fun v q => nomatch q⟩
    · rw [z]; exact ⟨o, ho, fun v q => by rw [hd] at q; cases q⟩
  keep := fun i h h' st k => let ⟨⟨old, he⟩, ⟨o, ho, r⟩, hne, hle⟩ := st; ⟨⟨old, k e (by simp) _ he⟩, ⟨o, k it (by simp) o ho, r⟩, hne, hle⟩
  item := by
    intro X hP hw hK hc i pins s σ H E I hf st hg
    subst hP hw hK
    obtain ⟨⟨old, he⟩, hit, hne, hle⟩ := st
    have hel : e < s.heap.objs.size := Heap.lt_size he
    have hil : it < s.heap.objs.size := by obtain ⟨_, q, _⟩ := hit; exact Heap.lt_size q
    have D := draws_str (A := X.A.in1) (prog := X.prog) (w := X.w) (show X.A.in1.handled = none from I.ok.hd hc) it x t
    refine wpAny_pyNext_enum_itemD D he hit hg hne (by simpa using hne) fun u h' tk hu ho hit' hT hsz hk => ?_
    obtain ⟨c, tc, hcx, rfl⟩ := hu
    refine ⟨_, rfl, wpAny_letOwnedTupleGo_enum (s := { s with heap := h', toks := tk + 1 }) ho fun h'' he' sb => ?_⟩
    have hT2 : h''.get? s.heap.objs.size = some { cls := .type "tuple", data := .seq #[.int i tk, .str ⟨#[c]⟩ tc] } := (sb.2 _ (Nat.ne_of_gt hel)).trans hT
    have new : ObjOk X.prog X.w (upd H s.heap.objs.size (.tup [.int (i : Nat), .str ⟨#[c]⟩])) h'' s.heap.objs.size (.tup [.int (i : Nat), .str ⟨#[c]⟩]) :=
      ⟨by show 2 ≤ sizeLine; decide, [.int i tk, .str ⟨#[c]⟩ tc], .cons ⟨_, rfl⟩ (.cons ⟨_, rfl⟩ .nil), ⟨_, hT2, rfl, _, rfl⟩⟩
    have I1 : Inv X pins σ (upd H s.heap.objs.size (.tup [.int (i : Nat), .str ⟨#[c]⟩])) { s with heap := h'', toks := tk + 1 } :=
      I.turnedNew (ch := [e, it]) (fun b ob hb q => (sb.2 b (fun z => hb (by simp [z]))).trans (hk b ob (fun z => hb (by simp [z])) (fun z => hb (by simp [z])) q)) hf (Nat.le_refl _) new
    refine ⟨.ref s.heap.objs.size, _, I1, rfl, ⟨_, c, rfl, I.hok.fresh (Nat.le_refl _), rfl, hcx⟩, ⟨⟨.str ⟨#[c]⟩ tc, ?_⟩, ?_, hne, hg⟩, fun b hb => ?_⟩
    · have e1 : ((i + 1 : Nat) : Int) = (i : Int) + 1 := by omega
      rw [e1]; exact he'
    · obtain ⟨o, ho2, r⟩ := hit'
      exact ⟨o, (sb.2 it (Ne.symm hne)).trans ho2, r⟩
    · have hb' : b < s.heap.objs.size := by
        have e' : b = e ∨ b = it := by simpa using hb
        rcases e' with z | z
        · rw [z]; exact hel
        · rw [z]; exact hil
      rw [upd_ne (Nat.ne_of_lt hb')]
      exact (hf b hb).1
  done := by
    intro X hP hw hK hc i pins s σ H E I hf st hg
    subst hP hw hK
    obtain ⟨⟨old, he⟩, hit, hne, hle⟩ := st
    obtain ⟨f0, f1, f2, f3, f4, f5⟩ := hf it (by simp)
    have ei : i = x.cps.size := Nat.le_antisymm hle hg
    have D := draws_str (A := X.A.in1) (prog := X.prog) (w := X.w) (show X.A.in1.handled = none from I.ok.hd hc) it x t
    subst ei
    exact wpAny_pyNext_enum_endD D he hit fun h' eb => ⟨rfl, I.turned (t' := s.toks) (fun b o hb q => eb b o hb q) f0 f1 f3 f4 f5⟩
  self := fun A i s Q E st h => let ⟨⟨_, he⟩, _⟩ := st; wpAny_pyIter_enum he h
/-- the text at each turn, each sign in a new pair -/
def iEnS (ta : TA) : TI := fun σ H R => ta σ H fun vs H1 => ∃ x, vs = [.str x] ∧ R (Itse x) H1
theorem pi_enumS {X : Cx} {e : Expr} {ta : TA} {p pos tpos : Pos} {elts : List Expr} {kk : Nat} (hg : Gl X "enumerate") (hm : X.mg "enumerate" = none) (ha : PA X [e] ta) (hs : starEach [e] X.env = [(false, eval e X.env)] := by rfl) :
    PI X (.Tuple elts kk tpos) (.Call (.Name "enumerate" p) [e] [] pos) (iEnS ta) := by
  refine ⟨fun pins s σ H R I h => ?_⟩
  refine Call_ (ld_blt I hg hm boot_enumerate (PyProof.Rows.callWith_type1 (thn (ha.run pos pins s σ H _ I h) fun us s1 ⟨vs, H1, I1, r1, q1⟩ => ?_) hs rfl))
  obtain ⟨x, ex, q⟩ := q1
  subst ex
  cases r1 with
  | cons r rr =>
    cases rr
    obtain ⟨t, rfl⟩ := r
    refine call_enumerate_str fun h' he hit hsz hk => wpAny_pyIter_enum he ?_
    have I2 : Inv X pins σ H1 { s1 with heap := h' } := I1.kept (t' := s1.toks) hk
    refine ⟨s1.heap.objs.size + 1, [s1.heap.objs.size + 1, s1.heap.objs.size], _, _, H1, rfl, I2, turn_enumS x t (s1.heap.objs.size + 1) s1.heap.objs.size, ⟨⟨.none, he⟩, hit, Nat.succ_ne_self _, Nat.zero_le _⟩, fun b hb => ?_, q⟩
    have e' : b = s1.heap.objs.size + 1 ∨ b = s1.heap.objs.size := by simpa using hb
    have hge : s1.heap.objs.size ≤ b := by
      rcases e' with z | z
      · rw [z]; omega
      · rw [z]; omega
    exact I1.fpOk hge (I1.hok.fresh hge)
theorem walk_enumS {x : Str} : Walk (Itse x) x.cps.size (fun _ => True) (fun i H v H' => ∃ T c, v = .ref T ∧ H T = none ∧ H' = upd H T (.tup [.int (i : Nat), .str ⟨#[c]⟩]) ∧ x.cps[i]? = some c) :=
  ⟨fun i H hi _ => hi, fun H _ => Nat.le_refl _, fun i H v H' _ _ y => y⟩
theorem rg4 {n : Nat} (h : n ≤ 10000) (hm : n % 4 = 0) : RgC 0 (n : Int) 4 (n / 4) := by
  have e : Builtin.Range.rangeSize 0 (n : Int) 4 = ((n / 4 : Nat) : Int) := by
    rw [rangeSize_pos (by decide) (by omega)]
    omega
  have fl : ∀ i : Int, -100000 ≤ i → i ≤ 100000 → Builtin.Range.rangeFitsLong i = true := fun i h1 h2 => by
    unfold Builtin.Range.rangeFitsLong
    rw [decide_eq_true (show -(2 ^ 63) ≤ i by omega), decide_eq_true (show i < 2 ^ 63 by omega)]
    rfl
  refine ⟨by decide, by decide, ?_, e⟩
  unfold Builtin.Range.small
  rw [e, fl 0 (by decide) (by decide), fl (n : Int) (by omega) (by omega), fl 4 (by decide) (by decide), fl _ (by omega) (by omega)]
  rw [if_pos (by decide), fl _ (by omega) (by omega), Bool.or_true]
  rfl
end RK

namespace RK
open PySem PySem.Spec PyProof.Rows L2 StX
/-! ### defs with *rest that may raise where nothing is handled -/
theorem cxUpN {P : Program} {w : World} : CXUp (L2N.CX P w) := by
  rintro outer s H s2 H2 E e s' un kp ho ⟨a, B, H', cls, d, ea, fl, hok, ub, na, os, ag, he⟩
  refine ⟨a, B, H', cls, d, ea, fl, hok, ⟨fun b o q n hb => ub.keep b o (kp b o q) (un.free b o q n (by simp)) hb, fun b o q hb => ub.slot b o (kp b o q) hb, fun b o q n => ub.free b o (kp b o q) (un.free b o q n (by simp)),
    fun b o q hb => ub.there b o (kp b o q) hb, fun b xs q => ub.tups b xs (un.tups b xs q), fun b o xs q => ub.frzs b o xs (un.frzs b o xs q), fun b ps q => ?_⟩, na, os.trans ho, ag, he⟩
  obtain ⟨m1, e1⟩ := un.tbls b ps q
  obtain ⟨m2, e2⟩ := ub.tbls b _ e1
  exact ⟨m1 ++ m2, by rw [e2, Array.append_assoc]⟩
section
variable {X : Cx} {CX : CXT} {k : Nat} {f : Addr} {sp : Sp} {x : Str} {e : Expr} {es : List Expr} {t : TA} {p pos : Pos} {E : L2.St → XK}
theorem run_fnRS {pins : List (Addr × Obj)} {σ : L2.St} {H : Hp} {s : Shared} {Q : VK} {us : List Value} {vs : List V} (F : FnR X.prog X.w X.K X.mg X.base CX k f sp) (hr : Room k X.A) (hx : PassesAt CX X σ (E σ))
    (I : Inv X pins σ H s) (r : Vals vs us) (h : sp vs H Q (E σ)) : wpAny (model X.prog X.w) X.A (call (.ref f) us) (EP X pins σ Q) X.xe s := by
  refine wpAny_call (codeAny_mono (F X.A X.stack s H us vs Q (E σ) hr I.env0 r h) fun r s' hq => ?_)
  cases r with
  | error e => exact hx pins H s e s' I hq
  | ok fl =>
    cases fl with
    | ret u => exact I.after hq
    | next => exact False.elim hq
    | brk => exact False.elim hq
    | cont => exact False.elim hq
theorem pe_callRS (F : FnR X.prog X.w X.K X.mg X.base CX k f sp) (hr : Room k X.A) (hg : Gl X x) (hm : X.mg x = some (.ref f)) (hk : PySem.W.keepIn X.K (.ref f) = true) (hx : ∀ σ, PassesAt CX X σ (E σ))
    (ha : PA X (e :: es) t) (hdb : (x == ("__debug__" : Str)) = false := by decide) (he : starEach (e :: es) X.env = (false, eval e X.env) :: starEach es X.env := by rfl) (hpl : (backTo pos (starEach es X.env)).any (·.1) = false := by rfl) :
    PE X (.Call (.Name x p) (e :: es) [] pos) (tCallS sp E t) := by
  refine ⟨fun pins s σ H Q I h => ?_⟩
  refine wpAny_Call_Name_kw (ld_glob I hg hm ?_ hdb)
  refine PySem.W.callWith_K (h₀ := X.base) I.ok.mod.kin hk (thn (ha.run pos pins s σ H _ I h) fun us s1 ⟨vs, H1, I1, r, q⟩ => ⟨I1.kIn, ?_⟩) he hpl
  exact run_fnRS F hr (hx σ) I1 r q
theorem passAtN {σ : L2.St} : PassesAt (L2N.CX X.prog X.w) X σ (fun _ _ _ => False) := fun _ _ _ _ _ _ h => let ⟨_, _, _, _, _, _, _, _, _, _, _, _, z⟩ := h; z.elim
end
/-- a def with *rest: its promise speaks of the bound names, the call's of all that is handed on -/
def spStar (n : Nat) (sp : Sp) : Sp := fun vs H Q E => ∃ ws rest, vs = ws ++ rest ∧ ws.length = n ∧ rest.length ≤ sizeLine ∧ ∀ p, H p = none → sp (ws ++ [V.ref p]) (upd H p (.tup rest)) Q E
theorem Fun.starN {P : Program} {w : World} {K : PySem.W.Frag} {mg : Str → Option Value} {base : Heap} {x qual pv : Str} {st : Stmt} {f : Addr} {fd : FuncData} {N ps : List Str} {k : Nat} {sp : Sp} (F : Fun K x qual st f fd) (S : FnScope N (ps ++ [pv]) (defScope st))
    (hb : ∀ us rest : List Value, us.length = ps.length → bindArgs fd ⟨us ++ rest, []⟩ = (newTuple rest >>= fun t => pure (ps.zip us ++ [(pv, t)])))
    (body : ∀ (cdv : Value) (A : Around) (outer : List Env) (s : Shared) (H : Hp) (vs : List V) (Q : VK) (E : XK), Room k (A.deeper (envOfC qual (defScope st) s.heap.objs.size f cdv)) → sp vs H Q E →
      ∃ t, PSs (cxOf (L2N.CX P w) P w K mg base N qual (defScope st) f cdv A outer s H E) (defBody st) t ∧ t { nx := fun _ H' => Q .non H', rt := Q } (start N vs) H) : FnR P w K mg base (L2N.CX P w) (k + 1) f (spStar ps.length sp) := by
  obtain ⟨oc, od, kV, doc, pm, an, cdv, ct, osl, rfl, lk, hcd⟩ := F.ex
  exact fn_star lk hcd S cxUpN hb fun A outer s H vs Q E hr z => body cdv A outer s H vs Q E hr z
section
variable {X : Cx}
/-- t.index(x), x a text, ahead of it texts and None -/
theorem mt_tupIdx : MtR X "tuple.index" (fun x xs H Q => ∃ p, ∃ ys : List V, ∃ z j, x = .ref p ∧ xs = [.str z] ∧ SqT X.K H p ys ∧ (∀ v ∈ ys, v = .non ∨ ∃ y, v = .str y) ∧ ys[j]? = some (.str z) ∧ (∀ m, m < j → ys[m]? ≠ some (.str z)) ∧ Q (.int (j : Nat)) H) := by
  intro pins s σ H x xs v us Q I rx rs h
  obtain ⟨p, ys, z, j, rfl, rfl, hq, hfl, hy, hno, q⟩ := h
  cases rx
  obtain ⟨u, rfl, t, rfl⟩ := vals1 rs
  obtain ⟨its, r, pl, hz⟩ := I.tuple hq
  obtain ⟨⟨cls, dd, dt, sl⟩, ho, hc, n, hd⟩ := pl
  simp only at hc hd
  subst hc
  subst hd
  have hl : its.toArray.size = ys.length := by rw [List.size_toArray, ← r.length]
  have hj : j < its.toArray.size := by rw [hl]; exact (List.getElem?_eq_some_iff.mp hy).1
  have at' : ∀ (m : Nat) (hm : m < its.toArray.size), (∃ y t', ys[m]? = some (.str y) ∧ its.toArray[m] = Value.str y t') ∨ (ys[m]? = some .non ∧ its.toArray[m] = Value.none) := fun m hm => by
    have hm' : m < ys.length := by rw [← hl]; exact hm
    have hg : ys[m]? = some ys[m] := List.getElem?_eq_getElem hm'
    obtain ⟨w, hw, hr⟩ := r.get hg
    have e := (List.getElem?_eq_some_iff.mp hw).2
    rcases hfl ys[m] (List.getElem_mem hm') with e2 | ⟨y, e2⟩
    · rw [e2] at hr hg
      refine .inr ⟨hg, ?_⟩
      have : w = Value.none := hr
      rw [← this, ← e]
      simp
    · rw [e2] at hr hg
      obtain ⟨t', hw'⟩ := hr
      refine .inl ⟨y, t', hg, ?_⟩
      rw [← hw', ← e]
      simp
  refine call_meets PySem.F.slot_tuple_index ⟨_, ho, rfl⟩ PySem.F.entry_tuple_index (PySem.F.args_tuple_index_2 _ _) (TI.tuple_indexAt p its.toArray n dd sl (.str z t) (eqU (.str z)) j hj ?_ ?_)
    ⟨ho, fun w hw => mem_eqAt (x := .str z) ⟨t, rfl⟩ rfl r ?_ w (by simpa using hw), ⟨.int (j : Nat), H, I.tok _, ⟨_, rfl⟩, q⟩⟩
  · rcases at' j hj with ⟨y, t', h1, h2⟩ | ⟨h1, h2⟩
    · rw [hy] at h1
      cases h1
      rw [h2]
      show (z == z) = true
      exact beq_self_eq_true z
    · rw [hy] at h1
      cases h1
  · intro m hm hmj
    rcases at' m hm with ⟨y, t', h1, h2⟩ | ⟨h1, h2⟩
    · rw [h2]
      show (y == z) = false
      exact beq_eq_false_iff_ne.mpr fun e => hno m hmj (by rw [h1, e])
    · rw [h2]
      rfl
  · rw [List.all_eq_true]
    intro v hv
    rcases hfl v hv with e | ⟨y, e⟩
    · rw [e]; rfl
    · rw [e]; rfl
end
/-- a tuple behind a tuple, whatever the two are -/
theorem catA_of {K : PySem.W.Frag} {H : Hp} {a b : Addr} {xs ys : List V} {Q : VK} (ha : SqT K H a xs) (hb : SqT K H b ys) (hl : xs.length + ys.length ≤ 100000) (q : ∀ p H', Same H H' → SqT K H' p (xs ++ ys) → Q (.ref p) H') : rCatA K (.ref a) (.ref b) H Q := by
  refine ⟨a, b, xs, ys, rfl, rfl, ha, hb, Nat.le_trans hl (lenOk (xs := List.replicate 100000 ()) (n := 100000) (List.length_replicate ..) (Nat.le_refl _) |> fun h => by rw [List.length_replicate] at h; exact h), fun e => q b H (Same.refl _) (by rw [e]; exact hb), fun _ e => q a H (Same.refl _) (by rw [e, List.append_nil]; exact ha), fun _ _ p hp => q p _ (same_new hp) (SqT.of upd_same)⟩
end RK

namespace RK
open PySem PySem.Spec PyProof.Rows L2
section
variable {J : It} {n : Nat} {G : Hp → Prop} {Y : Nat → Hp → V → Hp → Prop}
/-- a comprehension with one test, whose elements have a value each; the target is the name at k -/
theorem lc_filt (w : Walk J n G Y) {tt : TT} {te : TE} {σ : L2.St} {H1 : Hp} {D : Addr} {Qd : Hp → Prop} {k : Nat} (I : Nat → V → Prop) (c : Nat → Bool) (f : Nat → V) (hD : H1 D = none) (hG : ∀ H, Same H1 H → G H) (hn : n ≤ 1000000)
    (hY : ∀ i H x H', i < n → Y i H x H' → H' = H ∧ I i x)
    (ht : ∀ i x H, i < n → Same H1 H → I i x → ∀ Q : Bool → Hp → Prop, Q (c i) H → tt ((σ.set k none).set k (some x)) H Q)
    (hs : ∀ i x H, i < n → c i = true → Same H1 H → I i x → ∀ Q : VK, (∀ H3, Same H H3 → Q (f i) H3) → te ((σ.set k none).set k (some x)) H Q) (hd : ∀ H, Same H1 H → H D = some (.lst (((List.range n).filter c).map f)) → Qd H) :
    ∃ W : Nat → Nat → Hp → Prop, (∃ m, W 0 m (upd H1 D (.lst []))) ∧ ∀ i m H, W i m H →
      (J.stop i H ∧ Qd H) ∨ (J.go i H ∧ ∃ Nx : Hp → Prop, (∀ H', Nx H' → ∃ m', m' < m ∧ W (i + 1) m' H') ∧ ∀ x H', J.yld i H x H' → gName k x (wipe σ [k]) H' fun σ2 H2 => wipe σ2 [k] = wipe σ [k] ∧ tt σ2 H2 fun b H3 =>
        if b = true then te σ2 H3 fun y H4 => ∃ acc, H4 D = some (.lst acc) ∧ acc.length < sizeLine ∧ Nx (upd H4 D (.lst (acc ++ [y]))) else Nx H3) := by
  refine lc_it w (fun i H => Same H1 H ∧ H D = some (.lst (((List.range i).filter c).map f))) ⟨same_new hD, upd_same⟩ (fun i H _ h => hG H h.1) (fun i x H H' hi hp y => ?_) fun H h => hd H h.1 h.2
  obtain ⟨sm, e⟩ := hp
  obtain ⟨rfl, hx⟩ := hY i H x H' hi y
  refine ⟨?_, ?_⟩
  · show ((σ.set k none).set k (some x)).set k none = σ.set k none
    rw [List.set_set, List.set_set]
  show tt ((σ.set k none).set k (some x)) H' _
  refine ht i x H' hi sm hx _ ?_
  by_cases hc : c i = true
  · rw [if_pos hc]
    refine hs i x H' hi hc sm hx _ fun H3 s3 => ?_
    have e3 := s3 _ _ e
    refine ⟨_, e3, ?_, same_mut (sm.trans s3) hD, ?_⟩
    · rw [List.length_map]
      refine Nat.lt_of_le_of_lt (List.length_filter_le _ _) ?_
      rw [List.length_range]
      exact Nat.lt_of_lt_of_le (Nat.lt_of_lt_of_le hi hn) (by decide)
    · rw [upd_same, List.range_succ, List.filter_append, List.map_append]
      rw [show [i].filter c = [i] by simp only [List.filter, hc]]
      rfl
  · rw [if_neg hc]
    refine ⟨sm, ?_⟩
    rw [e, List.range_succ, List.filter_append, List.map_append]
    rw [show [i].filter c = [] by simp only [List.filter, hc]]
    rw [List.map_nil, List.append_nil]
end
end RK

namespace RK
open PySem PySem.Spec PyProof.Rows L2
/-! ### tuples where the rules know lists alone: xs.extend(t), sum(t), enumerate(t) -/
theorem meets_extendT (l b : Addr) (items items2 : Array Value) (n n2 : Nat) (dd : Option Addr) (sl : Array (Option Value)) (hz : items.size + items2.size ≤ sizeLine) :
    Meets (Builtin.«list.extend» ⟨[Value.ref l, Value.ref b], []⟩) fun x R s => s.heap.get? l = some { cls := Value.type "list", data := Data.seq items n } ∧
      s.heap.get? b = some { cls := Value.type "tuple", dict := dd, data := Data.seq items2 n2, slots := sl } ∧
      R (Except.ok (Flow.ret Value.none)) { s with heap := s.heap.update l (Obj.mapSeq fun x => x ++ items2) } := by
  refine Meets.of_wp fun prog w A R s h => ?_
  obtain ⟨hl, hb, h⟩ := h
  show wpAny _ _ (Builtin.List.listExtendWith (.ref l) (.ref b) .none) _ _ _
  unfold Builtin.List.listExtendWith
  refine wpAny_bind (wpAny_typeOf_ref hb ?_)
  refine wpAny_ite_true (by simp) ?_
  refine wpAny_bind ?_
  unfold Builtin.List.listItems
  refine wpAny_bind (wpAny_seqItems hb rfl (wpAny_pure ?_))
  refine wpAny_bind (wpAny_bind (wpAny_seqItems hl rfl (wpAny_pure ?_)))
  have hbig : Builtin.List.listTooLong (items.size + items2.size) = false := notLongL hz
  refine wpAny_ite_false (by rw [hbig, Bool.and_false]; rfl) ?_
  refine wpAny_bind ?_
  show wpAny _ _ (updateSeq l (fun x => x ++ items2)) _ _ _
  refine wpAny_updateSeq hl rfl (wpAny_pure ⟨_, rfl, h⟩) (by omega) (by rw [Array.size_append]; omega)
/-! enumerate over a tuple -/
theorem meets_enumerate_newT (l : Addr) (items : Array Value) (n : Nat) (dct : Option Addr) (sl : Array (Option Value)) :
    Meets (Builtin.«enumerate.__new__» ⟨[Value.type "enumerate", Value.ref l], []⟩) fun x R s => s.heap.get? l = some { cls := Value.type "tuple", dict := dct, data := Data.seq items n, slots := sl } ∧
      R (Except.ok (Flow.ret (Value.ref (s.heap.push { cls := Value.type "tuple_iterator", data := Data.fields #[Value.ref l, Value.int 0 0] }).objs.size)))
        { s with heap := (s.heap.push { cls := Value.type "tuple_iterator", data := Data.fields #[Value.ref l, Value.int 0 0] }).push { cls := Value.type "enumerate", data := Data.fields #[Value.none, Value.bool false, Value.ref s.heap.objs.size, rawInt 0, Value.none, Value.none] } } := by
  refine Meets.of_wp fun prog w A R s h => ?_
  obtain ⟨hl, h⟩ := h
  have hsub := sub_enumerate
  have hL : s.heap.IsTuple l items := ⟨_, hl, rfl, n, rfl⟩
  unfold Builtin.«enumerate.__new__»
  refine wpAny_bind ?_
  unfold Builtin.SmallTypes.newClass
  refine wpAny_bind (wpAny_pure (wpAny_ite_false rfl (wpAny_bind (wpAny_of_eq hsub (wpAny_ite_false rfl (wpAny_pure ?_))))))
  refine wpAny_ite_true rfl (wpAny_bind ?_)
  unfold Builtin.SmallTypes.calledThroughType
  refine wpAny_bind (wpAny_stack_any fun st => wpAny_pure ?_)
  have fin : wpAny (model prog w) A.in1 (pyIter (Value.ref l) >>= fun it => Builtin.SmallTypes.newRecord (Value.type "enumerate") (Builtin.SmallTypes.ownedTupleFields ++ [it, rawInt 0, Value.none, Value.none]) >>= fun v => ret v) (fun fin s' => ∃ v, fin = Fin.done (Flow.ret v) ∧ R (Except.ok (Flow.ret v)) s') (fun e s' => R (Except.error e) s') s := by
    refine wpAny_bind (wpAny_pyIter_tuple hL ?_)
    refine wpAny_bind ?_
    unfold Builtin.SmallTypes.newRecord
    show wpAny _ _ (newObj (Value.type "enumerate") (Data.fields #[Value.none, Value.bool false, Value.ref s.heap.objs.size, rawInt 0, Value.none, Value.none])) _ _ _
    exact wpAny_newObj_type (wpAny_pure ⟨_, rfl, h⟩) (by show 6 ≤ sizeLine + 2; decide)
  split
  · rename_i c tail kw snd tl heq
    generalize (c == Value.type "enumerate") = short
    cases short with
    | false =>
      refine wpAny_ite_false rfl (wpAny_bind (wpAny_of_eq (a := (Value.ref l, none)) rfl ?_))
      exact fin
    | true =>
      refine wpAny_ite_true rfl (wpAny_bind (wpAny_of_eq (a := (Value.ref l, none)) rfl ?_))
      exact fin
  · refine wpAny_ite_false rfl (wpAny_bind (wpAny_of_eq (a := (Value.ref l, none)) rfl ?_))
    exact fin
section
variable {prog : Program} {w : World} {A : Around} {E : Value → Shared → Prop} {s : Shared}
theorem nextOf_tup_item {it l : Addr} {i : Nat} {items : Array Value} {x : Value} {Q : Value → Shared → Prop} (hit : s.heap.IsTupleIter it l i) (hl : s.heap.IsTuple l items) (hx : items[i]? = some x)
    (hQ : ∀ h', h'.IsTupleIter it l (i + 1) → Heap.SameBut it s.heap h' → Q x { s with heap := h' }) : wpAny (model prog w) A (Builtin.SmallTypes.nextOf (Value.ref it)) Q E s := by
  obtain ⟨⟨oc, od, odt, osl⟩, gi, ci, di⟩ := id hit
  simp only at ci di
  subst ci
  subst di
  obtain ⟨ol, gl, _, nl, dl⟩ := hl
  unfold Builtin.SmallTypes.nextOf
  refine wpAny_bind (wpAny_callSpecial?_slot (name := "__next__") hit.typeIs F.slot_tuple_iterator_next (wpAny_call_entry F.slot_tuple_iterator_next hit.typeIs F.entry_tuple_iterator_next ?_ (F.args_tuple_iterator_next_1 _)))
  refine wpAny_bind (m := field (.ref it) 0) (wpAny_field gi rfl (x := .ref l) rfl ?_)
  refine (if_neg (Bool.false_ne_true : ¬ ((Value.ref l == Value.none) = true))).symm ▸ ?_
  refine wpAny_bind (m := field (.ref it) 1) (wpAny_field gi rfl (x := .int i 0) rfl (wpAny_bind (m := seqItems? (.ref l)) (wpAny_seqItems gl dl ?_)))
  simp only [Int.toNat_natCast, hx]
  refine wpAny_bind (wpAny_setField gi rfl (by simp) (wpAny_pure ⟨x, rfl, wpAny_pure (hQ _ ⟨_, Heap.get?_update_self _ gi rfl, rfl, rfl⟩ ⟨?_, fun b n => Heap.get?_update_other _ _ (Ne.symm n)⟩)⟩))
  exact Heap.size_update _ _ _
theorem nextOf_tup_end {it l : Addr} {i : Nat} {items : Array Value} {Q : Value → Shared → Prop} (hh : A.handled = none) (hit : s.heap.IsTupleIter it l i) (hl : s.heap.IsTuple l items) (hx : items[i]? = none)
    (hQ : ∀ (h' : Heap) (e : Addr), Heap.ExtBut it s.heap h' → (∃ o, h'.get? e = some o ∧ o.cls = Value.type "StopIteration") → E (Value.ref e) { s with heap := h' }) : wpAny (model prog w) A (Builtin.SmallTypes.nextOf (Value.ref it)) Q E s := by
  obtain ⟨oi, gi, ci, di⟩ := id hit
  obtain ⟨ol, gl, _, nl, dl⟩ := hl
  unfold Builtin.SmallTypes.nextOf
  refine wpAny_bind (wpAny_callSpecial?_slot (name := "__next__") hit.typeIs F.slot_tuple_iterator_next (wpAny_call_entry F.slot_tuple_iterator_next hit.typeIs F.entry_tuple_iterator_next ?_ (F.args_tuple_iterator_next_1 _)))
  refine wpAny_bind (m := field (.ref it) 0) (wpAny_field gi di (x := .ref l) rfl ?_)
  refine (if_neg (Bool.false_ne_true : ¬ ((Value.ref l == Value.none) = true))).symm ▸ ?_
  refine wpAny_bind (m := field (.ref it) 1) (wpAny_field gi di (x := .int i 0) rfl (wpAny_bind (m := seqItems? (.ref l)) (wpAny_seqItems gl dl ?_)))
  simp only [Int.toNat_natCast, hx]
  refine wpAny_bind (wpAny_rule (wpAny_bind (wpAny_setField gi di (by simp) ?_)))
  unfold Builtin.SmallTypes.stopIteration
  refine wpAny_bind (m := newExc (.type "StopIteration") []) ?_
  simp only [newExc, newTuple]
  refine wpAny_bind (wpAny_newObj_type (wpAny_bind (m := firstArgMember _ _) (wpAny_of_eq (a := Value.none) (by first | rfl | (simp only [firstArgMember]; rfl)) (wpAny_newObj_type ?_ (by size_fits)))) (by size_fits))
  unfold raiseNew
  refine wpAny_bind (wpAny_handled ?_)
  rw [show A.in1.handled = none from hh]
  refine wpAny_throw (hQ _ _ (fun b o n e => ?_) ⟨_, Heap.get?_push_size _ rfl, rfl⟩)
  refine Heap.get?_push_of_some _ (Heap.get?_push_of_some _ ?_)
  rw [Heap.get?_update_other _ _ (Ne.symm n)]
  exact e
theorem draws_tup (hh : A.handled = none) (it l : Addr) (ne : l ≠ it) (items : Array Value) :
    Draws prog w A it [it, l] items.size (fun i v => items[i]? = some v) fun i h => h.IsTupleIter it l i ∧ h.IsTuple l items := by
  refine ⟨fun i h st => let ⟨⟨o, g, _⟩, _⟩ := st; ⟨o, g⟩, fun i h h' st k => let ⟨⟨o, g, r⟩, ⟨o2, g2, r2⟩⟩ := st; ⟨⟨o, k it (by simp) o g, r⟩, ⟨o2, k l (by simp) o2 g2, r2⟩⟩, fun i s Q E hi st h => ?_, fun s Q E st h => ?_⟩
  · obtain ⟨h1, h2⟩ := st
    have hx : items[i]? = some items[i] := Array.getElem?_eq_getElem hi
    refine nextOf_tup_item h1 h2 hx fun h' st' sb => ?_
    obtain ⟨o2, g2, r2⟩ := h2
    exact h _ _ s.toks hx ⟨st', ⟨o2, (sb.2 l ne).trans g2, r2⟩⟩ sb
  · obtain ⟨h1, h2⟩ := st
    exact nextOf_tup_end hh h1 h2 (by simp) fun h' e eb he => h h' e eb he
theorem call_enumerate_tup {l : Addr} {items : Array Value} {Q : Value → Shared → Prop} (hL : s.heap.IsTuple l items)
    (h : ∀ h', IsEnum h' (s.heap.objs.size + 1) s.heap.objs.size 0 Value.none → h'.IsTupleIter s.heap.objs.size l 0 → h'.objs.size = s.heap.objs.size + 2 → (∀ b o, s.heap.get? b = some o → h'.get? b = some o) → Q (Value.ref (s.heap.objs.size + 1)) { s with heap := h' }) :
    wpAny (model prog w) A (call (Value.type "enumerate") [Value.ref l]) Q E s := by
  obtain ⟨⟨c, dct, dt, sl⟩, hl, hc, n, hd⟩ := hL
  simp only at hc hd
  subst hc
  subst hd
  have hz := Heap.size_push s.heap { cls := .type "tuple_iterator", data := Data.fields #[Value.ref l, Value.int 0 0] }
  refine callType_new F.called_enumerate (by decide) (F.typeCall_enumerate_1 (Value.ref l)) (F.newCall_enumerate_1 (Value.ref l)) (fun obj => F.args_object_init_2 obj (Value.ref l)) F.entry_enumerate_new (meets_enumerate_newT l items n dct sl) ⟨hl, ?_⟩
  have he := Heap.get?_push_size (s.heap.push { cls := Value.type "tuple_iterator", data := Data.fields #[Value.ref l, Value.int 0 0] }) (o := { cls := Value.type "enumerate", data := Data.fields #[Value.none, Value.bool false, Value.ref s.heap.objs.size, rawInt 0, Value.none, Value.none] }) rfl
  rw [hz] at he
  show Shared.TypeIs _ (Value.ref (Heap.objs _).size) "enumerate" ∧ Q (Value.ref (Heap.objs _).size) _
  rw [hz]
  refine ⟨⟨_, he, rfl⟩, h _ he ⟨_, Heap.get?_push_of_some _ (Heap.get?_push_size _ rfl), rfl, rfl⟩ ?_ fun b o e => Heap.get?_push_of_some _ (Heap.get?_push_of_some _ e)⟩
  rw [Heap.size_push, hz]
theorem draws_tup_end (hh : A.handled = none) (it l : Addr) (ne : l ≠ it) (items : Array Value) (i0 : Nat) (hx : items[i0]? = none) :
    Draws prog w A it [it, l] i0 (fun _ _ => False) fun i h => i = i0 ∧ h.IsTupleIter it l i ∧ h.IsTuple l items := by
  refine ⟨fun i h st => let ⟨_, ⟨o, g, _⟩, _⟩ := st; ⟨o, g⟩, fun i h h' st k => let ⟨e, ⟨o, g, r⟩, ⟨o2, g2, r2⟩⟩ := st; ⟨e, ⟨o, k it (by simp) o g, r⟩, ⟨o2, k l (by simp) o2 g2, r2⟩⟩, fun i s Q E hi st h => ?_, fun s Q E st h => ?_⟩
  · exact absurd st.1 (Nat.ne_of_lt hi)
  · obtain ⟨_, h1, h2⟩ := st
    exact nextOf_tup_end hh h1 h2 hx fun h' e eb he => h h' e eb he
end
def IteT (K : PySem.W.Frag) (a : Addr) : It := ⟨fun i H => ∃ xs x, SqT K H a xs ∧ xs[i]? = some x, fun i H v H' => ∃ T x, v = V.ref T ∧ H T = none ∧ H' = upd H T (.tup [.int (i : Nat), x]) ∧ ∀ xs, SqT K H a xs → xs[i]? = some x, fun i H => ∃ xs, SqT K H a xs ∧ xs.length ≤ i⟩
theorem tup_ne {h : Heap} {a it : Addr} {i : Nat} {items : Array Value} (hit : h.IsTupleIter it a i) (pl : h.IsTuple a items) : a ≠ it := fun z => by
  subst z
  obtain ⟨o, h1, c1, _⟩ := hit
  obtain ⟨o2, h2, c2, _⟩ := pl
  rw [h1] at h2
  cases h2
  rw [c1] at c2
  exact absurd c2 (by decide)
theorem enum_ne {h : Heap} {a e it : Addr} {i : Int} {old : Value} {items : Array Value} (he : IsEnum h e it i old) (pl : h.IsTuple a items) : e ≠ a := fun z => by
  subst z
  obtain ⟨o2, h2, c2, _⟩ := pl
  rw [show h.get? e = _ from he] at h2
  cases h2
  exact absurd (show Value.type "enumerate" = Value.type "tuple" from c2) (by decide)
theorem turn_enumT {P : Program} {w : World} {K : PySem.W.Frag} {elts : List Expr} {kk : Nat} {tpos : Pos} (a e it : Addr) :
    Turn P w K (.Tuple elts kk tpos) (IteT K a) [e, it] e (fun i h => (∃ old, IsEnum h e it ((i : Nat) : Int) old) ∧ h.IsTupleIter it a i ∧ e ≠ it) where
  mem := by simp
  obj := fun i h st b hb => by
    obtain ⟨⟨old, he⟩, ⟨o, ho, hc, hd⟩, _⟩ := st
    have e' : b = e ∨ b = it := by simpa using hb
    rcases e' with z | z
    · rw [z]; exact ⟨_, he, fun v q => nomatch q⟩
    · rw [z]; exact ⟨o, ho, fun v q => by rw [hd] at q; cases q⟩
  keep := fun i h h' st k => let ⟨⟨old, he⟩, ⟨o, ho, r⟩, hne⟩ := st; ⟨⟨old, k e (by simp) _ he⟩, ⟨o, k it (by simp) o ho, r⟩, hne⟩
  item := by
    intro X hP hw hK hc i pins s σ H E I hf st hg
    subst hP hw hK
    obtain ⟨⟨old, he⟩, hit, hne⟩ := st
    obtain ⟨xs, x, hq, hx⟩ := hg
    obtain ⟨its, rv, pl, _⟩ := I.tuple hq
    have pl' : s.heap.IsTuple a its.toArray := pl
    have hel : e < s.heap.objs.size := Heap.lt_size he
    have hil : it < s.heap.objs.size := by obtain ⟨_, q, _⟩ := hit; exact Heap.lt_size q
    have ne := tup_ne hit pl'
    have ne2 := enum_ne he pl'
    have D := draws_tup (A := X.A.in1) (prog := X.prog) (w := X.w) (show X.A.in1.handled = none from I.ok.hd hc) it a ne its.toArray
    have hlt : i < its.toArray.size := by
      rw [List.size_toArray, ← rv.length]
      exact (List.getElem?_eq_some_iff.mp hx).1
    obtain ⟨u0, hu0, ru⟩ := rv.get hx
    refine wpAny_pyNext_enum_itemD D he ⟨hit, pl'⟩ hlt hne (by simp [hne, ne2]) fun u h' tk hu ho hst hT hsz hk => ?_
    have eu : u = u0 := by
      have h1 : its[i]? = some u := by simpa using hu
      rw [hu0] at h1
      exact (Option.some.inj h1).symm
    subst eu
    obtain ⟨hit', pl2⟩ := hst
    refine ⟨_, rfl, wpAny_letOwnedTupleGo_enum (s := { s with heap := h', toks := tk + 1 }) ho fun h'' he' sb => ?_⟩
    have hT2 : h''.get? s.heap.objs.size = some { cls := .type "tuple", data := .seq #[.int i tk, u] } := (sb.2 _ (Nat.ne_of_gt hel)).trans hT
    have new : ObjOk X.prog X.w (upd H s.heap.objs.size (.tup [.int (i : Nat), x])) h'' s.heap.objs.size (.tup [.int (i : Nat), x]) :=
      ⟨by show 2 ≤ sizeLine; decide, [.int i tk, u], .cons ⟨_, rfl⟩ (.cons ru .nil), ⟨_, hT2, rfl, _, rfl⟩⟩
    have I1 : Inv X pins σ (upd H s.heap.objs.size (.tup [.int (i : Nat), x])) { s with heap := h'', toks := tk + 1 } :=
      I.turnedNew (ch := [e, it]) (fun b ob hb q => (sb.2 b (fun z => hb (by simp [z]))).trans (hk b ob (fun z => hb (by simp [z])) (fun z => hb (by simp [z])) q)) hf (Nat.le_refl _) new
    refine ⟨.ref s.heap.objs.size, _, I1, rfl, ⟨_, x, rfl, I.hok.fresh (Nat.le_refl _), rfl, fun ys hy => by rw [I.tuple_inj hy hq, hx]⟩, ⟨⟨u, ?_⟩, ?_, hne⟩, fun b hb => ?_⟩
    · have e1 : ((i + 1 : Nat) : Int) = (i : Int) + 1 := by omega
      rw [e1]; exact he'
    · obtain ⟨o, ho2, r⟩ := hit'
      exact ⟨o, (sb.2 it (Ne.symm hne)).trans ho2, r⟩
    · have hb' : b < s.heap.objs.size := by
        have e' : b = e ∨ b = it := by simpa using hb
        rcases e' with z | z
        · rw [z]; exact hel
        · rw [z]; exact hil
      rw [upd_ne (Nat.ne_of_lt hb')]
      exact (hf b hb).1
  done := by
    intro X hP hw hK hc i pins s σ H E I hf st hg
    subst hP hw hK
    obtain ⟨⟨old, he⟩, hit, hne⟩ := st
    obtain ⟨xs, hq, hx⟩ := hg
    obtain ⟨its, rv, pl, _⟩ := I.tuple hq
    have pl' : s.heap.IsTuple a its.toArray := pl
    obtain ⟨f0, f1, f2, f3, f4, f5⟩ := hf it (by simp)
    have D := draws_tup_end (A := X.A.in1) (prog := X.prog) (w := X.w) (show X.A.in1.handled = none from I.ok.hd hc) it a (tup_ne hit pl') its.toArray i (by
      have := rv.length
      simp
      omega)
    exact wpAny_pyNext_enum_endD D he ⟨rfl, hit, pl'⟩ fun h' eb => ⟨rfl, I.turned (t' := s.toks) (fun b o hb q => eb b o hb q) f0 f1 f3 f4 f5⟩
  self := fun A i s Q E st h => let ⟨⟨_, he⟩, _⟩ := st; wpAny_pyIter_enum he h
def iEnumT (K : PySem.W.Frag) (ta : TA) : TI := fun σ H R => ta σ H fun vs H1 => ∃ a xs, vs = [V.ref a] ∧ SqT K H1 a xs ∧ R (IteT K a) H1
theorem pi_enumT {X : Cx} {e : Expr} {ta : TA} {p pos tpos : Pos} {elts : List Expr} {kk : Nat} (hg : Gl X "enumerate") (hm : X.mg "enumerate" = none) (ha : PA X [e] ta) (hs : starEach [e] X.env = [(false, eval e X.env)] := by rfl) :
    PI X (.Tuple elts kk tpos) (.Call (.Name "enumerate" p) [e] [] pos) (iEnumT X.K ta) := by
  refine ⟨fun pins s σ H R I h => ?_⟩
  refine Call_ (ld_blt I hg hm boot_enumerate (PyProof.Rows.callWith_type1 (thn (ha.run pos pins s σ H _ I h) fun us s1 ⟨vs, H1, I1, r1, q1⟩ => ?_) hs rfl))
  obtain ⟨a, xs, ex, hq, q⟩ := q1
  subst ex
  cases r1 with
  | cons r rr =>
    cases rr
    cases r
    obtain ⟨its, rv, pl, _⟩ := I1.tuple hq
    refine call_enumerate_tup (show s1.heap.IsTuple a its.toArray from pl) fun h' he hit hsz hk => wpAny_pyIter_enum he ?_
    have I2 : Inv X pins σ H1 { s1 with heap := h' } := I1.kept (t' := s1.toks) hk
    refine ⟨s1.heap.objs.size + 1, [s1.heap.objs.size + 1, s1.heap.objs.size], _, _, H1, rfl, I2, turn_enumT a (s1.heap.objs.size + 1) s1.heap.objs.size, ⟨⟨.none, he⟩, hit, Nat.succ_ne_self _⟩, fun b hb => ?_, q⟩
    have e' : b = s1.heap.objs.size + 1 ∨ b = s1.heap.objs.size := by simpa using hb
    have hge : s1.heap.objs.size ≤ b := by
      rcases e' with z | z
      · rw [z]; omega
      · rw [z]; omega
    exact I1.fpOk hge (I1.hok.fresh hge)
theorem walk_enumT {K : PySem.W.Frag} {a : Addr} {xs : List V} : Walk (IteT K a) xs.length (fun H => SqT K H a xs) (fun i H v H' => ∃ T x, v = V.ref T ∧ H T = none ∧ H' = upd H T (.tup [.int (i : Nat), x]) ∧ xs[i]? = some x) :=
  ⟨fun i H hi h => ⟨xs, xs[i], h, List.getElem?_eq_getElem hi⟩, fun H h => ⟨xs, h, Nat.le_refl _⟩, fun i H v H' _ h y => let ⟨T, x, a, b, c, d⟩ := y; ⟨T, x, a, b, c, d xs h⟩⟩
section
variable {X : Cx}
def rExtendT (K : PySem.W.Frag) : V → List V → Hp → VK → Prop := fun x vs H Q => ∃ l b xs zs, x = .ref l ∧ vs = [.ref b] ∧ H l = some (.lst xs) ∧ SqT K H b zs ∧ xs.length + zs.length ≤ sizeLine ∧ Q .non (upd H l (.lst (xs ++ zs)))
theorem mt_extendT : MtR X "list.extend" (rExtendT X.K) := by
  intro pins s σ H x xs v us Q I rx rs h
  obtain ⟨l, b, ys, zs, rfl, rfl, hl, hb, hz, q⟩ := h
  cases rx
  obtain ⟨u, rfl, ru⟩ := rs.one
  cases ru
  obtain ⟨z1, its, n, r1, l1, e1⟩ := I.lstM hl
  obtain ⟨its2, r2, pl2, _⟩ := I.tuple hb
  obtain ⟨⟨cls, dd, dt, sl⟩, ho, hc, n2, hd⟩ := pl2
  simp only at hc hd
  subst hc
  subst hd
  have l2 := r2.length
  refine call_meets PySem.F.slot_list_extend ⟨_, e1, rfl⟩ PySem.F.entry_list_extend (PySem.F.args_list_extend_2 _ _) (meets_extendT l b its.toArray its2.toArray n n2 dd sl (by rw [List.size_toArray, List.size_toArray]; omega)) ⟨e1, ho, ?_⟩
  refine ⟨.non, upd H l (.lst (ys ++ zs)), ?_, rfl, q⟩
  exact I.lset (t' := s.toks) hl e1 (by simp) (r1.append r2) (by rw [List.length_append]; omega)
theorem ints_get : ∀ {vs : List Value} {ns : List Int} {i : Nat} {v : Value}, IntsAre vs ns → vs[i]? = some v → ∃ t, v = .int (ns.getD i 0) t
  | _, _, _, _, .nil, e => by simp at e
  | _, _, 0, _, .cons n t _, e => by
    simp at e
    exact ⟨t, e.symm⟩
  | _, _, i + 1, v, .cons n t r, e => by
    obtain ⟨t', e'⟩ := ints_get (i := i) (v := v) r (by simpa using e)
    exact ⟨t', by simpa using e'⟩
theorem preSum_getD : ∀ (ns : List Int) (m : Nat), m ≤ ns.length → preSum (fun i => ns.getD i 0) m = (ns.take m).sum := fun ns m => by
  induction m with
  | zero => intro _; rfl
  | succ m ih =>
    intro h
    show preSum _ m + ns.getD m 0 = _
    rw [ih (by omega), List.take_add_one, List.getElem?_eq_getElem (by omega), List.sum_append, List.getD_eq_getElem?_getD, List.getElem?_eq_getElem (by omega)]
    simp
def rSumT (K : PySem.W.Frag) : List V → Hp → VK → Prop := fun vs H Q => ∃ (a : Addr) (ns : List Int), vs = [V.ref a] ∧ SqT K H a (ns.map V.int) ∧ Q (.int ns.sum) H
theorem cr_sumT (hc : X.calm = true) : CallR X (.builtin "sum") (rSumT X.K) := by
  intro pins s σ H vs us Q I rv h
  obtain ⟨a, ns, rfl, ha, q⟩ := h
  obtain ⟨u, rfl, ru⟩ := rv.one
  cases ru
  obtain ⟨its, r, pl, _⟩ := I.tuple ha
  have hi := ints_of_vals r
  have hlen := r.length
  rw [List.length_map] at hlen
  have pl' : s.heap.IsTuple a its.toArray := pl
  have la : a < s.heap.objs.size := by obtain ⟨o, ho, _⟩ := pl'; exact Heap.lt_size ho
  refine call_sum_walkG (wpAny_pyIter_tuple pl' ?_)
  refine ⟨s.heap.objs.size, [s.heap.objs.size, a], [s.heap.objs.size], its.toArray.size, _, _, fun i => ns.getD i 0, rfl, Walks.tuple (by exact I.ok.hd hc) _ a (Nat.ne_of_lt la) its.toArray, ⟨⟨_, Heap.get?_push_size _ rfl, rfl, rfl⟩, ?_⟩, fun b hb => ?_, fun i v hv => ints_get (i := i) hi (by simpa using hv), fun h' tk t' k => ?_⟩
  · obtain ⟨o, ho, r⟩ := pl'
    exact ⟨o, Heap.get?_push_of_some _ ho, r⟩
  · rw [Heap.size_push]
    have e' : b = s.heap.objs.size ∨ b = a := by simpa using hb
    rcases e' with z | z
    · rw [z]; exact Nat.lt_succ_self _
    · rw [z]; exact Nat.lt_succ_of_lt la
  · refine ⟨.int ns.sum, H, ?_, ?_, q⟩
    · refine I.kept (t' := tk) fun b o e => k b o ?_ (Heap.get?_push_of_some _ e)
      have := Heap.lt_size e
      intro z
      have e' : b = s.heap.objs.size := by simpa using z
      exact absurd e' (Nat.ne_of_lt this)
    · rw [preSum_getD _ _ (by rw [List.size_toArray]; omega), List.size_toArray, ← hlen, List.take_length]
      exact ⟨_, rfl⟩
end
end RK

namespace R1
open PySem PySem.Spec PyProof.Rows L2 RK
local macro_rules | `(tactic| walk_at "sq") => `(tactic| first
  | exact SqL.of upd_same | exact upd_same | exact SqL.of (by assumption) | exact SqL.of (by rw [upd_ne (by assumption)]; assumption) | assumption)
local macro_rules | `(tactic| walk_at "sd") => `(tactic| first
  | assumption | omega | (refine Or.inl ⟨?_, ?_⟩ <;> omega) | (show _ ∧ _; constructor <;> omega) | (show _ ≠ _; simp; omega) | (exact Or.inl ⟨by decide, by decide⟩) | (exact Or.inr ⟨by decide, by decide⟩) | (show _ < _; decide) | (show _ ≤ _; decide))
local macro_rules | `(tactic| walk_at "at") => `(tactic| first | rfl | (refine atI_intV ?_ ?_ <;> omega) | assumption)
local macro_rules | `(tactic| walk_at "s1") => `(tactic| first
  | refine ⟨_, rfl, ?_⟩ | refine ⟨_, _, rfl, rfl, ?_⟩ | refine ⟨rfl, ?_⟩
  | refine ⟨_, _, _, _, rfl, rfl, by walk_at "sq", by walk_at "at", ?_⟩
  | refine Or.inl ⟨_, rfl, ?_⟩
  | refine ⟨_, _, rfl, Or.inl (by walk_at "sq"), ?_⟩
  | refine And.intro (by walk_at "sd") ?_)
local macro_rules | `(tactic| walk_at "s") => `(tactic| repeat walk_at "s1")

def topS (i : Nat) : Stmt := PySem.Challenge.pw_romwright_k60_pieces_back.main.body.getD i (.Pass ⟨0, 0, 0, 0⟩)
abbrev s_BadPiece_init : Stmt := inClass (topS 2) 0
abbrev N_BadPiece_init : List Str := ["self", "number"]
theorem sc_BadPiece_init : FnScope N_BadPiece_init ["self", "number"] (defScope s_BadPiece_init) := ⟨rfl, rfl, rfl, by decide +kernel, rfl, by decide +kernel, by decide +kernel⟩
abbrev s_BadForm_init : Stmt := inClass (topS 3) 0
abbrev N_BadForm_init : List Str := ["self", "place"]
theorem sc_BadForm_init : FnScope N_BadForm_init ["self", "place"] (defScope s_BadForm_init) := ⟨rfl, rfl, rfl, by decide +kernel, rfl, by decide +kernel, by decide +kernel⟩
abbrev s_price : Stmt := topS 6
abbrev N_price : List Str := ["pieces", "piece"]
theorem sc_price : FnScope N_price ["pieces"] (defScope s_price) := ⟨rfl, rfl, rfl, by decide +kernel, rfl, by decide +kernel, by decide +kernel⟩
abbrev s_put_on : Stmt := topS 7
abbrev N_put_on : List Str := ["elder", "pieces", "words", "number", "piece", "at", "count"]
theorem sc_put_on : FnScope N_put_on ["elder", "pieces"] (defScope s_put_on) := ⟨rfl, rfl, rfl, by decide +kernel, rfl, by decide +kernel, by decide +kernel⟩
abbrev s_piece_words : Stmt := topS 8
abbrev N_piece_words : List Str := ["pieces", "words", "piece"]
theorem sc_piece_words : FnScope N_piece_words ["pieces"] (defScope s_piece_words) := ⟨rfl, rfl, rfl, by decide +kernel, rfl, by decide +kernel, by decide +kernel⟩
abbrev s_read_pieces : Stmt := topS 9
abbrev N_read_pieces : List Str := ["words", "pieces", "at", "count", "behind"]
theorem sc_read_pieces : FnScope N_read_pieces ["words"] (defScope s_read_pieces) := ⟨rfl, rfl, rfl, by decide +kernel, rfl, by decide +kernel, by decide +kernel⟩
abbrev s_law_source : Stmt := topS 11
abbrev N_law_source : List Str := ["_law_script", "_law_cell", "_law_cells", "_law_mixed"]
theorem sc_law_source : FnScope N_law_source ["_law_script"] (defScope s_law_source) := ⟨rfl, rfl, rfl, by decide +kernel, rfl, by decide +kernel, by decide +kernel⟩
abbrev s_law_draw : Stmt := topS 12
abbrev N_law_draw : List Str := ["_law_source_here", "_law_below", "_law_cells", "_law_place", "_law_digits", "_law_count", "_law_seed", "_law_number"]
theorem sc_law_draw : FnScope N_law_draw ["_law_source_here", "_law_below"] (defScope s_law_draw) := ⟨rfl, rfl, rfl, by decide +kernel, rfl, by decide +kernel, by decide +kernel⟩
abbrev s_law_word : Stmt := topS 13
abbrev N_law_word : List Str := ["_law_source_here", "_law_way"]
theorem sc_law_word : FnScope N_law_word ["_law_source_here"] (defScope s_law_word) := ⟨rfl, rfl, rfl, by decide +kernel, rfl, by decide +kernel, by decide +kernel⟩
abbrev s_law_plain : Stmt := topS 14
abbrev N_law_plain : List Str := ["_law_thing", "_law_one"]
theorem sc_law_plain : FnScope N_law_plain ["_law_thing"] (defScope s_law_plain) := ⟨rfl, rfl, rfl, by decide +kernel, rfl, by decide +kernel, by decide +kernel⟩
abbrev s_law_put_words : Stmt := topS 15
abbrev N_law_put_words : List Str := ["_law_source_here", "_law_step", "_law_way", "_law_count"]
theorem sc_law_put_words : FnScope N_law_put_words ["_law_source_here", "_law_step"] (defScope s_law_put_words) := ⟨rfl, rfl, rfl, by decide +kernel, rfl, by decide +kernel, by decide +kernel⟩
abbrev s_law_pieces : Stmt := topS 16
abbrev N_law_pieces : List Str := ["_law_source_here", "_law_pieces_here", "_law_step", "_law_count"]
theorem sc_law_pieces : FnScope N_law_pieces ["_law_source_here"] (defScope s_law_pieces) := ⟨rfl, rfl, rfl, by decide +kernel, rfl, by decide +kernel, by decide +kernel⟩
abbrev s_law_told : Stmt := topS 17
abbrev N_law_told : List Str := ["_law_pieces_here", "_law_words", "_law_piece"]
theorem sc_law_told : FnScope N_law_told ["_law_pieces_here"] (defScope s_law_told) := ⟨rfl, rfl, rfl, by decide +kernel, rfl, by decide +kernel, by decide +kernel⟩
abbrev s_law_read : Stmt := topS 18
abbrev N_law_read : List Str := ["_law_words", "_law_pieces_here", "_law_place", "_law_step", "_law_first", "_law_size"]
theorem sc_law_read : FnScope N_law_read ["_law_words"] (defScope s_law_read) := ⟨rfl, rfl, rfl, by decide +kernel, rfl, by decide +kernel, by decide +kernel⟩
abbrev s_law_read_told : Stmt := topS 19
abbrev N_law_read_told : List Str := ["_law_words", "e"]
theorem sc_law_read_told : FnScope N_law_read_told ["_law_words"] (defScope s_law_read_told) := ⟨rfl, rfl, rfl, by decide +kernel, rfl, by decide +kernel, by decide +kernel⟩
abbrev s_law_put : Stmt := topS 20
abbrev N_law_put : List Str := ["_law_elder", "_law_pieces_here", "_law_words", "_law_number", "_law_piece"]
theorem sc_law_put : FnScope N_law_put ["_law_elder", "_law_pieces_here"] (defScope s_law_put) := ⟨rfl, rfl, rfl, by decide +kernel, rfl, by decide +kernel, by decide +kernel⟩
abbrev s_law_put_told : Stmt := topS 21
abbrev N_law_put_told : List Str := ["_law_elder", "_law_pieces_here", "e"]
theorem sc_law_put_told : FnScope N_law_put_told ["_law_elder", "_law_pieces_here"] (defScope s_law_put_told) := ⟨rfl, rfl, rfl, by decide +kernel, rfl, by decide +kernel, by decide +kernel⟩
abbrev s_law_near : Stmt := topS 22
abbrev N_law_near : List Str := ["_law_source_here", "_law_elder", "_law_pieces_here", "_law_step", "_law_at", "_law_left", "_law_way", "_law_more"]
theorem sc_law_near : FnScope N_law_near ["_law_source_here", "_law_elder"] (defScope s_law_near) := ⟨rfl, rfl, rfl, by decide +kernel, rfl, by decide +kernel, by decide +kernel⟩
abbrev s_law : Stmt := topS 23
abbrev N_law : List Str := ["_law_script", "_law_source_here", "_law_pieces_here", "_law_words", "_law_piece", "_law_cost", "_law_menu", "_law_step", "_law_row", "_law_elder", "_law_near_here"]
theorem sc_law : FnScope N_law ["_law_script"] (defScope s_law) := ⟨rfl, rfl, rfl, by decide +kernel, rfl, by decide +kernel, by decide +kernel⟩
/-- where things stand -/
structure Ads where
  a_price : Addr
  d_price : FuncData
  a_put_on : Addr
  d_put_on : FuncData
  a_piece_words : Addr
  d_piece_words : FuncData
  a_read_pieces : Addr
  d_read_pieces : FuncData
  a_law_source : Addr
  d_law_source : FuncData
  a_law_draw : Addr
  d_law_draw : FuncData
  a_law_word : Addr
  d_law_word : FuncData
  a_law_plain : Addr
  d_law_plain : FuncData
  a_law_put_words : Addr
  d_law_put_words : FuncData
  a_law_pieces : Addr
  d_law_pieces : FuncData
  a_law_told : Addr
  d_law_told : FuncData
  a_law_read : Addr
  d_law_read : FuncData
  a_law_read_told : Addr
  d_law_read_told : FuncData
  a_law_put : Addr
  d_law_put : FuncData
  a_law_put_told : Addr
  d_law_put_told : FuncData
  a_law_near : Addr
  d_law_near : FuncData
  a_law : Addr
  d_law : FuncData
  c_BadPiece : Addr
  a_BadPiece_init : Addr
  d_BadPiece_init : FuncData
  c_BadForm : Addr
  a_BadForm_init : Addr
  d_BadForm_init : FuncData
  c_RomError : Addr
  t_COPY : Tok
structure Txt (K : PySem.W.Frag) (mg : Str → Option Value) (A : Ads) : Prop where
  F_price : Fun K "price" "price" s_price A.a_price A.d_price
  g_price : mg "price" = some (.ref A.a_price)
  b_price : Binds K A.d_price ["pieces"] []
  F_put_on : Fun K "put_on" "put_on" s_put_on A.a_put_on A.d_put_on
  g_put_on : mg "put_on" = some (.ref A.a_put_on)
  b_put_on : Binds K A.d_put_on ["elder", "pieces"] []
  F_piece_words : Fun K "piece_words" "piece_words" s_piece_words A.a_piece_words A.d_piece_words
  g_piece_words : mg "piece_words" = some (.ref A.a_piece_words)
  b_piece_words : Binds K A.d_piece_words ["pieces"] []
  F_read_pieces : Fun K "read_pieces" "read_pieces" s_read_pieces A.a_read_pieces A.d_read_pieces
  g_read_pieces : mg "read_pieces" = some (.ref A.a_read_pieces)
  b_read_pieces : Binds K A.d_read_pieces ["words"] []
  F_law_source : Fun K "_law_source" "_law_source" s_law_source A.a_law_source A.d_law_source
  g_law_source : mg "_law_source" = some (.ref A.a_law_source)
  b_law_source : Binds K A.d_law_source ["_law_script"] []
  F_law_draw : Fun K "_law_draw" "_law_draw" s_law_draw A.a_law_draw A.d_law_draw
  g_law_draw : mg "_law_draw" = some (.ref A.a_law_draw)
  b_law_draw : Binds K A.d_law_draw ["_law_source_here", "_law_below"] []
  F_law_word : Fun K "_law_word" "_law_word" s_law_word A.a_law_word A.d_law_word
  g_law_word : mg "_law_word" = some (.ref A.a_law_word)
  b_law_word : Binds K A.d_law_word ["_law_source_here"] []
  F_law_plain : Fun K "_law_plain" "_law_plain" s_law_plain A.a_law_plain A.d_law_plain
  g_law_plain : mg "_law_plain" = some (.ref A.a_law_plain)
  b_law_plain : Binds K A.d_law_plain ["_law_thing"] []
  F_law_put_words : Fun K "_law_put_words" "_law_put_words" s_law_put_words A.a_law_put_words A.d_law_put_words
  g_law_put_words : mg "_law_put_words" = some (.ref A.a_law_put_words)
  b_law_put_words : Binds K A.d_law_put_words ["_law_source_here", "_law_step"] []
  F_law_pieces : Fun K "_law_pieces" "_law_pieces" s_law_pieces A.a_law_pieces A.d_law_pieces
  g_law_pieces : mg "_law_pieces" = some (.ref A.a_law_pieces)
  b_law_pieces : Binds K A.d_law_pieces ["_law_source_here"] []
  F_law_told : Fun K "_law_told" "_law_told" s_law_told A.a_law_told A.d_law_told
  g_law_told : mg "_law_told" = some (.ref A.a_law_told)
  b_law_told : Binds K A.d_law_told ["_law_pieces_here"] []
  F_law_read : Fun K "_law_read" "_law_read" s_law_read A.a_law_read A.d_law_read
  g_law_read : mg "_law_read" = some (.ref A.a_law_read)
  b_law_read : Binds K A.d_law_read ["_law_words"] []
  F_law_read_told : Fun K "_law_read_told" "_law_read_told" s_law_read_told A.a_law_read_told A.d_law_read_told
  g_law_read_told : mg "_law_read_told" = some (.ref A.a_law_read_told)
  b_law_read_told : Binds K A.d_law_read_told ["_law_words"] []
  F_law_put : Fun K "_law_put" "_law_put" s_law_put A.a_law_put A.d_law_put
  g_law_put : mg "_law_put" = some (.ref A.a_law_put)
  b_law_put : Binds K A.d_law_put ["_law_elder", "_law_pieces_here"] []
  F_law_put_told : Fun K "_law_put_told" "_law_put_told" s_law_put_told A.a_law_put_told A.d_law_put_told
  g_law_put_told : mg "_law_put_told" = some (.ref A.a_law_put_told)
  b_law_put_told : Binds K A.d_law_put_told ["_law_elder", "_law_pieces_here"] []
  F_law_near : Fun K "_law_near" "_law_near" s_law_near A.a_law_near A.d_law_near
  g_law_near : mg "_law_near" = some (.ref A.a_law_near)
  b_law_near : Binds K A.d_law_near ["_law_source_here", "_law_elder"] []
  F_law : Fun K "law" "law" s_law A.a_law A.d_law
  g_law : mg "law" = some (.ref A.a_law)
  b_law : Binds K A.d_law ["_law_script"] []
  F_BadPiece_init : Fun K "__init__" "BadPiece.__init__" s_BadPiece_init A.a_BadPiece_init A.d_BadPiece_init
  x_BadPiece : ErrC K mg "BadPiece" "number" A.c_BadPiece A.a_BadPiece_init A.d_BadPiece_init
  F_BadForm_init : Fun K "__init__" "BadForm.__init__" s_BadForm_init A.a_BadForm_init A.d_BadForm_init
  x_BadForm : ErrC K mg "BadForm" "place" A.c_BadForm A.a_BadForm_init A.d_BadForm_init
  g_BadPiece : mg "BadPiece" = some (.ref A.c_BadPiece)
  g_BadForm : mg "BadForm" = some (.ref A.c_BadForm)
  g_RomError : mg "RomError" = some (.ref A.c_RomError)
  g_COPY : mg "COPY" = some (.int 32768 A.t_COPY)
  k_BadPiece_RomError : PySem.W.kitOne K (.ref A.c_BadPiece) (.ref A.c_RomError) = some true
  k_BadPiece_ValueError : PySem.W.kitOne K (.ref A.c_BadPiece) (.type "ValueError") = some true
  k_BadForm_RomError : PySem.W.kitOne K (.ref A.c_BadForm) (.ref A.c_RomError) = some true
  k_BadForm_ValueError : PySem.W.kitOne K (.ref A.c_BadForm) (.type "ValueError") = some true
  n_ValueError : mg "ValueError" = none
  n_abs : mg "abs" = none
  n_bool : mg "bool" = none
  n_enumerate : mg "enumerate" = none
  n_int : mg "int" = none
  n_isinstance : mg "isinstance" = none
  n_len : mg "len" = none
  n_list : mg "list" = none
  n_range : mg "range" = none
  n_sum : mg "sum" = none
  n_tuple : mg "tuple" = none
theorem ok_BadPiece_init {P : Program} {w : World} {K : PySem.W.Frag} {mg : Str → Option Value} {base : Heap} {A : Ads} (T : Txt K mg A) : FnOk P w K mg base CX0 1 A.a_BadPiece_init A.d_BadPiece_init ["self", "number"] (spKeep "number" A.c_BadPiece) := by
  refine T.F_BadPiece_init.ok sc_BadPiece_init (fun vs H Q E h => ?_) (fun cdv B outer s H vs Q E hr h => ?_)
  · obtain ⟨a, v, rfl, _⟩ := h
    rfl
  · obtain ⟨a, v, rfl, e, q⟩ := h
    refine ⟨_, pss_one (ps_ost (pv 0) (pv 1)), ?_⟩
    exact ⟨_, rfl, _, rfl, a, A.c_BadPiece, rfl, T.x_BadPiece.ox, T.x_BadPiece.no, .inl ⟨e, q⟩⟩
theorem ok_BadForm_init {P : Program} {w : World} {K : PySem.W.Frag} {mg : Str → Option Value} {base : Heap} {A : Ads} (T : Txt K mg A) : FnOk P w K mg base CX0 1 A.a_BadForm_init A.d_BadForm_init ["self", "place"] (spKeep "place" A.c_BadForm) := by
  refine T.F_BadForm_init.ok sc_BadForm_init (fun vs H Q E h => ?_) (fun cdv B outer s H vs Q E hr h => ?_)
  · obtain ⟨a, v, rfl, _⟩ := h
    rfl
  · obtain ⟨a, v, rfl, e, q⟩ := h
    refine ⟨_, pss_one (ps_ost (pv 0) (pv 1)), ?_⟩
    exact ⟨_, rfl, _, rfl, a, A.c_BadForm, rfl, T.x_BadForm.ox, T.x_BadForm.no, .inl ⟨e, q⟩⟩

/-! ### the law's source of draws -/
def Src (c : Addr) (H : Hp) (p : Addr) : Prop := ∃ (cs : List Int) (pl dg ct mx : Int), H p = some (.lst [.ref c, .int pl, .int dg, .int ct, .int mx]) ∧ H c = some (.lst (cs.map V.int)) ∧ 0 < cs.length ∧ 0 ≤ pl
theorem src_ne {H : Hp} {c p : Addr} (h : Src c H p) : H p ≠ none := by
  obtain ⟨cs, pl, dg, ct, mx, e, _⟩ := h
  rw [e]
  exact fun z => nomatch z
theorem src_cne {H : Hp} {c p : Addr} (h : Src c H p) : H c ≠ none := by
  obtain ⟨cs, pl, dg, ct, mx, _, e, _⟩ := h
  rw [e]
  exact fun z => nomatch z
theorem src_up {H H' : Hp} {c p : Addr} (h : Src c H p) (e : Same H H') : Src c H' p := by
  obtain ⟨cs, pl, dg, ct, mx, h1, h2, h3⟩ := h
  exact ⟨cs, pl, dg, ct, mx, e _ _ h1, e _ _ h2, h3⟩
/-- what is neither of its two lists may change -/
theorem src_put {H : Hp} {c p D : Addr} {o : HO} (h : Src c H p) (hp : D ≠ p) (hc : D ≠ c) : Src c (upd H D o) p := by
  obtain ⟨cs, pl, dg, ct, mx, h1, h2, h3⟩ := h
  exact ⟨cs, pl, dg, ct, mx, by rw [upd_ne (Ne.symm hp)]; exact h1, by rw [upd_ne (Ne.symm hc)]; exact h2, h3⟩
/-- a list of numbers is not the source -/
theorem src_ints {H : Hp} {c p D : Addr} {l : List Nat} (h : Src c H p) (e : H D = some (.lst (intV l))) : D ≠ p := fun z => by
  obtain ⟨cs, pl, dg, ct, mx, h1, _⟩ := h
  subst z
  rw [e] at h1
  have := HO.lst.inj (Option.some.inj h1)
  cases l with
  | nil => cases this
  | cons a r =>
    have := (List.cons.inj this).1
    cases this
def spDraw : Sp := fun vs H Q _ => ∃ (c p : Addr) (b : Int), vs = [.ref p, .int b] ∧ Src c H p ∧ 0 < b ∧ b < 1000000 ∧ ∀ H' (r : Nat), (r : Int) < b → Src c H' p → But p H H' → Q (.int (r : Int)) H'
def spSource (K : PySem.W.Frag) : Sp := fun vs H Q _ => ∃ (a : Addr) (ns : List Int), vs = [.ref a] ∧ SqL K H a (ns.map V.int) ∧ ns.length ≤ 63 ∧ ∀ H' c p, Same H H' → H c = none → H p = none → Src c H' p → Q (.ref p) H'
theorem get_int {cs : List Int} {i : Int} (h0 : 0 ≤ i) (h1 : i < cs.length) : ∃ z, atI (cs.map V.int) i = some (.int z) := by
  obtain ⟨j, rfl⟩ : ∃ j : Nat, i = (j : Int) := ⟨i.toNat, by omega⟩
  have hj : j < cs.length := by omega
  exact ⟨cs[j], atI_nat (by rw [List.getElem?_map, List.getElem?_eq_getElem hj]; rfl)⟩
/-! plain: a value with what tells its kind -/
mutual
def plD : PyData → PyData
  | .list xs => .tuple [.bool true, .list (plA xs)]
  | .tuple xs => .tuple [.bool false, .list (plA xs)]
  | .bool b => .tuple [.bool true, .bool b]
  | .none => .tuple [.bool false, .none]
  | .int i => .tuple [.bool false, .int i]
  | .str x => .tuple [.bool false, .str x]
  | .dict kvs => .tuple [.bool false, .dict kvs]
def plA : List PyData → List PyData
  | [] => []
  | x :: r => plD x :: plA r
end
theorem plA_map : ∀ xs : List PyData, plA xs = xs.map plD
  | [] => rfl
  | x :: r => by
    show plD x :: plA r = plD x :: r.map plD
    rw [plA_map r]
mutual
theorem plD_depth : ∀ d : PyData, (plD d).depth ≤ 2 * d.depth + 1
  | .list xs => by
    have h := plA_depth xs
    show max 0 (max (PyData.depthAll (plA xs) + 1) 0) + 1 ≤ 2 * (PyData.depthAll xs + 1) + 1
    omega
  | .tuple xs => by
    have h := plA_depth xs
    show max 0 (max (PyData.depthAll (plA xs) + 1) 0) + 1 ≤ 2 * (PyData.depthAll xs + 1) + 1
    omega
  | .bool b => by show 1 ≤ 1; omega
  | .none => by show 1 ≤ 1; omega
  | .int i => by show 1 ≤ 1; omega
  | .str x => by show 1 ≤ 1; omega
  | .dict kvs => by
    show max 0 (max (PyData.depthKv kvs + 1) 0) + 1 ≤ 2 * (PyData.depthKv kvs + 1) + 1
    omega
theorem plA_depth : ∀ ds : List PyData, (PyData.depthAll (plA ds)) ≤ 2 * (PyData.depthAll ds) + 1
  | [] => Nat.zero_le _
  | x :: r => by
    have h1 := plD_depth x
    have h2 := plA_depth r
    show max (plD x).depth (PyData.depthAll (plA r)) ≤ 2 * (max x.depth (PyData.depthAll r)) + 1
    omega
end
mutual
theorem plD_lay : ∀ d : PyData, d.canLay0 = true → (plD d).canLay0 = true
  | .list xs, h => by
    show (true && (PyData.canLayAll0 (plA xs) && true)) = true
    rw [plA_lay xs h]
    rfl
  | .tuple xs, h => by
    show (true && (PyData.canLayAll0 (plA xs) && true)) = true
    rw [plA_lay xs h]
    rfl
  | .bool b, h => rfl
  | .none, h => rfl
  | .int i, h => rfl
  | .str x, h => by
    show (true && ((PyData.str x).canLay0 && true)) = true
    rw [h]
    rfl
  | .dict kvs, h => by cases h
theorem plA_lay : ∀ ds : List PyData, PyData.canLayAll0 ds = true → PyData.canLayAll0 (plA ds) = true
  | [], _ => rfl
  | x :: r, h => by
    have h' := Bool.and_eq_true_iff.mp h
    show ((plD x).canLay0 && PyData.canLayAll0 (plA r)) = true
    rw [plD_lay x h'.1, plA_lay r h'.2]
    rfl
end
theorem plD_shaped {d : PyData} (h : d.canLay0 = true) (hd : d.depth ≤ 20) : SeqAt.shaped (plD d) = true := by
  have h2 := plD_depth d
  unfold SeqAt.shaped
  rw [plD_lay d h, Bool.true_and]
  exact decide_eq_true (by omega)
def spPlain (K : PySem.W.Frag) : Nat → Sp
  | 0 => fun _ _ _ _ => False
  | n + 1 => fun vs H Q _ => ∃ (v : V) (d : PyData) (S : ASet), vs = [v] ∧ (∀ a, S a → H a ≠ none) ∧ Dx K H S v d ∧ d.depth ≤ n ∧ wdB d = true ∧ ∀ H' v', Same H H' → Dx K H' S v' (plD d) → Q v' H'

section
variable {P : Program} {w : World} {K : PySem.W.Frag} {mg : Str → Option Value} {base : Heap} {A : Ads}
theorem ok_law_draw (T : Txt K mg A) : FnOk P w K mg base CX0 1 A.a_law_draw A.d_law_draw ["_law_source_here", "_law_below"] spDraw := by
  refine T.F_law_draw.ok sc_law_draw (fun vs H Q E h => ?_) (fun cdv B outer s H vs Q E hr h => ?_)
  · obtain ⟨c, p, b, rfl, _⟩ := h
    rfl
  · obtain ⟨c, p, b, rfl, ⟨cs, pl, dg, ct, mx, hp, hc, hn, hpl⟩, hb, hb2, q⟩ := h
    refine ⟨_, (pss_cons (ps_set (i := 2) sc_law_draw.nd rfl (.inl rfl) (pe_ix ix_list (pv 0) pe_int (fun _ _ => rfl)))
    (pss_cons (ps_set (i := 3) sc_law_draw.nd rfl (.inl rfl) (pe_ix ix_list (pv 0) pe_int (fun _ _ => rfl)))
    (pss_cons (ps_set (i := 4) sc_law_draw.nd rfl (.inl rfl) (pe_ix ix_list (pv 0) pe_int (fun _ _ => rfl)))
    (pss_cons (ps_set (i := 5) sc_law_draw.nd rfl (.inl rfl) (pe_ix ix_list (pv 0) pe_int (fun _ _ => rfl)))
    (pss_cons (ps_asg (pe_op op_add (pv 5) pe_int) (pg_sub (pv 0) pe_int set_list))
    (pss_cons (ps_if (PW.pt (pw_and (pt_cmpR op_eq (pe_ix ix_list (pv 0) pe_int (fun _ _ => rfl)) pe_int (nomark _)) (pw_and1 (pt_cmpR op_lt (pv 3) (pe_callB len_seq (by rfl) T.n_len (by decide +kernel) (pa_cons (pv 2) pa_nil)) (nomark _))))) (pss_cons (ps_asg (pe_op op_fdivN (pv 4) (pv 1)) (pg_sub (pv 0) pe_int set_list))
    (pss_cons (ps_if (pt_cmpR op_eq (pe_ix ix_list (pv 0) pe_int (fun _ _ => rfl)) pe_int (nomark _)) (pss_cons (ps_asg (pe_op op_add (pv 3) pe_int) (pg_sub (pv 0) pe_int set_list))
    (pss_one (ps_if (pt_cmpR op_lt (pe_op op_add (pv 3) pe_int) (pe_callB len_seq (by rfl) T.n_len (by decide +kernel) (pa_cons (pv 2) pa_nil)) (nomark _)) (pss_one (ps_asg (pe_ix ix_list (pv 2) (pe_op op_add (pv 3) pe_int) (fun _ _ => rfl)) (pg_sub (pv 0) pe_int set_list))) pss_nil))) pss_nil)
    (pss_one (ps_ret (pe_op op_modN (pe_callTy call_int1 (by rfl) T.n_int (by decide +kernel) (pa_cons (pv 4) pa_nil)) (pv 1)))))) pss_nil)
    (pss_cons (ps_set (i := 6) sc_law_draw.nd rfl (.inl rfl) (pe_op op_add (pe_op op_add (pe_ix ix_list (pv 2) (pe_op op_modN (pe_callTy call_int1 (by rfl) T.n_int (by decide +kernel) (pa_cons (pv 5) pa_nil)) (pe_callB len_seq (by rfl) T.n_len (by decide +kernel) (pa_cons (pv 2) pa_nil))) (fun _ _ => rfl)) (pe_op op_mul pe_int (pv 5))) pe_int))
    (pss_cons (ps_set (i := 7) sc_law_draw.nd rfl (.inl rfl) (pe_op op_mod (pe_callTy call_int1 (by rfl) T.n_int (by decide +kernel) (pa_cons (pe_op op_add (pe_op op_mul (pv 6) pe_int) (pe_op op_mul (pe_op op_add (pv 5) pe_int) pe_int)) pa_nil)) pe_int))
    (pss_cons (ps_set (i := 7) sc_law_draw.nd rfl (.inl rfl) (pe_op op_mod (pe_callTy call_int1 (by rfl) T.n_int (by decide +kernel) (pa_cons (pe_op op_add (pe_op op_mul (pv 7) (pe_op op_add (pe_op op_add (pe_op op_mod (pe_callTy call_int1 (by rfl) T.n_int (by decide +kernel) (pa_cons (pv 7) pa_nil)) pe_int) (pv 5)) pe_int)) (pv 6)) pa_nil)) pe_int))
    (pss_one (ps_ret (pe_op op_modN (pe_callTy call_int1 (by rfl) T.n_int (by decide +kernel) (pa_cons (pe_op op_fdiv (pv 7) pe_int) pa_nil)) (pv 1))))))))))))), ?_⟩
    have nc : c ≠ p := ne_of hc hp (by intro z; have := HO.lst.inj z; cases cs with | nil => cases hn | cons a r => cases this)
    have hmod : ∀ i : Int, 0 ≤ i.fmod b ∧ i.fmod b < b := fun i => ⟨Int.fmod_nonneg_of_pos _ hb, Int.fmod_lt_of_pos _ hb⟩
    have cat : ∀ {H1}, But p H H1 → H1 c = some (.lst (cs.map V.int)) := fun h => h c _ nc hc
    have fin : ∀ {H1} {x1 x2 x3 x4 : Int} (i : Int), But p H H1 → 0 ≤ x1 → H1 p = some (.lst [.ref c, .int x1, .int x2, .int x3, .int x4]) → Q (.int (i.fmod b)) H1 := fun i bt h e => by
      have := q _ (i.fmod b).toNat (by have := hmod i; omega) ⟨cs, _, _, _, _, e, cat bt, hn, h⟩ bt
      rw [Int.toNat_of_nonneg (hmod i).1] at this
      exact this
    have hb3 : b ≠ 0 ∧ b.natAbs < 1073741824 := ⟨by omega, by omega⟩
    have hl : 0 < (cs.map V.int).length := by rw [List.length_map]; exact hn
    have tail : ∀ i : Int, 0 ≤ i.fmod ((cs.map V.int).length : Int) ∧ i.fmod ((cs.map V.int).length : Int) < cs.length := fun i => by
      rw [List.length_map]
      exact ⟨Int.fmod_nonneg_of_pos _ (by omega), Int.fmod_lt_of_pos _ (by omega)⟩
    obtain ⟨z, hz⟩ := get_int (cs := cs) (tail ct).1 (tail ct).2
    walk_at "s"
    have b1 : ∀ o, But p H (upd H p o) := fun o => (But.refl p H).upd
    have c1 : ∀ o, SqL K (upd H p o) c (cs.map V.int) := fun o => SqL.of (cat (b1 o))
    refine ite2 (fun e => ?_) (fun e => ?_)
    · refine ⟨_, rfl, .ref c, rfl, c, _, rfl, .inl (c1 _), ?_⟩
      walk_at "s"
      refine ite2 (fun e => ?_) (fun e => ?_)
      · walk_at "s"
        refine ite2 (fun e => ?_) (fun e => ?_)
        · walk_at "s"
          refine ⟨c, _, rfl, .inl (SqL.of (cat (b1 _).upd.upd)), ?_⟩
          walk_at "s"
          refine ite2 (fun e3 => ?_) (fun e3 => ?_)
          · have e4 : pl + 1 < ((cs.map V.int).length : Int) := of_decide_eq_true e3
            obtain ⟨z2, hz2⟩ := get_int (cs := cs) (i := pl + 1) (by omega) (by rw [List.length_map] at e4; exact e4)
            walk_at "s"
            refine ⟨_, _, _, _, rfl, rfl, SqL.of (cat (b1 _).upd.upd), hz2, ?_⟩
            walk_at "s"
            exact fin _ (b1 _).upd.upd.upd (by omega) upd_same
          · walk_at "s"
            exact fin _ (b1 _).upd.upd (by omega) upd_same
        · walk_at "s"
          exact fin _ (b1 _).upd hpl upd_same
      · walk_at "s"
        try (refine ⟨_, _, _, _, rfl, rfl, c1 _, hz, ?_⟩)
        walk_at "s"
        exact fin _ (b1 _) hpl upd_same
    · walk_at "s"
      try (refine ⟨_, _, _, _, rfl, rfl, c1 _, hz, ?_⟩)
      walk_at "s"
      exact fin _ (b1 _) hpl upd_same

theorem ok_law_source (T : Txt K mg A) : FnOk P w K mg base CX0 1 A.a_law_source A.d_law_source ["_law_script"] (spSource K) := by
  refine T.F_law_source.ok sc_law_source (fun vs H Q E h => ?_) (fun cdv A outer s H vs Q E hr h => ?_)
  · obtain ⟨a, ns, rfl, _⟩ := h
    rfl
  · obtain ⟨a, ns, rfl, hS, hl, q⟩ := h
    refine ⟨_, (pss_cons (ps_setLc (i := 2) (own := [("_law_cell", 1)]) rfl sc_law_source.nd rfl rfl (sw_true rfl rfl rfl (by decide +kernel)) (pi_list (pv 0)) (blkOk_by (own := [("_law_cell", 1)]) (N := N_law_source) (sc := defScope s_law_source) (by decide +kernel)) (fun _ _ _ _ _ => pg_name (i := 1) sc_law_source.nd rfl (Or.inl rfl)) (fun _ _ _ _ _ => pts_nil) (fun _ _ _ _ _ => by exact (pe_callB call_abs (by rfl) T.n_abs (by decide +kernel) (pa_cons (pe_callTy call_int1 (by rfl) T.n_int (by decide +kernel) (pa_cons (pv 1) pa_nil)) pa_nil))))
    (pss_cons (ps_if (pt_cmpR op_eq (pe_callB len_seq (by rfl) T.n_len (by decide +kernel) (pa_cons (pv 2) pa_nil)) pe_int (nomark _)) (pss_one (ps_set (i := 2) sc_law_source.nd rfl (.inl rfl) (pe_lst (pa_cons pe_int pa_nil)))) pss_nil)
    (pss_cons (ps_set (i := 3) sc_law_source.nd rfl (.inl rfl) pe_int)
    (pss_cons (ps_if (pt_cmpR op_lt (pe_ix ix_list (pv 2) pe_int (fun _ _ => rfl)) (pe_op op_pow pe_int pe_int) (nomark _)) (pss_one (ps_set (i := 3) sc_law_source.nd rfl (.inl rfl) (pe_op op_mod (pe_callTy call_int1 (by rfl) T.n_int (by decide +kernel) (pa_cons (pe_ix ix_list (pv 2) pe_int (fun _ _ => rfl)) pa_nil)) pe_int))) pss_nil)
    (pss_one (ps_ret (pe_lst (pa_cons (pv 2) (pa_cons pe_int (pa_cons (pe_ix ix_list (pv 2) pe_int (fun _ _ => rfl)) (pa_cons pe_int (pa_cons (pv 3) pa_nil)))))))))))), ?_⟩
    have w := walk_list (K := K) (a := a) (xs := ns.map V.int)
    refine ⟨_, rfl, a, rfl, ⟨_, hS⟩, fun D hD => ?_⟩
    have hx : ∀ {i : Nat} {x : V}, (ns.map V.int)[i]? = some x → x = .int (ns.getD i 0) := fun {i x} e => by
      rw [List.getElem?_map] at e
      cases h : ns[i]? with
      | none => rw [h] at e; cases e
      | some z =>
        rw [h] at e
        rw [List.getD_eq_getElem?_getD, h]
        exact (Option.some.inj e).symm
    refine lc_vals w (fun i x => (ns.map V.int)[i]? = some x) (fun i => .int (if ns.getD i 0 < 0 then -ns.getD i 0 else ns.getD i 0)) hD (fun H' e => e.seq hS) (by rw [List.length_map]; omega) (fun i H x H' _ y => y) (fun i x H' hi sm e Q q => ?_) (fun H1 s1 e1 => ?_)
    · rw [hx e]
      exact ⟨_, rfl, .inl ⟨_, rfl, _, rfl, q _ (Same.refl _)⟩⟩
    have e2 : H1 D = some (.lst (((List.range ns.length).map fun i => if ns.getD i 0 < 0 then -ns.getD i 0 else ns.getD i 0).map V.int)) := by
      rw [e1, List.map_map, List.length_map]
      rfl
    generalize hcs : ((List.range ns.length).map fun i => if ns.getD i 0 < 0 then -ns.getD i 0 else ns.getD i 0) = cs at e2
    clear hcs e1
    refine ⟨_, rfl, D, _, rfl, .inl (SqL.of e2), rfl, _, rfl, ite2 (fun e => ?_) (fun e => ?_)⟩
    · refine ⟨by decide, fun c hc => ?_⟩
      generalize hH : upd H1 c (.lst [V.int 5]) = H2
      have fc : H c = none := s1.free hc
      have ec : H2 c = some (.lst (([5] : List Int).map V.int)) := by rw [← hH]; exact upd_same
      have s2 : Same H1 H2 := by rw [← hH]; exact same_new hc
      have sm : Same H H2 := s1.trans s2
      have hl : 0 < ([5] : List Int).length := by decide
      generalize ([5] : List Int) = cs at ec hl
      clear hH hc
      obtain ⟨z, h0⟩ := get_int (cs := cs) (i := 0) (Int.le_refl 0) (by omega)
      have fin : ∀ (x1 x2 x3 x4 : Int) {H3 : Hp}, 0 ≤ x1 → Same H1 H3 → H3 = H2 → ∀ p, H3 p = none → Q (.ref p) (upd H3 p (.lst [.ref c, .int x1, .int x2, .int x3, .int x4])) := fun x1 x2 x3 x4 H3 h1 s3 e3 p hp => by
        subst e3
        exact q _ c _ (sm.trans (same_new hp)) fc (sm.free hp) ⟨cs, x1, x2, x3, x4, upd_same, by rw [upd_ne (ne_of_none ec hp)]; exact ec, hl, h1⟩
      refine ⟨.ref c, rfl, c, _, _, _, rfl, rfl, SqL.of ec, h0, _, _, rfl, rfl, ⟨by decide, by decide, by decide⟩, _, _, rfl, rfl, _, rfl, ite2 (fun e => ?_) (fun e => ?_)⟩
      · refine ⟨.ref c, rfl, c, _, _, _, rfl, rfl, SqL.of ec, h0, .inl ⟨_, rfl, _, _, rfl, rfl, (by show (0 : Int) < 2; decide), ?_⟩⟩
        refine ⟨.ref c, rfl, .ref c, rfl, c, _, _, _, rfl, rfl, SqL.of ec, h0, _, rfl, lenOk (n := 5) rfl (by decide), fun p hp => ?_⟩
        exact fin _ _ _ _ (Int.le_refl 0) s2 rfl p hp
      · refine ⟨.ref c, rfl, .ref c, rfl, c, _, _, _, rfl, rfl, SqL.of ec, h0, _, rfl, lenOk (n := 5) rfl (by decide), fun p hp => ?_⟩
        exact fin _ _ _ _ (Int.le_refl 0) s2 rfl p hp
    · have hl : 0 < cs.length := by
        cases cs with
        | nil => exact absurd (decide_eq_true rfl) e
        | cons => exact Nat.succ_pos _
      have ec := e2
      have fc : H D = none := hD
      generalize D = c at ec fc
      generalize hH : H1 = H2 at ec
      have s2 : Same H1 H2 := by rw [← hH]; exact Same.refl _
      have sm : Same H H2 := s1.trans s2
      obtain ⟨z, h0⟩ := get_int (cs := cs) (i := 0) (Int.le_refl 0) (by omega)
      have fin : ∀ (x1 x2 x3 x4 : Int) {H3 : Hp}, 0 ≤ x1 → Same H1 H3 → H3 = H2 → ∀ p, H3 p = none → Q (.ref p) (upd H3 p (.lst [.ref c, .int x1, .int x2, .int x3, .int x4])) := fun x1 x2 x3 x4 H3 h1 s3 e3 p hp => by
        subst e3
        exact q _ c _ (sm.trans (same_new hp)) fc (sm.free hp) ⟨cs, x1, x2, x3, x4, upd_same, by rw [upd_ne (ne_of_none ec hp)]; exact ec, hl, h1⟩
      refine ⟨.ref c, rfl, c, _, _, _, rfl, rfl, SqL.of ec, h0, _, _, rfl, rfl, ⟨by decide, by decide, by decide⟩, _, _, rfl, rfl, _, rfl, ite2 (fun e => ?_) (fun e => ?_)⟩
      · refine ⟨.ref c, rfl, c, _, _, _, rfl, rfl, SqL.of ec, h0, .inl ⟨_, rfl, _, _, rfl, rfl, (by show (0 : Int) < 2; decide), ?_⟩⟩
        refine ⟨.ref c, rfl, .ref c, rfl, c, _, _, _, rfl, rfl, SqL.of ec, h0, _, rfl, lenOk (n := 5) rfl (by decide), fun p hp => ?_⟩
        exact fin _ _ _ _ (Int.le_refl 0) s2 rfl p hp
      · refine ⟨.ref c, rfl, .ref c, rfl, c, _, _, _, rfl, rfl, SqL.of ec, h0, _, rfl, lenOk (n := 5) rfl (by decide), fun p hp => ?_⟩
        exact fin _ _ _ _ (Int.le_refl 0) s2 rfl p hp
def spNone : Sp := fun _ _ _ _ => False
theorem ok_plain (T : Txt K mg A) : ∀ n : Nat, FnOk P w K mg base CX0 n A.a_law_plain A.d_law_plain ["_law_thing"] (spPlain K n)
  | 0 => ⟨fun _ _ _ _ h => h.elim, fun _ _ _ _ _ _ _ _ _ _ _ _ _ h => h.elim⟩
  | n + 1 => by
    have G0 : FnOk P w K mg base CX0 n A.a_law_plain A.d_law_plain ["_law_thing"] (spPlain K n) := ok_plain T n
    refine T.F_law_plain.ok sc_law_plain (fun vs H Q E h => ?_) (fun cdv A outer s H vs Q E hr h => ?_)
    · obtain ⟨v, d, S, rfl, _⟩ := h
      rfl
    · obtain ⟨v, d, S, rfl, hS, hd, hn, hw, q⟩ := h
      refine ⟨_, (pss_cons (ps_if (pt_val (pe_callB call_isiT (by rfl) T.n_isinstance (by decide +kernel) (pa_cons (pv 0) (pa_cons (pe_tup (pa_cons (pe_bltn (v := .ty "list") (u := .type "list") (by rfl) T.n_list (by decide +kernel) rfl) (pa_cons (pe_bltn (v := .ty "tuple") (u := .type "tuple") (by rfl) T.n_tuple (by decide +kernel) rfl) pa_nil))) pa_nil)))) (pss_one (ps_ret (pe_tup (pa_cons (pe_callB call_isi (by rfl) T.n_isinstance (by decide +kernel) (pa_cons (pv 0) (pa_cons (pe_bltn (v := .ty "list") (u := .type "list") (by rfl) T.n_list (by decide +kernel) rfl) pa_nil))) (pa_cons (pe_lc (own := [("_law_one", 1)]) rfl sc_law_plain.nd (PI_or (pi_list (pv 0)) (pi_tup (pv 0))) (blkOk_by (own := [("_law_one", 1)]) (N := N_law_plain) (sc := defScope s_law_plain) (by decide +kernel)) (fun _ _ _ _ _ => pg_name (i := 1) sc_law_plain.nd rfl (Or.inl rfl)) (fun _ _ _ _ _ => pts_nil) (fun _ _ _ _ _ => by exact (pe_call G0 (hr.mono (by omega)) rfl T.g_law_plain T.F_law_plain.kp T.b_law_plain .nil pass0 (pa_cons (pv 1) pa_nil)))) pa_nil))))) pss_nil)
    (pss_one (ps_ret (pe_tup (pa_cons (pe_callB call_isi (by rfl) T.n_isinstance (by decide +kernel) (pa_cons (pv 0) (pa_cons (pe_bltn (v := .ty "bool") (u := .type "bool") (by rfl) T.n_bool (by decide +kernel) rfl) pa_nil))) (pa_cons (pv 0) pa_nil)))))), ?_⟩
      have out : ∀ (b : Bool), tn d ≠ "list" → tn d ≠ "tuple" → b = isB (tn d) "bool" → plD d = .tuple [.bool b, d] := fun b h1 h2 h3 => by
        subst h3
        cases hd with
        | non => rfl
        | bl => rfl
        | int => rfl
        | str => rfl
        | lst _ _ => exact absurd rfl h1
        | tup _ _ => exact absurd rfl h2
      refine ⟨_, rfl, lenOk rfl (by decide), fun tp htp => ?_⟩
      have hd1 : Dx K _ S v d := Dx.up (Out.of (same_new (o := .tup (["list", "tuple"].map V.ty)) htp)) hd
      refine ⟨v, tp, _, _, _, _, rfl, upd_same, paired_ty ["list", "tuple"], dp_ty hd1.dp, kit_any (dp_tn hd1.dp) ["list", "tuple"] (by decide), ?_⟩
      have sm0 : Same H (upd H tp (.tup [V.ty "list", V.ty "tuple"])) := same_new htp
      refine ⟨_, rfl, ite2 (fun e => ?_) (fun e => ?_)⟩
      · refine ⟨_, rfl, v, .ty "list", _, _, _, rfl, .ty "list", dp_ty hd1.dp, kit_ty (kitT _ (dp_tn hd1.dp) "list" (by decide)), ?_⟩
        have htt : tn d = "list" ∨ tn d = "tuple" := by
          have hb := dp_tn hd.dp
          rcases List.mem_cons.mp hb with h | hb
          · rw [h] at e; exact absurd e (by decide)
          rcases List.mem_cons.mp hb with h | hb
          · rw [h] at e; exact absurd e (by decide)
          rcases List.mem_cons.mp hb with h | hb
          · rw [h] at e; exact absurd e (by decide)
          rcases List.mem_cons.mp hb with h | hb
          · rw [h] at e; exact absurd e (by decide)
          rcases List.mem_cons.mp hb with h | hb
          · exact .inl h
          · exact .inr (List.mem_singleton.mp hb)
        generalize hH1 : upd H tp (.tup (["list", "tuple"].map V.ty)) = H1 at hd1
        have hH2 : upd H tp (.tup [V.ty "list", V.ty "tuple"]) = H1 := hH1
        rw [hH2] at sm0 ⊢
        have hS1 : ∀ a, S a → H1 a ≠ none := fun a z y => hS a z (sm0.free y)
        cases n with
        | zero =>
          cases hd with
          | lst h t => exact absurd hn (Nat.not_succ_le_zero _)
          | tup h t => exact absurd hn (Nat.not_succ_le_zero _)
          | non => rcases htt with z | z <;> exact absurd z (by show ¬ "NoneType" = _; decide)
          | bl => rcases htt with z | z <;> exact absurd z (by show ¬ "bool" = _; decide)
          | int => rcases htt with z | z <;> exact absurd z (by show ¬ "int" = _; decide)
          | str => rcases htt with z | z <;> exact absurd z (by show ¬ "str" = _; decide)
        | succ n =>
          cases hd1 with
          | non => rcases htt with z | z <;> exact absurd z (by show ¬ "NoneType" = _; decide)
          | bl => rcases htt with z | z <;> exact absurd z (by show ¬ "bool" = _; decide)
          | int => rcases htt with z | z <;> exact absurd z (by show ¬ "int" = _; decide)
          | str => rcases htt with z | z <;> exact absurd z (by show ¬ "str" = _; decide)
          | @lst a xs ds h t =>
            have hw' : wdA ds = true := (Bool.and_eq_true_iff.mp hw).2
            have hl : xs.length ≤ 1000000 := by
              have := of_decide_eq_true (Bool.and_eq_true_iff.mp hw).1
              rw [dxAll_len t]
              omega
            refine .inl ⟨_, rfl, a, rfl, ⟨_, h.sq⟩, fun D hD => ?_⟩
            refine lc_data (S := S) (K := K) (walk_list (K := K) (a := a) (xs := xs)) (fun i x => xs[i]? = some x) (fun i => plD (ds.getD i .none)) hS1 hD (fun H' e => (h.up (Out.of e)).sq) hl (fun i H x H' _ y => y) (fun i x H' hi sm hDn e Q q => ?_) (fun H2 s2 d2 => ?_)
            · obtain ⟨di, h1, h2⟩ := dxAll_get (DxAll.up (Out.of sm) t) e
              have h3 : di.depth ≤ n := by
                have := depth_get h1
                have hn' : PyData.depthAll ds + 1 ≤ n + 1 := hn
                omega
              refine ⟨_, rfl, x, di, inS S D, rfl, fun a z => ?_, ?_, h3, wdA_get hw' h1, fun H' v' s3 d3 => ?_⟩
              · rcases z with z | z
                · exact fun y => hS1 a z (sm.free y)
                · rw [z]; exact hDn
              · exact Dx.up (Out.of sm) (Dx.add hD (Dx.of_get t e h1))
              · refine q _ _ s3 ?_
                rw [List.getD_eq_getElem?_getD, h1]
                exact d3
            refine ⟨lenOk (n := 2) rfl (by decide), fun l hl2 => ?_⟩
            have hSl : ¬ S l := fun z => hS l z (((sm0.trans s2)).free hl2)
            refine q _ _ ((sm0.trans s2).trans (same_new hl2)) ?_
            have e3 : (List.range xs.length).map (fun i => plD (ds.getD i .none)) = plA ds := by
              rw [dxAll_len t, range_getD plD .none ds, plA_map]
            rw [e3] at d2
            exact .tup (XT.of upd_same hSl) (.cons (.bl _) (.cons (Dx.up (Out.of (same_new hl2)) d2) .nil))
          | @tup a xs ds h t =>
            have hw' : wdA ds = true := (Bool.and_eq_true_iff.mp hw).2
            have hl : xs.length ≤ 1000000 := by
              have := of_decide_eq_true (Bool.and_eq_true_iff.mp hw).1
              rw [dxAll_len t]
              omega
            refine .inr ⟨_, rfl, a, rfl, ⟨_, h.sq⟩, fun D hD => ?_⟩
            refine lc_data (S := S) (K := K) (walk_tup (K := K) (a := a) (xs := xs)) (fun i x => xs[i]? = some x) (fun i => plD (ds.getD i .none)) hS1 hD (fun H' e => (h.up (Out.of e)).sq) hl (fun i H x H' _ y => y) (fun i x H' hi sm hDn e Q q => ?_) (fun H2 s2 d2 => ?_)
            · obtain ⟨di, h1, h2⟩ := dxAll_get (DxAll.up (Out.of sm) t) e
              have h3 : di.depth ≤ n := by
                have := depth_get h1
                have hn' : PyData.depthAll ds + 1 ≤ n + 1 := hn
                omega
              refine ⟨_, rfl, x, di, inS S D, rfl, fun a z => ?_, ?_, h3, wdA_get hw' h1, fun H' v' s3 d3 => ?_⟩
              · rcases z with z | z
                · exact fun y => hS1 a z (sm.free y)
                · rw [z]; exact hDn
              · exact Dx.up (Out.of sm) (Dx.add hD (Dx.of_get t e h1))
              · refine q _ _ s3 ?_
                rw [List.getD_eq_getElem?_getD, h1]
                exact d3
            refine ⟨lenOk (n := 2) rfl (by decide), fun l hl2 => ?_⟩
            have hSl : ¬ S l := fun z => hS l z (((sm0.trans s2)).free hl2)
            refine q _ _ ((sm0.trans s2).trans (same_new hl2)) ?_
            have e3 : (List.range xs.length).map (fun i => plD (ds.getD i .none)) = plA ds := by
              rw [dxAll_len t, range_getD plD .none ds, plA_map]
            rw [e3] at d2
            exact .tup (XT.of upd_same hSl) (.cons (.bl _) (.cons (Dx.up (Out.of (same_new hl2)) d2) .nil))
      · refine ⟨_, rfl, v, .ty "bool", _, _, _, rfl, .ty "bool", dp_ty hd1.dp, kit_ty (kitT _ (dp_tn hd1.dp) "bool" (by decide)), _, rfl, lenOk (n := 2) rfl (by decide), fun l hl => ?_⟩
        have n1 : tn d ≠ "list" := fun z => e (by rw [z]; decide)
        have n2 : tn d ≠ "tuple" := fun z => e (by rw [z]; decide)
        have hS2 : ¬ S l := fun z => hS l z (sm0.free hl)
        refine q _ _ (sm0.trans (same_new hl)) ?_
        rw [out _ n1 n2 rfl]
        exact .tup (XT.of upd_same hS2) (.cons (.bl _) (.cons (Dx.up (Out.of (same_new hl)) hd1) .nil))
theorem okH_plain (T : Txt K mg A) : ∀ n : Nat, L2H.FnH P w K mg base CX0 n A.a_law_plain A.d_law_plain ["_law_thing"] (spPlain K n)
  | 0 => ⟨fun _ _ _ _ h => h.elim, fun _ _ _ _ _ _ _ _ _ _ _ _ _ _ _ _ h => h.elim⟩
  | n + 1 => by
    have G0 : L2H.FnH P w K mg base CX0 n A.a_law_plain A.d_law_plain ["_law_thing"] (spPlain K n) := okH_plain T n
    refine Fun.okH T.F_law_plain sc_law_plain (fun vs H Q E h => ?_) (fun cdv A outer s H vs Q E p hot hr h => ?_)
    · obtain ⟨v, d, S, rfl, _⟩ := h
      rfl
    · obtain ⟨v, d, S, rfl, hS, hd, hn, hw, q⟩ := h
      refine ⟨_, (pss_cons (ps_if (pt_val (pe_callB (r := rIsiT K) call_isiT (by rfl) T.n_isinstance (by decide +kernel) (pa_cons (pv 0) (pa_cons (pe_tup (pa_cons (pe_bltn (v := .ty "list") (u := .type "list") (by rfl) T.n_list (by decide +kernel) rfl) (pa_cons (pe_bltn (v := .ty "tuple") (u := .type "tuple") (by rfl) T.n_tuple (by decide +kernel) rfl) pa_nil))) pa_nil)))) (pss_one (ps_ret (pe_tup (pa_cons (pe_callB (r := rIsi K) call_isi (by rfl) T.n_isinstance (by decide +kernel) (pa_cons (pv 0) (pa_cons (pe_bltn (v := .ty "list") (u := .type "list") (by rfl) T.n_list (by decide +kernel) rfl) pa_nil))) (pa_cons (pe_lcH (own := [("_law_one", 1)]) rfl hot List.mem_cons_self sc_law_plain.nd (PIH_or (pi_listH (pv 0)) (pi_tupH (pv 0))) (blkOk_by (own := [("_law_one", 1)]) (N := N_law_plain) (sc := defScope s_law_plain) (by decide +kernel)) (fun _ _ _ _ _ => pg_name (i := 1) sc_law_plain.nd rfl (Or.inl rfl)) (fun _ _ _ _ _ => pts_nil) (fun _ _ _ _ _ => by exact (L2H.pe_callH G0 (hr.mono (by omega)) ⟨p, hot, List.mem_cons_self⟩ rfl T.g_law_plain T.F_law_plain.kp T.b_law_plain (fun _ => pass_at0) (pa_cons (pv 1) pa_nil)))) pa_nil))))) pss_nil)
    (pss_one (ps_ret (pe_tup (pa_cons (pe_callB (r := rIsi K) call_isi (by rfl) T.n_isinstance (by decide +kernel) (pa_cons (pv 0) (pa_cons (pe_bltn (v := .ty "bool") (u := .type "bool") (by rfl) T.n_bool (by decide +kernel) rfl) pa_nil))) (pa_cons (pv 0) pa_nil)))))), ?_⟩
      have out : ∀ (b : Bool), tn d ≠ "list" → tn d ≠ "tuple" → b = isB (tn d) "bool" → plD d = .tuple [.bool b, d] := fun b h1 h2 h3 => by
        subst h3
        cases hd with
        | non => rfl
        | bl => rfl
        | int => rfl
        | str => rfl
        | lst _ _ => exact absurd rfl h1
        | tup _ _ => exact absurd rfl h2
      refine ⟨_, rfl, lenOk rfl (by decide), fun tp htp => ?_⟩
      have hd1 : Dx K _ S v d := Dx.up (Out.of (same_new (o := .tup (["list", "tuple"].map V.ty)) htp)) hd
      refine ⟨v, tp, _, _, _, _, rfl, upd_same, paired_ty ["list", "tuple"], dp_ty hd1.dp, kit_any (dp_tn hd1.dp) ["list", "tuple"] (by decide), ?_⟩
      have sm0 : Same H (upd H tp (.tup [V.ty "list", V.ty "tuple"])) := same_new htp
      refine ⟨_, rfl, ite2 (fun e => ?_) (fun e => ?_)⟩
      · refine ⟨_, rfl, v, .ty "list", _, _, _, rfl, .ty "list", dp_ty hd1.dp, kit_ty (kitT _ (dp_tn hd1.dp) "list" (by decide)), ?_⟩
        have htt : tn d = "list" ∨ tn d = "tuple" := by
          have hb := dp_tn hd.dp
          rcases List.mem_cons.mp hb with h | hb
          · rw [h] at e; exact absurd e (by decide)
          rcases List.mem_cons.mp hb with h | hb
          · rw [h] at e; exact absurd e (by decide)
          rcases List.mem_cons.mp hb with h | hb
          · rw [h] at e; exact absurd e (by decide)
          rcases List.mem_cons.mp hb with h | hb
          · rw [h] at e; exact absurd e (by decide)
          rcases List.mem_cons.mp hb with h | hb
          · exact .inl h
          · exact .inr (List.mem_singleton.mp hb)
        generalize hH1 : upd H tp (.tup (["list", "tuple"].map V.ty)) = H1 at hd1
        have hH2 : upd H tp (.tup [V.ty "list", V.ty "tuple"]) = H1 := hH1
        rw [hH2] at sm0 ⊢
        have hS1 : ∀ a, S a → H1 a ≠ none := fun a z y => hS a z (sm0.free y)
        cases n with
        | zero =>
          cases hd with
          | lst h t => exact absurd hn (Nat.not_succ_le_zero _)
          | tup h t => exact absurd hn (Nat.not_succ_le_zero _)
          | non => rcases htt with z | z <;> exact absurd z (by show ¬ "NoneType" = _; decide)
          | bl => rcases htt with z | z <;> exact absurd z (by show ¬ "bool" = _; decide)
          | int => rcases htt with z | z <;> exact absurd z (by show ¬ "int" = _; decide)
          | str => rcases htt with z | z <;> exact absurd z (by show ¬ "str" = _; decide)
        | succ n =>
          cases hd1 with
          | non => rcases htt with z | z <;> exact absurd z (by show ¬ "NoneType" = _; decide)
          | bl => rcases htt with z | z <;> exact absurd z (by show ¬ "bool" = _; decide)
          | int => rcases htt with z | z <;> exact absurd z (by show ¬ "int" = _; decide)
          | str => rcases htt with z | z <;> exact absurd z (by show ¬ "str" = _; decide)
          | @lst a xs ds h t =>
            have hw' : wdA ds = true := (Bool.and_eq_true_iff.mp hw).2
            have hl : xs.length ≤ 1000000 := by
              have := of_decide_eq_true (Bool.and_eq_true_iff.mp hw).1
              rw [dxAll_len t]
              omega
            refine .inl ⟨_, rfl, a, rfl, ⟨_, h.sq⟩, fun D hD => ?_⟩
            refine lc_data (S := S) (K := K) (walk_list (K := K) (a := a) (xs := xs)) (fun i x => xs[i]? = some x) (fun i => plD (ds.getD i .none)) hS1 hD (fun H' e => (h.up (Out.of e)).sq) hl (fun i H x H' _ y => y) (fun i x H' hi sm hDn e Q q => ?_) (fun H2 s2 d2 => ?_)
            · obtain ⟨di, h1, h2⟩ := dxAll_get (DxAll.up (Out.of sm) t) e
              have h3 : di.depth ≤ n := by
                have := depth_get h1
                have hn' : PyData.depthAll ds + 1 ≤ n + 1 := hn
                omega
              refine ⟨_, rfl, x, di, inS S D, rfl, fun a z => ?_, ?_, h3, wdA_get hw' h1, fun H' v' s3 d3 => ?_⟩
              · rcases z with z | z
                · exact fun y => hS1 a z (sm.free y)
                · rw [z]; exact hDn
              · exact Dx.up (Out.of sm) (Dx.add hD (Dx.of_get t e h1))
              · refine q _ _ s3 ?_
                rw [List.getD_eq_getElem?_getD, h1]
                exact d3
            refine ⟨lenOk (n := 2) rfl (by decide), fun l hl2 => ?_⟩
            have hSl : ¬ S l := fun z => hS l z (((sm0.trans s2)).free hl2)
            refine q _ _ ((sm0.trans s2).trans (same_new hl2)) ?_
            have e3 : (List.range xs.length).map (fun i => plD (ds.getD i .none)) = plA ds := by
              rw [dxAll_len t, range_getD plD .none ds, plA_map]
            rw [e3] at d2
            exact .tup (XT.of upd_same hSl) (.cons (.bl _) (.cons (Dx.up (Out.of (same_new hl2)) d2) .nil))
          | @tup a xs ds h t =>
            have hw' : wdA ds = true := (Bool.and_eq_true_iff.mp hw).2
            have hl : xs.length ≤ 1000000 := by
              have := of_decide_eq_true (Bool.and_eq_true_iff.mp hw).1
              rw [dxAll_len t]
              omega
            refine .inr ⟨_, rfl, a, rfl, ⟨_, h.sq⟩, fun D hD => ?_⟩
            refine lc_data (S := S) (K := K) (walk_tup (K := K) (a := a) (xs := xs)) (fun i x => xs[i]? = some x) (fun i => plD (ds.getD i .none)) hS1 hD (fun H' e => (h.up (Out.of e)).sq) hl (fun i H x H' _ y => y) (fun i x H' hi sm hDn e Q q => ?_) (fun H2 s2 d2 => ?_)
            · obtain ⟨di, h1, h2⟩ := dxAll_get (DxAll.up (Out.of sm) t) e
              have h3 : di.depth ≤ n := by
                have := depth_get h1
                have hn' : PyData.depthAll ds + 1 ≤ n + 1 := hn
                omega
              refine ⟨_, rfl, x, di, inS S D, rfl, fun a z => ?_, ?_, h3, wdA_get hw' h1, fun H' v' s3 d3 => ?_⟩
              · rcases z with z | z
                · exact fun y => hS1 a z (sm.free y)
                · rw [z]; exact hDn
              · exact Dx.up (Out.of sm) (Dx.add hD (Dx.of_get t e h1))
              · refine q _ _ s3 ?_
                rw [List.getD_eq_getElem?_getD, h1]
                exact d3
            refine ⟨lenOk (n := 2) rfl (by decide), fun l hl2 => ?_⟩
            have hSl : ¬ S l := fun z => hS l z (((sm0.trans s2)).free hl2)
            refine q _ _ ((sm0.trans s2).trans (same_new hl2)) ?_
            have e3 : (List.range xs.length).map (fun i => plD (ds.getD i .none)) = plA ds := by
              rw [dxAll_len t, range_getD plD .none ds, plA_map]
            rw [e3] at d2
            exact .tup (XT.of upd_same hSl) (.cons (.bl _) (.cons (Dx.up (Out.of (same_new hl2)) d2) .nil))
      · refine ⟨_, rfl, v, .ty "bool", _, _, _, rfl, .ty "bool", dp_ty hd1.dp, kit_ty (kitT _ (dp_tn hd1.dp) "bool" (by decide)), _, rfl, lenOk (n := 2) rfl (by decide), fun l hl => ?_⟩
        have n1 : tn d ≠ "list" := fun z => e (by rw [z]; decide)
        have n2 : tn d ≠ "tuple" := fun z => e (by rw [z]; decide)
        have hS2 : ¬ S l := fun z => hS l z (sm0.free hl)
        refine q _ _ (sm0.trans (same_new hl)) ?_
        rw [out _ n1 n2 rfl]
        exact .tup (XT.of upd_same hS2) (.cons (.bl _) (.cons (Dx.up (Out.of (same_new hl)) hd1) .nil))
end
end R1

namespace R1
open PySem PySem.Spec PyProof.Rows L2 RK
local macro_rules | `(tactic| walk_at "sq") => `(tactic| first
  | exact SqL.of upd_same | exact upd_same | exact SqL.of (by assumption) | exact SqL.of (by rw [upd_ne (by assumption)]; assumption) | assumption)
local macro_rules | `(tactic| walk_at "sd") => `(tactic| first
  | assumption | omega | (refine Or.inl ⟨?_, ?_⟩ <;> omega) | (show _ ∧ _; constructor <;> omega) | (show _ ≠ _; simp; omega) | (exact Or.inl ⟨by decide, by decide⟩) | (exact Or.inr ⟨by decide, by decide⟩) | (show _ < _; decide) | (show _ ≤ _; decide))
local macro_rules | `(tactic| walk_at "at") => `(tactic| first | rfl | (refine atI_intV ?_ ?_ <;> omega) | assumption)
local macro_rules | `(tactic| walk_at "s1") => `(tactic| first
  | refine ⟨_, rfl, ?_⟩ | refine ⟨_, _, rfl, rfl, ?_⟩ | refine ⟨rfl, ?_⟩
  | refine ⟨_, _, _, _, rfl, rfl, by walk_at "sq", by walk_at "at", ?_⟩
  | refine Or.inl ⟨_, rfl, ?_⟩
  | refine ⟨_, _, rfl, Or.inl (by walk_at "sq"), ?_⟩
  | refine And.intro (by walk_at "sd") ?_)
local macro_rules | `(tactic| walk_at "s") => `(tactic| repeat walk_at "s1")

/-! ### pieces -/
inductive Pc where
  | cp (a n : Nat)
  | pt (ws : List Nat)
def Pc.ws : Pc → List Nat
  | .cp a n => [32768 + n, a]
  | .pt ws => ws.length :: ws
def pcD : Pc → PyData
  | .cp a n => .tuple [.str (Str.ofString "copy"), .int (a : Int), .int (n : Int)]
  | .pt ws => .tuple [.str (Str.ofString "put"), intsD ws]
def pcsD (ps : List Pc) : PyData := .tuple (ps.map pcD)
def wsOf (ps : List Pc) : List Nat := ps.flatMap Pc.ws
section
variable {K : PySem.W.Frag} {H H' : Hp} {S : ASet} {v : V} {a p : Addr}
theorem dx_pcs (h : Dx K H S v (pcsD ps)) : ∃ a xs, v = .ref a ∧ XT K H S a xs ∧ xs.length = ps.length ∧ ∀ k (hk : k < ps.length), ∃ x, xs[k]? = some x ∧ Dx K H S x (pcD ps[k]) := by
  cases h with
  | tup h1 h2 =>
    refine ⟨_, _, rfl, h1, by have := dxAll_len h2; rw [List.length_map] at this; exact this, fun k hk => ?_⟩
    have hl := dxAll_len h2
    rw [List.length_map] at hl
    refine ⟨_, List.getElem?_eq_getElem (by omega), Dx.of_get h2 (List.getElem?_eq_getElem (by omega)) ?_⟩
    rw [List.getElem?_map, List.getElem?_eq_getElem hk]
    rfl
theorem dx_ints {ws : List Nat} (h : Dx K H S v (intsD ws)) : ∃ a, v = .ref a ∧ XT K H S a (intV ws) := by
  cases h with
  | tup h1 h2 =>
    rw [dxAll_ints_inv h2] at h1
    rw [← intV_ints] at h1
    exact ⟨_, rfl, h1⟩
theorem dx_cp {a n : Nat} (h : Dx K H S v (pcD (.cp a n))) : ∃ q, v = .ref q ∧ SqT K H q [.str (Str.ofString "copy"), .int (a : Int), .int (n : Int)] := by
  cases h with
  | tup h1 h2 =>
    cases h2 with
    | cons x1 h2 =>
      cases h2 with
      | cons x2 h2 =>
        cases h2 with
        | cons x3 h2 =>
          cases h2
          cases x1
          cases x2
          cases x3
          exact ⟨_, rfl, h1.sq⟩
theorem dx_pt {ws : List Nat} (h : Dx K H S v (pcD (.pt ws))) : ∃ q r, v = .ref q ∧ SqT K H q [.str (Str.ofString "put"), .ref r] ∧ SqT K H r (intV ws) := by
  cases h with
  | tup h1 h2 =>
    cases h2 with
    | cons x1 h2 =>
      cases h2 with
      | cons x2 h2 =>
        cases h2
        cases x1
        obtain ⟨r, rfl, hr⟩ := dx_ints x2
        exact ⟨_, r, rfl, h1.sq, hr.sq⟩
theorem mk_cp {q : Addr} {a n : Nat} (h : H q = some (.tup [.str (Str.ofString "copy"), .int (a : Int), .int (n : Int)])) (nS : ¬ S q) : Dx K H S (.ref q) (pcD (.cp a n)) :=
  .tup (XT.of h nS) (.cons (.str _) (.cons (.int _) (.cons (.int _) .nil)))
theorem mk_pt {q r : Addr} {ws : List Nat} (h : H q = some (.tup [.str (Str.ofString "put"), .ref r])) (nS : ¬ S q) (hr : XT K H S r (intV ws)) : Dx K H S (.ref q) (pcD (.pt ws)) := by
  refine .tup (XT.of h nS) (.cons (.str _) (.cons (.tup hr ?_) .nil))
  rw [intV_ints]
  exact dxAll_ints _
end
theorem ws_len (ps : List Pc) : (wsOf ps).length = (ps.map fun pc => pc.ws.length).sum := by
  unfold wsOf
  rw [List.length_flatMap]
theorem ws_snoc (ps : List Pc) (pc : Pc) : wsOf (ps ++ [pc]) = wsOf ps ++ pc.ws := by
  unfold wsOf
  rw [List.flatMap_append]
  simp
theorem sum_cast (l : List Nat) : (l.map fun (n : Nat) => (n : Int)).sum = ((l.sum : Nat) : Int) := by
  induction l with
  | nil => rfl
  | cons a r ih =>
    rw [List.map_cons, List.sum_cons, List.sum_cons, ih]
    omega
theorem take_map_succ {α β : Type} (f : α → β) (l : List α) (i : Nat) (h : i < l.length) : (l.take (i + 1)).map f = (l.take i).map f ++ [f l[i]] := by
  rw [List.take_add_one, List.getElem?_eq_getElem h, List.map_append]
  rfl
theorem ws_take (ps : List Pc) (i : Nat) (h : i < ps.length) : wsOf (ps.take (i + 1)) = wsOf (ps.take i) ++ ps[i].ws := by
  rw [List.take_add_one, List.getElem?_eq_getElem h]
  exact ws_snoc _ _
theorem ws_take_le (ps : List Pc) (i : Nat) : (wsOf (ps.take i)).length ≤ (wsOf ps).length := by
  have e : wsOf ps = wsOf (ps.take i) ++ wsOf (ps.drop i) := by
    unfold wsOf
    rw [← List.flatMap_append, List.take_append_drop]
  rw [e, List.length_append]
  omega
theorem cutV_mid {xs : List V} {a b : Nat} (hb : b ≤ xs.length) : cutV xs (some (a : Int)) (some (b : Int)) = (xs.drop a).take (b - a) := by
  show (xs.drop (HT.sIx xs.length 0 (some (a : Int)))).take (HT.sIx xs.length xs.length (some (b : Int)) - HT.sIx xs.length 0 (some (a : Int))) = _
  have e1 : HT.sIx xs.length xs.length (some (b : Int)) = b := by
    unfold HT.sIx
    simp only []
    rw [if_neg (by omega)]
    omega
  by_cases h : a ≤ xs.length
  · have e2 : HT.sIx xs.length 0 (some (a : Int)) = a := by
      unfold HT.sIx
      simp only []
      rw [if_neg (by omega)]
      omega
    rw [e1, e2]
  · have e2 : HT.sIx xs.length 0 (some (a : Int)) = xs.length := by
      unfold HT.sIx
      simp only []
      rw [if_neg (by omega)]
      omega
    rw [e1, e2, List.drop_length, List.drop_eq_nil_of_le (by omega), List.take_nil, List.take_nil]
/-- what put_on makes -/
def putAt (el : List Nat) : Nat → List Pc → List Nat → Nat ⊕ List Nat
  | _, [], acc => .inr acc
  | k, .pt ws :: r, acc => putAt el (k + 1) r (acc ++ ws)
  | k, .cp a n :: r, acc => if a + n > el.length then .inl k else putAt el (k + 1) r (acc ++ (el.drop a).take n)
/-- what read_pieces makes -/
def rdP : Nat → Nat → List Nat → List Pc → Nat ⊕ List Pc
  | 0, _, _, acc => .inr acc
  | _ + 1, _, [], acc => .inr acc
  | f + 1, at', w :: r, acc =>
    if w % 32768 = 0 ∨ r.length < (if 32768 ≤ w then 1 else w % 32768) then .inl at'
    else if 32768 ≤ w then rdP f (at' + 2) (r.drop 1) (acc ++ [.cp (r.headD 0) (w % 32768)])
    else rdP f (at' + 1 + w % 32768) (r.drop (w % 32768)) (acc ++ [.pt (r.take (w % 32768))])
def spPrice (K : PySem.W.Frag) : Sp := fun vs H Q _ => ∃ (S : ASet) (v : V) (ps : List Pc), vs = [v] ∧ Dx K H S v (pcsD ps) ∧ ps.length ≤ 1000 ∧ ∀ H', Same H H' → Q (.int (((wsOf ps).length : Nat) : Int)) H'
def spWordsOf (K : PySem.W.Frag) : Sp := fun vs H Q _ => ∃ (S : ASet) (v : V) (ps : List Pc), vs = [v] ∧ Dx K H S v (pcsD ps) ∧ ps.length ≤ 1000 ∧ (wsOf ps).length ≤ 1000000 ∧ ∀ H' q, Same H H' → H q = none → H' q = some (.tup (intV (wsOf ps))) → Q (.ref q) H'
def spPutOn (K : PySem.W.Frag) (C : Addr) : Sp := fun vs H Q E => ∃ (e : Addr) (el : List Nat) (S : ASet) (v : V) (ps : List Pc), vs = [.ref e, v] ∧ SqT K H e (intV el) ∧ Dx K H S v (pcsD ps) ∧ ps.length ≤ 1000 ∧ el.length ≤ 1000 ∧ (∀ ws, Pc.pt ws ∈ ps → ws.length ≤ 1000) ∧
  (∀ n, putAt el 0 ps [] = .inl n → ∀ dx H', Same H H' → H dx = none → H' dx = some (.xd [("number", .int (n : Int))]) → E (.ref C) (some dx) H') ∧
  (∀ out, putAt el 0 ps [] = .inr out → ∀ H' q, Same H H' → H q = none → H' q = some (.tup (intV out)) → Q (.ref q) H')
def spReadP (K : PySem.W.Frag) (C : Addr) : Sp := fun vs H Q E => ∃ (a : Addr) (ws : List Nat), vs = [.ref a] ∧ SqT K H a (intV ws) ∧ ws.length ≤ 1000000 ∧ (∀ w ∈ ws, w ≤ 65535) ∧
  (∀ n, rdP (ws.length + 1) 0 ws [] = .inl n → ∀ dx H', Same H H' → H dx = none → H' dx = some (.xd [("place", .int (n : Int))]) → E (.ref C) (some dx) H') ∧
  (∀ ps, rdP (ws.length + 1) 0 ws [] = .inr ps → ∀ H' q, Same H H' → H q = none → Dx K H' noS (.ref q) (pcsD ps) → Q (.ref q) H')
theorem copy_eq : decide (V.str (Str.ofString "copy") = V.str (Str.ofString "copy")) = true := by decide +kernel
theorem put_eq : decide (V.str (Str.ofString "put") = V.str (Str.ofString "copy")) = false := by decide +kernel
theorem copy_put : decide (V.str (Str.ofString "copy") = V.str (Str.ofString "put")) = false := by decide +kernel
theorem put_put : decide (V.str (Str.ofString "put") = V.str (Str.ofString "put")) = true := by decide +kernel
section
variable {P : Program} {w : World} {K : PySem.W.Frag} {mg : Str → Option Value} {base : Heap} {A : Ads}
theorem ok_price (T : Txt K mg A) : FnOk P w K mg base CX0 1 A.a_price A.d_price ["pieces"] (spPrice K) := by
  refine T.F_price.ok sc_price (fun vs H Q E h => ?_) (fun cdv B outer s H vs Q E hr h => ?_)
  · obtain ⟨S, v, ps, rfl, _⟩ := h
    rfl
  · obtain ⟨S, v, ps, rfl, hd, hl, q⟩ := h
    obtain ⟨a, xs, rfl, hx, hxl, hxe⟩ := dx_pcs hd
    refine ⟨_, (pss_one (ps_ret (pe_callB (cr_sum rfl) (by rfl) T.n_sum (by decide +kernel) (pa_cons (pe_lc (own := [("piece", 1)]) rfl sc_price.nd (pi_tup (pv 0)) (blkOk_by (own := [("piece", 1)]) (N := N_price) (sc := defScope s_price) (by decide +kernel)) (fun _ _ _ _ _ => pg_name (i := 1) sc_price.nd rfl (Or.inl rfl)) (fun _ _ _ _ _ => pts_nil) (fun _ _ _ _ _ => by exact (pe_ifExp (pt_cmpR op_eq (pe_ix (r := rIxT K) ix_tup (pv 1) pe_int (fun _ _ => rfl)) pe_str (nomark _)) pe_int (pe_op op_add pe_int (pe_callB (r := Evl.rLenS K) len_seq (by rfl) T.n_len (by decide +kernel) (pa_cons (pe_ix (r := rIxT K) ix_tup (pv 1) pe_int (fun _ _ => rfl)) pa_nil)))))) pa_nil)))), ?_⟩
    refine ⟨_, rfl, a, rfl, ⟨_, hx.sq⟩, fun D hD => ?_⟩
    refine lc_vals (walk_tup (K := K) (a := a) (xs := xs)) (fun i v => xs[i]? = some v) (fun i => .int (((ps.getD i (.pt [])).ws.length : Nat) : Int)) hD (fun H4 s4 => sqT_up hx.sq s4) (by omega) (fun i H1 v H2 hi y => y) (fun i v H4 hi sm hv Q q => ?_) (fun H4 s4 e4 => ?_)
    · rw [hxl] at hi
      obtain ⟨x, hx1, hx2⟩ := hxe i hi
      rw [hx1] at hv
      cases hv
      have hg : ps.getD i (.pt []) = ps[i] := by rw [List.getD_eq_getElem?_getD, List.getElem?_eq_getElem hi]; rfl
      rw [hg] at q
      generalize ps[i] = pc at hx2 q
      have hx2 := Dx.up (Out.of sm) hx2
      cases pc with
      | cp u n =>
        obtain ⟨r, rfl, hr⟩ := dx_cp hx2
        refine ⟨_, rfl, r, _, 0, _, rfl, rfl, hr, atI_nat (j := 0) rfl, rfl, _, rfl, ifT copy_eq ?_⟩
        exact q _ (Same.refl _)
      | pt ws =>
        obtain ⟨r, t, rfl, hr, ht⟩ := dx_pt hx2
        refine ⟨_, rfl, r, _, 0, _, rfl, rfl, hr, atI_nat (j := 0) rfl, rfl, _, rfl, ifF put_eq ?_⟩
        refine ⟨_, rfl, r, _, 1, _, rfl, rfl, hr, atI_nat (j := 1) rfl, t, _, rfl, .inr ht, _, _, rfl, rfl, ?_⟩
        have := q _ (Same.refl _)
        have e : (((Pc.pt ws).ws.length : Nat) : Int) = 1 + ((intV ws).length : Int) := by
          unfold Pc.ws intV
          rw [List.length_cons, List.length_map]
          omega
        rw [e] at this
        exact this
    · refine ⟨D, (ps.map fun pc => pc.ws.length).map fun (n : Nat) => (n : Int), rfl, SqL.of ?_, ?_⟩
      · rw [e4, hxl, List.map_map, List.map_map]
        exact congrArg (fun z => some (HO.lst z)) (range_getD (fun pc : Pc => V.int ((pc.ws.length : Nat) : Int)) (.pt []) ps)
      · rw [sum_cast, ← ws_len]
        exact q _ s4
end
end R1

namespace R1
open PySem PySem.Spec PyProof.Rows L2 RK
local macro_rules | `(tactic| walk_at "sq") => `(tactic| first
  | exact SqL.of upd_same | exact upd_same | exact SqL.of (by assumption) | exact SqL.of (by rw [upd_ne (by assumption)]; assumption) | assumption)
local macro_rules | `(tactic| walk_at "sd") => `(tactic| first
  | assumption | omega | (refine Or.inl ⟨?_, ?_⟩ <;> omega) | (show _ ∧ _; constructor <;> omega) | (show _ ≠ _; simp; omega) | (exact Or.inl ⟨by decide, by decide⟩) | (exact Or.inr ⟨by decide, by decide⟩) | (show _ < _; decide) | (show _ ≤ _; decide))
local macro_rules | `(tactic| walk_at "at") => `(tactic| first | rfl | (refine atI_intV ?_ ?_ <;> omega) | assumption)
local macro_rules | `(tactic| walk_at "s1") => `(tactic| first
  | refine ⟨_, rfl, ?_⟩ | refine ⟨_, _, rfl, rfl, ?_⟩ | refine ⟨rfl, ?_⟩
  | refine ⟨_, _, _, _, rfl, rfl, by walk_at "sq", by walk_at "at", ?_⟩
  | refine Or.inl ⟨_, rfl, ?_⟩
  | refine ⟨_, _, rfl, Or.inl (by walk_at "sq"), ?_⟩
  | refine And.intro (by walk_at "sd") ?_)
local macro_rules | `(tactic| walk_at "s") => `(tactic| repeat walk_at "s1")

theorem drop_at {α : Type} {l : List α} {i : Nat} (h : i < l.length) : l.drop i = l[i] :: l.drop (i + 1) := List.drop_eq_getElem_cons h
theorem intV_app (a b : List Nat) : intV (a ++ b) = intV a ++ intV b := List.map_append ..
theorem intV_len (a : List Nat) : (intV a).length = a.length := List.length_map ..
theorem intV_cut (a : List Nat) (i n : Nat) : ((intV a).drop i).take n = intV ((a.drop i).take n) := by
  unfold intV
  rw [List.map_take, List.map_drop]
section
variable {P : Program} {w : World} {K : PySem.W.Frag} {mg : Str → Option Value} {base : Heap} {A : Ads}
theorem ok_put_on (T : Txt K mg A) : FnOk P w K mg base (L2N.CX P w) 3 A.a_put_on A.d_put_on ["elder", "pieces"] (spPutOn K A.c_BadPiece) := by
  refine Fun.okN T.F_put_on sc_put_on (fun vs H Q E h => ?_) (fun cdv B outer s H vs Q E hr h => ?_)
  · obtain ⟨e, el, S, v, ps, rfl, _⟩ := h
    rfl
  · obtain ⟨e, el, S, v, ps, rfl, he, hd, hl, hel, hpl, bad, good⟩ := h
    obtain ⟨a, xs, rfl, hx, hxl, hxe⟩ := dx_pcs hd
    have raise : ∀ n, putAt el 0 ps [] = .inl n → ∀ Hc, Same H Hc → ∀ Q' : XK, Q' = E → ∀ dx H2, Same Hc H2 → Hc dx = none → H2 dx = some (.xd [("number", .int (n : Int))]) → Q' (.ref A.c_BadPiece) (some dx) H2 := fun n h Hc s1 Q' eQ dx H2 s2 n2 e2 => by
      rw [eQ]
      exact bad n h dx H2 (s1.trans s2) (s1.free n2) e2
    refine ⟨_, (pss_cons (ps_set (i := 2) sc_put_on.nd rfl (.inl rfl) (pe_lst pa_nil))
    (pss_cons (ps_for (passes_of rfl) rfl (pi_enumT (by rfl) T.n_enumerate (pa_cons (pv 1) pa_nil)) (pg_tup (by rfl) (pgs_cons (pg_name (i := 3) sc_put_on.nd rfl (.inl rfl)) (pgs_cons (pg_name (i := 4) sc_put_on.nd rfl (.inl rfl)) pgs_nil)))
      (pss_cons (ps_if (pt_cmpR op_eq (pe_ix ix_tup (pv 4) pe_int (fun _ _ => rfl)) pe_str (nomark _)) (pss_cons (ps_expr (pe_bm PySem.F.plainAttrs_list PySem.F.slot_list_extend PySem.F.type_list_extend mt_extendT (pv 2) (pa_cons (pe_ix ix_tup (pv 4) pe_int (fun _ _ => rfl)) pa_nil)))
    (pss_one ps_continue)) pss_nil)
    (pss_cons (ps_par (i := 5) (j := 6) rfl sc_put_on.nd rfl rfl (by decide) rfl rfl (pa_cons (pe_ix ix_tup (pv 4) pe_int (fun _ _ => rfl)) (pa_cons (pe_ix ix_tup (pv 4) pe_int (fun _ _ => rfl)) pa_nil)) (by rfl))
    (pss_cons (ps_if (PW.pt (pw_or (pt_cmpR op_lt (pv 5) pe_int (nomark _)) (pw_or1 (pt_cmpR op_gt (pe_op op_add (pv 5) (pv 6)) (pe_callB len_seq (by rfl) T.n_len (by decide +kernel) (pa_cons (pv 0) pa_nil)) (nomark _))))) (pss_one (L2N.ps_raise rfl (L2N.takes_of rfl rfl rfl rfl) (pmk_errN T.x_BadPiece (ok_BadPiece_init T) (hr.mono (by omega)) (pa_cons (pv 3) pa_nil)))) pss_nil)
    (pss_one (ps_expr (pe_bm PySem.F.plainAttrs_list PySem.F.slot_list_extend PySem.F.type_list_extend mt_extendT (pv 2) (pa_cons (pe_slice sl_tupA (pv 0) (po_some (pv 5)) (po_some (pe_op op_add (pv 5) (pv 6)))) pa_nil))))))))
    (pss_one (ps_ret (pe_callTy tuple_of (by rfl) T.n_tuple (by decide +kernel) (pa_cons (pv 2) pa_nil)))))), ?_⟩
    refine ⟨lenOk (n := 0) rfl (by decide), fun D hD => ?_⟩
    generalize hH1 : upd H D _ = H1
    have s1 : Same H H1 := by rw [← hH1]; exact same_new hD
    have e1 : H1 D = some (.lst (intV [])) := by rw [← hH1]; exact upd_same
    clear hH1
    refine ⟨_, rfl, a, xs, rfl, sqT_up hx.sq s1, ?_⟩
    refine for_it (walk_enumT (K := K) (a := a) (xs := xs)) (fun i σ Hc => ∃ o3 o4 o5 o6 acc, σ = [some (.ref e), some (.ref a), some (.ref D), o3, o4, o5, o6] ∧ Same H Hc ∧ Hc D = some (.lst (intV acc)) ∧ acc.length ≤ 1000 * i ∧ putAt el i (ps.drop i) acc = putAt el 0 ps []) ⟨_, _, _, _, [], rfl, s1, e1, Nat.zero_le _, rfl⟩ (fun i σ Hc _ y => ?_) (fun i x σ H7 H8 hi y e => ?_) (fun σ H7 y => ?_)
    · obtain ⟨_, _, _, _, _, _, sm, _⟩ := y
      exact sqT_up hx.sq sm
    · obtain ⟨o3, o4, o5, o6, acc, rfl, sm, hw, hal, hpa⟩ := y
      obtain ⟨Tp, x, rfl, hT, rfl, hxi⟩ := e
      rw [hxl] at hi
      obtain ⟨x', hx1, hx2⟩ := hxe i hi
      rw [hx1] at hxi
      cases hxi
      have st : Same H7 (upd H7 Tp (.tup [.int (i : Nat), x])) := same_new hT
      have nT : D ≠ Tp := ne_of_none hw hT
      refine ⟨Tp, _, rfl, SqT.of upd_same, rfl, _, _, rfl, _, _, rfl, rfl, ?_⟩
      generalize hH8 : upd H7 Tp _ = H9 at st ⊢
      have s9 := sm.trans st
      have hw9 : H9 D = some (.lst (intV acc)) := st _ _ hw
      have hx2 := Dx.up (Out.of s9) hx2
      have he9 := sqT_up he s9
      rw [drop_at hi] at hpa
      have hpl := hpl
      have hmem : ps[i] ∈ ps := List.getElem_mem hi
      generalize ps[i] = pc at hx2 hpa hmem
      cases pc with
      | pt ws =>
        obtain ⟨r, t, rfl, hr, ht⟩ := dx_pt hx2
        have hwl := hpl ws hmem
        refine ⟨_, rfl, r, _, 0, _, rfl, rfl, hr, atI_nat (j := 0) rfl, rfl, _, rfl, ifT put_put ?_⟩
        refine ⟨_, rfl, .inl ⟨rfl, _, SqL.of hw9⟩, _, rfl, r, _, 1, _, rfl, rfl, hr, atI_nat (j := 1) rfl, D, t, _, _, rfl, rfl, hw9, ht, ?_, ?_⟩
        · rw [intV_len, intV_len]
          exact Nat.le_trans (show _ ≤ 16000000 by omega) (by decide)
        · refine ⟨_, _, _, _, acc ++ ws, rfl, same_mut s9 hD, by rw [intV_app]; exact upd_same, by rw [List.length_append]; omega, hpa⟩
      | cp u n =>
        obtain ⟨r, rfl, hr⟩ := dx_cp hx2
        refine ⟨_, rfl, r, _, 0, _, rfl, rfl, hr, atI_nat (j := 0) rfl, rfl, _, rfl, ifF copy_put ?_⟩
        refine ⟨_, rfl, r, _, 1, _, rfl, rfl, hr, atI_nat (j := 1) rfl, _, rfl, r, _, 2, _, rfl, rfl, hr, atI_nat (j := 2) rfl, _, _, rfl, ?_⟩
        refine ⟨_, rfl, _, _, rfl, rfl, _, rfl, ifF (decide_eq_false (by omega)) ?_⟩
        refine ⟨_, rfl, _, rfl, _, _, rfl, rfl, _, rfl, e, _, rfl, .inr he9, _, _, rfl, rfl, _, rfl, ?_⟩
        rw [intV_len]
        refine ifB (fun ee => ?_) (fun ee => ?_)
        · have ee := of_decide_eq_true ee
          have hh : putAt el 0 ps [] = .inl i := by
            rw [← hpa]
            show (if u + n > el.length then _ else _) = _
            rw [if_pos (by omega)]
          exact ⟨_, rfl, keep_end fun dx H2 s2 n2 e2 => raise i hh _ s9 _ rfl dx H2 s2 n2 e2⟩
        · have ee := of_decide_eq_false ee
          have hh : putAt el (i + 1) (ps.drop (i + 1)) (acc ++ (el.drop u).take n) = putAt el 0 ps [] := by
            rw [← hpa]
            show _ = (if u + n > el.length then _ else _)
            rw [if_neg (by omega)]
          refine ⟨_, rfl, .inl ⟨rfl, _, SqL.of hw9⟩, _, rfl, _, rfl, _, rfl, _, rfl, _, rfl, _, _, rfl, rfl, _, rfl, slA_of he9 fun p H10 s10 hp => ?_⟩
          rw [show (u : Int) + (n : Int) = ((u + n : Nat) : Int) by omega, cutV_mid (by rw [intV_len]; omega), intV_cut, show u + n - u = n by omega] at hp
          refine ⟨D, p, _, _, rfl, rfl, s10 _ _ hw9, hp, ?_, ?_⟩
          · rw [intV_len, intV_len, List.length_take, List.length_drop]
            exact Nat.le_trans (show _ ≤ 16000000 by omega) (by decide)
          · refine ⟨_, _, _, _, acc ++ (el.drop u).take n, rfl, same_mut (s9.trans s10) hD, by rw [intV_app]; exact upd_same, by rw [List.length_append, List.length_take, List.length_drop]; omega, hh⟩
    · obtain ⟨o3, o4, o5, o6, acc, rfl, sm, hw, hal, hpa⟩ := y
      rw [hxl, List.drop_length] at hpa
      refine ⟨_, rfl, D, _, rfl, .inl ⟨SqL.of hw, fun l hl => ?_⟩⟩
      exact good acc hpa.symm _ l (sm.trans (same_new hl)) (sm.free hl) upd_same
theorem ok_piece_words (T : Txt K mg A) : FnOk P w K mg base CX0 1 A.a_piece_words A.d_piece_words ["pieces"] (spWordsOf K) := by
  refine T.F_piece_words.ok sc_piece_words (fun vs H Q E h => ?_) (fun cdv B outer s H vs Q E hr h => ?_)
  · obtain ⟨S, v, ps, rfl, _⟩ := h
    rfl
  · obtain ⟨S, v, ps, rfl, hd, hl, hwl, q⟩ := h
    obtain ⟨a, xs, rfl, hx, hxl, hxe⟩ := dx_pcs hd
    refine ⟨_, (pss_cons (ps_set (i := 1) sc_piece_words.nd rfl (.inl rfl) (pe_lst pa_nil))
    (pss_cons (ps_for PassesOwn.never rfl (pi_tup (pv 0)) (pg_name (i := 2) sc_piece_words.nd rfl (.inl rfl))
      (pss_one (ps_if (pt_cmpR op_eq (pe_ix ix_tup (pv 2) pe_int (fun _ _ => rfl)) pe_str (nomark _)) (pss_one (ps_expr (pe_bm PySem.F.plainAttrs_list PySem.F.slot_list_extend PySem.F.type_list_extend mt_extend (pv 1) (pa_cons (pe_lst (pa_cons (pe_op op_add (pe_glob (v := .int 32768) rfl T.g_COPY ⟨_, rfl⟩) (pe_ix ix_tup (pv 2) pe_int (fun _ _ => rfl))) (pa_cons (pe_ix ix_tup (pv 2) pe_int (fun _ _ => rfl)) pa_nil))) pa_nil)))) (pss_cons (ps_expr (pe_bm PySem.F.plainAttrs_list PySem.F.slot_list_append PySem.F.type_list_append mt_append (pv 1) (pa_cons (pe_callB len_seq (by rfl) T.n_len (by decide +kernel) (pa_cons (pe_ix ix_tup (pv 2) pe_int (fun _ _ => rfl)) pa_nil)) pa_nil)))
    (pss_one (ps_expr (pe_bm PySem.F.plainAttrs_list PySem.F.slot_list_extend PySem.F.type_list_extend mt_extendT (pv 1) (pa_cons (pe_ix ix_tup (pv 2) pe_int (fun _ _ => rfl)) pa_nil))))))))
    (pss_one (ps_ret (pe_callTy tuple_of (by rfl) T.n_tuple (by decide +kernel) (pa_cons (pv 1) pa_nil)))))), ?_⟩
    refine ⟨lenOk (n := 0) rfl (by decide), fun D hD => ?_⟩
    generalize hH1 : upd H D _ = H1
    have s1 : Same H H1 := by rw [← hH1]; exact same_new hD
    have e1 : H1 D = some (.lst (intV (wsOf (ps.take 0)))) := by rw [← hH1]; exact upd_same
    clear hH1
    refine ⟨_, rfl, a, rfl, ⟨_, sqT_up hx.sq s1⟩, ?_⟩
    refine for_it (walk_tup (K := K) (a := a) (xs := xs)) (fun i σ Hc => ∃ o2, σ = [some (.ref a), some (.ref D), o2] ∧ Same H Hc ∧ Hc D = some (.lst (intV (wsOf (ps.take i))))) ⟨_, rfl, s1, e1⟩ (fun i σ Hc _ y => ?_) (fun i x σ H7 H8 hi y e => ?_) (fun σ H7 y => ?_)
    · obtain ⟨_, _, sm, _⟩ := y
      exact sqT_up hx.sq sm
    · obtain ⟨o2, rfl, sm, hw⟩ := y
      obtain ⟨rfl, e⟩ := e
      rw [hxl] at hi
      obtain ⟨x', hx1, hx2⟩ := hxe i hi
      rw [hx1] at e
      cases e
      have hx0 := hx2
      have hx2 := Dx.up (Out.of sm) hx2
      have hlt := ws_take_le ps (i + 1)
      rw [ws_take ps i hi] at hlt ⊢
      generalize wsOf (ps.take i) = acc at hw hlt ⊢
      generalize ps[i] = pc at hx2 hx0 hlt ⊢
      have lim : ∀ {n : Nat}, n ≤ 1000000 → n ≤ sizeLine := fun h => Nat.le_trans (show _ ≤ 16000000 by omega) (by decide)
      have lim2 : ∀ {n : Nat}, n ≤ 1000000 → n < sizeLine := fun h => Nat.lt_of_lt_of_le (show _ < 16000000 by omega) (by decide)
      rw [List.length_append] at hlt
      cases pc with
      | pt ws =>
        obtain ⟨r, t, rfl, hr, ht⟩ := dx_pt hx2
        have hpl : (Pc.pt ws).ws.length = ws.length + 1 := rfl
        refine ⟨_, rfl, r, _, 0, _, rfl, rfl, hr, atI_nat (j := 0) rfl, rfl, _, rfl, ifF put_eq ?_⟩
        refine ⟨_, rfl, .inl ⟨rfl, _, SqL.of hw⟩, _, rfl, r, _, 1, _, rfl, rfl, hr, atI_nat (j := 1) rfl, t, _, rfl, .inr ht, D, _, _, rfl, rfl, hw, lim2 (by rw [intV_len]; omega), ?_⟩
        have s9 := same_mut (o := .lst (intV acc ++ [V.int ((intV ws).length : Int)])) sm hD
        have hw9 : upd H8 D (.lst (intV acc ++ [V.int ((intV ws).length : Int)])) D = some (.lst (intV acc ++ [V.int ((intV ws).length : Int)])) := upd_same
        have hb : But D H8 (upd H8 D (.lst (intV acc ++ [V.int ((intV ws).length : Int)]))) := (But.refl _ _).upd
        generalize upd H8 D (.lst (intV acc ++ [V.int ((intV ws).length : Int)])) = H9 at s9 hw9 hb ⊢
        have hx3 := Dx.up (Out.of s9) hx0
        obtain ⟨r', t', er, hr', ht'⟩ := dx_pt hx3
        cases er
        refine ⟨_, rfl, .inl ⟨rfl, _, SqL.of hw9⟩, _, rfl, r, _, 1, _, rfl, rfl, hr', atI_nat (j := 1) rfl, D, t', _, _, rfl, rfl, hw9, ht', lim (by rw [List.length_append, intV_len, intV_len]; show _ + 1 + _ ≤ _; omega), ?_⟩
        refine ⟨_, rfl, same_mut s9 hD, ?_⟩
        rw [upd_same, intV_app, intV_len, List.append_assoc]
        rfl
      | cp u n =>
        obtain ⟨r, rfl, hr⟩ := dx_cp hx2
        have hpl : (Pc.cp u n).ws.length = 2 := rfl
        refine ⟨_, rfl, r, _, 0, _, rfl, rfl, hr, atI_nat (j := 0) rfl, rfl, _, rfl, ifT copy_eq ?_⟩
        refine ⟨_, rfl, .inl ⟨rfl, _, SqL.of hw⟩, _, rfl, r, _, 2, _, rfl, rfl, hr, atI_nat (j := 2) rfl, _, _, rfl, rfl, _, rfl, r, _, 1, _, rfl, rfl, hr, atI_nat (j := 1) rfl, lenOk (n := 2) rfl (by decide), fun l hl => ?_⟩
        have nl : D ≠ l := ne_of_none hw hl
        refine ⟨D, l, _, _, rfl, rfl, by rw [upd_ne nl]; exact hw, upd_same, lim (by rw [intV_len]; show _ + 2 ≤ _; omega), ?_⟩
        refine ⟨_, rfl, same_mut (sm.trans (same_new hl)) hD, ?_⟩
        rw [upd_same, intV_app]
        have e3 : (32768 : Int) + (n : Int) = ((32768 + n : Nat) : Int) := by omega
        show some (HO.lst (intV acc ++ [V.int (32768 + (n : Int)), V.int (u : Int)])) = _
        rw [e3]
        rfl
    · obtain ⟨o2, rfl, sm, hw⟩ := y
      rw [hxl, List.take_length] at hw
      refine ⟨_, rfl, D, _, rfl, .inl ⟨SqL.of hw, fun l hl => ?_⟩⟩
      exact q _ l (sm.trans (same_new hl)) (sm.free hl) upd_same
end
end R1

namespace R1
open PySem PySem.Spec PyProof.Rows L2 RK
local macro_rules | `(tactic| walk_at "sq") => `(tactic| first
  | exact SqL.of upd_same | exact upd_same | exact SqL.of (by assumption) | exact SqL.of (by rw [upd_ne (by assumption)]; assumption) | assumption)
local macro_rules | `(tactic| walk_at "sd") => `(tactic| first
  | assumption | omega | (refine Or.inl ⟨?_, ?_⟩ <;> omega) | (show _ ∧ _; constructor <;> omega) | (show _ ≠ _; simp; omega) | (exact Or.inl ⟨by decide, by decide⟩) | (exact Or.inr ⟨by decide, by decide⟩) | (show _ < _; decide) | (show _ ≤ _; decide))
local macro_rules | `(tactic| walk_at "at") => `(tactic| first | rfl | (refine atI_intV ?_ ?_ <;> omega) | assumption)
local macro_rules | `(tactic| walk_at "s1") => `(tactic| first
  | refine ⟨_, rfl, ?_⟩ | refine ⟨_, _, rfl, rfl, ?_⟩ | refine ⟨rfl, ?_⟩
  | refine ⟨_, _, _, _, rfl, rfl, by walk_at "sq", by walk_at "at", ?_⟩
  | refine Or.inl ⟨_, rfl, ?_⟩
  | refine ⟨_, _, rfl, Or.inl (by walk_at "sq"), ?_⟩
  | refine And.intro (by walk_at "sd") ?_)
local macro_rules | `(tactic| walk_at "s") => `(tactic| repeat walk_at "s1")

theorem fmod_nat (w : Nat) : (w : Int).fmod 32768 = ((w % 32768 : Nat) : Int) := by
  rw [Int.fmod_eq_emod_of_nonneg _ (by decide)]
  omega
theorem rdP_step {ws : List Nat} {f i : Nat} (hi : i < ws.length) (done : List Pc) : rdP (f + 1) i (ws.drop i) done =
    if ws[i] % 32768 = 0 ∨ ws.length < (if 32768 ≤ ws[i] then i + 2 else i + 1 + ws[i] % 32768) then .inl i
    else if 32768 ≤ ws[i] then rdP f (i + 2) (ws.drop (i + 2)) (done ++ [.cp (ws.getD (i + 1) 0) (ws[i] % 32768)])
    else rdP f (i + 1 + ws[i] % 32768) (ws.drop (i + 1 + ws[i] % 32768)) (done ++ [.pt ((ws.drop (i + 1)).take (ws[i] % 32768))]) := by
  rw [drop_at hi]
  generalize ws[i] = w
  show (if w % 32768 = 0 ∨ (ws.drop (i + 1)).length < (if 32768 ≤ w then 1 else w % 32768) then _ else _) = _
  have e1 : ((ws.drop (i + 1)).length < (if 32768 ≤ w then 1 else w % 32768)) ↔ (ws.length < (if 32768 ≤ w then i + 2 else i + 1 + w % 32768)) := by
    rw [List.length_drop]
    split <;> omega
  refine ite_congr (propext (or_congr Iff.rfl e1)) (fun _ => rfl) (fun _ => ?_)
  have e2 : (ws.drop (i + 1)).headD 0 = ws.getD (i + 1) 0 := by
    rw [List.getD_eq_getElem?_getD, List.headD_eq_head?_getD, List.head?_drop]
  rw [e2, List.drop_drop, List.drop_drop]
theorem xt_sq {K : PySem.W.Frag} {H : Hp} {S : ASet} {r : Addr} {xs : List V} (h : SqT K H r xs) (n : ∀ a, S a → ∃ ys, H a = some (.lst ys)) : XT K H S r xs := by
  rcases h with h | h
  · refine .inl ⟨fun z => ?_, h⟩
    obtain ⟨ys, e⟩ := n r z
    rcases h with h | ⟨o, h⟩ <;> rw [e] at h <;> cases h
  · exact .inr (.inr h)
def muR (n : Nat) (σ : L2.St) : Nat := match List.getD σ 2 none with
  | some (V.int k) => n - k.toNat
  | _ => 0
section
variable {P : Program} {w : World} {K : PySem.W.Frag} {mg : Str → Option Value} {base : Heap} {A : Ads}
theorem ok_read_pieces (T : Txt K mg A) : FnOk P w K mg base (L2N.CX P w) 3 A.a_read_pieces A.d_read_pieces ["words"] (spReadP K A.c_BadForm) := by
  refine Fun.okN T.F_read_pieces sc_read_pieces (fun vs H Q E h => ?_) (fun cdv B outer s H vs Q E hr h => ?_)
  · obtain ⟨a, ws, rfl, _⟩ := h
    rfl
  · obtain ⟨a, ws, rfl, ha, hl, hw, bad, good⟩ := h
    have raise : ∀ n, rdP (ws.length + 1) 0 ws [] = .inl n → ∀ Hc, Same H Hc → ∀ Q' : XK, Q' = E → ∀ dx H2, Same Hc H2 → Hc dx = none → H2 dx = some (.xd [("place", .int (n : Int))]) → Q' (.ref A.c_BadForm) (some dx) H2 := fun n h Hc s1 Q' eQ dx H2 s2 n2 e2 => by
      rw [eQ]
      exact bad n h dx H2 (s1.trans s2) (s1.free n2) e2
    refine ⟨_, (pss_cons (ps_set (i := 1) sc_read_pieces.nd rfl (.inl rfl) (pe_lst pa_nil))
    (pss_cons (ps_set (i := 2) sc_read_pieces.nd rfl (.inl rfl) pe_int)
    (pss_cons (ps_while (passes_of rfl) (pt_cmpR op_lt (pv 2) (pe_callB len_seq (by rfl) T.n_len (by decide +kernel) (pa_cons (pv 0) pa_nil)) (nomark _)) (pss_cons (ps_set (i := 3) sc_read_pieces.nd rfl (.inl rfl) (pe_op op_modN (pe_ix ix_tup (pv 0) (pv 2) (fun _ _ => rfl)) (pe_glob (v := .int 32768) rfl T.g_COPY ⟨_, rfl⟩)))
    (pss_cons (ps_set (i := 4) sc_read_pieces.nd rfl (.inl rfl) (pe_ifExp (pt_cmpR op_ge (pe_ix ix_tup (pv 0) (pv 2) (fun _ _ => rfl)) (pe_glob (v := .int 32768) rfl T.g_COPY ⟨_, rfl⟩) (nomark _)) (pe_op op_add (pv 2) pe_int) (pe_op op_add (pe_op op_add (pv 2) pe_int) (pv 3))))
    (pss_cons (ps_if (PW.pt (pw_or (pt_cmpR op_eq (pv 3) pe_int (nomark _)) (pw_or1 (pt_cmpR op_gt (pv 4) (pe_callB len_seq (by rfl) T.n_len (by decide +kernel) (pa_cons (pv 0) pa_nil)) (nomark _))))) (pss_one (L2N.ps_raise rfl (L2N.takes_of rfl rfl rfl rfl) (pmk_errN T.x_BadForm (ok_BadForm_init T) (hr.mono (by omega)) (pa_cons (pv 2) pa_nil)))) pss_nil)
    (pss_cons (ps_if (pt_cmpR op_ge (pe_ix ix_tup (pv 0) (pv 2) (fun _ _ => rfl)) (pe_glob (v := .int 32768) rfl T.g_COPY ⟨_, rfl⟩) (nomark _)) (pss_one (ps_expr (pe_bm PySem.F.plainAttrs_list PySem.F.slot_list_append PySem.F.type_list_append mt_append (pv 1) (pa_cons (pe_tup (pa_cons pe_str (pa_cons (pe_ix ix_tup (pv 0) (pe_op op_add (pv 2) pe_int) (fun _ _ => rfl)) (pa_cons (pv 3) pa_nil)))) pa_nil)))) (pss_one (ps_expr (pe_bm PySem.F.plainAttrs_list PySem.F.slot_list_append PySem.F.type_list_append mt_append (pv 1) (pa_cons (pe_tup (pa_cons pe_str (pa_cons (pe_callTy call_tupleT (by rfl) T.n_tuple (by decide +kernel) (pa_cons (pe_slice sl_tupA (pv 0) (po_some (pe_op op_add (pv 2) pe_int)) (po_some (pv 4))) pa_nil)) pa_nil))) pa_nil)))))
    (pss_one (ps_set (i := 2) sc_read_pieces.nd rfl (.inl rfl) (pv 4))))))))
    (pss_one (ps_ret (pe_callTy tuple_of (by rfl) T.n_tuple (by decide +kernel) (pa_cons (pv 1) pa_nil))))))), ?_⟩
    refine ⟨lenOk (n := 0) rfl (by decide), fun D hD => ?_⟩
    generalize hH1 : upd H D _ = H1
    have s1 : Same H H1 := by rw [← hH1]; exact same_new hD
    have e1 : H1 D = some (.lst []) := by rw [← hH1]; exact upd_same
    clear hH1
    refine while_by (fun σ Hc => ∃ i done f o3 o4 acc, σ = [some (.ref a), some (.ref D), some (.int ((i : Nat) : Int)), o3, o4] ∧ Same H Hc ∧ Hc D = some (.lst acc) ∧ acc.length ≤ i ∧ DxAll K Hc (inS noS D) acc (done.map pcD) ∧ i ≤ ws.length ∧ ws.length < i + f ∧ rdP f i (ws.drop i) done = rdP (ws.length + 1) 0 ws []) (fun σ _ => muR ws.length σ)
      ⟨0, [], ws.length + 1, _, _, [], rfl, s1, e1, Nat.le_refl _, .nil, Nat.zero_le _, by omega, rfl⟩ (fun σ Hc y => ?_) (fun σ Hc Q1 Q2 hQ h => ?_)
    · obtain ⟨i, done, f, o3, o4, acc, rfl, sm, hD1, hal, hda, hi, hf, hrd⟩ := y
      have ha1 := sqT_up ha sm
      refine ⟨_, rfl, _, rfl, a, _, rfl, .inr ha1, _, _, rfl, rfl, _, rfl, ?_⟩
      rw [intV_len]
      refine ifB (fun ee => ?_) (fun ee => ?_)
      · have hi' : i < ws.length := by
          have := of_decide_eq_true ee
          omega
        obtain ⟨f, rfl⟩ : ∃ f', f = f' + 1 := ⟨f - 1, by omega⟩
        rw [rdP_step hi'] at hrd
        have hat : atI (intV ws) (i : Int) = some (.int ((ws[i] : Nat) : Int)) := by
          refine atI_nat ?_
          unfold intV
          rw [List.getElem?_map, List.getElem?_eq_getElem hi']
          rfl
        have hwi : ws[i] ≤ 65535 := hw _ (List.getElem_mem hi')
        generalize ws[i] = x at hrd hat hwi
        refine ⟨_, rfl, _, rfl, a, _, _, _, rfl, rfl, ha1, hat, _, _, rfl, rfl, (by show (32768 : Int) ≠ 0; decide), ?_⟩
        dsimp only
        rw [fmod_nat]
        have dh : ∀ {q : Addr} {o : HO}, Hc q = none → Same Hc (upd Hc q o) := fun h => same_new h
        have lim2 : ∀ {n : Nat}, n ≤ 1000001 → n < sizeLine := fun h => Nat.lt_of_lt_of_le (show _ < 16000000 by omega) (by decide)
        have step : ∀ (pc : Pc) (H2 : Hp) (q : Addr), Same Hc H2 → Dx K H2 (inS noS D) (.ref q) (pcD pc) → Same H (upd H2 D (.lst (acc ++ [V.ref q]))) ∧ DxAll K (upd H2 D (.lst (acc ++ [V.ref q]))) (inS noS D) (acc ++ [V.ref q]) ((done ++ [pc]).map pcD) := fun pc H2 q s2 d2 => by
          refine ⟨same_mut (sm.trans s2) hD, ?_⟩
          have o : Out (inS noS D) H2 (upd H2 D (.lst (acc ++ [V.ref q]))) := (Out.refl _ _).put (.inr rfl)
          rw [List.map_append]
          exact dxAll_app (DxAll.up o (DxAll.up (Out.of s2) hda)) (.cons (Dx.up o d2) .nil)
        by_cases hx : 32768 ≤ x
        · refine ⟨_, rfl, _, rfl, a, _, _, _, rfl, rfl, ha1, hat, _, _, rfl, rfl, _, rfl, ifT (decide_eq_true (by omega)) ⟨_, rfl, _, _, rfl, rfl, ?_⟩⟩
          simp only [if_pos hx] at hrd
          refine ⟨_, rfl, rfl, _, rfl, ifB (fun e0 => ?_) (fun e0 => ?_)⟩
          · have hc : x % 32768 = 0 := by
              have := of_decide_eq_true e0
              have := V.int.inj this
              omega
            rw [if_pos (.inl hc)] at hrd
            exact ⟨_, rfl, keep_end fun dx H2 s2 n2 e2 => raise i hrd.symm _ sm _ rfl dx H2 s2 n2 e2⟩
          have hc : x % 32768 ≠ 0 := fun z => of_decide_eq_false e0 (by rw [z]; rfl)
          refine ⟨_, rfl, _, rfl, a, _, rfl, .inr ha1, _, _, rfl, rfl, _, rfl, ?_⟩
          rw [intV_len]
          refine ifB (fun e1 => ?_) (fun e1 => ?_)
          · have e1 := of_decide_eq_true e1
            rw [if_pos (.inr (by omega))] at hrd
            exact ⟨_, rfl, keep_end fun dx H2 s2 n2 e2 => raise i hrd.symm _ sm _ rfl dx H2 s2 n2 e2⟩
          have e1 := of_decide_eq_false e1
          have hlen : i + 2 ≤ ws.length := by omega
          rw [if_neg (by omega)] at hrd
          have hat1 : atI (intV ws) ((i : Int) + 1) = some (.int ((ws.getD (i + 1) 0 : Nat) : Int)) := by
            refine atI_nat (j := i + 1) ?_
            unfold intV
            rw [List.getElem?_map, List.getElem?_eq_getElem (by omega), List.getD_eq_getElem?_getD, List.getElem?_eq_getElem (by omega)]
            rfl
          generalize ws.getD (i + 1) 0 = y at hrd hat1
          refine ⟨_, rfl, _, rfl, a, _, _, _, rfl, rfl, ha1, hat, _, _, rfl, rfl, _, rfl, ifT (decide_eq_true (by omega)) ?_⟩
          refine ⟨_, rfl, .inl ⟨rfl, _, SqL.of hD1⟩, _, rfl, _, rfl, _, _, rfl, rfl, a, _, _, _, rfl, rfl, ha1, hat1, _, rfl, lenOk (n := 3) rfl (by decide), fun q hq => ?_⟩
          have nq : D ≠ q := ne_of_none hD1 hq
          refine ⟨D, _, _, rfl, rfl, by rw [upd_ne nq]; exact hD1, lim2 (by omega), ?_⟩
          have st := step (.cp y (x % 32768)) _ q (dh hq) (mk_cp upd_same fun z => z.elim (fun z => z) fun z => nq z.symm)
          refine ⟨_, rfl, ⟨i + 2, done ++ [.cp y (x % 32768)], f, _, _, _, rfl, st.1, upd_same, by rw [List.length_append]; show _ + 1 ≤ _; omega, st.2, hlen, by omega, hrd⟩, ?_⟩
          show ws.length - ((i : Int) + 2).toNat < ws.length - ((i : Int)).toNat
          omega
        · refine ⟨_, rfl, _, rfl, a, _, _, _, rfl, rfl, ha1, hat, _, _, rfl, rfl, _, rfl, ifF (decide_eq_false (by omega)) ⟨_, rfl, _, _, rfl, rfl, _, rfl, _, _, rfl, rfl, ?_⟩⟩
          simp only [if_neg hx] at hrd
          refine ⟨_, rfl, rfl, _, rfl, ifB (fun e0 => ?_) (fun e0 => ?_)⟩
          · have hc : x % 32768 = 0 := by
              have := of_decide_eq_true e0
              have := V.int.inj this
              omega
            rw [if_pos (.inl hc)] at hrd
            exact ⟨_, rfl, keep_end fun dx H2 s2 n2 e2 => raise i hrd.symm _ sm _ rfl dx H2 s2 n2 e2⟩
          have hc : x % 32768 ≠ 0 := fun z => of_decide_eq_false e0 (by rw [z]; rfl)
          refine ⟨_, rfl, _, rfl, a, _, rfl, .inr ha1, _, _, rfl, rfl, _, rfl, ?_⟩
          rw [intV_len]
          refine ifB (fun e1 => ?_) (fun e1 => ?_)
          · have e1 := of_decide_eq_true e1
            rw [if_pos (.inr (by omega))] at hrd
            exact ⟨_, rfl, keep_end fun dx H2 s2 n2 e2 => raise i hrd.symm _ sm _ rfl dx H2 s2 n2 e2⟩
          have e1 := of_decide_eq_false e1
          have hlen : i + 1 + x % 32768 ≤ ws.length := by omega
          rw [if_neg (by omega)] at hrd
          refine ⟨_, rfl, _, rfl, a, _, _, _, rfl, rfl, ha1, hat, _, _, rfl, rfl, _, rfl, ifF (decide_eq_false (by omega)) ?_⟩
          refine ⟨_, rfl, .inl ⟨rfl, _, SqL.of hD1⟩, _, rfl, _, rfl, _, _, rfl, rfl, _, rfl, _, rfl, _, rfl, slA_of ha1 fun r H9 s9 hr9 => ?_⟩
          rw [show (i : Int) + 1 = ((i + 1 : Nat) : Int) by omega, show ((i + 1 : Nat) : Int) + ((x % 32768 : Nat) : Int) = ((i + 1 + x % 32768 : Nat) : Int) by omega, cutV_mid (by rw [intV_len]; omega), intV_cut, show i + 1 + x % 32768 - (i + 1) = x % 32768 by omega] at hr9
          have hD9 := s9 _ _ hD1
          refine ⟨r, _, rfl, hr9, lenOk (n := 2) rfl (by decide), fun q hq => ?_⟩
          have nq : D ≠ q := ne_of_none hD9 hq
          have s10 : Same Hc (upd H9 q (.tup [.str (Str.ofString "put"), .ref r])) := s9.trans (same_new hq)
          refine ⟨D, _, _, rfl, rfl, s10 _ _ hD1, lim2 (by omega), ?_⟩
          have xr : XT K (upd H9 q (.tup [.str (Str.ofString "put"), .ref r])) (inS noS D) r (intV ((ws.drop (i + 1)).take (x % 32768))) := xt_sq (sqT_up hr9 (same_new hq)) fun b hb => by
            rcases hb with hb | hb
            · exact hb.elim
            · subst hb
              exact ⟨_, s10 _ _ hD1⟩
          have st := step (.pt ((ws.drop (i + 1)).take (x % 32768))) _ q s10 (mk_pt upd_same (fun z => z.elim (fun z => z) fun z => nq z.symm) xr)
          refine ⟨_, rfl, ⟨i + 1 + x % 32768, done ++ [.pt ((ws.drop (i + 1)).take (x % 32768))], f, _, _, _, rfl, st.1, upd_same, by rw [List.length_append]; show _ + 1 ≤ _; omega, st.2, hlen, by omega, hrd⟩, ?_⟩
          show ws.length - ((i : Int) + 1 + ((x % 32768 : Nat) : Int)).toNat < ws.length - ((i : Int)).toNat
          omega
      · have : i = ws.length := by
          have := of_decide_eq_false ee
          omega
        subst this
        obtain ⟨f, rfl⟩ : ∃ f', f = f' + 1 := ⟨f - 1, by omega⟩
        rw [List.drop_length] at hrd
        have hrd : rdP (ws.length + 1) 0 ws [] = .inr done := hrd.symm
        refine ⟨_, rfl, D, _, rfl, .inl ⟨SqL.of hD1, fun l hl => ?_⟩⟩
        have hlD : D ≠ l := ne_of_none hD1 hl
        refine good done hrd _ l (sm.trans (same_new hl)) (sm.free hl) (.tup (XT.of upd_same fun z => z.elim) ?_)
        exact DxAll.less (fun _ z => z.elim) (DxAll.up (Out.of (same_new hl)) hda)
    · obtain ⟨v1, e1, v2, e2, b, c, e3, h3, i, j, e4, e5, v3, e6, h⟩ := h
      exact ⟨v1, e1, v2, e2, b, c, e3, h3, i, j, e4, e5, v3, e6, hQ _ _ h⟩
end
end R1

namespace R1
open PySem PySem.Spec PyProof.Rows L2 RK
local macro_rules | `(tactic| walk_at "sq") => `(tactic| first
  | exact SqL.of upd_same | exact upd_same | exact SqL.of (by assumption) | exact SqL.of (by rw [upd_ne (by assumption)]; assumption) | assumption)
local macro_rules | `(tactic| walk_at "sd") => `(tactic| first
  | assumption | omega | (refine Or.inl ⟨?_, ?_⟩ <;> omega) | (show _ ∧ _; constructor <;> omega) | (show _ ≠ _; simp; omega) | (exact Or.inl ⟨by decide, by decide⟩) | (exact Or.inr ⟨by decide, by decide⟩) | (show _ < _; decide) | (show _ ≤ _; decide))
local macro_rules | `(tactic| walk_at "at") => `(tactic| first | rfl | (refine atI_intV ?_ ?_ <;> omega) | assumption)
local macro_rules | `(tactic| walk_at "s1") => `(tactic| first
  | refine ⟨_, rfl, ?_⟩ | refine ⟨_, _, rfl, rfl, ?_⟩ | refine ⟨rfl, ?_⟩
  | refine ⟨_, _, _, _, rfl, rfl, by walk_at "sq", by walk_at "at", ?_⟩
  | refine Or.inl ⟨_, rfl, ?_⟩
  | refine ⟨_, _, rfl, Or.inl (by walk_at "sq"), ?_⟩
  | refine And.intro (by walk_at "sd") ?_)
local macro_rules | `(tactic| walk_at "s") => `(tactic| repeat walk_at "s1")

def spWord : Sp := fun vs H Q _ => ∃ (c p : Addr), vs = [.ref p] ∧ Src c H p ∧ ∀ H' (w : Nat), w ≤ 65535 → Src c H' p → But p H H' → Q (.int (w : Int)) H'
def spPutWords : Sp := fun vs H Q _ => ∃ (c p : Addr) (k : Nat), vs = [.ref p, .int ((k : Nat) : Int)] ∧ Src c H p ∧ ∀ H' q (ws : List Nat), Src c H' p → But p H H' → H' q = some (.tup (intV ws)) → 1 ≤ ws.length → ws.length ≤ (if k = 0 then 32767 else 60) → (∀ w ∈ ws, w ≤ 65535) → Q (.ref q) H'
def resP (K : PySem.W.Frag) (r : Nat ⊕ List Pc) (H : Hp) (Q : VK) : Prop := match r with
  | .inl n => ∀ H', Same H H' → Q (.int (n : Int)) H'
  | .inr ps => ∀ H' q, Same H H' → H q = none → Dx K H' noS (.ref q) (pcsD ps) → Q (.ref q) H'
def resW (r : Nat ⊕ List Nat) (H : Hp) (Q : VK) : Prop := match r with
  | .inl n => ∀ H', Same H H' → Q (.int (n : Int)) H'
  | .inr ws => ∀ H' q, Same H H' → H q = none → H' q = some (.tup (intV ws)) → Q (.ref q) H'
def spReadLaw (K : PySem.W.Frag) : Sp := fun vs H Q _ => ∃ (a : Addr) (ws : List Nat), vs = [.ref a] ∧ H a = some (.lst (intV ws)) ∧ ws.length ≤ 1000 ∧ (∀ w ∈ ws, w ≤ 65535) ∧ resP K (rdP (ws.length + 1) 0 ws []) H Q
def spReadTold (K : PySem.W.Frag) : Sp := fun vs H Q _ => ∃ (a : Addr) (ws : List Nat), vs = [.ref a] ∧ (SqL K H a (intV ws) ∨ SqT K H a (intV ws)) ∧ ws.length ≤ 1000000 ∧ (∀ w ∈ ws, w ≤ 65535) ∧ resP K (rdP (ws.length + 1) 0 ws []) H Q
def spPutLaw (K : PySem.W.Frag) : Sp := fun vs H Q _ => ∃ (e : Addr) (el : List Nat) (S : ASet) (v : V) (ps : List Pc), vs = [.ref e, v] ∧ SqT K H e (intV el) ∧ Dx K H S v (pcsD ps) ∧ ps.length ≤ 1000 ∧ el.length ≤ 1000 ∧ (∀ ws, Pc.pt ws ∈ ps → ws.length ≤ 1000) ∧ resW (putAt el 0 ps []) H Q
theorem rep_intV (n w : Nat) : (List.replicate n [V.int (w : Int)]).flatten = intV (List.replicate n w) := by
  rw [List.flatten_replicate_singleton]
  unfold intV
  rw [List.map_replicate]
theorem lim {n : Nat} (h : n ≤ 2000000) : n ≤ sizeLine := Nat.le_trans (show _ ≤ 16000000 by omega) (by decide)
theorem lim2 {n : Nat} (h : n ≤ 2000000) : n < sizeLine := Nat.lt_of_lt_of_le (show _ < 16000000 by omega) (by decide)
section
variable {P : Program} {w : World} {K : PySem.W.Frag} {mg : Str → Option Value} {base : Heap} {A : Ads}
theorem ok_law_word (T : Txt K mg A) : FnOk P w K mg base CX0 3 A.a_law_word A.d_law_word ["_law_source_here"] spWord := by
  refine T.F_law_word.ok sc_law_word (fun vs H Q E h => ?_) (fun cdv B outer s H vs Q E hr h => ?_)
  · obtain ⟨c, p, rfl, _⟩ := h
    rfl
  · obtain ⟨c, p, rfl, hs, q⟩ := h
    refine ⟨_, (pss_cons (ps_set (i := 1) sc_law_word.nd rfl (.inl rfl) (pe_call (ok_law_draw T) (hr.mono (by omega)) rfl T.g_law_draw T.F_law_draw.kp T.b_law_draw .nil pass0 (pa_cons (pv 0) (pa_cons pe_int pa_nil))))
    (pss_cons (ps_if (pt_cmpR op_lt (pv 1) pe_int (nomark _)) (pss_one (ps_ret (pe_call (ok_law_draw T) (hr.mono (by omega)) rfl T.g_law_draw T.F_law_draw.kp T.b_law_draw .nil pass0 (pa_cons (pv 0) (pa_cons pe_int pa_nil))))) pss_nil)
    (pss_cons (ps_if (pt_cmpR op_eq (pv 1) pe_int (nomark _)) (pss_one (ps_ret (pe_call (ok_law_draw T) (hr.mono (by omega)) rfl T.g_law_draw T.F_law_draw.kp T.b_law_draw .nil pass0 (pa_cons (pv 0) (pa_cons pe_int pa_nil))))) pss_nil)
    (pss_one (ps_ret (pe_op op_sub pe_int (pe_call (ok_law_draw T) (hr.mono (by omega)) rfl T.g_law_draw T.F_law_draw.kp T.b_law_draw .nil pass0 (pa_cons (pv 0) (pa_cons pe_int pa_nil))))))))), ?_⟩
    walk_at "s"
    refine ⟨c, p, 4, rfl, hs, by decide, by decide, fun H1 way lw hs1 b1 => ?_⟩
    walk_at "s"
    refine ite2 (fun e => ?_) (fun e => ?_)
    · walk_at "s"
      exact ⟨c, p, 10, rfl, hs1, by decide, by decide, fun H2 r l2 hs2 b2 => q _ r (by omega) hs2 (b1.trans b2)⟩
    walk_at "s"
    refine ite2 (fun e => ?_) (fun e => ?_)
    · walk_at "s"
      exact ⟨c, p, 65536, rfl, hs1, by decide, by decide, fun H2 r l2 hs2 b2 => q _ r (by omega) hs2 (b1.trans b2)⟩
    walk_at "s"
    refine ⟨c, p, 3, rfl, hs1, by decide, by decide, fun H2 r l2 hs2 b2 => ?_⟩
    have := q _ (65535 - r) (by omega) hs2 (b1.trans b2)
    rw [show ((65535 - r : Nat) : Int) = 65535 - (r : Int) by omega] at this
    exact ⟨_, _, rfl, rfl, this⟩
theorem ok_law_put_words (T : Txt K mg A) : FnOk P w K mg base CX0 4 A.a_law_put_words A.d_law_put_words ["_law_source_here", "_law_step"] spPutWords := by
  refine T.F_law_put_words.ok sc_law_put_words (fun vs H Q E h => ?_) (fun cdv B outer s H vs Q E hr h => ?_)
  · obtain ⟨c, p, k, rfl, _⟩ := h
    rfl
  · obtain ⟨c, p, k, rfl, hs, q⟩ := h
    refine ⟨_, (pss_cons (ps_set (i := 2) sc_law_put_words.nd rfl (.inl rfl) (pe_call (ok_law_draw T) (hr.mono (by omega)) rfl T.g_law_draw T.F_law_draw.kp T.b_law_draw .nil pass0 (pa_cons (pv 0) (pa_cons pe_int pa_nil))))
    (pss_cons (ps_set (i := 3) sc_law_put_words.nd rfl (.inl rfl) (pe_op op_add pe_int (pe_op op_mod (pe_callTy call_int1 (by rfl) T.n_int (by decide +kernel) (pa_cons (pv 2) pa_nil)) pe_int)))
    (pss_cons (ps_if (pt_cmpR op_eq (pv 2) pe_int (nomark _)) (pss_one (ps_set (i := 3) sc_law_put_words.nd rfl (.inl rfl) pe_int)) pss_nil)
    (pss_cons (ps_if (PW.pt (pw_and (pt_cmpR op_eq (pv 2) pe_int (nomark _)) (pw_and (pt_cmpR op_eq (pv 1) pe_int (nomark _)) (pw_and1 (pt_cmpR op_eq (pe_call (ok_law_draw T) (hr.mono (by omega)) rfl T.g_law_draw T.F_law_draw.kp T.b_law_draw .nil pass0 (pa_cons (pv 0) (pa_cons pe_int pa_nil))) pe_int (nomark _)))))) (pss_one (ps_ret (pe_callTy tuple_of (by rfl) T.n_tuple (by decide +kernel) (pa_cons (pe_op op_rep (pe_lst (pa_cons (pe_call (ok_law_word T) (hr.mono (by omega)) rfl T.g_law_word T.F_law_word.kp T.b_law_word .nil pass0 (pa_cons (pv 0) pa_nil)) pa_nil)) pe_int) pa_nil)))) pss_nil)
    (pss_one (ps_ret (pe_callTy tuple_of (by rfl) T.n_tuple (by decide +kernel) (pa_cons (pe_lc (own := [("_law_step", 1)]) rfl sc_law_put_words.nd (pi_range1 (by rfl) T.n_range (pa_cons (pv 3) pa_nil)) (blkOk_by (own := [("_law_step", 1)]) (N := N_law_put_words) (sc := defScope s_law_put_words) (by decide +kernel)) (fun _ _ _ _ _ => pg_name (i := 1) sc_law_put_words.nd rfl (Or.inl rfl)) (fun _ _ _ _ _ => pts_nil) (fun _ _ _ _ _ => by exact (pe_call (ok_law_word T) (hr.mono (by omega)) rfl T.g_law_word T.F_law_word.kp T.b_law_word .nil pass0 (pa_cons (pv 0) pa_nil)))) pa_nil)))))))), ?_⟩
    walk_at "s"
    refine ⟨c, p, 16, rfl, hs, by decide, by decide, fun H1 way lw hs1 b1 => ?_⟩
    walk_at "s"
    refine ifB (fun e14 => ?_) (fun e14 => ?_)
    · have hcnt : ∃ n : Nat, (60 : Int) = (n : Int) ∧ 1 ≤ n ∧ n ≤ 60 := ⟨60, rfl, by decide, by decide⟩
      obtain ⟨n, hn, hn1, hn2⟩ := hcnt
      dsimp only
      rw [hn]
      refine ⟨_, rfl, rfl, _, rfl, ifB (fun e15 => ?_) (fun e15 => ?_)⟩
      · refine ⟨_, rfl, rfl, _, rfl, ifB (fun ek => ?_) (fun ek => ?_)⟩
        · have hk : k = 0 := by
            have := V.int.inj (of_decide_eq_true ek)
            omega
          refine ⟨_, rfl, c, p, 4, rfl, hs1, by decide, by decide, fun H3 r4 lr4 hs3 b3' => ?_⟩
          have b3 := b1.trans b3'
          refine ⟨rfl, _, rfl, ifB (fun ed => ?_) (fun ed => ?_)⟩
          · refine ⟨_, rfl, c, p, rfl, hs3, fun H4 w hw hs4 b4 => ⟨lenOk (n := 1) rfl (by decide), fun l hl => ?_⟩⟩
            refine ⟨l, _, _, rfl, rfl, upd_same, by decide, by decide, lim (by show 1 * 32767 ≤ _; decide), fun l2 hl2 => ?_⟩
            have hN : (32767 : Int).toNat = 32767 := rfl
            generalize (32767 : Int).toNat = N at hN ⊢
            have e2 : upd (upd H4 l (.lst [V.int (w : Int)])) l2 (.lst (List.replicate N [V.int (w : Int)]).flatten) l2 = some (.lst (intV (List.replicate N w))) := by
              rw [upd_same, rep_intV]
            have s2 : Same H4 (upd (upd H4 l (.lst [V.int (w : Int)])) l2 (.lst (List.replicate N [V.int (w : Int)]).flatten)) := (same_new hl).trans (same_new hl2)
            generalize upd (upd H4 l _) l2 _ = H5 at e2 s2 ⊢
            refine ⟨l2, _, rfl, .inl ⟨SqL.of e2, fun wt hwt => ?_⟩⟩
            refine q _ wt (List.replicate N w) (src_up hs4 (s2.trans (same_new hwt))) (b3.trans (b4.trans (But.of (s2.trans (same_new hwt))))) upd_same (by rw [List.length_replicate, hN]; decide) (by rw [List.length_replicate, if_pos hk, hN]; exact Nat.le_refl _) (fun x hx => ?_)
            rw [List.eq_of_mem_replicate hx]
            exact hw
          · skip
            refine ⟨_, rfl, (n : Int), rfl, by omega, by omega, fun D hD => ?_⟩
            rw [Int.toNat_natCast]
            refine lc_inv (walk_range (lo := 0) (n := n)) (fun i v => True) (fun i acc H4 => Src c H4 p ∧ But p _ H4 ∧ ∃ ws : List Nat, acc = intV ws ∧ ∀ w ∈ ws, w ≤ 65535) (by omega) ⟨src_up hs3 (same_new hD), But.of (same_new hD), [], rfl, by simp⟩ (fun _ _ _ _ => trivial) (fun i H1 v H2 hi y => ⟨y.1, trivial⟩) (fun i v acc H4 hi hl pv e5 _ Q q => ?_) (fun acc H4 hl4 pv e4 => ?_)
            · obtain ⟨hs4, b4, ws, rfl, hw⟩ := pv
              have np := src_ints hs4 e5
              refine ⟨_, rfl, c, p, rfl, hs4, fun H5 w hw5 hs5 b5 => ?_⟩
              refine q _ H5 (b5 _ _ np e5) ⟨src_put hs5 np fun z => src_cne hs3 (z ▸ hD), but_new (b4.trans b5) hD, ws ++ [w], by unfold intV; rw [List.map_append]; rfl, fun x hx => ?_⟩
              rcases List.mem_append.mp hx with z | z
              · exact hw x z
              · have := List.mem_singleton.mp z
                omega
            · obtain ⟨hs4, b4, ws, rfl, hw⟩ := pv
              have hn : ws.length = n := by unfold intV at hl4; rw [List.length_map] at hl4; exact hl4
              refine ⟨D, _, rfl, .inl ⟨SqL.of e4, fun wt hwt => ?_⟩⟩
              exact q _ wt ws (src_up hs4 (same_new hwt)) (b3.trans (b4.trans (But.of (same_new hwt)))) upd_same (by omega) (by split <;> omega) hw
        · have hs3 := hs1
          have b3 := b1
          refine ⟨_, rfl, (n : Int), rfl, by omega, by omega, fun D hD => ?_⟩
          rw [Int.toNat_natCast]
          refine lc_inv (walk_range (lo := 0) (n := n)) (fun i v => True) (fun i acc H4 => Src c H4 p ∧ But p _ H4 ∧ ∃ ws : List Nat, acc = intV ws ∧ ∀ w ∈ ws, w ≤ 65535) (by omega) ⟨src_up hs3 (same_new hD), But.of (same_new hD), [], rfl, by simp⟩ (fun _ _ _ _ => trivial) (fun i H1 v H2 hi y => ⟨y.1, trivial⟩) (fun i v acc H4 hi hl pv e5 _ Q q => ?_) (fun acc H4 hl4 pv e4 => ?_)
          · obtain ⟨hs4, b4, ws, rfl, hw⟩ := pv
            have np := src_ints hs4 e5
            refine ⟨_, rfl, c, p, rfl, hs4, fun H5 w hw5 hs5 b5 => ?_⟩
            refine q _ H5 (b5 _ _ np e5) ⟨src_put hs5 np fun z => src_cne hs3 (z ▸ hD), but_new (b4.trans b5) hD, ws ++ [w], by unfold intV; rw [List.map_append]; rfl, fun x hx => ?_⟩
            rcases List.mem_append.mp hx with z | z
            · exact hw x z
            · have := List.mem_singleton.mp z
              omega
          · obtain ⟨hs4, b4, ws, rfl, hw⟩ := pv
            have hn : ws.length = n := by unfold intV at hl4; rw [List.length_map] at hl4; exact hl4
            refine ⟨D, _, rfl, .inl ⟨SqL.of e4, fun wt hwt => ?_⟩⟩
            exact q _ wt ws (src_up hs4 (same_new hwt)) (b3.trans (b4.trans (But.of (same_new hwt)))) upd_same (by omega) (by split <;> omega) hw
      · have hs3 := hs1
        have b3 := b1
        refine ⟨_, rfl, (n : Int), rfl, by omega, by omega, fun D hD => ?_⟩
        rw [Int.toNat_natCast]
        refine lc_inv (walk_range (lo := 0) (n := n)) (fun i v => True) (fun i acc H4 => Src c H4 p ∧ But p _ H4 ∧ ∃ ws : List Nat, acc = intV ws ∧ ∀ w ∈ ws, w ≤ 65535) (by omega) ⟨src_up hs3 (same_new hD), But.of (same_new hD), [], rfl, by simp⟩ (fun _ _ _ _ => trivial) (fun i H1 v H2 hi y => ⟨y.1, trivial⟩) (fun i v acc H4 hi hl pv e5 _ Q q => ?_) (fun acc H4 hl4 pv e4 => ?_)
        · obtain ⟨hs4, b4, ws, rfl, hw⟩ := pv
          have np := src_ints hs4 e5
          refine ⟨_, rfl, c, p, rfl, hs4, fun H5 w hw5 hs5 b5 => ?_⟩
          refine q _ H5 (b5 _ _ np e5) ⟨src_put hs5 np fun z => src_cne hs3 (z ▸ hD), but_new (b4.trans b5) hD, ws ++ [w], by unfold intV; rw [List.map_append]; rfl, fun x hx => ?_⟩
          rcases List.mem_append.mp hx with z | z
          · exact hw x z
          · have := List.mem_singleton.mp z
            omega
        · obtain ⟨hs4, b4, ws, rfl, hw⟩ := pv
          have hn : ws.length = n := by unfold intV at hl4; rw [List.length_map] at hl4; exact hl4
          refine ⟨D, _, rfl, .inl ⟨SqL.of e4, fun wt hwt => ?_⟩⟩
          exact q _ wt ws (src_up hs4 (same_new hwt)) (b3.trans (b4.trans (But.of (same_new hwt)))) upd_same (by omega) (by split <;> omega) hw
    · have hcnt : ∃ n : Nat, 1 + (way : Int) % 4 = (n : Int) ∧ 1 ≤ n ∧ n ≤ 60 := ⟨1 + way % 4, by omega, by omega, by omega⟩
      obtain ⟨n, hn, hn1, hn2⟩ := hcnt
      dsimp only
      rw [hn]
      refine ⟨_, rfl, rfl, _, rfl, ifB (fun e15 => ?_) (fun e15 => ?_)⟩
      · refine ⟨_, rfl, rfl, _, rfl, ifB (fun ek => ?_) (fun ek => ?_)⟩
        · have hk : k = 0 := by
            have := V.int.inj (of_decide_eq_true ek)
            omega
          refine ⟨_, rfl, c, p, 4, rfl, hs1, by decide, by decide, fun H3 r4 lr4 hs3 b3' => ?_⟩
          have b3 := b1.trans b3'
          refine ⟨rfl, _, rfl, ifB (fun ed => ?_) (fun ed => ?_)⟩
          · refine ⟨_, rfl, c, p, rfl, hs3, fun H4 w hw hs4 b4 => ⟨lenOk (n := 1) rfl (by decide), fun l hl => ?_⟩⟩
            refine ⟨l, _, _, rfl, rfl, upd_same, by decide, by decide, lim (by show 1 * 32767 ≤ _; decide), fun l2 hl2 => ?_⟩
            have hN : (32767 : Int).toNat = 32767 := rfl
            generalize (32767 : Int).toNat = N at hN ⊢
            have e2 : upd (upd H4 l (.lst [V.int (w : Int)])) l2 (.lst (List.replicate N [V.int (w : Int)]).flatten) l2 = some (.lst (intV (List.replicate N w))) := by
              rw [upd_same, rep_intV]
            have s2 : Same H4 (upd (upd H4 l (.lst [V.int (w : Int)])) l2 (.lst (List.replicate N [V.int (w : Int)]).flatten)) := (same_new hl).trans (same_new hl2)
            generalize upd (upd H4 l _) l2 _ = H5 at e2 s2 ⊢
            refine ⟨l2, _, rfl, .inl ⟨SqL.of e2, fun wt hwt => ?_⟩⟩
            refine q _ wt (List.replicate N w) (src_up hs4 (s2.trans (same_new hwt))) (b3.trans (b4.trans (But.of (s2.trans (same_new hwt))))) upd_same (by rw [List.length_replicate, hN]; decide) (by rw [List.length_replicate, if_pos hk, hN]; exact Nat.le_refl _) (fun x hx => ?_)
            rw [List.eq_of_mem_replicate hx]
            exact hw
          · skip
            refine ⟨_, rfl, (n : Int), rfl, by omega, by omega, fun D hD => ?_⟩
            rw [Int.toNat_natCast]
            refine lc_inv (walk_range (lo := 0) (n := n)) (fun i v => True) (fun i acc H4 => Src c H4 p ∧ But p _ H4 ∧ ∃ ws : List Nat, acc = intV ws ∧ ∀ w ∈ ws, w ≤ 65535) (by omega) ⟨src_up hs3 (same_new hD), But.of (same_new hD), [], rfl, by simp⟩ (fun _ _ _ _ => trivial) (fun i H1 v H2 hi y => ⟨y.1, trivial⟩) (fun i v acc H4 hi hl pv e5 _ Q q => ?_) (fun acc H4 hl4 pv e4 => ?_)
            · obtain ⟨hs4, b4, ws, rfl, hw⟩ := pv
              have np := src_ints hs4 e5
              refine ⟨_, rfl, c, p, rfl, hs4, fun H5 w hw5 hs5 b5 => ?_⟩
              refine q _ H5 (b5 _ _ np e5) ⟨src_put hs5 np fun z => src_cne hs3 (z ▸ hD), but_new (b4.trans b5) hD, ws ++ [w], by unfold intV; rw [List.map_append]; rfl, fun x hx => ?_⟩
              rcases List.mem_append.mp hx with z | z
              · exact hw x z
              · have := List.mem_singleton.mp z
                omega
            · obtain ⟨hs4, b4, ws, rfl, hw⟩ := pv
              have hn : ws.length = n := by unfold intV at hl4; rw [List.length_map] at hl4; exact hl4
              refine ⟨D, _, rfl, .inl ⟨SqL.of e4, fun wt hwt => ?_⟩⟩
              exact q _ wt ws (src_up hs4 (same_new hwt)) (b3.trans (b4.trans (But.of (same_new hwt)))) upd_same (by omega) (by split <;> omega) hw
        · have hs3 := hs1
          have b3 := b1
          refine ⟨_, rfl, (n : Int), rfl, by omega, by omega, fun D hD => ?_⟩
          rw [Int.toNat_natCast]
          refine lc_inv (walk_range (lo := 0) (n := n)) (fun i v => True) (fun i acc H4 => Src c H4 p ∧ But p _ H4 ∧ ∃ ws : List Nat, acc = intV ws ∧ ∀ w ∈ ws, w ≤ 65535) (by omega) ⟨src_up hs3 (same_new hD), But.of (same_new hD), [], rfl, by simp⟩ (fun _ _ _ _ => trivial) (fun i H1 v H2 hi y => ⟨y.1, trivial⟩) (fun i v acc H4 hi hl pv e5 _ Q q => ?_) (fun acc H4 hl4 pv e4 => ?_)
          · obtain ⟨hs4, b4, ws, rfl, hw⟩ := pv
            have np := src_ints hs4 e5
            refine ⟨_, rfl, c, p, rfl, hs4, fun H5 w hw5 hs5 b5 => ?_⟩
            refine q _ H5 (b5 _ _ np e5) ⟨src_put hs5 np fun z => src_cne hs3 (z ▸ hD), but_new (b4.trans b5) hD, ws ++ [w], by unfold intV; rw [List.map_append]; rfl, fun x hx => ?_⟩
            rcases List.mem_append.mp hx with z | z
            · exact hw x z
            · have := List.mem_singleton.mp z
              omega
          · obtain ⟨hs4, b4, ws, rfl, hw⟩ := pv
            have hn : ws.length = n := by unfold intV at hl4; rw [List.length_map] at hl4; exact hl4
            refine ⟨D, _, rfl, .inl ⟨SqL.of e4, fun wt hwt => ?_⟩⟩
            exact q _ wt ws (src_up hs4 (same_new hwt)) (b3.trans (b4.trans (But.of (same_new hwt)))) upd_same (by omega) (by split <;> omega) hw
      · have hs3 := hs1
        have b3 := b1
        refine ⟨_, rfl, (n : Int), rfl, by omega, by omega, fun D hD => ?_⟩
        rw [Int.toNat_natCast]
        refine lc_inv (walk_range (lo := 0) (n := n)) (fun i v => True) (fun i acc H4 => Src c H4 p ∧ But p _ H4 ∧ ∃ ws : List Nat, acc = intV ws ∧ ∀ w ∈ ws, w ≤ 65535) (by omega) ⟨src_up hs3 (same_new hD), But.of (same_new hD), [], rfl, by simp⟩ (fun _ _ _ _ => trivial) (fun i H1 v H2 hi y => ⟨y.1, trivial⟩) (fun i v acc H4 hi hl pv e5 _ Q q => ?_) (fun acc H4 hl4 pv e4 => ?_)
        · obtain ⟨hs4, b4, ws, rfl, hw⟩ := pv
          have np := src_ints hs4 e5
          refine ⟨_, rfl, c, p, rfl, hs4, fun H5 w hw5 hs5 b5 => ?_⟩
          refine q _ H5 (b5 _ _ np e5) ⟨src_put hs5 np fun z => src_cne hs3 (z ▸ hD), but_new (b4.trans b5) hD, ws ++ [w], by unfold intV; rw [List.map_append]; rfl, fun x hx => ?_⟩
          rcases List.mem_append.mp hx with z | z
          · exact hw x z
          · have := List.mem_singleton.mp z
            omega
        · obtain ⟨hs4, b4, ws, rfl, hw⟩ := pv
          have hn : ws.length = n := by unfold intV at hl4; rw [List.length_map] at hl4; exact hl4
          refine ⟨D, _, rfl, .inl ⟨SqL.of e4, fun wt hwt => ?_⟩⟩
          exact q _ wt ws (src_up hs4 (same_new hwt)) (b3.trans (b4.trans (But.of (same_new hwt)))) upd_same (by omega) (by split <;> omega) hw
theorem ok_law_told (T : Txt K mg A) : FnOk P w K mg base CX0 1 A.a_law_told A.d_law_told ["_law_pieces_here"] (spWordsOf K) := by
  refine T.F_law_told.ok sc_law_told (fun vs H Q E h => ?_) (fun cdv B outer s H vs Q E hr h => ?_)
  · obtain ⟨S, v, ps, rfl, _⟩ := h
    rfl
  · obtain ⟨S, v, ps, rfl, hd, hl, hwl, q⟩ := h
    obtain ⟨a, xs, rfl, hx, hxl, hxe⟩ := dx_pcs hd
    refine ⟨_, (pss_cons (ps_set (i := 1) sc_law_told.nd rfl (.inl rfl) (pe_lst pa_nil))
    (pss_cons (ps_for PassesOwn.never rfl (pi_tup (pv 0)) (pg_name (i := 2) sc_law_told.nd rfl (.inl rfl))
      (pss_one (ps_if (pt_cmpR op_eq (pe_ix ix_tup (pv 2) pe_int (fun _ _ => rfl)) pe_str (nomark _)) (pss_one (ps_set (i := 1) sc_law_told.nd rfl (.inl rfl) (pe_op op_cat (pv 1) (pe_lst (pa_cons (pe_op op_add pe_int (pe_ix ix_tup (pv 2) pe_int (fun _ _ => rfl))) (pa_cons (pe_ix ix_tup (pv 2) pe_int (fun _ _ => rfl)) pa_nil)))))) (pss_one (ps_set (i := 1) sc_law_told.nd rfl (.inl rfl) (pe_op op_cat (pe_op op_cat (pv 1) (pe_lst (pa_cons (pe_callB len_seq (by rfl) T.n_len (by decide +kernel) (pa_cons (pe_ix ix_tup (pv 2) pe_int (fun _ _ => rfl)) pa_nil)) pa_nil))) (pe_callTy list_of (by rfl) T.n_list (by decide +kernel) (pa_cons (pe_ix ix_tup (pv 2) pe_int (fun _ _ => rfl)) pa_nil))))))))
    (pss_one (ps_ret (pe_callTy tuple_of (by rfl) T.n_tuple (by decide +kernel) (pa_cons (pv 1) pa_nil)))))), ?_⟩
    refine ⟨lenOk (n := 0) rfl (by decide), fun D hD => ?_⟩
    generalize hH1 : upd H D _ = H1
    have s1 : Same H H1 := by rw [← hH1]; exact same_new hD
    have e1 : H1 D = some (.lst (intV (wsOf (ps.take 0)))) := by rw [← hH1]; exact upd_same
    clear hH1
    refine ⟨_, rfl, a, rfl, ⟨_, sqT_up hx.sq s1⟩, ?_⟩
    refine for_it (walk_tup (K := K) (a := a) (xs := xs)) (fun i σ Hc => ∃ o2 l, σ = [some (.ref a), some (.ref l), o2] ∧ Same H Hc ∧ Hc l = some (.lst (intV (wsOf (ps.take i))))) ⟨_, D, rfl, s1, e1⟩ (fun i σ Hc _ y => ?_) (fun i x σ H7 H8 hi y e => ?_) (fun σ H7 y => ?_)
    · obtain ⟨_, _, _, sm, _⟩ := y
      exact sqT_up hx.sq sm
    · obtain ⟨o2, l, rfl, sm, hw⟩ := y
      obtain ⟨rfl, e⟩ := e
      rw [hxl] at hi
      obtain ⟨x', hx1, hx2⟩ := hxe i hi
      rw [hx1] at e
      cases e
      have hx0 := hx2
      have hx2 := Dx.up (Out.of sm) hx2
      have hlt := ws_take_le ps (i + 1)
      rw [ws_take ps i hi] at hlt ⊢
      generalize wsOf (ps.take i) = acc at hw hlt ⊢
      generalize ps[i] = pc at hx2 hx0 hlt ⊢
      rw [List.length_append] at hlt
      cases pc with
      | pt ws =>
        obtain ⟨r, t, rfl, hr, ht⟩ := dx_pt hx2
        have hpl : (Pc.pt ws).ws.length = ws.length + 1 := rfl
        refine ⟨_, rfl, r, _, 0, _, rfl, rfl, hr, atI_nat (j := 0) rfl, rfl, _, rfl, ifF put_eq ?_⟩
        refine ⟨_, rfl, _, rfl, r, _, 1, _, rfl, rfl, hr, atI_nat (j := 1) rfl, t, _, rfl, .inr ht, lenOk (n := 1) rfl (by decide), fun l1 hl1 => ?_⟩
        have n1 : l ≠ l1 := ne_of_none hw hl1
        refine ⟨l, l1, _, _, rfl, rfl, by rw [upd_ne n1]; exact hw, upd_same, lim (by rw [intV_len]; show _ + 1 ≤ _; omega), fun l2 hl2 => ?_⟩
        generalize hH2 : upd (upd H8 l1 _) l2 _ = H2
        have s2 : Same H8 H2 := by rw [← hH2]; exact (same_new hl1).trans (same_new hl2)
        have e2 : H2 l2 = some (.lst (intV acc ++ [V.int ((intV ws).length : Int)])) := by rw [← hH2]; exact upd_same
        clear hH2
        refine ⟨_, rfl, r, _, 1, _, rfl, rfl, sqT_up hr s2, atI_nat (j := 1) rfl, t, _, rfl, .inr (sqT_up ht s2), fun l3 hl3 => ?_⟩
        have n3 : l2 ≠ l3 := ne_of_none e2 hl3
        refine ⟨l2, l3, _, _, rfl, rfl, by rw [upd_ne n3]; exact e2, upd_same, lim (by rw [List.length_append, intV_len, intV_len]; show _ + 1 + _ ≤ _; omega), fun l4 hl4 => ?_⟩
        refine ⟨_, l4, rfl, sm.trans (s2.trans ((same_new hl3).trans (same_new hl4))), ?_⟩
        rw [upd_same, intV_app, intV_len, List.append_assoc]
        rfl
      | cp u n =>
        obtain ⟨r, rfl, hr⟩ := dx_cp hx2
        have hpl : (Pc.cp u n).ws.length = 2 := rfl
        refine ⟨_, rfl, r, _, 0, _, rfl, rfl, hr, atI_nat (j := 0) rfl, rfl, _, rfl, ifT copy_eq ?_⟩
        refine ⟨_, rfl, _, rfl, r, _, 2, _, rfl, rfl, hr, atI_nat (j := 2) rfl, _, _, rfl, rfl, _, rfl, r, _, 1, _, rfl, rfl, hr, atI_nat (j := 1) rfl, lenOk (n := 2) rfl (by decide), fun l1 hl1 => ?_⟩
        have n1 : l ≠ l1 := ne_of_none hw hl1
        refine ⟨l, l1, _, _, rfl, rfl, by rw [upd_ne n1]; exact hw, upd_same, lim (by rw [intV_len]; show _ + 2 ≤ _; omega), fun l2 hl2 => ?_⟩
        refine ⟨_, l2, rfl, sm.trans ((same_new hl1).trans (same_new hl2)), ?_⟩
        rw [upd_same, intV_app]
        have e3 : (32768 : Int) + (n : Int) = ((32768 + n : Nat) : Int) := by omega
        show some (HO.lst (intV acc ++ [V.int (32768 + (n : Int)), V.int (u : Int)])) = _
        rw [e3]
        rfl
    · obtain ⟨o2, l, rfl, sm, hw⟩ := y
      rw [hxl, List.take_length] at hw
      refine ⟨_, rfl, l, _, rfl, .inl ⟨SqL.of hw, fun l1 hl => ?_⟩⟩
      exact q _ l1 (sm.trans (same_new hl)) (sm.free hl) upd_same
end
end R1

namespace R1
open PySem PySem.Spec PyProof.Rows L2 RK
local macro_rules | `(tactic| walk_at "sq") => `(tactic| first
  | exact SqL.of upd_same | exact upd_same | exact SqL.of (by assumption) | exact SqL.of (by rw [upd_ne (by assumption)]; assumption) | assumption)
local macro_rules | `(tactic| walk_at "sd") => `(tactic| first
  | assumption | omega | (refine Or.inl ⟨?_, ?_⟩ <;> omega) | (show _ ∧ _; constructor <;> omega) | (show _ ≠ _; simp; omega) | (exact Or.inl ⟨by decide, by decide⟩) | (exact Or.inr ⟨by decide, by decide⟩) | (show _ < _; decide) | (show _ ≤ _; decide))
local macro_rules | `(tactic| walk_at "at") => `(tactic| first | rfl | (refine atI_intV ?_ ?_ <;> omega) | assumption)
local macro_rules | `(tactic| walk_at "s1") => `(tactic| first
  | refine ⟨_, rfl, ?_⟩ | refine ⟨_, _, rfl, rfl, ?_⟩ | refine ⟨rfl, ?_⟩
  | refine ⟨_, _, _, _, rfl, rfl, by walk_at "sq", by walk_at "at", ?_⟩
  | refine Or.inl ⟨_, rfl, ?_⟩
  | refine ⟨_, _, rfl, Or.inl (by walk_at "sq"), ?_⟩
  | refine And.intro (by walk_at "sd") ?_)
local macro_rules | `(tactic| walk_at "s") => `(tactic| repeat walk_at "s1")

section
variable {P : Program} {w : World} {K : PySem.W.Frag} {mg : Str → Option Value} {base : Heap} {A : Ads}
theorem ok_law_read (T : Txt K mg A) : FnOk P w K mg base CX0 2 A.a_law_read A.d_law_read ["_law_words"] (spReadLaw K) := by
  refine T.F_law_read.ok sc_law_read (fun vs H Q E h => ?_) (fun cdv B outer s H vs Q E hr h => ?_)
  · obtain ⟨a, ws, rfl, _⟩ := h
    rfl
  · obtain ⟨a, ws, rfl, ha, hl, hw, q⟩ := h
    refine ⟨_, (pss_cons (ps_set (i := 1) sc_law_read.nd rfl (.inl rfl) (pe_lst pa_nil))
    (pss_cons (ps_set (i := 2) sc_law_read.nd rfl (.inl rfl) pe_int)
    (pss_cons (ps_for PassesOwn.never rfl (pi_range1 (by rfl) T.n_range (pa_cons (pe_callB len_seq (by rfl) T.n_len (by decide +kernel) (pa_cons (pv 0) pa_nil)) pa_nil)) (pg_name (i := 3) sc_law_read.nd rfl (.inl rfl))
      (pss_cons (ps_if (pt_cmpR op_eq (pv 2) (pe_callB len_seq (by rfl) T.n_len (by decide +kernel) (pa_cons (pv 0) pa_nil)) (nomark _)) (pss_one (ps_ret (pe_callTy tuple_of (by rfl) T.n_tuple (by decide +kernel) (pa_cons (pv 1) pa_nil)))) pss_nil)
    (pss_cons (ps_set (i := 4) sc_law_read.nd rfl (.inl rfl) (pe_ix ix_list (pv 0) (pv 2) (fun _ _ => rfl)))
    (pss_cons (ps_set (i := 5) sc_law_read.nd rfl (.inl rfl) pe_int)
    (pss_cons (ps_if (pt_cmpR op_lt (pv 4) pe_int (nomark _)) (pss_one (ps_set (i := 5) sc_law_read.nd rfl (.inl rfl) (pe_op op_add pe_int (pv 4)))) pss_nil)
    (pss_cons (ps_if (PW.pt (pw_or (pt_cmpR op_eq (pv 4) pe_int (nomark _)) (pw_or (pt_cmpR op_eq (pv 4) pe_int (nomark _)) (pw_or1 (pt_cmpR op_gt (pe_op op_add (pv 2) (pv 5)) (pe_callB len_seq (by rfl) T.n_len (by decide +kernel) (pa_cons (pv 0) pa_nil)) (nomark _)))))) (pss_one (ps_ret (pv 2))) pss_nil)
    (pss_cons (ps_if (pt_cmpR op_lt (pv 4) pe_int (nomark _)) (pss_one (ps_expr (pe_bm PySem.F.plainAttrs_list PySem.F.slot_list_append PySem.F.type_list_append mt_append (pv 1) (pa_cons (pe_tup (pa_cons pe_str (pa_cons (pe_callTy tuple_of (by rfl) T.n_tuple (by decide +kernel) (pa_cons (pe_slice sl_list (pv 0) (po_some (pe_op op_add (pv 2) pe_int)) (po_some (pe_op op_add (pv 2) (pv 5)))) pa_nil)) pa_nil))) pa_nil)))) (pss_one (ps_expr (pe_bm PySem.F.plainAttrs_list PySem.F.slot_list_append PySem.F.type_list_append mt_append (pv 1) (pa_cons (pe_tup (pa_cons pe_str (pa_cons (pe_ix ix_list (pv 0) (pe_op op_add (pv 2) pe_int) (fun _ _ => rfl)) (pa_cons (pe_op op_sub (pv 4) pe_int) pa_nil)))) pa_nil)))))
    (pss_one (ps_set (i := 2) sc_law_read.nd rfl (.inl rfl) (pe_op op_add (pv 2) (pv 5)))))))))))
    (pss_one (ps_ret (pe_callTy tuple_of (by rfl) T.n_tuple (by decide +kernel) (pa_cons (pv 1) pa_nil))))))), ?_⟩
    refine ⟨lenOk (n := 0) rfl (by decide), fun D hD => ?_⟩
    generalize hH1 : upd H D _ = H1
    have s1 : Same H H1 := by rw [← hH1]; exact same_new hD
    have e1 : H1 D = some (.lst []) := by rw [← hH1]; exact upd_same
    clear hH1
    refine ⟨_, rfl, a, _, rfl, .inl (SqL.of (s1 _ _ ha)), _, rfl, by omega, by rw [intV_len]; omega, ?_⟩
    rw [Int.toNat_natCast, intV_len]
    refine for_it (walk_range (lo := 0) (n := ws.length)) (fun i σ Hc => ∃ pl done f o3 o4 o5 acc, σ = [some (.ref a), some (.ref D), some (.int ((pl : Nat) : Int)), o3, o4, o5] ∧ Same H Hc ∧ Hc D = some (.lst acc) ∧ acc.length ≤ pl ∧ DxAll K Hc (inS noS D) acc (done.map pcD) ∧ i ≤ pl ∧ pl ≤ ws.length ∧ ws.length < pl + f ∧ rdP f pl (ws.drop pl) done = rdP (ws.length + 1) 0 ws [])
      ⟨0, [], ws.length + 1, _, _, _, [], rfl, s1, e1, Nat.le_refl _, .nil, Nat.zero_le _, Nat.zero_le _, by omega, rfl⟩ (fun _ _ _ _ _ => trivial) (fun i x σ Hc Hd hi y e => ?_) (fun σ Hc y => ?_)
    · obtain ⟨rfl, rfl⟩ := e
      obtain ⟨pl, done, f, o3, o4, o5, acc, rfl, sm, hD1, hal, hda, hip, hpl, hf, hrd⟩ := y
      have ha1 := sm _ _ ha
      refine ⟨_, rfl, _, rfl, a, _, rfl, .inl (SqL.of ha1), rfl, _, rfl, ?_⟩
      rw [intV_len]
      refine ifB (fun ee => ?_) (fun ee => ?_)
      · have : pl = ws.length := by
          have := V.int.inj (of_decide_eq_true ee)
          omega
        subst this
        obtain ⟨f, rfl⟩ : ∃ f', f = f' + 1 := ⟨f - 1, by omega⟩
        rw [List.drop_length] at hrd
        have hrd : rdP (ws.length + 1) 0 ws [] = .inr done := hrd.symm
        rw [hrd] at q
        refine ⟨_, rfl, D, _, rfl, .inl ⟨SqL.of hD1, fun l hl => ?_⟩⟩
        refine q _ l (sm.trans (same_new hl)) (sm.free hl) (.tup (XT.of upd_same fun z => z.elim) ?_)
        exact DxAll.less (fun _ z => z.elim) (DxAll.up (Out.of (same_new hl)) hda)
      have hi' : pl < ws.length := by
        have := of_decide_eq_false ee
        rcases Nat.lt_or_ge pl ws.length with z | z
        · exact z
        · exact absurd (by rw [show pl = ws.length by omega]) this
      obtain ⟨f, rfl⟩ : ∃ f', f = f' + 1 := ⟨f - 1, by omega⟩
      rw [rdP_step hi'] at hrd
      have hat : atI (intV ws) (pl : Int) = some (.int ((ws[pl] : Nat) : Int)) := by
        refine atI_nat ?_
        unfold intV
        rw [List.getElem?_map, List.getElem?_eq_getElem hi']
        rfl
      have hwi : ws[pl] ≤ 65535 := hw _ (List.getElem_mem hi')
      generalize ws[pl] = x at hrd hat hwi
      have step : ∀ (pc : Pc) (H2 : Hp) (q : Addr), Same Hd H2 → Dx K H2 (inS noS D) (.ref q) (pcD pc) → Same H (upd H2 D (.lst (acc ++ [V.ref q]))) ∧ DxAll K (upd H2 D (.lst (acc ++ [V.ref q]))) (inS noS D) (acc ++ [V.ref q]) ((done ++ [pc]).map pcD) := fun pc H2 q s2 d2 => by
        refine ⟨same_mut (sm.trans s2) hD, ?_⟩
        have o : Out (inS noS D) H2 (upd H2 D (.lst (acc ++ [V.ref q]))) := (Out.refl _ _).put (.inr rfl)
        rw [List.map_append]
        exact dxAll_app (DxAll.up o (DxAll.up (Out.of s2) hda)) (.cons (Dx.up o d2) .nil)
      refine ⟨_, rfl, _, rfl, a, _, _, _, rfl, rfl, SqL.of ha1, hat, ?_⟩
      by_cases hx : 32768 ≤ x
      · have hxx : decide ((x : Int) < 32768) = false := decide_eq_false (by omega)
        refine ⟨_, rfl, _, _, rfl, rfl, _, rfl, ?_⟩
        rw [hxx]
        refine ifF rfl ?_
        simp only [if_pos hx] at hrd
        refine ⟨_, rfl, rfl, _, rfl, ifB (fun e0 => ?_) (fun e0 => ?_)⟩
        · have := V.int.inj (of_decide_eq_true e0)
          omega
        refine ⟨_, rfl, rfl, _, rfl, ifB (fun e1 => ?_) (fun e1 => ?_)⟩
        · have := V.int.inj (of_decide_eq_true e1)
          rw [if_pos (.inl (by omega))] at hrd
          rw [← hrd] at q
          exact ⟨_, rfl, q _ sm⟩
        have hc : x ≠ 32768 := fun z => of_decide_eq_false e1 (by rw [z]; rfl)
        refine ⟨_, rfl, _, rfl, _, _, rfl, rfl, _, rfl, a, _, rfl, .inl (SqL.of ha1), _, _, rfl, rfl, _, rfl, ?_⟩
        rw [intV_len]
        refine ifB (fun e2 => ?_) (fun e2 => ?_)
        · have e2 := of_decide_eq_true e2
          rw [if_pos (.inr (by omega))] at hrd
          rw [← hrd] at q
          exact ⟨_, rfl, q _ sm⟩
        have e2 := of_decide_eq_false e2
        rw [if_neg (by omega)] at hrd
        refine ⟨_, rfl, _, _, rfl, rfl, _, rfl, ?_⟩
        rw [hxx]
        refine ifF rfl ?_
        have hat1 : atI (intV ws) ((pl : Int) + 1) = some (.int ((ws.getD (pl + 1) 0 : Nat) : Int)) := by
          refine atI_nat (j := pl + 1) ?_
          unfold intV
          rw [List.getElem?_map, List.getElem?_eq_getElem (by omega), List.getD_eq_getElem?_getD, List.getElem?_eq_getElem (by omega)]
          rfl
        generalize ws.getD (pl + 1) 0 = y at hrd hat1
        refine ⟨_, rfl, .inl ⟨rfl, _, SqL.of hD1⟩, _, rfl, _, rfl, _, _, rfl, rfl, a, _, _, _, rfl, rfl, SqL.of ha1, hat1, _, rfl, _, _, rfl, rfl, lenOk (n := 3) rfl (by decide), fun q1 hq => ?_⟩
        have nq : D ≠ q1 := ne_of_none hD1 hq
        refine ⟨D, _, _, rfl, rfl, by rw [upd_ne nq]; exact hD1, lim2 (by omega), ?_⟩
        have eq1 : upd Hd q1 (.tup [V.str (Str.ofString "copy"), V.int (y : Int), V.int ((x : Int) - 32768)]) q1 = some (.tup [V.str (Str.ofString "copy"), V.int (y : Int), V.int ((x % 32768 : Nat) : Int)]) := by
          rw [upd_same, show (x : Int) - 32768 = ((x % 32768 : Nat) : Int) by omega]
        have st := step (.cp y (x % 32768)) _ q1 (same_new hq) (mk_cp eq1 fun z => z.elim (fun z => z) fun z => nq z.symm)
        exact ⟨_, rfl, _, rfl, _, _, rfl, rfl, pl + 2, done ++ [.cp y (x % 32768)], f, _, _, _, _, rfl, st.1, upd_same, by rw [List.length_append]; show _ + 1 ≤ _; omega, st.2, by omega, by omega, by omega, hrd⟩
      · have hxx : decide ((x : Int) < 32768) = true := decide_eq_true (by omega)
        refine ⟨_, rfl, _, _, rfl, rfl, _, rfl, ?_⟩
        rw [hxx]
        refine ifT rfl ?_
        refine ⟨_, rfl, _, _, rfl, rfl, ?_⟩
        simp only [if_neg hx] at hrd
        have hxm : x % 32768 = x := Nat.mod_eq_of_lt (by omega)
        rw [hxm] at hrd
        refine ⟨_, rfl, rfl, _, rfl, ifB (fun e0 => ?_) (fun e0 => ?_)⟩
        · have := V.int.inj (of_decide_eq_true e0)
          rw [if_pos (.inl (by omega))] at hrd
          rw [← hrd] at q
          exact ⟨_, rfl, q _ sm⟩
        have hc : x ≠ 0 := fun z => of_decide_eq_false e0 (by rw [z]; rfl)
        refine ⟨_, rfl, rfl, _, rfl, ifB (fun e1 => ?_) (fun e1 => ?_)⟩
        · have := V.int.inj (of_decide_eq_true e1)
          omega
        refine ⟨_, rfl, _, rfl, _, _, rfl, rfl, _, rfl, a, _, rfl, .inl (SqL.of ha1), _, _, rfl, rfl, _, rfl, ?_⟩
        rw [intV_len]
        refine ifB (fun e2 => ?_) (fun e2 => ?_)
        · have e2 := of_decide_eq_true e2
          rw [if_pos (.inr (by omega))] at hrd
          rw [← hrd] at q
          exact ⟨_, rfl, q _ sm⟩
        have e2 := of_decide_eq_false e2
        rw [if_neg (by omega)] at hrd
        refine ⟨_, rfl, _, _, rfl, rfl, _, rfl, ?_⟩
        rw [hxx]
        refine ifT rfl ?_
        have hlen : pl + 1 + x ≤ ws.length := by omega
        have ecut : cutV (intV ws) (some ((pl : Int) + 1)) (some ((pl : Int) + (1 + (x : Int)))) = intV ((ws.drop (pl + 1)).take x) := by
          rw [show (pl : Int) + 1 = ((pl + 1 : Nat) : Int) by omega, show (pl : Int) + (1 + (x : Int)) = ((pl + 1 + x : Nat) : Int) by omega, cutV_mid (by rw [intV_len]; omega), intV_cut, show pl + 1 + x - (pl + 1) = x by omega]
        refine ⟨_, rfl, .inl ⟨rfl, _, SqL.of hD1⟩, _, rfl, _, rfl, _, _, rfl, rfl, _, rfl, _, rfl, _, rfl, _, _, rfl, rfl, _, rfl, a, _, rfl, SqL.of ha1, fun r0 h0 => ⟨r0, _, rfl, .inl ⟨SqL.of upd_same, fun r1 h1 => ⟨lenOk (n := 2) rfl (by decide), fun q1 hq => ?_⟩⟩⟩⟩
        have eH : upd (upd Hd r0 (.lst (cutV (intV ws) (some ((pl : Int) + 1)) (some ((pl : Int) + (1 + (x : Int))))))) r1 (.tup (cutV (intV ws) (some ((pl : Int) + 1)) (some ((pl : Int) + (1 + (x : Int)))))) r1 = some (.tup (intV ((ws.drop (pl + 1)).take x))) := by
          rw [upd_same, ecut]
        have s2 : Same Hd (upd (upd Hd r0 (.lst (cutV (intV ws) (some ((pl : Int) + 1)) (some ((pl : Int) + (1 + (x : Int))))))) r1 (.tup (cutV (intV ws) (some ((pl : Int) + 1)) (some ((pl : Int) + (1 + (x : Int))))))) := (same_new h0).trans (same_new h1)
        generalize upd (upd Hd r0 _) r1 _ = H2 at eH s2 hq ⊢
        have hD2 := s2 _ _ hD1
        have nq : D ≠ q1 := ne_of_none hD2 hq
        have n1 : r1 ≠ D := fun z => by rw [z, hD2] at eH; cases eH
        have s3 : Same Hd (upd H2 q1 (.tup [V.str (Str.ofString "put"), V.ref r1])) := s2.trans (same_new hq)
        refine ⟨D, _, _, rfl, rfl, by rw [upd_ne nq]; exact hD2, lim2 (by omega), ?_⟩
        have nS : ∀ b, b ≠ D → ¬ inS noS D b := fun b h z => z.elim (fun z => z) fun z => h z
        have st := step (.pt ((ws.drop (pl + 1)).take x)) _ q1 s3 (mk_pt upd_same (nS _ (Ne.symm nq)) (XT.of ((same_new hq) _ _ eH) (nS _ n1)))
        exact ⟨_, rfl, _, rfl, _, _, rfl, rfl, pl + 1 + x, done ++ [.pt ((ws.drop (pl + 1)).take x)], f, _, _, _, _, congrArg (fun z => [some (V.ref a), some (V.ref D), some (V.int z), _, _, _]) (show (pl : Int) + (1 + (x : Int)) = ((pl + 1 + x : Nat) : Int) by omega), st.1, upd_same, by rw [List.length_append]; show _ + 1 ≤ _; omega, st.2, by omega, by omega, by omega, hrd⟩
    · obtain ⟨pl, done, f, o3, o4, o5, acc, rfl, sm, hD1, hal, hda, hip, hpl, hf, hrd⟩ := y
      have : pl = ws.length := by omega
      subst this
      obtain ⟨f, rfl⟩ : ∃ f', f = f' + 1 := ⟨f - 1, by omega⟩
      rw [List.drop_length] at hrd
      have hrd : rdP (ws.length + 1) 0 ws [] = .inr done := hrd.symm
      rw [hrd] at q
      refine ⟨_, rfl, D, _, rfl, .inl ⟨SqL.of hD1, fun l hl => ?_⟩⟩
      refine q _ l (sm.trans (same_new hl)) (sm.free hl) (.tup (XT.of upd_same fun z => z.elim) ?_)
      exact DxAll.less (fun _ z => z.elim) (DxAll.up (Out.of (same_new hl)) hda)
end
end R1

namespace R1
open PySem PySem.Spec PyProof.Rows L2 RK
local macro_rules | `(tactic| walk_at "sq") => `(tactic| first
  | exact SqL.of upd_same | exact upd_same | exact SqL.of (by assumption) | exact SqL.of (by rw [upd_ne (by assumption)]; assumption) | assumption)
local macro_rules | `(tactic| walk_at "sd") => `(tactic| first
  | assumption | omega | (refine Or.inl ⟨?_, ?_⟩ <;> omega) | (show _ ∧ _; constructor <;> omega) | (show _ ≠ _; simp; omega) | (exact Or.inl ⟨by decide, by decide⟩) | (exact Or.inr ⟨by decide, by decide⟩) | (show _ < _; decide) | (show _ ≤ _; decide))
local macro_rules | `(tactic| walk_at "at") => `(tactic| first | rfl | (refine atI_intV ?_ ?_ <;> omega) | assumption)
local macro_rules | `(tactic| walk_at "s1") => `(tactic| first
  | refine ⟨_, rfl, ?_⟩ | refine ⟨_, _, rfl, rfl, ?_⟩ | refine ⟨rfl, ?_⟩
  | refine ⟨_, _, _, _, rfl, rfl, by walk_at "sq", by walk_at "at", ?_⟩
  | refine Or.inl ⟨_, rfl, ?_⟩
  | refine ⟨_, _, rfl, Or.inl (by walk_at "sq"), ?_⟩
  | refine And.intro (by walk_at "sd") ?_)
local macro_rules | `(tactic| walk_at "s") => `(tactic| repeat walk_at "s1")

section
variable {P : Program} {w : World} {K : PySem.W.Frag} {mg : Str → Option Value} {base : Heap} {A : Ads}
theorem ok_law_read_told (T : Txt K mg A) : FnOk P w K mg base CX0 6 A.a_law_read_told A.d_law_read_told ["_law_words"] (spReadTold K) := by
  refine T.F_law_read_told.ok sc_law_read_told (fun vs H Q E h => ?_) (fun cdv B outer s H vs Q E hr h => ?_)
  · obtain ⟨a, ws, rfl, _⟩ := h
    rfl
  · obtain ⟨a, ws, rfl, ha, hl, hw, q⟩ := h
    refine ⟨_, (pss_cons (ps_try_hitN (i := 1) rfl rfl sc_law_read_told.nd rfl rfl ⟨rfl, by decide, .inl T.g_BadForm⟩ (fun W pn xe tk _ => (pss_one (ps_ret (pe_callS (ok_read_pieces T) (hr.mono (by omega)) rfl T.g_read_pieces T.F_read_pieces.kp T.b_read_pieces (fun σ => L2N.passAt tk σ) (pa_cons (pe_callTy (r := rTupOf K) tuple_of (by rfl) T.n_tuple (by decide +kernel) (pa_cons (pv 0) pa_nil)) pa_nil)))))
      (fun a o cls d ps hz hf => (pss_one (ps_if (PW.pt (pw_and (pt_val (pe_callB (call_isEx T.x_BadForm.ex hz.zc hf) (by rfl) T.n_isinstance (by decide +kernel) (pa_cons (pv 1) (pa_cons (pe_glob (v := .ref A.c_RomError) rfl T.g_RomError rfl) pa_nil)))) (pw_and1 (pt_val (pe_callB (call_isEx T.x_BadForm.ex hz.zc hf) (by rfl) T.n_isinstance (by decide +kernel) (pa_cons (pv 1) (pa_cons (pe_bltn (v := .ty "ValueError") (u := .type "ValueError") (by rfl) T.n_ValueError (by decide +kernel) rfl) pa_nil))))))) (pss_one (ps_ret (pe_xf T.x_BadForm.xf T.x_BadForm.no hz.zc hf (pv 1)))) pss_nil))))
    (pss_one (ps_ret pe_non))), ?_⟩
    rcases ha with ha | ha
    · refine ⟨_, rfl, a, _, rfl, .inl ⟨ha, fun l hl1 => ?_⟩⟩
      refine ⟨l, ws, rfl, SqT.of upd_same, hl, hw, fun n hR dx H1 s1 n1 e1 => ?_, fun ps hR H1 q1 s1 n1 d1 => ?_⟩
      · have s01 := (same_new hl1).trans s1
        rw [hR] at q
        refine ⟨T.x_BadForm.te, fun a ha => ?_⟩
        refine ⟨_, rfl, dx, rfl, rfl, .ref A.c_RomError, .ref A.c_RomError, true, _, rfl, fun _ h => h, T.k_BadForm_RomError, e1, true, rfl, ifT rfl ?_⟩
        refine ⟨_, rfl, dx, rfl, rfl, .ty "ValueError", .type "ValueError", true, _, rfl, fun _ h => h, T.k_BadForm_ValueError, e1, true, rfl, ifT rfl ?_⟩
        exact ⟨_, rfl, rfl, rfl, dx, _, _, rfl, e1, rfl, q _ s01⟩
      · rw [hR] at q
        exact q _ q1 ((same_new hl1).trans s1) ((same_new hl1).free n1) d1
    · refine ⟨_, rfl, a, _, rfl, .inr ⟨ha, ?_⟩⟩
      refine ⟨a, ws, rfl, ha, hl, hw, fun n hR dx H1 s1 n1 e1 => ?_, fun ps hR H1 q1 s1 n1 d1 => ?_⟩
      · have s01 := s1
        rw [hR] at q
        refine ⟨T.x_BadForm.te, fun a ha => ?_⟩
        refine ⟨_, rfl, dx, rfl, rfl, .ref A.c_RomError, .ref A.c_RomError, true, _, rfl, fun _ h => h, T.k_BadForm_RomError, e1, true, rfl, ifT rfl ?_⟩
        refine ⟨_, rfl, dx, rfl, rfl, .ty "ValueError", .type "ValueError", true, _, rfl, fun _ h => h, T.k_BadForm_ValueError, e1, true, rfl, ifT rfl ?_⟩
        exact ⟨_, rfl, rfl, rfl, dx, _, _, rfl, e1, rfl, q _ s01⟩
      · rw [hR] at q
        exact q _ q1 s1 n1 d1
theorem ok_law_put_told (T : Txt K mg A) : FnOk P w K mg base CX0 6 A.a_law_put_told A.d_law_put_told ["_law_elder", "_law_pieces_here"] (spPutLaw K) := by
  refine T.F_law_put_told.ok sc_law_put_told (fun vs H Q E h => ?_) (fun cdv B outer s H vs Q E hr h => ?_)
  · obtain ⟨e, el, S, v, ps, rfl, _⟩ := h
    rfl
  · obtain ⟨e, el, S, v, ps, rfl, he, hd, hl, hel, hpl, q⟩ := h
    refine ⟨_, (pss_cons (ps_try_hitN (i := 2) rfl rfl sc_law_put_told.nd rfl rfl ⟨rfl, by decide, .inl T.g_BadPiece⟩ (fun W pn xe tk _ => (pss_one (ps_ret (pe_callS (ok_put_on T) (hr.mono (by omega)) rfl T.g_put_on T.F_put_on.kp T.b_put_on (fun σ => L2N.passAt tk σ) (pa_cons (pv 0) (pa_cons (pv 1) pa_nil))))))
      (fun a o cls d ps hz hf => (pss_one (ps_if (PW.pt (pw_and (pt_val (pe_callB (call_isEx T.x_BadPiece.ex hz.zc hf) (by rfl) T.n_isinstance (by decide +kernel) (pa_cons (pv 2) (pa_cons (pe_glob (v := .ref A.c_RomError) rfl T.g_RomError rfl) pa_nil)))) (pw_and1 (pt_val (pe_callB (call_isEx T.x_BadPiece.ex hz.zc hf) (by rfl) T.n_isinstance (by decide +kernel) (pa_cons (pv 2) (pa_cons (pe_bltn (v := .ty "ValueError") (u := .type "ValueError") (by rfl) T.n_ValueError (by decide +kernel) rfl) pa_nil))))))) (pss_one (ps_ret (pe_xf T.x_BadPiece.xf T.x_BadPiece.no hz.zc hf (pv 2)))) pss_nil))))
    (pss_one (ps_ret pe_non))), ?_⟩
    refine ⟨_, rfl, _, rfl, e, el, S, v, ps, rfl, he, hd, hl, hel, hpl, fun n hR dx H1 s1 n1 e1 => ?_, fun ps hR H1 q1 s1 n1 d1 => ?_⟩
    · rw [hR] at q
      refine ⟨T.x_BadPiece.te, fun a ha => ?_⟩
      refine ⟨_, rfl, dx, rfl, rfl, .ref A.c_RomError, .ref A.c_RomError, true, _, rfl, fun _ h => h, T.k_BadPiece_RomError, e1, true, rfl, ifT rfl ?_⟩
      refine ⟨_, rfl, dx, rfl, rfl, .ty "ValueError", .type "ValueError", true, _, rfl, fun _ h => h, T.k_BadPiece_ValueError, e1, true, rfl, ifT rfl ?_⟩
      exact ⟨_, rfl, rfl, rfl, dx, _, _, rfl, e1, rfl, q _ s1⟩
    · rw [hR] at q
      exact q _ q1 s1 n1 d1
theorem ok_law_put (T : Txt K mg A) : FnOk P w K mg base CX0 2 A.a_law_put A.d_law_put ["_law_elder", "_law_pieces_here"] (spPutLaw K) := by
  refine T.F_law_put.ok sc_law_put (fun vs H Q E h => ?_) (fun cdv B outer s H vs Q E hr h => ?_)
  · obtain ⟨e, el, S, v, ps, rfl, _⟩ := h
    rfl
  · obtain ⟨e, el, S, v, ps, rfl, he, hd, hl, hel, hpl, q⟩ := h
    obtain ⟨a, xs, rfl, hx, hxl, hxe⟩ := dx_pcs hd
    refine ⟨_, (pss_cons (ps_set (i := 2) sc_law_put.nd rfl (.inl rfl) (pe_lst pa_nil))
    (pss_cons (ps_for PassesOwn.never rfl (pi_range1 (by rfl) T.n_range (pa_cons (pe_callB len_seq (by rfl) T.n_len (by decide +kernel) (pa_cons (pv 1) pa_nil)) pa_nil)) (pg_name (i := 3) sc_law_put.nd rfl (.inl rfl))
      (pss_cons (ps_set (i := 4) sc_law_put.nd rfl (.inl rfl) (pe_ix ix_tup (pv 1) (pv 3) (fun _ _ => rfl)))
    (pss_one (ps_if (pt_cmpR op_eq (pe_ix ix_tup (pv 4) pe_int (fun _ _ => rfl)) pe_str (nomark _)) (pss_one (ps_set (i := 2) sc_law_put.nd rfl (.inl rfl) (pe_op op_cat (pv 2) (pe_callTy list_of (by rfl) T.n_list (by decide +kernel) (pa_cons (pe_ix ix_tup (pv 4) pe_int (fun _ _ => rfl)) pa_nil))))) (pss_one (ps_if (pt_cmpR op_gt (pe_op op_add (pe_ix ix_tup (pv 4) pe_int (fun _ _ => rfl)) (pe_ix ix_tup (pv 4) pe_int (fun _ _ => rfl))) (pe_callB len_seq (by rfl) T.n_len (by decide +kernel) (pa_cons (pv 0) pa_nil)) (nomark _)) (pss_one (ps_ret (pv 3))) (pss_one (ps_set (i := 2) sc_law_put.nd rfl (.inl rfl) (pe_op op_cat (pv 2) (pe_callTy list_of (by rfl) T.n_list (by decide +kernel) (pa_cons (pe_slice sl_tupA (pv 0) (po_some (pe_ix ix_tup (pv 4) pe_int (fun _ _ => rfl))) (po_some (pe_op op_add (pe_ix ix_tup (pv 4) pe_int (fun _ _ => rfl)) (pe_ix ix_tup (pv 4) pe_int (fun _ _ => rfl))))) pa_nil)))))))))))
    (pss_one (ps_ret (pe_callTy tuple_of (by rfl) T.n_tuple (by decide +kernel) (pa_cons (pv 2) pa_nil)))))), ?_⟩
    refine ⟨lenOk (n := 0) rfl (by decide), fun D hD => ?_⟩
    generalize hH1 : upd H D _ = H1
    have s1 : Same H H1 := by rw [← hH1]; exact same_new hD
    have e1 : H1 D = some (.lst (intV [])) := by rw [← hH1]; exact upd_same
    clear hH1
    refine ⟨_, rfl, a, _, rfl, .inr (sqT_up hx.sq s1), _, rfl, by omega, by omega, ?_⟩
    rw [Int.toNat_natCast, hxl]
    refine for_it (walk_range (lo := 0) (n := ps.length)) (fun i σ Hc => ∃ o3 o4 l acc, σ = [some (.ref e), some (.ref a), some (.ref l), o3, o4] ∧ Same H Hc ∧ Hc l = some (.lst (intV acc)) ∧ acc.length ≤ 1000 * i ∧ putAt el i (ps.drop i) acc = putAt el 0 ps []) ⟨_, _, D, [], rfl, s1, e1, Nat.zero_le _, rfl⟩ (fun _ _ _ _ _ => trivial) (fun i x σ H7 H8 hi y e => ?_) (fun σ H7 y => ?_)
    · obtain ⟨rfl, rfl⟩ := e
      obtain ⟨o3, o4, l, acc, rfl, sm, hw, hal, hpa⟩ := y
      obtain ⟨x', hx1, hx2⟩ := hxe i hi
      have hx2 := Dx.up (Out.of sm) hx2
      have he9 := sqT_up he sm
      rw [drop_at hi] at hpa
      have hmem : ps[i] ∈ ps := List.getElem_mem hi
      generalize ps[i] = pc at hx2 hpa hmem
      have hat : atI xs (0 + (i : Int)) = some x' := by
        rw [show 0 + (i : Int) = ((i : Nat) : Int) by omega]
        exact atI_nat hx1
      refine ⟨_, rfl, _, rfl, a, _, _, _, rfl, rfl, sqT_up hx.sq sm, hat, ?_⟩
      cases pc with
      | pt ws =>
        obtain ⟨r, t, rfl, hr, ht⟩ := dx_pt hx2
        have hwl := hpl ws hmem
        refine ⟨_, rfl, r, _, 0, _, rfl, rfl, hr, atI_nat (j := 0) rfl, rfl, _, rfl, ifT put_put ?_⟩
        refine ⟨_, rfl, _, rfl, r, _, 1, _, rfl, rfl, hr, atI_nat (j := 1) rfl, t, _, rfl, .inr ht, fun l3 hl3 => ?_⟩
        have n3 : l ≠ l3 := ne_of_none hw hl3
        refine ⟨l, l3, _, _, rfl, rfl, by rw [upd_ne n3]; exact hw, upd_same, lim (by rw [intV_len, intV_len]; omega), fun l4 hl4 => ?_⟩
        refine ⟨_, _, l4, acc ++ ws, rfl, sm.trans ((same_new hl3).trans (same_new hl4)), by rw [intV_app]; exact upd_same, by rw [List.length_append]; omega, hpa⟩
      | cp u n =>
        obtain ⟨r, rfl, hr⟩ := dx_cp hx2
        refine ⟨_, rfl, r, _, 0, _, rfl, rfl, hr, atI_nat (j := 0) rfl, rfl, _, rfl, ifF copy_put ?_⟩
        refine ⟨_, rfl, r, _, 1, _, rfl, rfl, hr, atI_nat (j := 1) rfl, _, rfl, r, _, 2, _, rfl, rfl, hr, atI_nat (j := 2) rfl, _, _, rfl, rfl, _, rfl, e, _, rfl, .inr he9, _, _, rfl, rfl, _, rfl, ?_⟩
        rw [intV_len]
        refine ifB (fun ee => ?_) (fun ee => ?_)
        · have ee := of_decide_eq_true ee
          have hh : putAt el 0 ps [] = .inl i := by
            rw [← hpa]
            show (if u + n > el.length then _ else _) = _
            rw [if_pos (by omega)]
          rw [hh] at q
          have := q _ sm
          rw [show ((i : Nat) : Int) = 0 + (i : Int) by omega] at this
          exact ⟨_, rfl, this⟩
        · have ee := of_decide_eq_false ee
          have hh : putAt el (i + 1) (ps.drop (i + 1)) (acc ++ (el.drop u).take n) = putAt el 0 ps [] := by
            rw [← hpa]
            show _ = (if u + n > el.length then _ else _)
            rw [if_neg (by omega)]
          refine ⟨_, rfl, _, rfl, _, rfl, r, _, 1, _, rfl, rfl, hr, atI_nat (j := 1) rfl, _, rfl, _, rfl, r, _, 1, _, rfl, rfl, hr, atI_nat (j := 1) rfl, _, rfl, r, _, 2, _, rfl, rfl, hr, atI_nat (j := 2) rfl, _, _, rfl, rfl, _, rfl, slA_of he9 fun p H10 s10 hp => ?_⟩
          rw [show (u : Int) + (n : Int) = ((u + n : Nat) : Int) by omega, cutV_mid (by rw [intV_len]; omega), intV_cut, show u + n - u = n by omega] at hp
          refine ⟨p, _, rfl, .inr hp, fun l3 hl3 => ?_⟩
          have hw10 := s10 _ _ hw
          have n3 : l ≠ l3 := ne_of_none hw10 hl3
          refine ⟨l, l3, _, _, rfl, rfl, by rw [upd_ne n3]; exact hw10, upd_same, lim (by rw [intV_len, intV_len, List.length_take, List.length_drop]; omega), fun l4 hl4 => ?_⟩
          exact ⟨_, _, l4, acc ++ (el.drop u).take n, rfl, sm.trans (s10.trans ((same_new hl3).trans (same_new hl4))), by rw [intV_app]; exact upd_same, by rw [List.length_append, List.length_take, List.length_drop]; omega, hh⟩
    · obtain ⟨o3, o4, l, acc, rfl, sm, hw, hal, hpa⟩ := y
      rw [List.drop_length] at hpa
      have hR : putAt el 0 ps [] = .inr acc := hpa.symm
      rw [hR] at q
      exact ⟨_, rfl, l, _, rfl, .inl ⟨SqL.of hw, fun l1 hl => q _ l1 (sm.trans (same_new hl)) (sm.free hl) upd_same⟩⟩
end
end R1

namespace R1
open PySem PySem.Spec PyProof.Rows L2 RK
local macro_rules | `(tactic| walk_at "sq") => `(tactic| first
  | exact SqL.of upd_same | exact upd_same | exact SqL.of (by assumption) | exact SqL.of (by rw [upd_ne (by assumption)]; assumption) | assumption)
local macro_rules | `(tactic| walk_at "sd") => `(tactic| first
  | assumption | omega | (refine Or.inl ⟨?_, ?_⟩ <;> omega) | (show _ ∧ _; constructor <;> omega) | (show _ ≠ _; simp; omega) | (exact Or.inl ⟨by decide, by decide⟩) | (exact Or.inr ⟨by decide, by decide⟩) | (show _ < _; decide) | (show _ ≤ _; decide))
local macro_rules | `(tactic| walk_at "at") => `(tactic| first | rfl | (refine atI_intV ?_ ?_ <;> omega) | assumption)
local macro_rules | `(tactic| walk_at "s1") => `(tactic| first
  | refine ⟨_, rfl, ?_⟩ | refine ⟨_, _, rfl, rfl, ?_⟩ | refine ⟨rfl, ?_⟩
  | refine ⟨_, _, _, _, rfl, rfl, by walk_at "sq", by walk_at "at", ?_⟩
  | refine Or.inl ⟨_, rfl, ?_⟩
  | refine ⟨_, _, rfl, Or.inl (by walk_at "sq"), ?_⟩
  | refine And.intro (by walk_at "sd") ?_)
local macro_rules | `(tactic| walk_at "s") => `(tactic| repeat walk_at "s1")

def PcOk : Pc → Prop
  | .cp a n => a ≤ 65535 ∧ 1 ≤ n ∧ n ≤ 32767
  | .pt ws => 1 ≤ ws.length ∧ ws.length ≤ 32767 ∧ ∀ w ∈ ws, w ≤ 65535
abbrev SP (p : Addr) : ASet := inS noS p
abbrev SPD (p D : Addr) : ASet := inS (inS noS p) D
theorem out_but {p : Addr} {S : ASet} {H H' : Hp} (hp : S p) (h : But p H H') : Out S H H' := fun b o n e => h b o (fun z => n (by rw [z]; exact hp)) e
theorem nS_of {p D q : Addr} (h1 : q ≠ p) (h2 : q ≠ D) : ¬ SPD p D q := fun z => z.elim (fun z => z.elim (fun z => z) h1) h2
def spPieces (K : PySem.W.Frag) : Sp := fun vs H Q _ => ∃ (c p : Addr), vs = [.ref p] ∧ Src c H p ∧ ∀ H' q (ps : List Pc), Src c H' p → But p H H' → Dx K H' (SP p) (.ref q) (pcsD ps) → ps.length ≤ 5 → (∀ pc ∈ ps, PcOk pc) → (wsOf ps).length ≤ 40000 → Q (.ref q) H'
theorem src_tup {c p q : Addr} {H : Hp} {xs : List V} (h : Src c H p) (e : H q = some (.tup xs)) : q ≠ p := fun z => by
  obtain ⟨cs, pl, dg, ct, mx, h1, _⟩ := h
  rw [← z, e] at h1
  cases h1
section
variable {P : Program} {w : World} {K : PySem.W.Frag} {mg : Str → Option Value} {base : Heap} {A : Ads}
theorem ok_law_pieces (T : Txt K mg A) : FnOk P w K mg base CX0 5 A.a_law_pieces A.d_law_pieces ["_law_source_here"] (spPieces K) := by
  refine T.F_law_pieces.ok sc_law_pieces (fun vs H Q E h => ?_) (fun cdv B outer s H vs Q E hr h => ?_)
  · obtain ⟨c, p, rfl, _⟩ := h
    rfl
  · obtain ⟨c, p, rfl, hs, q⟩ := h
    refine ⟨_, (pss_cons (ps_set (i := 1) sc_law_pieces.nd rfl (.inl rfl) (pe_lst pa_nil))
    (pss_cons (ps_for PassesOwn.never rfl (pi_range1 (by rfl) T.n_range (pa_cons (pe_call (ok_law_draw T) (hr.mono (by omega)) rfl T.g_law_draw T.F_law_draw.kp T.b_law_draw .nil pass0 (pa_cons (pv 0) (pa_cons pe_int pa_nil))) pa_nil)) (pg_name (i := 2) sc_law_pieces.nd rfl (.inl rfl))
      (pss_one (ps_if (pt_cmpR op_eq (pe_call (ok_law_draw T) (hr.mono (by omega)) rfl T.g_law_draw T.F_law_draw.kp T.b_law_draw .nil pass0 (pa_cons (pv 0) (pa_cons pe_int pa_nil))) pe_int (nomark _)) (pss_cons (ps_set (i := 3) sc_law_pieces.nd rfl (.inl rfl) (pe_ix ix_tup (pe_tup (pa_cons pe_int (pa_cons pe_int (pa_cons pe_int (pa_cons pe_int (pa_cons (pe_op op_add pe_int (pe_call (ok_law_draw T) (hr.mono (by omega)) rfl T.g_law_draw T.F_law_draw.kp T.b_law_draw .nil pass0 (pa_cons (pv 0) (pa_cons pe_int pa_nil)))) (pa_cons pe_int pa_nil))))))) (pe_call (ok_law_draw T) (hr.mono (by omega)) rfl T.g_law_draw T.F_law_draw.kp T.b_law_draw .nil pass0 (pa_cons (pv 0) (pa_cons pe_int pa_nil))) (fun _ _ => rfl)))
    (pss_one (ps_expr (pe_bm PySem.F.plainAttrs_list PySem.F.slot_list_append PySem.F.type_list_append mt_append (pv 1) (pa_cons (pe_tup (pa_cons pe_str (pa_cons (pe_call (ok_law_word T) (hr.mono (by omega)) rfl T.g_law_word T.F_law_word.kp T.b_law_word .nil pass0 (pa_cons (pv 0) pa_nil)) (pa_cons (pv 3) pa_nil)))) pa_nil))))) (pss_one (ps_expr (pe_bm PySem.F.plainAttrs_list PySem.F.slot_list_append PySem.F.type_list_append mt_append (pv 1) (pa_cons (pe_tup (pa_cons pe_str (pa_cons (pe_call (ok_law_put_words T) (hr.mono (by omega)) rfl T.g_law_put_words T.F_law_put_words.kp T.b_law_put_words .nil pass0 (pa_cons (pv 0) (pa_cons (pv 2) pa_nil))) pa_nil))) pa_nil)))))))
    (pss_one (ps_ret (pe_callTy tuple_of (by rfl) T.n_tuple (by decide +kernel) (pa_cons (pv 1) pa_nil)))))), ?_⟩
    refine ⟨lenOk (n := 0) rfl (by decide), fun D hD => ?_⟩
    generalize hH1 : upd H D _ = H1
    have s1 : Same H H1 := by rw [← hH1]; exact same_new hD
    have e1 : H1 D = some (.lst []) := by rw [← hH1]; exact upd_same
    clear hH1
    have hs1 := src_up hs s1
    have nD : D ≠ p := fun z => src_ne hs (z ▸ hD)
    have ncD : D ≠ c := fun z => src_cne hs (z ▸ hD)
    refine ⟨_, rfl, c, p, 6, rfl, hs1, by decide, by decide, fun H2 n1 l1 hs2 b2 => ?_⟩
    refine ⟨(n1 : Int), rfl, by omega, by omega, ?_⟩
    rw [Int.toNat_natCast]
    refine for_it (walk_range (lo := 0) (n := n1)) (fun i σ Hc => ∃ o2 o3 done acc, σ = [some (.ref p), some (.ref D), o2, o3] ∧ Src c Hc p ∧ But p H Hc ∧ Hc D = some (.lst acc) ∧ DxAll K Hc (SPD p D) acc (done.map pcD) ∧ (∀ pc ∈ done, PcOk pc) ∧ done.length = i ∧ (wsOf done).length ≤ (if i = 0 then 0 else 32768 + 61 * i))
      ⟨_, _, [], [], rfl, hs2, (But.of s1).trans b2, b2 _ _ nD e1, .nil, (fun _ h => nomatch h), rfl, Nat.le_refl _⟩ (fun _ _ _ _ _ => trivial) (fun i x σ Hc Hd hi y e => ?_) (fun σ Hc y => ?_)
    · obtain ⟨rfl, rfl⟩ := e
      obtain ⟨o2, o3, done, acc, rfl, hs3, b3, hD3, hda, hok, hdl, hwl⟩ := y
      have hacc : acc.length = i := by rw [dxAll_len hda, List.length_map, hdl]
      have step : ∀ (pc : Pc) (H5 : Hp) (q1 : Addr), PcOk pc → pc.ws.length ≤ (if i = 0 then 32768 else 61) → Src c H5 p → But p Hd H5 → Dx K H5 (SPD p D) (.ref q1) (pcD pc) →
          (Src c (upd H5 D (.lst (acc ++ [V.ref q1]))) p ∧ But p H (upd H5 D (.lst (acc ++ [V.ref q1]))) ∧ (upd H5 D (.lst (acc ++ [V.ref q1]))) D = some (.lst (acc ++ [V.ref q1])) ∧ DxAll K (upd H5 D (.lst (acc ++ [V.ref q1]))) (SPD p D) (acc ++ [V.ref q1]) ((done ++ [pc]).map pcD) ∧ (∀ pc' ∈ done ++ [pc], PcOk pc') ∧ (done ++ [pc]).length = i + 1 ∧ (wsOf (done ++ [pc])).length ≤ (if i + 1 = 0 then 0 else 32768 + 61 * (i + 1))) := fun pc H5 q1 ok wl hs5 b5 d5 => by
        have o : Out (SPD p D) H5 (upd H5 D (.lst (acc ++ [V.ref q1]))) := (Out.refl _ _).put (.inr rfl)
        refine ⟨src_put hs5 nD ncD, but_new (b3.trans b5) hD, upd_same, ?_, ?_, by rw [List.length_append, hdl]; rfl, ?_⟩
        · rw [List.map_append]
          exact dxAll_app (DxAll.up o (DxAll.up (out_but (.inl (.inr rfl)) b5) hda)) (.cons (Dx.up o d5) .nil)
        · intro pc' hp
          rcases List.mem_append.mp hp with z | z
          · exact hok _ z
          · rw [List.mem_singleton.mp z]
            exact ok
        · rw [ws_snoc, List.length_append, if_neg (by omega)]
          by_cases h0 : i = 0
          · rw [if_pos h0] at wl hwl
            omega
          · rw [if_neg h0] at wl hwl
            omega
      refine ⟨_, rfl, c, p, 2, rfl, hs3, by decide, by decide, fun H4 r2 l2 hs4 b4 => ?_⟩
      refine ⟨rfl, _, rfl, ifB (fun ee => ?_) (fun ee => ?_)⟩
      · refine ⟨_, rfl, c, p, 32767, rfl, hs4, by decide, by decide, fun H5 r5 l5 hs5 b5 => ⟨_, _, rfl, rfl, lenOk (n := 6) rfl (by decide), fun tp htp => ?_⟩⟩
        have hs6 := src_up hs5 (same_new (o := .tup [V.int 1, V.int 2, V.int 3, V.int 4, V.int (1 + (r5 : Int)), V.int 32767]) htp)
        refine ⟨_, rfl, c, p, 6, rfl, hs6, by decide, by decide, fun H7 k7 l7 hs7 b7 => ?_⟩
        have htp7 : H7 tp = some (.tup [V.int 1, V.int 2, V.int 3, V.int 4, V.int (1 + (r5 : Int)), V.int 32767]) := b7 _ _ (src_tup hs6 upd_same) upd_same
        obtain ⟨cnt, hc1, hc2, hat⟩ : ∃ cnt : Nat, 1 ≤ cnt ∧ cnt ≤ 32767 ∧ atI [V.int 1, V.int 2, V.int 3, V.int 4, V.int (1 + (r5 : Int)), V.int 32767] (k7 : Int) = some (.int (cnt : Int)) := by
          match k7, l7 with
          | 0, _ => exact ⟨1, by decide, by decide, rfl⟩
          | 1, _ => exact ⟨2, by decide, by decide, rfl⟩
          | 2, _ => exact ⟨3, by decide, by decide, rfl⟩
          | 3, _ => exact ⟨4, by decide, by decide, rfl⟩
          | 4, _ => exact ⟨1 + r5, by omega, by omega, rfl⟩
          | 5, _ => exact ⟨32767, by decide, by decide, rfl⟩
          | n + 6, h => exact absurd h (by omega)
        refine ⟨tp, _, _, _, rfl, rfl, SqT.of htp7, hat, ?_⟩
        have b37 : But p Hd H7 := b4.trans (b5.trans ((But.of (same_new htp)).trans b7))
        have hD7 := b37 _ _ nD hD3
        refine ⟨_, rfl, .inl ⟨rfl, _, SqL.of hD7⟩, _, rfl, c, p, rfl, hs7, fun H8 wd hw8 hs8 b8 => ?_⟩
        have hD8 := b8 _ _ nD hD7
        refine ⟨_, rfl, lenOk (n := 3) rfl (by decide), fun q1 hq1 => ?_⟩
        have nq : D ≠ q1 := ne_of_none hD8 hq1
        have s9 := same_new (o := .tup [V.str (Str.ofString "copy"), V.int (wd : Int), V.int (cnt : Int)]) hq1
        refine ⟨D, _, _, rfl, rfl, s9 _ _ hD8, lim2 (by omega), ?_⟩
        have st := step (.cp wd cnt) _ q1 ⟨hw8, hc1, hc2⟩ (show 2 ≤ _ by split <;> omega) (src_up hs8 s9) (b37.trans (b8.trans (But.of s9))) (mk_cp upd_same (nS_of (fun z => src_ne hs8 (z ▸ hq1)) (Ne.symm nq)))
        exact ⟨_, _, done ++ [.cp wd cnt], _, rfl, st⟩
      · have hD4 := b4 _ _ nD hD3
        refine ⟨_, rfl, .inl ⟨rfl, _, SqL.of hD4⟩, _, rfl, _, rfl, c, p, i, congrArg (fun z => [V.ref p, V.int z]) (show 0 + (i : Int) = (i : Int) by omega), hs4, fun H5 r ws hs5 b5 e5 w1 w2 w3 => ?_⟩
        have hD5 := b5 _ _ nD hD4
        refine ⟨lenOk (n := 2) rfl (by decide), fun q1 hq1 => ?_⟩
        have nq : D ≠ q1 := ne_of_none hD5 hq1
        have s9 := same_new (o := .tup [V.str (Str.ofString "put"), V.ref r]) hq1
        refine ⟨D, _, _, rfl, rfl, s9 _ _ hD5, lim2 (by omega), ?_⟩
        have st := step (.pt ws) _ q1 ⟨w1, by split at w2 <;> omega, w3⟩ (show ws.length + 1 ≤ _ by split at w2 <;> simp_all <;> omega) (src_up hs5 s9) (b4.trans (b5.trans (But.of s9))) (mk_pt upd_same (nS_of (fun z => src_ne hs5 (z ▸ hq1)) (Ne.symm nq)) (XT.of (s9 _ _ e5) (nS_of (src_tup hs5 e5) fun z => by rw [z, hD5] at e5; cases e5)))
        exact ⟨_, _, done ++ [.pt ws], _, rfl, st⟩
    · obtain ⟨o2, o3, done, acc, rfl, hs3, b3, hD3, hda, hok, hdl, hwl⟩ := y
      refine ⟨_, rfl, D, _, rfl, .inl ⟨SqL.of hD3, fun l hl => ?_⟩⟩
      refine q _ l done (src_up hs3 (same_new hl)) (b3.trans (But.of (same_new hl))) (.tup (XT.of upd_same fun z => z.elim (fun z => z) fun z => src_ne hs3 (z ▸ hl)) ?_) (by omega) hok (by split at hwl <;> omega)
      exact DxAll.less (fun _ z => .inl z) (DxAll.up (Out.of (same_new hl)) hda)
end
end R1

namespace R1
open PySem PySem.Spec PyProof.Rows L2 RK
local macro_rules | `(tactic| walk_at "sq") => `(tactic| first
  | exact SqL.of upd_same | exact upd_same | exact SqL.of (by assumption) | exact SqL.of (by rw [upd_ne (by assumption)]; assumption) | assumption)
local macro_rules | `(tactic| walk_at "sd") => `(tactic| first
  | assumption | omega | (refine Or.inl ⟨?_, ?_⟩ <;> omega) | (show _ ∧ _; constructor <;> omega) | (show _ ≠ _; simp; omega) | (exact Or.inl ⟨by decide, by decide⟩) | (exact Or.inr ⟨by decide, by decide⟩) | (show _ < _; decide) | (show _ ≤ _; decide))
local macro_rules | `(tactic| walk_at "at") => `(tactic| first | rfl | (refine atI_intV ?_ ?_ <;> omega) | assumption)
local macro_rules | `(tactic| walk_at "s1") => `(tactic| first
  | refine ⟨_, rfl, ?_⟩ | refine ⟨_, _, rfl, rfl, ?_⟩ | refine ⟨rfl, ?_⟩
  | refine ⟨_, _, _, _, rfl, rfl, by walk_at "sq", by walk_at "at", ?_⟩
  | refine Or.inl ⟨_, rfl, ?_⟩
  | refine ⟨_, _, rfl, Or.inl (by walk_at "sq"), ?_⟩
  | refine And.intro (by walk_at "sd") ?_)
local macro_rules | `(tactic| walk_at "s") => `(tactic| repeat walk_at "s1")

def spNear (K : PySem.W.Frag) : Sp := fun vs H Q _ => ∃ (c p e : Addr) (el : List Nat), vs = [.ref p, .ref e] ∧ Src c H p ∧ XT K H (SP p) e (intV el) ∧ el.length ≤ 6 ∧ ∀ H' q (ps : List Pc), Src c H' p → But p H H' → Dx K H' (SP p) (.ref q) (pcsD ps) → ps.length ≤ 4 → (∀ pc ∈ ps, PcOk pc) → (∀ ws, Pc.pt ws ∈ ps → ws.length ≤ 3) → (wsOf ps).length ≤ 100 → Q (.ref q) H'
def PcNr : Pc → Prop
  | .cp a n => a ≤ 65535 ∧ 1 ≤ n ∧ n ≤ 32767
  | .pt ws => 1 ≤ ws.length ∧ ws.length ≤ 3 ∧ ∀ w ∈ ws, w ≤ 65535
theorem PcNr.ok {pc : Pc} (h : PcNr pc) : PcOk pc := by
  cases pc with
  | cp a n => exact h
  | pt ws => exact ⟨h.1, Nat.le_trans h.2.1 (by decide), h.2.2⟩
theorem PcNr.len {pc : Pc} (h : PcNr pc) : pc.ws.length ≤ 4 := by
  cases pc with
  | cp a n => show 2 ≤ 4; decide
  | pt ws => show ws.length + 1 ≤ 4; have := h.2.1; omega
section
variable {P : Program} {w : World} {K : PySem.W.Frag} {mg : Str → Option Value} {base : Heap} {A : Ads}
theorem ok_law_near (T : Txt K mg A) : FnOk P w K mg base CX0 5 A.a_law_near A.d_law_near ["_law_source_here", "_law_elder"] (spNear K) := by
  refine T.F_law_near.ok sc_law_near (fun vs H Q E h => ?_) (fun cdv B outer s H vs Q E hr h => ?_)
  · obtain ⟨c, p, e, el, rfl, _⟩ := h
    rfl
  · obtain ⟨c, p, e, el, rfl, hs, he, hel, q⟩ := h
    refine ⟨_, (pss_cons (ps_set (i := 2) sc_law_near.nd rfl (.inl rfl) (pe_lst pa_nil))
    (pss_cons (ps_for PassesOwn.never rfl (pi_range1 (by rfl) T.n_range (pa_cons (pe_call (ok_law_draw T) (hr.mono (by omega)) rfl T.g_law_draw T.F_law_draw.kp T.b_law_draw .nil pass0 (pa_cons (pv 0) (pa_cons pe_int pa_nil))) pa_nil)) (pg_name (i := 3) sc_law_near.nd rfl (.inl rfl))
      (pss_cons (ps_set (i := 4) sc_law_near.nd rfl (.inl rfl) (pe_call (ok_law_draw T) (hr.mono (by omega)) rfl T.g_law_draw T.F_law_draw.kp T.b_law_draw .nil pass0 (pa_cons (pv 0) (pa_cons (pe_op op_add (pe_callB len_seq (by rfl) T.n_len (by decide +kernel) (pa_cons (pv 1) pa_nil)) pe_int) pa_nil))))
    (pss_cons (ps_set (i := 5) sc_law_near.nd rfl (.inl rfl) (pe_op op_sub (pe_callB len_seq (by rfl) T.n_len (by decide +kernel) (pa_cons (pv 1) pa_nil)) (pv 4)))
    (pss_cons (ps_set (i := 6) sc_law_near.nd rfl (.inl rfl) (pe_call (ok_law_draw T) (hr.mono (by omega)) rfl T.g_law_draw T.F_law_draw.kp T.b_law_draw .nil pass0 (pa_cons (pv 0) (pa_cons pe_int pa_nil))))
    (pss_one (ps_if (pt_cmpR op_eq (pv 6) pe_int (nomark _)) (pss_one (ps_expr (pe_bm PySem.F.plainAttrs_list PySem.F.slot_list_append PySem.F.type_list_append mt_append (pv 2) (pa_cons (pe_tup (pa_cons pe_str (pa_cons (pe_callTy tuple_of (by rfl) T.n_tuple (by decide +kernel) (pa_cons (pe_lc (own := [("_law_more", 7)]) rfl sc_law_near.nd (pi_range1 (by rfl) T.n_range (pa_cons (pe_op op_add pe_int (pe_call (ok_law_draw T) (hr.mono (by omega)) rfl T.g_law_draw T.F_law_draw.kp T.b_law_draw .nil pass0 (pa_cons (pv 0) (pa_cons pe_int pa_nil)))) pa_nil)) (blkOk_by (own := [("_law_more", 7)]) (N := N_law_near) (sc := defScope s_law_near) (by decide +kernel)) (fun _ _ _ _ _ => pg_name (i := 7) sc_law_near.nd rfl (Or.inl rfl)) (fun _ _ _ _ _ => pts_nil) (fun _ _ _ _ _ => by exact (pe_call (ok_law_word T) (hr.mono (by omega)) rfl T.g_law_word T.F_law_word.kp T.b_law_word .nil pass0 (pa_cons (pv 0) pa_nil)))) pa_nil)) pa_nil))) pa_nil)))) (pss_one (ps_if (pt_cmpR op_eq (pv 6) pe_int (nomark _)) (pss_one (ps_expr (pe_bm PySem.F.plainAttrs_list PySem.F.slot_list_append PySem.F.type_list_append mt_append (pv 2) (pa_cons (pe_tup (pa_cons pe_str (pa_cons (pv 4) (pa_cons (pe_op op_add (pv 5) pe_int) pa_nil)))) pa_nil)))) (pss_one (ps_if (pt_cmpR op_gt (pv 5) pe_int (nomark _)) (pss_one (ps_expr (pe_bm PySem.F.plainAttrs_list PySem.F.slot_list_append PySem.F.type_list_append mt_append (pv 2) (pa_cons (pe_tup (pa_cons pe_str (pa_cons (pv 4) (pa_cons (pe_op op_sub (pv 5) (pe_op op_mul (pe_callTy call_int1 (by rfl) T.n_int (by decide +kernel) (pa_cons (pe_op op_sub (pv 5) pe_int) pa_nil)) (pe_callTy call_int1 (by rfl) T.n_int (by decide +kernel) (pa_cons (pe_cmpR op_eq (pv 6) pe_int (nomark _)) pa_nil)))) pa_nil)))) pa_nil)))) (pss_one (ps_expr (pe_bm PySem.F.plainAttrs_list PySem.F.slot_list_append PySem.F.type_list_append mt_append (pv 2) (pa_cons (pe_tup (pa_cons pe_str (pa_cons pe_int (pa_cons (pe_op op_add (pe_callB len_seq (by rfl) T.n_len (by decide +kernel) (pa_cons (pv 1) pa_nil)) (pe_callTy call_int1 (by rfl) T.n_int (by decide +kernel) (pa_cons (pe_cmpR op_eq (pe_callB len_seq (by rfl) T.n_len (by decide +kernel) (pa_cons (pv 1) pa_nil)) pe_int (nomark _)) pa_nil))) pa_nil)))) pa_nil))))))))))))))
    (pss_one (ps_ret (pe_callTy tuple_of (by rfl) T.n_tuple (by decide +kernel) (pa_cons (pv 2) pa_nil)))))), ?_⟩
    refine ⟨lenOk (n := 0) rfl (by decide), fun D hD => ?_⟩
    generalize hH1 : upd H D _ = H1
    have s1 : Same H H1 := by rw [← hH1]; exact same_new hD
    have e1 : H1 D = some (.lst []) := by rw [← hH1]; exact upd_same
    clear hH1
    have hs1 := src_up hs s1
    have nD : D ≠ p := fun z => src_ne hs (z ▸ hD)
    have ncD : D ≠ c := fun z => src_cne hs (z ▸ hD)
    refine ⟨_, rfl, c, p, 5, rfl, hs1, by decide, by decide, fun H2 n1 l1 hs2 b2 => ?_⟩
    refine ⟨(n1 : Int), rfl, by omega, by omega, ?_⟩
    rw [Int.toNat_natCast]
    refine for_it (walk_range (lo := 0) (n := n1)) (fun i σ Hc => ∃ o3 o4 o5 o6 done acc, σ = [some (.ref p), some (.ref e), some (.ref D), o3, o4, o5, o6, none] ∧ Src c Hc p ∧ But p H Hc ∧ Hc D = some (.lst acc) ∧ DxAll K Hc (SPD p D) acc (done.map pcD) ∧ (∀ pc ∈ done, PcNr pc) ∧ done.length = i ∧ (wsOf done).length ≤ 4 * i)
      ⟨_, _, _, _, [], [], rfl, hs2, (But.of s1).trans b2, b2 _ _ nD e1, .nil, (fun _ h => nomatch h), rfl, Nat.le_refl _⟩ (fun _ _ _ _ _ => trivial) (fun i x σ Hc Hd hi y e' => ?_) (fun σ Hc y => ?_)
    · obtain ⟨rfl, rfl⟩ := e'
      obtain ⟨o3, o4, o5, o6, done, acc, rfl, hs3, b3, hD3, hda, hok, hdl, hwl⟩ := y
      have hacc : acc.length = i := by rw [dxAll_len hda, List.length_map, hdl]
      have step : ∀ (pc : Pc) (H5 : Hp) (q1 : Addr), PcNr pc → Src c H5 p → But p Hd H5 → Dx K H5 (SPD p D) (.ref q1) (pcD pc) →
          (Src c (upd H5 D (.lst (acc ++ [V.ref q1]))) p ∧ But p H (upd H5 D (.lst (acc ++ [V.ref q1]))) ∧ (upd H5 D (.lst (acc ++ [V.ref q1]))) D = some (.lst (acc ++ [V.ref q1])) ∧ DxAll K (upd H5 D (.lst (acc ++ [V.ref q1]))) (SPD p D) (acc ++ [V.ref q1]) ((done ++ [pc]).map pcD) ∧ (∀ pc' ∈ done ++ [pc], PcNr pc') ∧ (done ++ [pc]).length = i + 1 ∧ (wsOf (done ++ [pc])).length ≤ 4 * (i + 1)) := fun pc H5 q1 ok hs5 b5 d5 => by
        have o : Out (SPD p D) H5 (upd H5 D (.lst (acc ++ [V.ref q1]))) := (Out.refl _ _).put (.inr rfl)
        refine ⟨src_put hs5 nD ncD, but_new (b3.trans b5) hD, upd_same, ?_, ?_, by rw [List.length_append, hdl]; rfl, ?_⟩
        · rw [List.map_append]
          exact dxAll_app (DxAll.up o (DxAll.up (out_but (.inl (.inr rfl)) b5) hda)) (.cons (Dx.up o d5) .nil)
        · intro pc' hp
          rcases List.mem_append.mp hp with z | z
          · exact hok _ z
          · rw [List.mem_singleton.mp z]
            exact ok
        · rw [ws_snoc, List.length_append]
          have := ok.len
          omega
      have heq : ∀ {H5 : Hp}, But p H H5 → SqT K H5 e (intV el) := fun b => (he.up (out_but (.inr rfl) b)).sq
      refine ⟨_, rfl, _, rfl, e, _, rfl, .inr (heq b3), _, _, rfl, rfl, c, p, _, rfl, hs3, by rw [intV_len]; omega, by rw [intV_len]; omega, fun H4 at' l4 hs4 b4 => ?_⟩
      rw [intV_len] at l4
      have hat : at' ≤ el.length := by omega
      refine ⟨_, rfl, e, _, rfl, .inr (heq (b3.trans b4)), _, rfl, _, _, rfl, rfl, ?_⟩
      rw [intV_len]
      refine ⟨_, rfl, c, p, 6, rfl, hs4, by decide, by decide, fun H5 way l5 hs5 b5 => ?_⟩
      have b35 : But p Hd H5 := b4.trans b5
      have hD5 := b35 _ _ nD hD3
      have fin := fun (u v : Int) (un vn : Nat) (q1 : Addr) (hu : u = (un : Int)) (hv : v = (vn : Int)) (h1 : un ≤ 65535) (h2 : 1 ≤ vn) (h3 : vn ≤ 32767) (hq1 : H5 q1 = none) =>
        have nq : D ≠ q1 := ne_of_none hD5 hq1
        have s9 := same_new (o := .tup [V.str (Str.ofString "copy"), V.int u, V.int v]) hq1
        have eq1 : upd H5 q1 (.tup [V.str (Str.ofString "copy"), V.int u, V.int v]) q1 = some (.tup [V.str (Str.ofString "copy"), V.int (un : Int), V.int (vn : Int)]) := by rw [upd_same, hu, hv]
        And.intro (s9 _ _ hD5) (step (.cp un vn) _ q1 ⟨h1, h2, h3⟩ (src_up hs5 s9) (b35.trans (But.of s9)) (mk_cp eq1 (nS_of (fun z => src_ne hs5 (z ▸ hq1)) (Ne.symm nq))))
      refine ⟨_, rfl, rfl, _, rfl, ifB (fun ee => ?_) (fun ee => ?_)⟩
      · refine ⟨_, rfl, .inl ⟨rfl, _, SqL.of hD5⟩, ?_⟩
        refine ⟨_, rfl, c, p, 3, rfl, hs5, by decide, by decide, fun H6 m l6 hs6 b6 => ⟨_, _, rfl, rfl, ?_⟩⟩
        refine ⟨((1 + m : Nat) : Int), congrArg (fun z => [V.int z]) (show (1 : Int) + (m : Int) = ((1 + m : Nat) : Int) by omega), by omega, by omega, fun E1 hE => ?_⟩
        rw [Int.toNat_natCast]
        refine lc_inv (walk_range (lo := 0) (n := 1 + m)) (fun i v => True) (fun i acc H4 => Src c H4 p ∧ But p H6 H4 ∧ ∃ ws : List Nat, acc = intV ws ∧ ∀ w ∈ ws, w ≤ 65535) (by omega) ⟨src_up hs6 (same_new hE), But.of (same_new hE), [], rfl, by simp⟩ (fun _ _ _ _ => trivial) (fun i H1 v H2 hi y => ⟨y.1, trivial⟩) (fun i v acc H4 hi hl pv e5 _ Q q => ?_) (fun acc2 H7 hl4 pv e4 => ?_)
        · obtain ⟨hs4, b4, ws, rfl, hw⟩ := pv
          have np := src_ints hs4 e5
          refine ⟨_, rfl, c, p, rfl, hs4, fun H5 w hw5 hs5 b5 => ?_⟩
          refine q _ H5 (b5 _ _ np e5) ⟨src_put hs5 np fun z => src_cne hs6 (z ▸ hE), but_new (b4.trans b5) hE, ws ++ [w], by unfold intV; rw [List.map_append]; rfl, fun x hx => ?_⟩
          rcases List.mem_append.mp hx with z | z
          · exact hw x z
          · have := List.mem_singleton.mp z
            omega
        · obtain ⟨hs7, b7, ws, rfl, hw⟩ := pv
          have hn : ws.length = 1 + m := by unfold intV at hl4; rw [List.length_map] at hl4; exact hl4
          have hD7 := b7 _ _ nD (b6 _ _ nD hD5)
          refine ⟨E1, _, rfl, .inl ⟨SqL.of e4, fun r hr1 => ?_⟩⟩
          have s8 := same_new (o := .tup (intV ws)) hr1
          have hs8 := src_up hs7 s8
          have e8 : upd H7 r (.tup (intV ws)) r = some (.tup (intV ws)) := upd_same
          have hD8 := s8 _ _ hD7
          have b38 : But p Hd (upd H7 r (.tup (intV ws))) := b35.trans (b6.trans (b7.trans (But.of s8)))
          generalize upd H7 r (.tup (intV ws)) = H8 at e8 hD8 hs8 b38 ⊢
          refine ⟨lenOk (n := 2) rfl (by decide), fun q1 hq1 => ?_⟩
          have nq : D ≠ q1 := ne_of_none hD8 hq1
          have s9 := same_new (o := .tup [V.str (Str.ofString "put"), V.ref r]) hq1
          refine ⟨D, _, _, rfl, rfl, s9 _ _ hD8, lim2 (by omega), ?_⟩
          have st := step (.pt ws) _ q1 ⟨by omega, by omega, hw⟩ (src_up hs8 s9) (b38.trans (But.of s9)) (mk_pt upd_same (nS_of (fun z => src_ne hs8 (z ▸ hq1)) (Ne.symm nq)) (XT.of (s9 _ _ e8) (nS_of (src_tup hs8 e8) fun z => by rw [z, hD8] at e8; cases e8)))
          exact ⟨_, _, _, _, done ++ [.pt ws], _, rfl, st⟩
      refine ⟨_, rfl, rfl, _, rfl, ifB (fun ee1 => ?_) (fun ee1 => ?_)⟩
      · refine ⟨_, rfl, .inl ⟨rfl, _, SqL.of hD5⟩, _, rfl, _, rfl, _, _, rfl, rfl, lenOk (n := 3) rfl (by decide), fun q1 hq1 => ?_⟩
        have f := fin (at' : Int) ((el.length : Int) - (at' : Int) + 1) at' (el.length - at' + 1) q1 rfl (by omega) (by omega) (by omega) (by omega) hq1
        exact ⟨D, _, _, rfl, rfl, f.1, lim2 (by omega), _, _, _, _, done ++ [.cp at' (el.length - at' + 1)], _, rfl, f.2⟩
      refine ⟨_, rfl, _, _, rfl, rfl, _, rfl, ifB (fun ee2 => ?_) (fun ee2 => ?_)⟩
      · have e2 := of_decide_eq_true ee2
        refine ⟨_, rfl, .inl ⟨rfl, _, SqL.of hD5⟩, _, rfl, _, rfl, _, rfl, _, _, rfl, rfl, .inl ⟨_, rfl, _, rfl, rfl, .inr ⟨_, rfl, ?_⟩⟩⟩
        refine ⟨_, _, rfl, rfl, .inl ⟨by omega, by omega⟩, _, _, rfl, rfl, lenOk (n := 3) rfl (by decide), fun q1 hq1 => ?_⟩
        by_cases hw2 : way = 2
        · have hb : decide (V.int (way : Int) = V.int 2) = true := by rw [hw2]; rfl
          have f := fin (at' : Int) ((el.length : Int) - (at' : Int) - ((el.length : Int) - (at' : Int) - 1) * (if decide (V.int (way : Int) = V.int 2) = true then 1 else 0)) at' 1 q1 rfl (by rw [if_pos hb]; omega) (by omega) (by omega) (by omega) hq1
          exact ⟨D, _, _, rfl, rfl, f.1, lim2 (by omega), _, _, _, _, done ++ [.cp at' 1], _, rfl, f.2⟩
        · have hb : ¬ decide (V.int (way : Int) = V.int 2) = true := fun z => hw2 (by have := V.int.inj (of_decide_eq_true z); omega)
          have f := fin (at' : Int) ((el.length : Int) - (at' : Int) - ((el.length : Int) - (at' : Int) - 1) * (if decide (V.int (way : Int) = V.int 2) = true then 1 else 0)) at' (el.length - at') q1 rfl (by rw [if_neg hb]; omega) (by omega) (by omega) (by omega) hq1
          exact ⟨D, _, _, rfl, rfl, f.1, lim2 (by omega), _, _, _, _, done ++ [.cp at' (el.length - at')], _, rfl, f.2⟩
      · refine ⟨_, rfl, .inl ⟨rfl, _, SqL.of hD5⟩, _, rfl, e, _, rfl, .inr (heq (b3.trans b35)), _, rfl, e, _, rfl, .inr (heq (b3.trans b35)), rfl, .inr ⟨_, rfl, _, _, rfl, rfl, lenOk (n := 3) rfl (by decide), fun q1 hq1 => ?_⟩⟩
        have hil : (intV el).length = el.length := intV_len el
        by_cases hz : el.length = 0
        · have hb : decide (V.int ((intV el).length : Int) = V.int 0) = true := by rw [hil, hz]; rfl
          have f := fin (0 : Int) (((intV el).length : Int) + (if decide (V.int ((intV el).length : Int) = V.int 0) = true then 1 else 0)) 0 1 q1 rfl (by rw [if_pos hb]; omega) (by omega) (by omega) (by omega) hq1
          exact ⟨D, _, _, rfl, rfl, f.1, lim2 (by omega), _, _, _, _, done ++ [.cp 0 1], _, rfl, f.2⟩
        · have hb : ¬ decide (V.int ((intV el).length : Int) = V.int 0) = true := fun z => hz (by have := V.int.inj (of_decide_eq_true z); omega)
          have f := fin (0 : Int) (((intV el).length : Int) + (if decide (V.int ((intV el).length : Int) = V.int 0) = true then 1 else 0)) 0 el.length q1 rfl (by rw [if_neg hb]; omega) (by omega) (by omega) (by omega) hq1
          exact ⟨D, _, _, rfl, rfl, f.1, lim2 (by omega), _, _, _, _, done ++ [.cp 0 el.length], _, rfl, f.2⟩
    · obtain ⟨o3, o4, o5, o6, done, acc, rfl, hs3, b3, hD3, hda, hok, hdl, hwl⟩ := y
      refine ⟨_, rfl, D, _, rfl, .inl ⟨SqL.of hD3, fun l hl => ?_⟩⟩
      refine q _ l done (src_up hs3 (same_new hl)) (b3.trans (But.of (same_new hl))) (.tup (XT.of upd_same fun z => z.elim (fun z => z) fun z => src_ne hs3 (z ▸ hl)) ?_) (by omega) (fun pc h => (hok pc h).ok) (fun ws h => (hok _ h).2.1) (by omega)
      exact DxAll.less (fun _ z => .inl z) (DxAll.up (Out.of (same_new hl)) hda)
end
end R1

namespace R1
open PySem PySem.Spec PyProof.Rows L2 RK
local macro_rules | `(tactic| walk_at "sq") => `(tactic| first
  | exact SqL.of upd_same | exact upd_same | exact SqL.of (by assumption) | exact SqL.of (by rw [upd_ne (by assumption)]; assumption) | assumption)
local macro_rules | `(tactic| walk_at "sd") => `(tactic| first
  | assumption | omega | (refine Or.inl ⟨?_, ?_⟩ <;> omega) | (show _ ∧ _; constructor <;> omega) | (show _ ≠ _; simp; omega) | (exact Or.inl ⟨by decide, by decide⟩) | (exact Or.inr ⟨by decide, by decide⟩) | (show _ < _; decide) | (show _ ≤ _; decide))
local macro_rules | `(tactic| walk_at "at") => `(tactic| first | rfl | (refine atI_intV ?_ ?_ <;> omega) | assumption)
local macro_rules | `(tactic| walk_at "s1") => `(tactic| first
  | refine ⟨_, rfl, ?_⟩ | refine ⟨_, _, rfl, rfl, ?_⟩ | refine ⟨rfl, ?_⟩
  | refine ⟨_, _, _, _, rfl, rfl, by walk_at "sq", by walk_at "at", ?_⟩
  | refine Or.inl ⟨_, rfl, ?_⟩
  | refine ⟨_, _, rfl, Or.inl (by walk_at "sq"), ?_⟩
  | refine And.intro (by walk_at "sd") ?_)
local macro_rules | `(tactic| walk_at "s") => `(tactic| repeat walk_at "s1")

theorem ws_cons (pc : Pc) (r : List Pc) : wsOf (pc :: r) = pc.ws ++ wsOf r := rfl
theorem rd_cp {f at' : Nat} {a n : Nat} {r : List Nat} {acc : List Pc} (h1 : 1 ≤ n) (h2 : n ≤ 32767) : rdP (f + 1) at' ((Pc.cp a n).ws ++ r) acc = rdP f (at' + 2) r (acc ++ [.cp a n]) := by
  show (if (32768 + n) % 32768 = 0 ∨ (a :: r).length < (if 32768 ≤ 32768 + n then 1 else (32768 + n) % 32768) then _ else if 32768 ≤ 32768 + n then rdP f (at' + 2) ((a :: r).drop 1) (acc ++ [.cp ((a :: r).headD 0) ((32768 + n) % 32768)]) else _) = _
  have e : (32768 + n) % 32768 = n := by omega
  rw [e]
  simp only [if_pos (show 32768 ≤ 32768 + n by omega)]
  rw [if_neg (by rw [List.length_cons]; omega)]
  rfl
theorem rd_pt {f at' : Nat} {ws : List Nat} {r : List Nat} {acc : List Pc} (h1 : 1 ≤ ws.length) (h2 : ws.length ≤ 32767) : rdP (f + 1) at' ((Pc.pt ws).ws ++ r) acc = rdP f (at' + (ws.length + 1)) r (acc ++ [.pt ws]) := by
  show (if ws.length % 32768 = 0 ∨ (ws ++ r).length < (if 32768 ≤ ws.length then 1 else ws.length % 32768) then _ else if 32768 ≤ ws.length then _ else rdP f (at' + 1 + ws.length % 32768) ((ws ++ r).drop (ws.length % 32768)) (acc ++ [.pt ((ws ++ r).take (ws.length % 32768))])) = _
  have e : ws.length % 32768 = ws.length := by omega
  rw [e]
  simp only [if_neg (show ¬ 32768 ≤ ws.length by omega)]
  rw [if_neg (by rw [List.length_append]; omega), List.take_left, List.drop_left, show at' + 1 + ws.length = at' + (ws.length + 1) by omega]
theorem ok_pos {pc : Pc} (h : PcOk pc) : 2 ≤ pc.ws.length := by
  cases pc with
  | cp a n => exact Nat.le_refl 2
  | pt ws => show 2 ≤ ws.length + 1; have := h.1; omega
theorem rd_one {pc : Pc} (h : PcOk pc) {f at' : Nat} {r : List Nat} {acc : List Pc} : rdP (f + 1) at' (pc.ws ++ r) acc = rdP f (at' + pc.ws.length) r (acc ++ [pc]) := by
  cases pc with
  | cp a n => exact rd_cp h.2.1 h.2.2
  | pt ws => exact rd_pt h.1 h.2.1
theorem rd_back : ∀ (ps : List Pc) {f at' : Nat} {acc : List Pc}, (∀ pc ∈ ps, PcOk pc) → (wsOf ps).length < f → rdP f at' (wsOf ps) acc = .inr (acc ++ ps)
  | [], f + 1, _, acc, _, _ => by
    rw [List.append_nil]
    rfl
  | pc :: r, f + 1, at', acc, h, hf => by
    have h0 := h pc List.mem_cons_self
    have hp := ok_pos h0
    rw [ws_cons, List.length_append] at hf
    rw [ws_cons, rd_one h0, rd_back r (fun x hx => h x (List.mem_cons_of_mem _ hx)) (by omega), List.append_assoc]
    rfl
theorem rd_cut : ∀ (ps : List Pc) {f at' : Nat} {acc : List Pc}, ps ≠ [] → (∀ pc ∈ ps, PcOk pc) → (wsOf ps).length ≤ f + 1 → rdP (f + 1) at' (wsOf ps).dropLast acc = .inl (at' + (wsOf ps.dropLast).length)
  | [pc], f, at', acc, _, h, _ => by
    have h0 := h pc List.mem_cons_self
    have e : wsOf [pc] = pc.ws := by rw [ws_cons]; exact List.append_nil _
    rw [e]
    show _ = Sum.inl at'
    cases pc with
    | cp a n =>
      show (if (32768 + n) % 32768 = 0 ∨ ([] : List Nat).length < (if 32768 ≤ 32768 + n then 1 else (32768 + n) % 32768) then _ else _) = _
      rw [if_pos]
      right
      rw [if_pos (by omega)]
      decide
    | pt ws =>
      have h1 := h0.1
      have h2 := h0.2.1
      have e2 : (Pc.pt ws).ws.dropLast = ws.length :: ws.dropLast := by
        show (ws.length :: ws).dropLast = _
        cases ws with
        | nil => exact absurd h1 (by decide)
        | cons x r => rfl
      rw [e2]
      show (if ws.length % 32768 = 0 ∨ ws.dropLast.length < (if 32768 ≤ ws.length then 1 else ws.length % 32768) then _ else _) = _
      rw [if_pos]
      right
      rw [if_neg (by omega), List.length_dropLast]
      omega
  | pc :: pc2 :: r, f, at', acc, _, h, hf => by
    have h0 := h pc List.mem_cons_self
    have hp := ok_pos h0
    rw [ws_cons, List.length_append] at hf
    have hp2 := ok_pos (h pc2 (List.mem_cons_of_mem _ List.mem_cons_self))
    have hl2 : 2 ≤ (wsOf (pc2 :: r)).length := by
      rw [ws_cons, List.length_append]
      omega
    have hne : wsOf (pc2 :: r) ≠ [] := fun z => by
      rw [z] at hl2
      exact absurd hl2 (by decide)
    obtain ⟨f, rfl⟩ : ∃ f', f = f' + 1 := ⟨f - 1, by omega⟩
    rw [ws_cons, List.dropLast_append_of_ne_nil hne, rd_one h0, rd_cut (pc2 :: r) (by simp) (fun x hx => h x (List.mem_cons_of_mem _ hx)) (by omega)]
    show _ = Sum.inl (at' + (wsOf (pc :: (pc2 :: r).dropLast)).length)
    rw [ws_cons, List.length_append, Nat.add_assoc]
theorem ws_ok {ps : List Pc} (h : ∀ pc ∈ ps, PcOk pc) : ∀ w ∈ wsOf ps, w ≤ 65535 := fun w hw => by
  unfold wsOf at hw
  obtain ⟨pc, h1, h2⟩ := List.mem_flatMap.mp hw
  have ho := h pc h1
  cases pc with
  | cp a n =>
    have : w = 32768 + n ∨ w = a := by simpa [Pc.ws] using h2
    have h3 := ho.1
    have h4 := ho.2.2
    omega
  | pt ws =>
    have : w = ws.length ∨ w ∈ ws := by simpa [Pc.ws] using h2
    rcases this with z | z
    · have := ho.2.1
      omega
    · exact ho.2.2 _ z
theorem cutV_neg1 (xs : List V) : cutV xs none (some (-1)) = xs.dropLast := by
  show (xs.drop (HT.sIx xs.length 0 none)).take (HT.sIx xs.length xs.length (some (-1)) - HT.sIx xs.length 0 none) = _
  have e1 : HT.sIx xs.length 0 none = 0 := rfl
  have e2 : HT.sIx xs.length xs.length (some (-1)) = xs.length - 1 := by
    unfold HT.sIx
    simp only []
    rw [if_pos (by omega)]
    omega
  rw [e1, e2, List.drop_zero, Nat.sub_zero, List.dropLast_eq_take]
theorem dxAll_take {K : PySem.W.Frag} {H : Hp} {S : ASet} : ∀ {xs : List V} {ds : List PyData} (n : Nat), DxAll K H S xs ds → DxAll K H S (xs.take n) (ds.take n)
  | _, _, 0, _ => .nil
  | _, _, _ + 1, .nil => .nil
  | _, _, n + 1, .cons h t => .cons h (dxAll_take n t)
theorem dx_cut {K : PySem.W.Frag} {H : Hp} {S : ASet} {v : V} {ps : List Pc} (h : Dx K H S v (pcsD ps)) : ∃ a xs, v = .ref a ∧ SqT K H a xs ∧ xs.length = ps.length ∧ ∀ (n : Nat) H' q, Same H H' → SqT K H' q (xs.take n) → Dx K H' noS (.ref q) (pcsD (ps.take n)) := by
  cases h with
  | tup h1 h2 =>
    refine ⟨_, _, rfl, h1.sq, by have := dxAll_len h2; rw [List.length_map] at this; exact this, fun n H' q s hq => ?_⟩
    refine .tup (xt_sq hq fun _ z => z.elim) ?_
    rw [List.map_take]
    exact dxAll_take n (DxAll.less (fun _ z => z.elim) (DxAll.up (Out.of s) h2))
/-! the data of pieces -/
theorem lay_pcA : ∀ ps : List Pc, PyData.canLayAll0 (ps.map pcD) = true
  | [] => rfl
  | pc :: r => by
    show ((pcD pc).canLay0 && PyData.canLayAll0 (r.map pcD)) = true
    rw [lay_pcA r, Bool.and_true]
    cases pc with
    | cp a n =>
      show (PyData.canLay0 (.str _) && (true && (true && true))) = true
      rw [show PyData.canLay0 (.str (Str.ofString "copy")) = true by decide +kernel]
      rfl
    | pt ws =>
      show (PyData.canLay0 (.str _) && ((intsD ws).canLay0 && true)) = true
      rw [lay_intsD, show PyData.canLay0 (.str (Str.ofString "put")) = true by decide +kernel]
      rfl
theorem lay_pcs (ps : List Pc) : (pcsD ps).canLay0 = true := lay_pcA ps
theorem dep_pcA : ∀ ps : List Pc, PyData.depthAll (ps.map pcD) ≤ 2
  | [] => Nat.zero_le _
  | pc :: r => by
    have h := dep_pcA r
    show max (pcD pc).depth (PyData.depthAll (r.map pcD)) ≤ 2
    have : (pcD pc).depth ≤ 2 := by
      cases pc with
      | cp a n => show max 0 (max 0 (max 0 0)) + 1 ≤ 2; decide
      | pt ws =>
        have := dep_intsD ws
        show max 0 (max (intsD ws).depth 0) + 1 ≤ 2
        omega
    omega
theorem dep_pcs (ps : List Pc) : (pcsD ps).depth ≤ 3 := Nat.succ_le_succ (dep_pcA ps)
theorem wd_pcA : ∀ ps : List Pc, (∀ pc ∈ ps, PcOk pc) → wdA (ps.map pcD) = true
  | [], _ => rfl
  | pc :: r, h => by
    show (wdB (pcD pc) && wdA (r.map pcD)) = true
    rw [wd_pcA r fun x hx => h x (List.mem_cons_of_mem _ hx), Bool.and_true]
    have h0 := h pc List.mem_cons_self
    cases pc with
    | cp a n => rfl
    | pt ws =>
      show (true && (true && (wdB (intsD ws) && true))) = true
      rw [wd_intsD (Nat.le_trans h0.2.1 (by decide))]
      rfl
theorem wd_pcs {ps : List Pc} (h : ∀ pc ∈ ps, PcOk pc) (hl : ps.length ≤ 1000) : wdB (pcsD ps) = true := by
  show (decide ((ps.map pcD).length ≤ 100000) && wdA (ps.map pcD)) = true
  rw [wd_pcA ps h, List.length_map, decide_eq_true (by omega)]
  rfl
end R1

namespace R1
open PySem PySem.Spec PyProof.Rows L2 RK
local macro_rules | `(tactic| walk_at "sq") => `(tactic| first
  | exact SqL.of upd_same | exact upd_same | exact SqL.of (by assumption) | exact SqL.of (by rw [upd_ne (by assumption)]; assumption) | assumption)
local macro_rules | `(tactic| walk_at "sd") => `(tactic| first
  | assumption | omega | (refine Or.inl ⟨?_, ?_⟩ <;> omega) | (show _ ∧ _; constructor <;> omega) | (show _ ≠ _; simp; omega) | (exact Or.inl ⟨by decide, by decide⟩) | (exact Or.inr ⟨by decide, by decide⟩) | (show _ < _; decide) | (show _ ≤ _; decide))
local macro_rules | `(tactic| walk_at "at") => `(tactic| first | rfl | (refine atI_intV ?_ ?_ <;> omega) | assumption)
local macro_rules | `(tactic| walk_at "s1") => `(tactic| first
  | refine ⟨_, rfl, ?_⟩ | refine ⟨_, _, rfl, rfl, ?_⟩ | refine ⟨rfl, ?_⟩
  | refine ⟨_, _, _, _, rfl, rfl, by walk_at "sq", by walk_at "at", ?_⟩
  | refine Or.inl ⟨_, rfl, ?_⟩
  | refine ⟨_, _, rfl, Or.inl (by walk_at "sq"), ?_⟩
  | refine And.intro (by walk_at "sd") ?_)
local macro_rules | `(tactic| walk_at "s") => `(tactic| repeat walk_at "s1")

theorem rd_ok : ∀ (f : Nat) {at' : Nat} {ws : List Nat} {acc ps : List Pc}, rdP f at' ws acc = .inr ps → (∀ w ∈ ws, w ≤ 65535) → (∀ pc ∈ acc, PcOk pc) → ws.length ≤ 1000 → (∀ pc ∈ ps, PcOk pc) ∧ ps.length ≤ acc.length + ws.length
  | 0, _, _, acc, ps, h, _, ha, _ => by
    cases h
    exact ⟨ha, by omega⟩
  | _ + 1, _, [], acc, ps, h, _, ha, _ => by
    cases h
    exact ⟨ha, by omega⟩
  | f + 1, at', w :: r, acc, ps, h, hw, ha, hl => by
    have h : (if w % 32768 = 0 ∨ r.length < (if 32768 ≤ w then 1 else w % 32768) then Sum.inl at' else if 32768 ≤ w then rdP f (at' + 2) (r.drop 1) (acc ++ [.cp (r.headD 0) (w % 32768)])
      else rdP f (at' + 1 + w % 32768) (r.drop (w % 32768)) (acc ++ [.pt (r.take (w % 32768))])) = .inr ps := h
    rw [List.length_cons] at hl
    by_cases hc : w % 32768 = 0 ∨ r.length < (if 32768 ≤ w then 1 else w % 32768)
    · rw [if_pos hc] at h
      cases h
    rw [if_neg hc] at h
    have hr : ∀ x ∈ r, x ≤ 65535 := fun x hx => hw x (List.mem_cons_of_mem _ hx)
    have hw0 := hw w List.mem_cons_self
    by_cases hx : 32768 ≤ w
    · rw [if_pos hx] at h hc
      have hh : r.headD 0 ≤ 65535 := by
        cases r with
        | nil => exact Nat.zero_le _
        | cons y _ => exact hr y List.mem_cons_self
      have := rd_ok f h (fun x hx => hr x (List.mem_of_mem_drop hx)) (fun pc hp => by
        rcases List.mem_append.mp hp with z | z
        · exact ha _ z
        · rw [List.mem_singleton.mp z]
          exact ⟨hh, by omega, by omega⟩) (by rw [List.length_drop]; omega)
      refine ⟨this.1, ?_⟩
      have h2 := this.2
      rw [List.length_append, List.length_drop] at h2
      simp only [List.length_cons, List.length_nil] at h2 ⊢
      omega
    · rw [if_neg hx] at h hc
      have := rd_ok f h (fun x hx => hr x (List.mem_of_mem_drop hx)) (fun pc hp => by
        rcases List.mem_append.mp hp with z | z
        · exact ha _ z
        · rw [List.mem_singleton.mp z]
          exact ⟨by rw [List.length_take]; omega, by rw [List.length_take]; omega, fun x hx => hr x (List.mem_of_mem_take hx)⟩) (by rw [List.length_drop]; omega)
      refine ⟨this.1, ?_⟩
      have h2 := this.2
      rw [List.length_append, List.length_drop] at h2
      simp only [List.length_cons, List.length_nil] at h2 ⊢
      omega
theorem put_len : ∀ (ps : List Pc) {el : List Nat} {k : Nat} {acc out : List Nat}, putAt el k ps acc = .inr out → (∀ ws, Pc.pt ws ∈ ps → ws.length ≤ 3) → el.length ≤ 6 → out.length ≤ acc.length + 6 * ps.length
  | [], _, _, acc, out, h, _, _ => by
    cases h
    exact Nat.le_refl _
  | .pt ws :: r, el, k, acc, out, h, hp, he => by
    have := put_len r (show putAt el (k + 1) r (acc ++ ws) = _ from h) (fun w hw => hp w (List.mem_cons_of_mem _ hw)) he
    have h1 := hp ws List.mem_cons_self
    rw [List.length_append] at this
    rw [List.length_cons]
    omega
  | .cp a n :: r, el, k, acc, out, h, hp, he => by
    have h : (if a + n > el.length then Sum.inl k else putAt el (k + 1) r (acc ++ (el.drop a).take n)) = .inr out := h
    by_cases hc : a + n > el.length
    · rw [if_pos hc] at h
      cases h
    rw [if_neg hc] at h
    have := put_len r h (fun w hw => hp w (List.mem_cons_of_mem _ hw)) he
    rw [List.length_append, List.length_take, List.length_drop] at this
    rw [List.length_cons]
    omega
def resD (r : Nat ⊕ List Pc) : PyData := match r with
  | .inl n => .int (n : Int)
  | .inr ps => pcsD ps
def resWD (r : Nat ⊕ List Nat) : PyData := match r with
  | .inl n => .int (n : Int)
  | .inr ws => intsD ws
theorem resP_of {K : PySem.W.Frag} {r : Nat ⊕ List Pc} {H : Hp} {Q : VK} (h : ∀ H' v, Same H H' → Dx K H' noS v (resD r) → Q v H') : resP K r H Q := by
  cases r with
  | inl n => exact fun H' s => h H' _ s (.int _)
  | inr ps => exact fun H' q s n d => h H' _ s d
theorem resW_of {K : PySem.W.Frag} {r : Nat ⊕ List Nat} {H : Hp} {Q : VK} (h : ∀ H' v, Same H H' → Dx K H' noS v (resWD r) → Q v H') : resW r H Q := by
  cases r with
  | inl n => exact fun H' s => h H' _ s (.int _)
  | inr ws => exact fun H' q s n e => h H' _ s (dx_intsD e)
def fitD (d : PyData) : Prop := d.canLay0 = true ∧ d.depth ≤ 3 ∧ wdB d = true
theorem fit_int (i : Int) : fitD (.int i) := ⟨rfl, Nat.zero_le _, rfl⟩
theorem fit_ints {ws : List Nat} (h : ws.length ≤ 100000) : fitD (intsD ws) := ⟨lay_intsD _, Nat.le_trans (dep_intsD _) (by decide), wd_intsD h⟩
theorem fit_pcs {ps : List Pc} (h : ∀ pc ∈ ps, PcOk pc) (hl : ps.length ≤ 1000) : fitD (pcsD ps) := ⟨lay_pcs _, dep_pcs _, wd_pcs h hl⟩
/-- two plain forms are the same -/
theorem eq_fin {K : PySem.W.Frag} {H H' : Hp} {S S' : ASet} {v v' : V} {d : PyData} (f : fitD d) (h1 : Dx K H S v (plD d)) (s : Same H H') (h2 : Dx K H' S' v' (plD d)) : Dp K H' v (plD d) ∧ Dp K H' v' (plD d) ∧ SeqAt.shaped (plD d) = true ∧ PyData.eqv (plD d) (plD d) = true :=
  ⟨(Dx.up (Out.of s) h1).dp, h2.dp, plD_shaped f.1 (Nat.le_trans f.2.1 (by decide)), SeqAt.eqv_refl _ (plD_lay d f.1)⟩
def spLaw (K : PySem.W.Frag) : Sp := fun vs H Q _ => ∃ (a : Addr) (ns : List Int), vs = [.ref a] ∧ SqL K H a (ns.map V.int) ∧ ns.length ≤ 63 ∧ ∀ H', Q (.bl true) H'
section
variable {P : Program} {w : World} {K : PySem.W.Frag} {mg : Str → Option Value} {base : Heap} {A : Ads}
theorem ok_law (T : Txt K mg A) : FnOk P w K mg base CX0 9 A.a_law A.d_law ["_law_script"] (spLaw K) := by
  refine T.F_law.ok sc_law (fun vs H Q E h => ?_) (fun cdv B outer s H vs Q E hr h => ?_)
  · obtain ⟨a, ns, rfl, _⟩ := h
    rfl
  · obtain ⟨a, ns, rfl, hS, hl, q⟩ := h
    refine ⟨_, (pss_cons (ps_set (i := 1) sc_law.nd rfl (.inr rfl) (pe_call (ok_law_source T) (hr.mono (by omega)) rfl T.g_law_source T.F_law_source.kp T.b_law_source .nil pass0 (pa_cons (pv 0) pa_nil)))
    (pss_cons (ps_set (i := 2) sc_law.nd rfl (.inl rfl) (pe_call (ok_law_pieces T) (hr.mono (by omega)) rfl T.g_law_pieces T.F_law_pieces.kp T.b_law_pieces .nil pass0 (pa_cons (pv 1) pa_nil)))
    (pss_cons (ps_set (i := 3) sc_law.nd rfl (.inl rfl) (pe_call (ok_law_told T) (hr.mono (by omega)) rfl T.g_law_told T.F_law_told.kp T.b_law_told .nil pass0 (pa_cons (pv 2) pa_nil)))
    (pss_cons (ps_set (i := 5) sc_law.nd rfl (.inl rfl) (pe_callB (cr_sum rfl) (by rfl) T.n_sum (by decide +kernel) (pa_cons (pe_lc (own := [("_law_piece", 4)]) rfl sc_law.nd (pi_tup (pv 2)) (blkOk_by (own := [("_law_piece", 4)]) (N := N_law) (sc := defScope s_law) (by decide +kernel)) (fun _ _ _ _ _ => pg_name (i := 4) sc_law.nd rfl (Or.inl rfl)) (fun _ _ _ _ _ => pts_nil) (fun _ _ _ _ _ => by exact (pe_ifExp (pt_cmpR op_eq (pe_ix (r := rIxT K) ix_tup (pv 4) pe_int (fun _ _ => rfl)) pe_str (nomark _)) pe_int (pe_op op_add pe_int (pe_callB (r := Evl.rLenS K) len_seq (by rfl) T.n_len (by decide +kernel) (pa_cons (pe_ix (r := rIxT K) ix_tup (pv 4) pe_int (fun _ _ => rfl)) pa_nil)))))) pa_nil)))
    (pss_cons (ps_if (PW.pt (pw_or (pt_cmpR (op_neD hr.units) (pe_call (ok_plain T 4) (hr.mono (by omega)) rfl T.g_law_plain T.F_law_plain.kp T.b_law_plain .nil pass0 (pa_cons (pe_call (ok_piece_words T) (hr.mono (by omega)) rfl T.g_piece_words T.F_piece_words.kp T.b_piece_words .nil pass0 (pa_cons (pv 2) pa_nil)) pa_nil)) (pe_call (ok_plain T 4) (hr.mono (by omega)) rfl T.g_law_plain T.F_law_plain.kp T.b_law_plain .nil pass0 (pa_cons (pv 3) pa_nil)) (nomark _)) (pw_or1 (pt_cmpR (op_neD hr.units) (pe_call (ok_plain T 4) (hr.mono (by omega)) rfl T.g_law_plain T.F_law_plain.kp T.b_law_plain .nil pass0 (pa_cons (pe_call (ok_price T) (hr.mono (by omega)) rfl T.g_price T.F_price.kp T.b_price .nil pass0 (pa_cons (pv 2) pa_nil)) pa_nil)) (pe_call (ok_plain T 4) (hr.mono (by omega)) rfl T.g_law_plain T.F_law_plain.kp T.b_law_plain .nil pass0 (pa_cons (pv 5) pa_nil)) (nomark _))))) (pss_one (ps_ret pe_bl)) pss_nil)
    (pss_cons (ps_if (pt_cmpR (op_neD hr.units) (pe_call (ok_plain T 4) (hr.mono (by omega)) rfl T.g_law_plain T.F_law_plain.kp T.b_law_plain .nil pass0 (pa_cons (pe_call (ok_law_read_told T) (hr.mono (by omega)) rfl T.g_law_read_told T.F_law_read_told.kp T.b_law_read_told .nil pass0 (pa_cons (pv 3) pa_nil)) pa_nil)) (pe_call (ok_plain T 4) (hr.mono (by omega)) rfl T.g_law_plain T.F_law_plain.kp T.b_law_plain .nil pass0 (pa_cons (pv 2) pa_nil)) (nomark _)) (pss_one (ps_ret pe_bl)) pss_nil)
    (pss_cons (ps_if (PW.pt (pw_and (pt_cmpR op_gt (pe_callB len_seq (by rfl) T.n_len (by decide +kernel) (pa_cons (pv 2) pa_nil)) pe_int (nomark _)) (pw_and1 (pt_cmpR (op_neD hr.units) (pe_call (ok_plain T 4) (hr.mono (by omega)) rfl T.g_law_plain T.F_law_plain.kp T.b_law_plain .nil pass0 (pa_cons (pe_call (ok_law_read_told T) (hr.mono (by omega)) rfl T.g_law_read_told T.F_law_read_told.kp T.b_law_read_told .nil pass0 (pa_cons (pe_slice sl_tupA (pv 3) po_none (po_some (pe_un un_neg pe_int))) pa_nil)) pa_nil)) (pe_call (ok_plain T 4) (hr.mono (by omega)) rfl T.g_law_plain T.F_law_plain.kp T.b_law_plain .nil pass0 (pa_cons (pe_callB len_seq (by rfl) T.n_len (by decide +kernel) (pa_cons (pe_call (ok_law_told T) (hr.mono (by omega)) rfl T.g_law_told T.F_law_told.kp T.b_law_told .nil pass0 (pa_cons (pe_slice sl_tupA (pv 2) po_none (po_some (pe_un un_neg pe_int))) pa_nil)) pa_nil)) pa_nil)) (nomark _))))) (pss_one (ps_ret pe_bl)) pss_nil)
    (pss_cons (ps_set (i := 6) sc_law.nd rfl (.inr rfl) (pe_tup (pa_cons pe_int (pa_cons pe_int (pa_cons pe_int (pa_cons pe_int (pa_cons pe_int (pa_cons pe_int (pa_cons pe_int (pa_cons pe_int (pa_cons pe_int (pa_cons pe_int (pa_cons pe_int (pa_cons (pe_call (ok_law_draw T) (hr.mono (by omega)) rfl T.g_law_draw T.F_law_draw.kp T.b_law_draw .nil pass0 (pa_cons (pv 1) (pa_cons pe_int pa_nil))) pa_nil))))))))))))))
    (pss_cons (ps_setLc (i := 8) (own := [("_law_step", 7)]) rfl sc_law.nd rfl rfl (sw_true rfl rfl rfl (by decide +kernel)) (pi_range1 (by rfl) T.n_range (pa_cons (pe_call (ok_law_draw T) (hr.mono (by omega)) rfl T.g_law_draw T.F_law_draw.kp T.b_law_draw .nil pass0 (pa_cons (pv 1) (pa_cons pe_int pa_nil))) pa_nil)) (blkOk_by (own := [("_law_step", 7)]) (N := N_law) (sc := defScope s_law) (by decide +kernel)) (fun _ _ _ _ _ => pg_name (i := 7) sc_law.nd rfl (Or.inl rfl)) (fun _ _ _ _ _ => pts_nil) (fun _ _ _ _ _ => by exact (pe_ix (r := rIxT K) ix_tup (pv 6) (pe_call (ok_law_draw T) (hr.mono (by omega)) rfl T.g_law_draw T.F_law_draw.kp T.b_law_draw .nil pass0 (pa_cons (pv 1) (pa_cons pe_int pa_nil))) (fun _ _ => rfl))))
    (pss_cons (ps_if (pt_cmpR (op_neD hr.units) (pe_call (ok_plain T 4) (hr.mono (by omega)) rfl T.g_law_plain T.F_law_plain.kp T.b_law_plain .nil pass0 (pa_cons (pe_call (ok_law_read_told T) (hr.mono (by omega)) rfl T.g_law_read_told T.F_law_read_told.kp T.b_law_read_told .nil pass0 (pa_cons (pv 8) pa_nil)) pa_nil)) (pe_call (ok_plain T 4) (hr.mono (by omega)) rfl T.g_law_plain T.F_law_plain.kp T.b_law_plain .nil pass0 (pa_cons (pe_call (ok_law_read T) (hr.mono (by omega)) rfl T.g_law_read T.F_law_read.kp T.b_law_read .nil pass0 (pa_cons (pv 8) pa_nil)) pa_nil)) (nomark _)) (pss_one (ps_ret pe_bl)) pss_nil)
    (pss_cons (ps_set (i := 9) sc_law.nd rfl (.inl rfl) (pe_callTy tuple_of (by rfl) T.n_tuple (by decide +kernel) (pa_cons (pe_lc (own := [("_law_step", 7)]) rfl sc_law.nd (pi_range1 (by rfl) T.n_range (pa_cons (pe_call (ok_law_draw T) (hr.mono (by omega)) rfl T.g_law_draw T.F_law_draw.kp T.b_law_draw .nil pass0 (pa_cons (pv 1) (pa_cons pe_int pa_nil))) pa_nil)) (blkOk_by (own := [("_law_step", 7)]) (N := N_law) (sc := defScope s_law) (by decide +kernel)) (fun _ _ _ _ _ => pg_name (i := 7) sc_law.nd rfl (Or.inl rfl)) (fun _ _ _ _ _ => pts_nil) (fun _ _ _ _ _ => by exact (pe_call (ok_law_word T) (hr.mono (by omega)) rfl T.g_law_word T.F_law_word.kp T.b_law_word .nil pass0 (pa_cons (pv 1) pa_nil)))) pa_nil)))
    (pss_cons (ps_set (i := 10) sc_law.nd rfl (.inl rfl) (pe_call (ok_law_near T) (hr.mono (by omega)) rfl T.g_law_near T.F_law_near.kp T.b_law_near .nil pass0 (pa_cons (pv 1) (pa_cons (pv 9) pa_nil))))
    (pss_cons (ps_for PassesOwn.never rfl (pi_range1 (by rfl) T.n_range (pa_cons pe_int pa_nil)) (pg_name (i := 7) sc_law.nd rfl (.inl rfl))
      (pss_cons (ps_if (pt_cmpR (op_neD hr.units) (pe_call (ok_plain T 4) (hr.mono (by omega)) rfl T.g_law_plain T.F_law_plain.kp T.b_law_plain .nil pass0 (pa_cons (pe_call (ok_law_put_told T) (hr.mono (by omega)) rfl T.g_law_put_told T.F_law_put_told.kp T.b_law_put_told .nil pass0 (pa_cons (pv 9) (pa_cons (pv 10) pa_nil))) pa_nil)) (pe_call (ok_plain T 4) (hr.mono (by omega)) rfl T.g_law_plain T.F_law_plain.kp T.b_law_plain .nil pass0 (pa_cons (pe_call (ok_law_put T) (hr.mono (by omega)) rfl T.g_law_put T.F_law_put.kp T.b_law_put .nil pass0 (pa_cons (pv 9) (pa_cons (pv 10) pa_nil))) pa_nil)) (nomark _)) (pss_one (ps_ret pe_bl)) pss_nil)
    (pss_one (ps_if (pt_cmpR (op_neD hr.units) (pe_call (ok_plain T 4) (hr.mono (by omega)) rfl T.g_law_plain T.F_law_plain.kp T.b_law_plain .nil pass0 (pa_cons (pe_call (ok_law_put_told T) (hr.mono (by omega)) rfl T.g_law_put_told T.F_law_put_told.kp T.b_law_put_told .nil pass0 (pa_cons (pv 9) (pa_cons (pe_slice sl_tupA (pv 10) po_none (po_some pe_int)) pa_nil))) pa_nil)) (pe_call (ok_plain T 4) (hr.mono (by omega)) rfl T.g_law_plain T.F_law_plain.kp T.b_law_plain .nil pass0 (pa_cons (pe_call (ok_law_put T) (hr.mono (by omega)) rfl T.g_law_put T.F_law_put.kp T.b_law_put .nil pass0 (pa_cons (pv 9) (pa_cons (pe_slice sl_tupA (pv 10) po_none (po_some pe_int)) pa_nil))) pa_nil)) (nomark _)) (pss_one (ps_ret pe_bl)) pss_nil))))
    (pss_one (ps_ret (pe_cmpR (op_eqD hr.units) (pe_call (ok_plain T 4) (hr.mono (by omega)) rfl T.g_law_plain T.F_law_plain.kp T.b_law_plain .nil pass0 (pa_cons (pe_call (ok_piece_words T) (hr.mono (by omega)) rfl T.g_piece_words T.F_piece_words.kp T.b_piece_words .nil pass0 (pa_cons (pv 10) pa_nil)) pa_nil)) (pe_call (ok_plain T 4) (hr.mono (by omega)) rfl T.g_law_plain T.F_law_plain.kp T.b_law_plain .nil pass0 (pa_cons (pe_call (ok_law_told T) (hr.mono (by omega)) rfl T.g_law_told T.F_law_told.kp T.b_law_told .nil pass0 (pa_cons (pv 10) pa_nil)) pa_nil)) (nomark _))))))))))))))))), ?_⟩
    refine ⟨_, rfl, a, ns, rfl, hS, hl, fun H1 c p s1 nc np hs1 => ?_⟩
    refine ⟨_, rfl, c, p, rfl, hs1, fun H2 pa ps hs2 b2 dps hpl hpo hwl => ?_⟩
    have hSP : ∀ {H : Hp}, Src c H p → ∀ a, SP p a → H a ≠ none := fun h a z => z.elim (fun z => z.elim) fun z => z ▸ src_ne h
    have hfp : fitD (pcsD ps) := fit_pcs hpo (by omega)
    have hfw : fitD (intsD (wsOf ps)) := fit_ints (by omega)
    refine ⟨_, rfl, SP p, _, ps, rfl, dps, by omega, by omega, fun H3 wa s3 nwa ewa => ?_⟩
    -- the cost
    obtain ⟨pa', xs, epa, hx, hxl, hxe⟩ := dx_pcs (Dx.up (Out.of s3) dps)
    cases epa
    refine ⟨_, rfl, pa, rfl, ⟨_, hx.sq⟩, fun D hD => ?_⟩
    refine lc_vals (walk_tup (K := K) (a := pa) (xs := xs)) (fun i v => xs[i]? = some v) (fun i => .int (((ps.getD i (.pt [])).ws.length : Nat) : Int)) hD (fun H4 s4 => sqT_up hx.sq s4) (by omega) (fun i H1 v H2 hi y => y) (fun i v H4 hi sm hv Q q => ?_) (fun H4 s4 e4 => ?_)
    · rw [hxl] at hi
      obtain ⟨x, hx1, hx2⟩ := hxe i hi
      rw [hx1] at hv
      cases hv
      have hg : ps.getD i (.pt []) = ps[i] := by rw [List.getD_eq_getElem?_getD, List.getElem?_eq_getElem hi]; rfl
      rw [hg] at q
      generalize ps[i] = pc at hx2 q
      have hx2 := Dx.up (Out.of sm) hx2
      cases pc with
      | cp u n =>
        obtain ⟨r, rfl, hr⟩ := dx_cp hx2
        refine ⟨_, rfl, r, _, 0, _, rfl, rfl, hr, atI_nat (j := 0) rfl, rfl, _, rfl, ifT copy_eq ?_⟩
        exact q _ (Same.refl _)
      | pt ws =>
        obtain ⟨r, t, rfl, hr, ht⟩ := dx_pt hx2
        refine ⟨_, rfl, r, _, 0, _, rfl, rfl, hr, atI_nat (j := 0) rfl, rfl, _, rfl, ifF put_eq ?_⟩
        refine ⟨_, rfl, r, _, 1, _, rfl, rfl, hr, atI_nat (j := 1) rfl, t, _, rfl, .inr ht, _, _, rfl, rfl, ?_⟩
        have := q _ (Same.refl _)
        have e : (((Pc.pt ws).ws.length : Nat) : Int) = 1 + ((intV ws).length : Int) := by
          unfold Pc.ws intV
          rw [List.length_cons, List.length_map]
          omega
        rw [e] at this
        exact this
    refine ⟨D, (ps.map fun pc => pc.ws.length).map fun (n : Nat) => (n : Int), rfl, SqL.of ?_, ?_⟩
    · rw [e4, hxl, List.map_map, List.map_map]
      exact congrArg (fun z => some (HO.lst z)) (range_getD (fun pc : Pc => V.int ((pc.ws.length : Nat) : Int)) (.pt []) ps)
    rw [sum_cast, ← ws_len]
    have s24 := s3.trans s4
    have hs4 := src_up hs2 s24
    have d4 := Dx.up (Out.of s24) dps
    have ew4 := s4 _ _ ewa
    refine ⟨_, rfl, SP p, _, ps, rfl, d4, by omega, by omega, fun H5 q5 s5 n5 e5 => ⟨_, intsD (wsOf ps), noS, rfl, fun _ z => z.elim, dx_intsD e5, hfw.2.1, hfw.2.2, fun H6 v6 s6 d6 => ?_⟩⟩
    refine ⟨_, rfl, _, intsD (wsOf ps), noS, rfl, fun _ z => z.elim, dx_intsD ((s5.trans s6) _ _ ew4), hfw.2.1, hfw.2.2, fun H7 v7 s7 d7 => ?_⟩
    have ef := eq_fin hfw d6 s7 d7
    refine ⟨plD (intsD (wsOf ps)), plD (intsD (wsOf ps)), ef.1, ef.2.1, ef.2.2.1, ef.2.2.1, ?_⟩
    rw [ef.2.2.2]
    refine ⟨_, rfl, ifF rfl ?_⟩
    have s47 := s5.trans (s6.trans s7)
    have d7p := Dx.up (Out.of s47) d4
    have hs7 := src_up hs4 s47
    have ew7 := s47 _ _ ew4
    clear ef d6 d7 s5 s6 s7 d4 hs4 ew4 e5 n5
    refine ⟨_, rfl, SP p, _, ps, rfl, d7p, by omega, fun H8 s8 => ⟨_, .int _, noS, rfl, fun _ z => z.elim, .int _, Nat.zero_le _, rfl, fun H9 v9 s9 d9 => ?_⟩⟩
    refine ⟨_, rfl, _, .int _, noS, rfl, fun _ z => z.elim, .int _, Nat.zero_le _, rfl, fun H10 v10 s10 d10 => ?_⟩
    have ef := eq_fin (fit_int _) d9 s10 d10
    refine ⟨_, _, ef.1, ef.2.1, ef.2.2.1, ef.2.2.1, ?_⟩
    rw [ef.2.2.2]
    refine ⟨_, rfl, ifF rfl ?_⟩
    have s710 := s8.trans (s9.trans s10)
    have d10p := Dx.up (Out.of s710) d7p
    have hs10 := src_up hs7 s710
    have ew10 := s710 _ _ ew7
    clear ef d9 d10 s8 s9 s10 d7p hs7 ew7
    -- there and back
    have hb : rdP ((wsOf ps).length + 1) 0 (wsOf ps) [] = .inr ps := rd_back ps hpo (by omega)
    refine ⟨_, rfl, wa, wsOf ps, rfl, .inr (SqT.of ew10), by omega, ws_ok hpo, ?_⟩
    rw [hb]
    refine resP_of fun H11 v11 s11 d11 => ⟨_, pcsD ps, noS, rfl, fun _ z => z.elim, d11, hfp.2.1, hfp.2.2, fun H12 v12 s12 d12 => ?_⟩
    have s1012 := s11.trans s12
    refine ⟨_, rfl, _, pcsD ps, SP p, rfl, hSP (src_up hs10 s1012), Dx.up (Out.of s1012) d10p, hfp.2.1, hfp.2.2, fun H13 v13 s13 d13 => ?_⟩
    have ef := eq_fin hfp d12 s13 d13
    refine ⟨_, _, ef.1, ef.2.1, ef.2.2.1, ef.2.2.1, ?_⟩
    rw [ef.2.2.2]
    refine ⟨_, rfl, ifF rfl ?_⟩
    have s1013 := s1012.trans s13
    have d13p := Dx.up (Out.of s1013) d10p
    have hs13 := src_up hs10 s1013
    have ew13 := s1013 _ _ ew10
    clear ef d11 d12 d13 s11 s12 s13 d10p hs10 ew10
    obtain ⟨pa', xs, epa, hx, hxl, hcut⟩ := dx_cut d13p
    cases epa
    refine ⟨_, rfl, pa, _, rfl, .inr hx, _, _, rfl, rfl, _, rfl, ?_⟩
    rw [hxl]
    refine ifB (fun ee => ?_) (fun ee => ?_)
    · have hne : ps ≠ [] := fun z => by
        have := of_decide_eq_true ee
        rw [z] at this
        exact absurd this (by decide)
      have hcw : rdP ((wsOf ps).dropLast.length + 1) 0 (wsOf ps).dropLast [] = .inl (wsOf ps.dropLast).length := by
        have := rd_cut ps (f := (wsOf ps).dropLast.length) (at' := 0) (acc := []) hne hpo (by
          rw [List.length_dropLast]
          omega)
        rw [Nat.zero_add] at this
        exact this
      refine ⟨_, rfl, ?_⟩
      unfold tNoPart
      refine ⟨_, rfl, _, rfl, slA_of (SqT.of ew13) fun p14 H14 s14 e14 => ?_⟩
      rw [cutV_neg1, show (intV (wsOf ps)).dropLast = intV (wsOf ps).dropLast from (List.map_dropLast ..).symm] at e14
      refine ⟨p14, (wsOf ps).dropLast, rfl, .inr e14, by rw [List.length_dropLast]; omega, fun w hw => ws_ok hpo w (List.dropLast_subset _ hw), ?_⟩
      rw [hcw]
      refine resP_of fun H15 v15 s15 d15 => ⟨_, .int _, noS, rfl, fun _ z => z.elim, d15, Nat.zero_le _, rfl, fun H16 v16 s16 d16 => ?_⟩
      have s1316 := s14.trans (s15.trans s16)
      refine ⟨_, rfl, _, rfl, _, rfl, slA_of (sqT_up hx s1316) fun p17 H17 s17 e17 => ?_⟩
      rw [cutV_neg1, List.dropLast_eq_take] at e17
      have d17 := hcut _ H17 p17 (s1316.trans s17) e17
      rw [hxl, ← List.dropLast_eq_take] at d17
      have hdl : (wsOf ps.dropLast).length ≤ 40000 := by
        have := ws_take_le ps (ps.length - 1)
        rw [← List.dropLast_eq_take] at this
        omega
      refine ⟨noS, _, ps.dropLast, rfl, d17, by rw [List.length_dropLast]; omega, by omega, fun H18 q18 s18 n18 e18 => ?_⟩
      refine ⟨q18, _, rfl, .inr (SqT.of e18), _, .int _, noS, rfl, fun _ z => z.elim, .int _, Nat.zero_le _, rfl, fun H19 v19 s19 d19 => ?_⟩
      have ef := eq_fin (fit_int _) d16 (s17.trans (s18.trans s19)) (by rw [intV_len] at d19; exact d19)
      refine ⟨_, _, ef.1, ef.2.1, ef.2.2.1, ef.2.2.1, ?_⟩
      rw [ef.2.2.2]
      refine ⟨_, rfl, ifF rfl ?_⟩
      have s1319 := s1316.trans (s17.trans (s18.trans s19))
      have d13p := Dx.up (Out.of s1319) d13p
      have hs13 := src_up hs13 s1319
      have ew13 := s1319 _ _ ew13
      refine ⟨_, rfl, c, p, 65536, rfl, hs13, by decide, by decide, fun H20 r20 l20 hs20 b20 => ⟨lenOk (n := 12) rfl (by decide), fun mt hmt => ?_⟩⟩
      have em : upd H20 mt (.tup [.int 0, .int 1, .int 2, .int 3, .int 1, .int 2, .int 32768, .int 32769, .int 32770, .int 65535, .int 32767, .int (r20 : Int)]) mt = some (.tup [.int 0, .int 1, .int 2, .int 3, .int 1, .int 2, .int 32768, .int 32769, .int 32770, .int 65535, .int 32767, .int (r20 : Int)]) := upd_same
      have sm := same_new (o := .tup [.int 0, .int 1, .int 2, .int 3, .int 1, .int 2, .int 32768, .int 32769, .int 32770, .int 65535, .int 32767, .int (r20 : Int)]) hmt
      have hs21 := src_up hs20 sm
      generalize upd H20 mt _ = H21 at em hs21 ⊢
      have nmt := src_tup hs21 em
      refine ⟨_, rfl, c, p, 13, rfl, hs21, by decide, by decide, fun H22 n l22 hs22 b22 => ⟨(n : Int), rfl, by omega, by omega, fun D hD => ?_⟩⟩
      rw [Int.toNat_natCast]
      have em22 := b22 _ _ nmt em
      refine lc_inv (walk_range (lo := 0) (n := n)) (fun i v => True) (fun i acc H4 => Src c H4 p ∧ But p H22 H4 ∧ ∃ ws : List Nat, acc = intV ws ∧ ∀ w ∈ ws, w ≤ 65535) (by omega) ⟨src_up hs22 (same_new hD), But.of (same_new hD), [], rfl, by simp⟩ (fun _ _ _ _ => trivial) (fun i H1 v H2 hi y => ⟨y.1, trivial⟩) (fun i v acc H4 hi hl pv e5 _ Q q => ?_) (fun acc H23 hl4 pv e23 => ?_)
      · obtain ⟨hs4, b4, ws, rfl, hw⟩ := pv
        have np := src_ints hs4 e5
        refine ⟨_, rfl, _, rfl, c, p, 12, rfl, hs4, by decide, by decide, fun H5 k lk hs5 b5 => ?_⟩
        have em5 := b5 _ _ nmt (b4 _ _ nmt em22)
        obtain ⟨y, hy, hat⟩ : ∃ y : Nat, y ≤ 65535 ∧ atI [V.int 0, V.int 1, V.int 2, V.int 3, V.int 1, V.int 2, V.int 32768, V.int 32769, V.int 32770, V.int 65535, V.int 32767, V.int (r20 : Int)] (k : Int) = some (.int (y : Int)) := by
          match k, lk with
          | 0, _ => exact ⟨0, by decide, rfl⟩
          | 1, _ => exact ⟨1, by decide, rfl⟩
          | 2, _ => exact ⟨2, by decide, rfl⟩
          | 3, _ => exact ⟨3, by decide, rfl⟩
          | 4, _ => exact ⟨1, by decide, rfl⟩
          | 5, _ => exact ⟨2, by decide, rfl⟩
          | 6, _ => exact ⟨32768, by decide, rfl⟩
          | 7, _ => exact ⟨32769, by decide, rfl⟩
          | 8, _ => exact ⟨32770, by decide, rfl⟩
          | 9, _ => exact ⟨65535, by decide, rfl⟩
          | 10, _ => exact ⟨32767, by decide, rfl⟩
          | 11, _ => exact ⟨r20, by omega, rfl⟩
          | n + 12, h => exact absurd h (by omega)
        refine ⟨mt, _, _, _, rfl, rfl, SqT.of em5, hat, ?_⟩
        refine q _ H5 (b5 _ _ np e5) ⟨src_put hs5 np fun z => src_cne hs22 (z ▸ hD), but_new (b4.trans b5) hD, ws ++ [y], by unfold intV; rw [List.map_append]; rfl, fun x hx => ?_⟩
        rcases List.mem_append.mp hx with z | z
        · exact hw x z
        · have := List.mem_singleton.mp z
          omega
      obtain ⟨hs23, b23, row, rfl, hrow⟩ := pv
      have hn : row.length = n := by unfold intV at hl4; rw [List.length_map] at hl4; exact hl4
      have hfr : fitD (resD (rdP (row.length + 1) 0 row [])) := by
        cases hr : rdP (row.length + 1) 0 row [] with
        | inl m => exact fit_int _
        | inr pz =>
          have := rd_ok _ hr hrow (fun _ z => nomatch z) (by omega)
          exact fit_pcs this.1 (by have := this.2; simp only [List.length_nil] at this; omega)
      refine ⟨_, rfl, D, row, rfl, .inl (SqL.of e23), by omega, hrow, resP_of fun H24 v24 s24 d24 => ?_⟩
      refine ⟨_, _, noS, rfl, fun _ z => z.elim, d24, hfr.2.1, hfr.2.2, fun H25 v25 s25 d25 => ?_⟩
      refine ⟨_, rfl, D, row, rfl, (s24.trans s25) _ _ e23, by omega, hrow, resP_of fun H26 v26 s26 d26 => ?_⟩
      refine ⟨_, _, noS, rfl, fun _ z => z.elim, d26, hfr.2.1, hfr.2.2, fun H27 v27 s27 d27 => ?_⟩
      have ef := eq_fin hfr d25 (s26.trans s27) d27
      refine ⟨_, _, ef.1, ef.2.1, ef.2.2.1, ef.2.2.1, ?_⟩
      rw [ef.2.2.2]
      refine ⟨_, rfl, ifF rfl ?_⟩
      have hs27 := src_up hs23 (s24.trans (s25.trans (s26.trans s27)))
      clear ef d24 d25 d26 d27
      -- the elder and what is near it
      refine ⟨_, rfl, c, p, 7, rfl, hs27, by decide, by decide, fun H30 m l30 hs30 b30 => ⟨(m : Int), rfl, by omega, by omega, fun D2 hD2 => ?_⟩⟩
      rw [Int.toNat_natCast]
      refine lc_inv (walk_range (lo := 0) (n := m)) (fun i v => True) (fun i acc H4 => Src c H4 p ∧ But p H30 H4 ∧ ∃ ws : List Nat, acc = intV ws ∧ ∀ w ∈ ws, w ≤ 65535) (by omega) ⟨src_up hs30 (same_new hD2), But.of (same_new hD2), [], rfl, by simp⟩ (fun _ _ _ _ => trivial) (fun i H1 v H2 hi y => ⟨y.1, trivial⟩) (fun i v acc H4 hi hl pv e5 _ Q q => ?_) (fun acc H31 hl5 pv e31 => ?_)
      · obtain ⟨hs4, b4, ws, rfl, hw⟩ := pv
        have np := src_ints hs4 e5
        refine ⟨_, rfl, c, p, rfl, hs4, fun H5 w hw5 hs5 b5 => ?_⟩
        refine q _ H5 (b5 _ _ np e5) ⟨src_put hs5 np fun z => src_cne hs30 (z ▸ hD2), but_new (b4.trans b5) hD2, ws ++ [w], by unfold intV; rw [List.map_append]; rfl, fun x hx => ?_⟩
        rcases List.mem_append.mp hx with z | z
        · exact hw x z
        · have := List.mem_singleton.mp z
          omega
      obtain ⟨hs31, b31, el, rfl, hel⟩ := pv
      have hm : el.length = m := by unfold intV at hl5; rw [List.length_map] at hl5; exact hl5
      refine ⟨D2, _, rfl, .inl ⟨SqL.of e31, fun e hen => ?_⟩⟩
      have ee1 : upd H31 e (.tup (intV el)) e = some (.tup (intV el)) := upd_same
      have hs32 := src_up hs31 (same_new (o := .tup (intV el)) hen)
      generalize upd H31 e (.tup (intV el)) = H32 at ee1 hs32 ⊢
      have ne := src_tup hs32 ee1
      have xe : XT K H32 (SP p) e (intV el) := XT.of ee1 fun z => z.elim (fun z => z) fun z => ne z
      refine ⟨_, rfl, _, rfl, c, p, e, el, rfl, hs32, xe, by omega, fun H33 na nr hs33 b33 dn hnl hno hn3 hnw => ?_⟩
      have xe33 := xe.up (out_but (.inr rfl) b33)
      have hfW : ∀ qs : List Pc, qs.length ≤ 4 → (∀ ws, Pc.pt ws ∈ qs → ws.length ≤ 3) → fitD (resWD (putAt el 0 qs [])) := fun qs h1 h2 => by
        cases hr : putAt el 0 qs [] with
        | inl m => exact fit_int _
        | inr out =>
          have := put_len qs hr h2 (by omega)
          exact fit_ints (by simp only [List.length_nil] at this; omega)
      obtain ⟨na', xs2, ena, hx2, hxl2, hcut2⟩ := dx_cut dn
      cases ena
      have h3k : ∀ qs : List Pc, (∀ pc ∈ qs, pc ∈ nr) → ∀ ws, Pc.pt ws ∈ qs → ws.length ≤ 3 := fun qs h ws hw => hn3 ws (h _ hw)
      have f1 := hfW nr hnl hn3
      have f2 := hfW (nr.take 1) (by rw [List.length_take]; omega) (h3k _ fun pc h => List.mem_of_mem_take h)
      try unfold tNoPart
      refine ⟨2, rfl, by decide, by decide, ?_⟩
      refine for_it (walk_range (lo := 0) (n := 2)) (fun i σ Hc => ∃ o7, σ = [some (.ref a), some (.ref p), some (.ref pa), some (.ref wa), none, some (.int ((wsOf ps).length : Int)), some (.ref mt), o7, some (.ref D), some (.ref e), some (.ref na)] ∧ Same H33 Hc) ⟨_, rfl, Same.refl _⟩ (fun _ _ _ _ _ => trivial) (fun i x σ Hc Hd hi y e' => ?_) (fun σ Hc y => ?_)
      · obtain ⟨rfl, rfl⟩ := e'
        obtain ⟨o7, rfl, sc⟩ := y
        refine ⟨_, rfl, _, rfl, e, el, SP p, _, nr, rfl, sqT_up xe33.sq sc, Dx.up (Out.of sc) dn, by omega, by omega, fun ws h => Nat.le_trans (hn3 ws h) (by decide), resW_of (K := K) fun H40 v40 s40 d40 => ?_⟩
        refine ⟨_, _, noS, rfl, fun _ z => z.elim, d40, f1.2.1, f1.2.2, fun H41 v41 s41 d41 => ?_⟩
        have sc1 := sc.trans (s40.trans s41)
        refine ⟨_, rfl, _, rfl, e, el, SP p, _, nr, rfl, sqT_up xe33.sq sc1, Dx.up (Out.of sc1) dn, by omega, by omega, fun ws h => Nat.le_trans (hn3 ws h) (by decide), resW_of (K := K) fun H42 v42 s42 d42 => ?_⟩
        refine ⟨_, _, noS, rfl, fun _ z => z.elim, d42, f1.2.1, f1.2.2, fun H43 v43 s43 d43 => ?_⟩
        have ef := eq_fin f1 d41 (s42.trans s43) d43
        refine ⟨_, _, ef.1, ef.2.1, ef.2.2.1, ef.2.2.1, ?_⟩
        rw [ef.2.2.2]
        refine ⟨_, rfl, ifF rfl ?_⟩
        have sc2 := sc1.trans (s42.trans s43)
        clear ef d40 d41 d42 d43
        refine ⟨_, rfl, _, rfl, _, rfl, slA_of (sqT_up hx2 sc2) fun p44 H44 s44 e44 => ?_⟩
        rw [show cutV xs2 none (some 1) = xs2.take 1 from cutV_hi 1] at e44
        have sc3 := sc2.trans s44
        have dt := hcut2 1 H44 p44 sc3 e44
        refine ⟨e, el, noS, _, nr.take 1, rfl, sqT_up xe33.sq sc3, dt, by rw [List.length_take]; omega, by omega, fun ws h => Nat.le_trans (hn3 ws (List.mem_of_mem_take h)) (by decide), resW_of (K := K) fun H45 v45 s45 d45 => ?_⟩
        refine ⟨_, _, noS, rfl, fun _ z => z.elim, d45, f2.2.1, f2.2.2, fun H46 v46 s46 d46 => ?_⟩
        have sc4 := sc3.trans (s45.trans s46)
        refine ⟨_, rfl, _, rfl, _, rfl, slA_of (sqT_up hx2 sc4) fun p47 H47 s47 e47 => ?_⟩
        rw [show cutV xs2 none (some 1) = xs2.take 1 from cutV_hi 1] at e47
        have sc5 := sc4.trans s47
        have dt2 := hcut2 1 H47 p47 sc5 e47
        refine ⟨e, el, noS, _, nr.take 1, rfl, sqT_up xe33.sq sc5, dt2, by rw [List.length_take]; omega, by omega, fun ws h => Nat.le_trans (hn3 ws (List.mem_of_mem_take h)) (by decide), resW_of (K := K) fun H48 v48 s48 d48 => ?_⟩
        refine ⟨_, _, noS, rfl, fun _ z => z.elim, d48, f2.2.1, f2.2.2, fun H49 v49 s49 d49 => ?_⟩
        have ef := eq_fin f2 d46 (s47.trans (s48.trans s49)) d49
        refine ⟨_, _, ef.1, ef.2.1, ef.2.2.1, ef.2.2.1, ?_⟩
        rw [ef.2.2.2]
        exact ⟨_, rfl, ifF rfl ⟨_, rfl, sc5.trans (s48.trans s49)⟩⟩
      · obtain ⟨o7, rfl, sc⟩ := y
        have fw : fitD (intsD (wsOf nr)) := fit_ints (by omega)
        refine ⟨_, rfl, SP p, _, nr, rfl, Dx.up (Out.of sc) dn, by omega, by omega, fun H50 q50 s50 n50 e50 => ⟨_, _, noS, rfl, fun _ z => z.elim, dx_intsD e50, fw.2.1, fw.2.2, fun H51 v51 s51 d51 => ?_⟩⟩
        refine ⟨_, rfl, SP p, _, nr, rfl, Dx.up (Out.of (sc.trans (s50.trans s51))) dn, by omega, by omega, fun H52 q52 s52 n52 e52 => ⟨_, _, noS, rfl, fun _ z => z.elim, dx_intsD e52, fw.2.1, fw.2.2, fun H53 v53 s53 d53 => ?_⟩⟩
        have ef := eq_fin fw d51 (s52.trans s53) d53
        refine ⟨_, _, ef.1, ef.2.1, ef.2.2.1, ef.2.2.1, ?_⟩
        rw [ef.2.2.2]
        exact q _
    · skip
      refine ⟨_, rfl, c, p, 65536, rfl, hs13, by decide, by decide, fun H20 r20 l20 hs20 b20 => ⟨lenOk (n := 12) rfl (by decide), fun mt hmt => ?_⟩⟩
      have em : upd H20 mt (.tup [.int 0, .int 1, .int 2, .int 3, .int 1, .int 2, .int 32768, .int 32769, .int 32770, .int 65535, .int 32767, .int (r20 : Int)]) mt = some (.tup [.int 0, .int 1, .int 2, .int 3, .int 1, .int 2, .int 32768, .int 32769, .int 32770, .int 65535, .int 32767, .int (r20 : Int)]) := upd_same
      have sm := same_new (o := .tup [.int 0, .int 1, .int 2, .int 3, .int 1, .int 2, .int 32768, .int 32769, .int 32770, .int 65535, .int 32767, .int (r20 : Int)]) hmt
      have hs21 := src_up hs20 sm
      generalize upd H20 mt _ = H21 at em hs21 ⊢
      have nmt := src_tup hs21 em
      refine ⟨_, rfl, c, p, 13, rfl, hs21, by decide, by decide, fun H22 n l22 hs22 b22 => ⟨(n : Int), rfl, by omega, by omega, fun D hD => ?_⟩⟩
      rw [Int.toNat_natCast]
      have em22 := b22 _ _ nmt em
      refine lc_inv (walk_range (lo := 0) (n := n)) (fun i v => True) (fun i acc H4 => Src c H4 p ∧ But p H22 H4 ∧ ∃ ws : List Nat, acc = intV ws ∧ ∀ w ∈ ws, w ≤ 65535) (by omega) ⟨src_up hs22 (same_new hD), But.of (same_new hD), [], rfl, by simp⟩ (fun _ _ _ _ => trivial) (fun i H1 v H2 hi y => ⟨y.1, trivial⟩) (fun i v acc H4 hi hl pv e5 _ Q q => ?_) (fun acc H23 hl4 pv e23 => ?_)
      · obtain ⟨hs4, b4, ws, rfl, hw⟩ := pv
        have np := src_ints hs4 e5
        refine ⟨_, rfl, _, rfl, c, p, 12, rfl, hs4, by decide, by decide, fun H5 k lk hs5 b5 => ?_⟩
        have em5 := b5 _ _ nmt (b4 _ _ nmt em22)
        obtain ⟨y, hy, hat⟩ : ∃ y : Nat, y ≤ 65535 ∧ atI [V.int 0, V.int 1, V.int 2, V.int 3, V.int 1, V.int 2, V.int 32768, V.int 32769, V.int 32770, V.int 65535, V.int 32767, V.int (r20 : Int)] (k : Int) = some (.int (y : Int)) := by
          match k, lk with
          | 0, _ => exact ⟨0, by decide, rfl⟩
          | 1, _ => exact ⟨1, by decide, rfl⟩
          | 2, _ => exact ⟨2, by decide, rfl⟩
          | 3, _ => exact ⟨3, by decide, rfl⟩
          | 4, _ => exact ⟨1, by decide, rfl⟩
          | 5, _ => exact ⟨2, by decide, rfl⟩
          | 6, _ => exact ⟨32768, by decide, rfl⟩
          | 7, _ => exact ⟨32769, by decide, rfl⟩
          | 8, _ => exact ⟨32770, by decide, rfl⟩
          | 9, _ => exact ⟨65535, by decide, rfl⟩
          | 10, _ => exact ⟨32767, by decide, rfl⟩
          | 11, _ => exact ⟨r20, by omega, rfl⟩
          | n + 12, h => exact absurd h (by omega)
        refine ⟨mt, _, _, _, rfl, rfl, SqT.of em5, hat, ?_⟩
        refine q _ H5 (b5 _ _ np e5) ⟨src_put hs5 np fun z => src_cne hs22 (z ▸ hD), but_new (b4.trans b5) hD, ws ++ [y], by unfold intV; rw [List.map_append]; rfl, fun x hx => ?_⟩
        rcases List.mem_append.mp hx with z | z
        · exact hw x z
        · have := List.mem_singleton.mp z
          omega
      obtain ⟨hs23, b23, row, rfl, hrow⟩ := pv
      have hn : row.length = n := by unfold intV at hl4; rw [List.length_map] at hl4; exact hl4
      have hfr : fitD (resD (rdP (row.length + 1) 0 row [])) := by
        cases hr : rdP (row.length + 1) 0 row [] with
        | inl m => exact fit_int _
        | inr pz =>
          have := rd_ok _ hr hrow (fun _ z => nomatch z) (by omega)
          exact fit_pcs this.1 (by have := this.2; simp only [List.length_nil] at this; omega)
      refine ⟨_, rfl, D, row, rfl, .inl (SqL.of e23), by omega, hrow, resP_of fun H24 v24 s24 d24 => ?_⟩
      refine ⟨_, _, noS, rfl, fun _ z => z.elim, d24, hfr.2.1, hfr.2.2, fun H25 v25 s25 d25 => ?_⟩
      refine ⟨_, rfl, D, row, rfl, (s24.trans s25) _ _ e23, by omega, hrow, resP_of fun H26 v26 s26 d26 => ?_⟩
      refine ⟨_, _, noS, rfl, fun _ z => z.elim, d26, hfr.2.1, hfr.2.2, fun H27 v27 s27 d27 => ?_⟩
      have ef := eq_fin hfr d25 (s26.trans s27) d27
      refine ⟨_, _, ef.1, ef.2.1, ef.2.2.1, ef.2.2.1, ?_⟩
      rw [ef.2.2.2]
      refine ⟨_, rfl, ifF rfl ?_⟩
      have hs27 := src_up hs23 (s24.trans (s25.trans (s26.trans s27)))
      clear ef d24 d25 d26 d27
      -- the elder and what is near it
      refine ⟨_, rfl, c, p, 7, rfl, hs27, by decide, by decide, fun H30 m l30 hs30 b30 => ⟨(m : Int), rfl, by omega, by omega, fun D2 hD2 => ?_⟩⟩
      rw [Int.toNat_natCast]
      refine lc_inv (walk_range (lo := 0) (n := m)) (fun i v => True) (fun i acc H4 => Src c H4 p ∧ But p H30 H4 ∧ ∃ ws : List Nat, acc = intV ws ∧ ∀ w ∈ ws, w ≤ 65535) (by omega) ⟨src_up hs30 (same_new hD2), But.of (same_new hD2), [], rfl, by simp⟩ (fun _ _ _ _ => trivial) (fun i H1 v H2 hi y => ⟨y.1, trivial⟩) (fun i v acc H4 hi hl pv e5 _ Q q => ?_) (fun acc H31 hl5 pv e31 => ?_)
      · obtain ⟨hs4, b4, ws, rfl, hw⟩ := pv
        have np := src_ints hs4 e5
        refine ⟨_, rfl, c, p, rfl, hs4, fun H5 w hw5 hs5 b5 => ?_⟩
        refine q _ H5 (b5 _ _ np e5) ⟨src_put hs5 np fun z => src_cne hs30 (z ▸ hD2), but_new (b4.trans b5) hD2, ws ++ [w], by unfold intV; rw [List.map_append]; rfl, fun x hx => ?_⟩
        rcases List.mem_append.mp hx with z | z
        · exact hw x z
        · have := List.mem_singleton.mp z
          omega
      obtain ⟨hs31, b31, el, rfl, hel⟩ := pv
      have hm : el.length = m := by unfold intV at hl5; rw [List.length_map] at hl5; exact hl5
      refine ⟨D2, _, rfl, .inl ⟨SqL.of e31, fun e hen => ?_⟩⟩
      have ee1 : upd H31 e (.tup (intV el)) e = some (.tup (intV el)) := upd_same
      have hs32 := src_up hs31 (same_new (o := .tup (intV el)) hen)
      generalize upd H31 e (.tup (intV el)) = H32 at ee1 hs32 ⊢
      have ne := src_tup hs32 ee1
      have xe : XT K H32 (SP p) e (intV el) := XT.of ee1 fun z => z.elim (fun z => z) fun z => ne z
      refine ⟨_, rfl, _, rfl, c, p, e, el, rfl, hs32, xe, by omega, fun H33 na nr hs33 b33 dn hnl hno hn3 hnw => ?_⟩
      have xe33 := xe.up (out_but (.inr rfl) b33)
      have hfW : ∀ qs : List Pc, qs.length ≤ 4 → (∀ ws, Pc.pt ws ∈ qs → ws.length ≤ 3) → fitD (resWD (putAt el 0 qs [])) := fun qs h1 h2 => by
        cases hr : putAt el 0 qs [] with
        | inl m => exact fit_int _
        | inr out =>
          have := put_len qs hr h2 (by omega)
          exact fit_ints (by simp only [List.length_nil] at this; omega)
      obtain ⟨na', xs2, ena, hx2, hxl2, hcut2⟩ := dx_cut dn
      cases ena
      have h3k : ∀ qs : List Pc, (∀ pc ∈ qs, pc ∈ nr) → ∀ ws, Pc.pt ws ∈ qs → ws.length ≤ 3 := fun qs h ws hw => hn3 ws (h _ hw)
      have f1 := hfW nr hnl hn3
      have f2 := hfW (nr.take 1) (by rw [List.length_take]; omega) (h3k _ fun pc h => List.mem_of_mem_take h)
      try unfold tNoPart
      refine ⟨2, rfl, by decide, by decide, ?_⟩
      refine for_it (walk_range (lo := 0) (n := 2)) (fun i σ Hc => ∃ o7, σ = [some (.ref a), some (.ref p), some (.ref pa), some (.ref wa), none, some (.int ((wsOf ps).length : Int)), some (.ref mt), o7, some (.ref D), some (.ref e), some (.ref na)] ∧ Same H33 Hc) ⟨_, rfl, Same.refl _⟩ (fun _ _ _ _ _ => trivial) (fun i x σ Hc Hd hi y e' => ?_) (fun σ Hc y => ?_)
      · obtain ⟨rfl, rfl⟩ := e'
        obtain ⟨o7, rfl, sc⟩ := y
        refine ⟨_, rfl, _, rfl, e, el, SP p, _, nr, rfl, sqT_up xe33.sq sc, Dx.up (Out.of sc) dn, by omega, by omega, fun ws h => Nat.le_trans (hn3 ws h) (by decide), resW_of (K := K) fun H40 v40 s40 d40 => ?_⟩
        refine ⟨_, _, noS, rfl, fun _ z => z.elim, d40, f1.2.1, f1.2.2, fun H41 v41 s41 d41 => ?_⟩
        have sc1 := sc.trans (s40.trans s41)
        refine ⟨_, rfl, _, rfl, e, el, SP p, _, nr, rfl, sqT_up xe33.sq sc1, Dx.up (Out.of sc1) dn, by omega, by omega, fun ws h => Nat.le_trans (hn3 ws h) (by decide), resW_of (K := K) fun H42 v42 s42 d42 => ?_⟩
        refine ⟨_, _, noS, rfl, fun _ z => z.elim, d42, f1.2.1, f1.2.2, fun H43 v43 s43 d43 => ?_⟩
        have ef := eq_fin f1 d41 (s42.trans s43) d43
        refine ⟨_, _, ef.1, ef.2.1, ef.2.2.1, ef.2.2.1, ?_⟩
        rw [ef.2.2.2]
        refine ⟨_, rfl, ifF rfl ?_⟩
        have sc2 := sc1.trans (s42.trans s43)
        clear ef d40 d41 d42 d43
        refine ⟨_, rfl, _, rfl, _, rfl, slA_of (sqT_up hx2 sc2) fun p44 H44 s44 e44 => ?_⟩
        rw [show cutV xs2 none (some 1) = xs2.take 1 from cutV_hi 1] at e44
        have sc3 := sc2.trans s44
        have dt := hcut2 1 H44 p44 sc3 e44
        refine ⟨e, el, noS, _, nr.take 1, rfl, sqT_up xe33.sq sc3, dt, by rw [List.length_take]; omega, by omega, fun ws h => Nat.le_trans (hn3 ws (List.mem_of_mem_take h)) (by decide), resW_of (K := K) fun H45 v45 s45 d45 => ?_⟩
        refine ⟨_, _, noS, rfl, fun _ z => z.elim, d45, f2.2.1, f2.2.2, fun H46 v46 s46 d46 => ?_⟩
        have sc4 := sc3.trans (s45.trans s46)
        refine ⟨_, rfl, _, rfl, _, rfl, slA_of (sqT_up hx2 sc4) fun p47 H47 s47 e47 => ?_⟩
        rw [show cutV xs2 none (some 1) = xs2.take 1 from cutV_hi 1] at e47
        have sc5 := sc4.trans s47
        have dt2 := hcut2 1 H47 p47 sc5 e47
        refine ⟨e, el, noS, _, nr.take 1, rfl, sqT_up xe33.sq sc5, dt2, by rw [List.length_take]; omega, by omega, fun ws h => Nat.le_trans (hn3 ws (List.mem_of_mem_take h)) (by decide), resW_of (K := K) fun H48 v48 s48 d48 => ?_⟩
        refine ⟨_, _, noS, rfl, fun _ z => z.elim, d48, f2.2.1, f2.2.2, fun H49 v49 s49 d49 => ?_⟩
        have ef := eq_fin f2 d46 (s47.trans (s48.trans s49)) d49
        refine ⟨_, _, ef.1, ef.2.1, ef.2.2.1, ef.2.2.1, ?_⟩
        rw [ef.2.2.2]
        exact ⟨_, rfl, ifF rfl ⟨_, rfl, sc5.trans (s48.trans s49)⟩⟩
      · obtain ⟨o7, rfl, sc⟩ := y
        have fw : fitD (intsD (wsOf nr)) := fit_ints (by omega)
        refine ⟨_, rfl, SP p, _, nr, rfl, Dx.up (Out.of sc) dn, by omega, by omega, fun H50 q50 s50 n50 e50 => ⟨_, _, noS, rfl, fun _ z => z.elim, dx_intsD e50, fw.2.1, fw.2.2, fun H51 v51 s51 d51 => ?_⟩⟩
        refine ⟨_, rfl, SP p, _, nr, rfl, Dx.up (Out.of (sc.trans (s50.trans s51))) dn, by omega, by omega, fun H52 q52 s52 n52 e52 => ⟨_, _, noS, rfl, fun _ z => z.elim, dx_intsD e52, fw.2.1, fw.2.2, fun H53 v53 s53 d53 => ?_⟩⟩
        have ef := eq_fin fw d51 (s52.trans s53) d53
        refine ⟨_, _, ef.1, ef.2.1, ef.2.2.1, ef.2.2.1, ?_⟩
        rw [ef.2.2.2]
        exact q _
end
/-! ### what the top has left; the end -/
theorem all_mk {l : PySem.W.OpenLaw} {w : World} {K : PySem.W.Frag} {h : Heap} {mg : Str → Option Value} {fa f1 f2 f3 f4 f5 f6 f7 f8 f9 f10 f11 f12 f13 f14 f15 f16 f17 f18 f19 C_BadPiece C_BadForm C_RomError : Addr} (X : K.In h) (G : h.Ns mainGlobals mg) (hfa : mg "law" = some (.ref fa))
    {t_COPY : Tok}
    {od1 an1 od2 an2 od3 an3 od4 an4 od5 an5 od6 an6 od7 an7 od8 an8 od9 an9 od10 an10 od11 an11 od12 an12 od13 an13 od14 an14 od15 an15 od16 an16 od17 an17 od18 an18 od19 an19 : Option Addr} {sl1 sl2 sl3 sl4 sl5 sl6 sl7 sl8 sl9 sl10 sl11 sl12 sl13 sl14 sl15 sl16 sl17 sl18 sl19 : Array (Option Value)} {oc1 kV1 dc1 pm1 cd1 ct1 oc2 kV2 dc2 pm2 cd2 ct2 oc3 kV3 dc3 pm3 cd3 ct3 oc4 kV4 dc4 pm4 cd4 ct4 oc5 kV5 dc5 pm5 cd5 ct5 oc6 kV6 dc6 pm6 cd6 ct6 oc7 kV7 dc7 pm7 cd7 ct7 oc8 kV8 dc8 pm8 cd8 ct8 oc9 kV9 dc9 pm9 cd9 ct9 oc10 kV10 dc10 pm10 cd10 ct10 oc11 kV11 dc11 pm11 cd11 ct11 oc12 kV12 dc12 pm12 cd12 ct12 oc13 kV13 dc13 pm13 cd13 ct13 oc14 kV14 dc14 pm14 cd14 ct14 oc15 kV15 dc15 pm15 cd15 ct15 oc16 kV16 dc16 pm16 cd16 ct16 oc17 kV17 dc17 pm17 cd17 ct17 oc18 kV18 dc18 pm18 cd18 ct18 oc19 kV19 dc19 pm19 cd19 ct19 : Value}
    {nm_BadPiece qq_BadPiece : Str} {N_BadPiece : Addr} {bs_BadPiece bm_BadPiece : List Value} {sn_BadPiece : List Str} {sub_BadPiece : List Value} {ab_BadPiece : Bool} {col_BadPiece : Option Bool} {dd_BadPiece : Option Addr} {m0_BadPiece m1_BadPiece m2_BadPiece m3_BadPiece m5_BadPiece : Option Value}
    {nm_BadForm qq_BadForm : Str} {N_BadForm : Addr} {bs_BadForm bm_BadForm : List Value} {sn_BadForm : List Str} {sub_BadForm : List Value} {ab_BadForm : Bool} {col_BadForm : Option Bool} {dd_BadForm : Option Addr} {m0_BadForm m1_BadForm m2_BadForm m3_BadForm m5_BadForm : Option Value}
    (a1 : PySem.W.nsIn K mainGlobals "price" = some (some (.ref f1)))
    (l1 : K.lookup f1 = some ⟨oc1, od1, .func (PySem.W.fnOf "price" "price" (defArgs s_price) (defBody s_price) (defScope s_price) .none kV1 dc1 pm1 an1 cd1 ct1), sl1⟩)
    (c1 : PySem.W.codeIn K cd1 "price" = true)
    (k1 : PySem.W.keepIn K (.ref f1) = true)
    (a2 : PySem.W.nsIn K mainGlobals "put_on" = some (some (.ref f2)))
    (l2 : K.lookup f2 = some ⟨oc2, od2, .func (PySem.W.fnOf "put_on" "put_on" (defArgs s_put_on) (defBody s_put_on) (defScope s_put_on) .none kV2 dc2 pm2 an2 cd2 ct2), sl2⟩)
    (c2 : PySem.W.codeIn K cd2 "put_on" = true)
    (k2 : PySem.W.keepIn K (.ref f2) = true)
    (a3 : PySem.W.nsIn K mainGlobals "piece_words" = some (some (.ref f3)))
    (l3 : K.lookup f3 = some ⟨oc3, od3, .func (PySem.W.fnOf "piece_words" "piece_words" (defArgs s_piece_words) (defBody s_piece_words) (defScope s_piece_words) .none kV3 dc3 pm3 an3 cd3 ct3), sl3⟩)
    (c3 : PySem.W.codeIn K cd3 "piece_words" = true)
    (k3 : PySem.W.keepIn K (.ref f3) = true)
    (a4 : PySem.W.nsIn K mainGlobals "read_pieces" = some (some (.ref f4)))
    (l4 : K.lookup f4 = some ⟨oc4, od4, .func (PySem.W.fnOf "read_pieces" "read_pieces" (defArgs s_read_pieces) (defBody s_read_pieces) (defScope s_read_pieces) .none kV4 dc4 pm4 an4 cd4 ct4), sl4⟩)
    (c4 : PySem.W.codeIn K cd4 "read_pieces" = true)
    (k4 : PySem.W.keepIn K (.ref f4) = true)
    (a5 : PySem.W.nsIn K mainGlobals "_law_source" = some (some (.ref f5)))
    (l5 : K.lookup f5 = some ⟨oc5, od5, .func (PySem.W.fnOf "_law_source" "_law_source" (defArgs s_law_source) (defBody s_law_source) (defScope s_law_source) .none kV5 dc5 pm5 an5 cd5 ct5), sl5⟩)
    (c5 : PySem.W.codeIn K cd5 "_law_source" = true)
    (k5 : PySem.W.keepIn K (.ref f5) = true)
    (a6 : PySem.W.nsIn K mainGlobals "_law_draw" = some (some (.ref f6)))
    (l6 : K.lookup f6 = some ⟨oc6, od6, .func (PySem.W.fnOf "_law_draw" "_law_draw" (defArgs s_law_draw) (defBody s_law_draw) (defScope s_law_draw) .none kV6 dc6 pm6 an6 cd6 ct6), sl6⟩)
    (c6 : PySem.W.codeIn K cd6 "_law_draw" = true)
    (k6 : PySem.W.keepIn K (.ref f6) = true)
    (a7 : PySem.W.nsIn K mainGlobals "_law_word" = some (some (.ref f7)))
    (l7 : K.lookup f7 = some ⟨oc7, od7, .func (PySem.W.fnOf "_law_word" "_law_word" (defArgs s_law_word) (defBody s_law_word) (defScope s_law_word) .none kV7 dc7 pm7 an7 cd7 ct7), sl7⟩)
    (c7 : PySem.W.codeIn K cd7 "_law_word" = true)
    (k7 : PySem.W.keepIn K (.ref f7) = true)
    (a8 : PySem.W.nsIn K mainGlobals "_law_plain" = some (some (.ref f8)))
    (l8 : K.lookup f8 = some ⟨oc8, od8, .func (PySem.W.fnOf "_law_plain" "_law_plain" (defArgs s_law_plain) (defBody s_law_plain) (defScope s_law_plain) .none kV8 dc8 pm8 an8 cd8 ct8), sl8⟩)
    (c8 : PySem.W.codeIn K cd8 "_law_plain" = true)
    (k8 : PySem.W.keepIn K (.ref f8) = true)
    (a9 : PySem.W.nsIn K mainGlobals "_law_put_words" = some (some (.ref f9)))
    (l9 : K.lookup f9 = some ⟨oc9, od9, .func (PySem.W.fnOf "_law_put_words" "_law_put_words" (defArgs s_law_put_words) (defBody s_law_put_words) (defScope s_law_put_words) .none kV9 dc9 pm9 an9 cd9 ct9), sl9⟩)
    (c9 : PySem.W.codeIn K cd9 "_law_put_words" = true)
    (k9 : PySem.W.keepIn K (.ref f9) = true)
    (a10 : PySem.W.nsIn K mainGlobals "_law_pieces" = some (some (.ref f10)))
    (l10 : K.lookup f10 = some ⟨oc10, od10, .func (PySem.W.fnOf "_law_pieces" "_law_pieces" (defArgs s_law_pieces) (defBody s_law_pieces) (defScope s_law_pieces) .none kV10 dc10 pm10 an10 cd10 ct10), sl10⟩)
    (c10 : PySem.W.codeIn K cd10 "_law_pieces" = true)
    (k10 : PySem.W.keepIn K (.ref f10) = true)
    (a11 : PySem.W.nsIn K mainGlobals "_law_told" = some (some (.ref f11)))
    (l11 : K.lookup f11 = some ⟨oc11, od11, .func (PySem.W.fnOf "_law_told" "_law_told" (defArgs s_law_told) (defBody s_law_told) (defScope s_law_told) .none kV11 dc11 pm11 an11 cd11 ct11), sl11⟩)
    (c11 : PySem.W.codeIn K cd11 "_law_told" = true)
    (k11 : PySem.W.keepIn K (.ref f11) = true)
    (a12 : PySem.W.nsIn K mainGlobals "_law_read" = some (some (.ref f12)))
    (l12 : K.lookup f12 = some ⟨oc12, od12, .func (PySem.W.fnOf "_law_read" "_law_read" (defArgs s_law_read) (defBody s_law_read) (defScope s_law_read) .none kV12 dc12 pm12 an12 cd12 ct12), sl12⟩)
    (c12 : PySem.W.codeIn K cd12 "_law_read" = true)
    (k12 : PySem.W.keepIn K (.ref f12) = true)
    (a13 : PySem.W.nsIn K mainGlobals "_law_read_told" = some (some (.ref f13)))
    (l13 : K.lookup f13 = some ⟨oc13, od13, .func (PySem.W.fnOf "_law_read_told" "_law_read_told" (defArgs s_law_read_told) (defBody s_law_read_told) (defScope s_law_read_told) .none kV13 dc13 pm13 an13 cd13 ct13), sl13⟩)
    (c13 : PySem.W.codeIn K cd13 "_law_read_told" = true)
    (k13 : PySem.W.keepIn K (.ref f13) = true)
    (a14 : PySem.W.nsIn K mainGlobals "_law_put" = some (some (.ref f14)))
    (l14 : K.lookup f14 = some ⟨oc14, od14, .func (PySem.W.fnOf "_law_put" "_law_put" (defArgs s_law_put) (defBody s_law_put) (defScope s_law_put) .none kV14 dc14 pm14 an14 cd14 ct14), sl14⟩)
    (c14 : PySem.W.codeIn K cd14 "_law_put" = true)
    (k14 : PySem.W.keepIn K (.ref f14) = true)
    (a15 : PySem.W.nsIn K mainGlobals "_law_put_told" = some (some (.ref f15)))
    (l15 : K.lookup f15 = some ⟨oc15, od15, .func (PySem.W.fnOf "_law_put_told" "_law_put_told" (defArgs s_law_put_told) (defBody s_law_put_told) (defScope s_law_put_told) .none kV15 dc15 pm15 an15 cd15 ct15), sl15⟩)
    (c15 : PySem.W.codeIn K cd15 "_law_put_told" = true)
    (k15 : PySem.W.keepIn K (.ref f15) = true)
    (a16 : PySem.W.nsIn K mainGlobals "_law_near" = some (some (.ref f16)))
    (l16 : K.lookup f16 = some ⟨oc16, od16, .func (PySem.W.fnOf "_law_near" "_law_near" (defArgs s_law_near) (defBody s_law_near) (defScope s_law_near) .none kV16 dc16 pm16 an16 cd16 ct16), sl16⟩)
    (c16 : PySem.W.codeIn K cd16 "_law_near" = true)
    (k16 : PySem.W.keepIn K (.ref f16) = true)
    (a17 : PySem.W.nsIn K mainGlobals "law" = some (some (.ref f17)))
    (l17 : K.lookup f17 = some ⟨oc17, od17, .func (PySem.W.fnOf "law" "law" (defArgs s_law) (defBody s_law) (defScope s_law) .none kV17 dc17 pm17 an17 cd17 ct17), sl17⟩)
    (c17 : PySem.W.codeIn K cd17 "law" = true)
    (k17 : PySem.W.keepIn K (.ref f17) = true)
    (l18 : K.lookup f18 = some ⟨oc18, od18, .func (PySem.W.fnOf "__init__" "BadPiece.__init__" (defArgs s_BadPiece_init) (defBody s_BadPiece_init) (defScope s_BadPiece_init) .none kV18 dc18 pm18 an18 cd18 ct18), sl18⟩)
    (c18 : PySem.W.codeIn K cd18 "BadPiece.__init__" = true)
    (k18 : PySem.W.keepIn K (.ref f18) = true)
    (l19 : K.lookup f19 = some ⟨oc19, od19, .func (PySem.W.fnOf "__init__" "BadForm.__init__" (defArgs s_BadForm_init) (defBody s_BadForm_init) (defScope s_BadForm_init) .none kV19 dc19 pm19 an19 cd19 ct19), sl19⟩)
    (c19 : PySem.W.codeIn K cd19 "BadForm.__init__" = true)
    (k19 : PySem.W.keepIn K (.ref f19) = true)
    (gc_BadPiece : PySem.W.nsIn K mainGlobals "BadPiece" = some (some (.ref C_BadPiece)))
    (xl_BadPiece : K.lookup C_BadPiece = some (excClassObj nm_BadPiece qq_BadPiece C_BadPiece N_BadPiece bs_BadPiece bm_BadPiece true sn_BadPiece sub_BadPiece ab_BadPiece col_BadPiece dd_BadPiece m0_BadPiece m1_BadPiece m2_BadPiece m3_BadPiece m5_BadPiece "ValueError.__new__"))
    (vb_BadPiece : PySem.HandSPX.refsVE bm_BadPiece = true)
    (sa_BadPiece : PySem.W.findIn K (.ref C_BadPiece) "__setattr__" = some (some (.builtin "object.__setattr__")))
    (ec_BadPiece : PySem.W.subIn K (.ref C_BadPiece) (.type "BaseException") = some true)
    (tc_BadPiece : PySem.W.typeIn K (.ref C_BadPiece) = some (.type "type"))
    (kc_BadPiece : PySem.W.keepIn K (.ref C_BadPiece) = true)
    (no_BadPiece : PySem.W.findIn K (.ref C_BadPiece) "number" = some none)
    (ic_BadPiece : PySem.W.findIn K (.ref C_BadPiece) "__init__" = some (some (.ref f18)))
    (ti_BadPiece : PySem.W.typeIn K (.ref f18) = some (.type "function"))
    (ga_BadPiece : PySem.W.findIn K (.ref C_BadPiece) "__getattribute__" = some (some (.builtin "BaseException.__getattribute__")))
    (gg_BadPiece : PySem.W.findIn K (.ref C_BadPiece) "__getattr__" = some none)
    (hd_BadPiece : PySem.W.hasDictIn K C_BadPiece = true)
    (ha_BadPiece : PySem.W.findIn K (.ref C_BadPiece) "__class__" = some (some (.builtin "object.__class__")))
    (hm_BadPiece : PySem.W.mroIn K C_BadPiece (.type "object") = some true)
    (ss_BadPiece : PySem.W.subIn K (.ref C_BadPiece) (.ref C_BadPiece) = some true)
    (gc_BadForm : PySem.W.nsIn K mainGlobals "BadForm" = some (some (.ref C_BadForm)))
    (xl_BadForm : K.lookup C_BadForm = some (excClassObj nm_BadForm qq_BadForm C_BadForm N_BadForm bs_BadForm bm_BadForm true sn_BadForm sub_BadForm ab_BadForm col_BadForm dd_BadForm m0_BadForm m1_BadForm m2_BadForm m3_BadForm m5_BadForm "ValueError.__new__"))
    (vb_BadForm : PySem.HandSPX.refsVE bm_BadForm = true)
    (sa_BadForm : PySem.W.findIn K (.ref C_BadForm) "__setattr__" = some (some (.builtin "object.__setattr__")))
    (ec_BadForm : PySem.W.subIn K (.ref C_BadForm) (.type "BaseException") = some true)
    (tc_BadForm : PySem.W.typeIn K (.ref C_BadForm) = some (.type "type"))
    (kc_BadForm : PySem.W.keepIn K (.ref C_BadForm) = true)
    (no_BadForm : PySem.W.findIn K (.ref C_BadForm) "place" = some none)
    (ic_BadForm : PySem.W.findIn K (.ref C_BadForm) "__init__" = some (some (.ref f19)))
    (ti_BadForm : PySem.W.typeIn K (.ref f19) = some (.type "function"))
    (ga_BadForm : PySem.W.findIn K (.ref C_BadForm) "__getattribute__" = some (some (.builtin "BaseException.__getattribute__")))
    (gg_BadForm : PySem.W.findIn K (.ref C_BadForm) "__getattr__" = some none)
    (hd_BadForm : PySem.W.hasDictIn K C_BadForm = true)
    (ha_BadForm : PySem.W.findIn K (.ref C_BadForm) "__class__" = some (some (.builtin "object.__class__")))
    (hm_BadForm : PySem.W.mroIn K C_BadForm (.type "object") = some true)
    (ss_BadForm : PySem.W.subIn K (.ref C_BadForm) (.ref C_BadForm) = some true)
    (hn0 : PySem.W.specialIn K (.builtin "object.__class__") "__get__" = some (some (.builtin "getset_descriptor.__get__")))
    (ht0 : PySem.W.takesIn K (.builtin "object.__class__") = some true)
    (gc_RomError : PySem.W.nsIn K mainGlobals "RomError" = some (some (.ref C_RomError)))
    (gc_COPY : PySem.W.nsIn K mainGlobals "COPY" = some (some (.int 32768 t_COPY)))
    (ki_BadPiece_RomError : PySem.W.kitOne K (.ref C_BadPiece) (.ref C_RomError) = some true)
    (ki_BadPiece_ValueError : PySem.W.kitOne K (.ref C_BadPiece) (.type "ValueError") = some true)
    (ki_BadForm_RomError : PySem.W.kitOne K (.ref C_BadForm) (.ref C_RomError) = some true)
    (ki_BadForm_ValueError : PySem.W.kitOne K (.ref C_BadForm) (.type "ValueError") = some true)
    (z_ValueError : PySem.W.nsIn K mainGlobals "ValueError" = some none)
    (z_abs : PySem.W.nsIn K mainGlobals "abs" = some none)
    (z_bool : PySem.W.nsIn K mainGlobals "bool" = some none)
    (z_enumerate : PySem.W.nsIn K mainGlobals "enumerate" = some none)
    (z_int : PySem.W.nsIn K mainGlobals "int" = some none)
    (z_isinstance : PySem.W.nsIn K mainGlobals "isinstance" = some none)
    (z_len : PySem.W.nsIn K mainGlobals "len" = some none)
    (z_list : PySem.W.nsIn K mainGlobals "list" = some none)
    (z_range : PySem.W.nsIn K mainGlobals "range" = some none)
    (z_sum : PySem.W.nsIn K mainGlobals "sum" = some none)
    (z_tuple : PySem.W.nsIn K mainGlobals "tuple" = some none) :
    ∃ fd : FuncData, (∀ (s : Shared) (v : Value), BindsTo s fd ⟨[v], []⟩ [("_law_script", v)]) ∧ ∀ base : Heap, K.In base → base.Ns mainGlobals mg → FnOk l.prog w K mg base CX0 9 fa fd ["_law_script"] (spLaw K) := by
  have e : f17 = fa := Value.ref.inj (Option.some.inj ((PySem.W.mg_of X G a17).symm.trans hfa))
  subst e
  have T : Txt K mg ⟨f1, (PySem.W.fnOf "price" "price" (defArgs s_price) (defBody s_price) (defScope s_price) .none kV1 dc1 pm1 an1 cd1 ct1), f2, (PySem.W.fnOf "put_on" "put_on" (defArgs s_put_on) (defBody s_put_on) (defScope s_put_on) .none kV2 dc2 pm2 an2 cd2 ct2), f3, (PySem.W.fnOf "piece_words" "piece_words" (defArgs s_piece_words) (defBody s_piece_words) (defScope s_piece_words) .none kV3 dc3 pm3 an3 cd3 ct3), f4, (PySem.W.fnOf "read_pieces" "read_pieces" (defArgs s_read_pieces) (defBody s_read_pieces) (defScope s_read_pieces) .none kV4 dc4 pm4 an4 cd4 ct4), f5, (PySem.W.fnOf "_law_source" "_law_source" (defArgs s_law_source) (defBody s_law_source) (defScope s_law_source) .none kV5 dc5 pm5 an5 cd5 ct5), f6, (PySem.W.fnOf "_law_draw" "_law_draw" (defArgs s_law_draw) (defBody s_law_draw) (defScope s_law_draw) .none kV6 dc6 pm6 an6 cd6 ct6), f7, (PySem.W.fnOf "_law_word" "_law_word" (defArgs s_law_word) (defBody s_law_word) (defScope s_law_word) .none kV7 dc7 pm7 an7 cd7 ct7), f8, (PySem.W.fnOf "_law_plain" "_law_plain" (defArgs s_law_plain) (defBody s_law_plain) (defScope s_law_plain) .none kV8 dc8 pm8 an8 cd8 ct8), f9, (PySem.W.fnOf "_law_put_words" "_law_put_words" (defArgs s_law_put_words) (defBody s_law_put_words) (defScope s_law_put_words) .none kV9 dc9 pm9 an9 cd9 ct9), f10, (PySem.W.fnOf "_law_pieces" "_law_pieces" (defArgs s_law_pieces) (defBody s_law_pieces) (defScope s_law_pieces) .none kV10 dc10 pm10 an10 cd10 ct10), f11, (PySem.W.fnOf "_law_told" "_law_told" (defArgs s_law_told) (defBody s_law_told) (defScope s_law_told) .none kV11 dc11 pm11 an11 cd11 ct11), f12, (PySem.W.fnOf "_law_read" "_law_read" (defArgs s_law_read) (defBody s_law_read) (defScope s_law_read) .none kV12 dc12 pm12 an12 cd12 ct12), f13, (PySem.W.fnOf "_law_read_told" "_law_read_told" (defArgs s_law_read_told) (defBody s_law_read_told) (defScope s_law_read_told) .none kV13 dc13 pm13 an13 cd13 ct13), f14, (PySem.W.fnOf "_law_put" "_law_put" (defArgs s_law_put) (defBody s_law_put) (defScope s_law_put) .none kV14 dc14 pm14 an14 cd14 ct14), f15, (PySem.W.fnOf "_law_put_told" "_law_put_told" (defArgs s_law_put_told) (defBody s_law_put_told) (defScope s_law_put_told) .none kV15 dc15 pm15 an15 cd15 ct15), f16, (PySem.W.fnOf "_law_near" "_law_near" (defArgs s_law_near) (defBody s_law_near) (defScope s_law_near) .none kV16 dc16 pm16 an16 cd16 ct16), f17, (PySem.W.fnOf "law" "law" (defArgs s_law) (defBody s_law) (defScope s_law) .none kV17 dc17 pm17 an17 cd17 ct17), C_BadPiece, f18, (PySem.W.fnOf "__init__" "BadPiece.__init__" (defArgs s_BadPiece_init) (defBody s_BadPiece_init) (defScope s_BadPiece_init) .none kV18 dc18 pm18 an18 cd18 ct18), C_BadForm, f19, (PySem.W.fnOf "__init__" "BadForm.__init__" (defArgs s_BadForm_init) (defBody s_BadForm_init) (defScope s_BadForm_init) .none kV19 dc19 pm19 an19 cd19 ct19), C_RomError, t_COPY⟩ :=
    { F_price := fun_mk (st := s_price) l1 c1 k1,
      g_price := PySem.W.mg_of X G a1,
      b_price := (fun_mk (st := s_price) l1 c1 k1).binds (ps := ["pieces"]) fun _ _ _ _ _ _ us hl => match us, hl with | [_], _ => rfl,
      F_put_on := fun_mk (st := s_put_on) l2 c2 k2,
      g_put_on := PySem.W.mg_of X G a2,
      b_put_on := (fun_mk (st := s_put_on) l2 c2 k2).binds (ps := ["elder", "pieces"]) fun _ _ _ _ _ _ us hl => match us, hl with | [_, _], _ => rfl,
      F_piece_words := fun_mk (st := s_piece_words) l3 c3 k3,
      g_piece_words := PySem.W.mg_of X G a3,
      b_piece_words := (fun_mk (st := s_piece_words) l3 c3 k3).binds (ps := ["pieces"]) fun _ _ _ _ _ _ us hl => match us, hl with | [_], _ => rfl,
      F_read_pieces := fun_mk (st := s_read_pieces) l4 c4 k4,
      g_read_pieces := PySem.W.mg_of X G a4,
      b_read_pieces := (fun_mk (st := s_read_pieces) l4 c4 k4).binds (ps := ["words"]) fun _ _ _ _ _ _ us hl => match us, hl with | [_], _ => rfl,
      F_law_source := fun_mk (st := s_law_source) l5 c5 k5,
      g_law_source := PySem.W.mg_of X G a5,
      b_law_source := (fun_mk (st := s_law_source) l5 c5 k5).binds (ps := ["_law_script"]) fun _ _ _ _ _ _ us hl => match us, hl with | [_], _ => rfl,
      F_law_draw := fun_mk (st := s_law_draw) l6 c6 k6,
      g_law_draw := PySem.W.mg_of X G a6,
      b_law_draw := (fun_mk (st := s_law_draw) l6 c6 k6).binds (ps := ["_law_source_here", "_law_below"]) fun _ _ _ _ _ _ us hl => match us, hl with | [_, _], _ => rfl,
      F_law_word := fun_mk (st := s_law_word) l7 c7 k7,
      g_law_word := PySem.W.mg_of X G a7,
      b_law_word := (fun_mk (st := s_law_word) l7 c7 k7).binds (ps := ["_law_source_here"]) fun _ _ _ _ _ _ us hl => match us, hl with | [_], _ => rfl,
      F_law_plain := fun_mk (st := s_law_plain) l8 c8 k8,
      g_law_plain := PySem.W.mg_of X G a8,
      b_law_plain := (fun_mk (st := s_law_plain) l8 c8 k8).binds (ps := ["_law_thing"]) fun _ _ _ _ _ _ us hl => match us, hl with | [_], _ => rfl,
      F_law_put_words := fun_mk (st := s_law_put_words) l9 c9 k9,
      g_law_put_words := PySem.W.mg_of X G a9,
      b_law_put_words := (fun_mk (st := s_law_put_words) l9 c9 k9).binds (ps := ["_law_source_here", "_law_step"]) fun _ _ _ _ _ _ us hl => match us, hl with | [_, _], _ => rfl,
      F_law_pieces := fun_mk (st := s_law_pieces) l10 c10 k10,
      g_law_pieces := PySem.W.mg_of X G a10,
      b_law_pieces := (fun_mk (st := s_law_pieces) l10 c10 k10).binds (ps := ["_law_source_here"]) fun _ _ _ _ _ _ us hl => match us, hl with | [_], _ => rfl,
      F_law_told := fun_mk (st := s_law_told) l11 c11 k11,
      g_law_told := PySem.W.mg_of X G a11,
      b_law_told := (fun_mk (st := s_law_told) l11 c11 k11).binds (ps := ["_law_pieces_here"]) fun _ _ _ _ _ _ us hl => match us, hl with | [_], _ => rfl,
      F_law_read := fun_mk (st := s_law_read) l12 c12 k12,
      g_law_read := PySem.W.mg_of X G a12,
      b_law_read := (fun_mk (st := s_law_read) l12 c12 k12).binds (ps := ["_law_words"]) fun _ _ _ _ _ _ us hl => match us, hl with | [_], _ => rfl,
      F_law_read_told := fun_mk (st := s_law_read_told) l13 c13 k13,
      g_law_read_told := PySem.W.mg_of X G a13,
      b_law_read_told := (fun_mk (st := s_law_read_told) l13 c13 k13).binds (ps := ["_law_words"]) fun _ _ _ _ _ _ us hl => match us, hl with | [_], _ => rfl,
      F_law_put := fun_mk (st := s_law_put) l14 c14 k14,
      g_law_put := PySem.W.mg_of X G a14,
      b_law_put := (fun_mk (st := s_law_put) l14 c14 k14).binds (ps := ["_law_elder", "_law_pieces_here"]) fun _ _ _ _ _ _ us hl => match us, hl with | [_, _], _ => rfl,
      F_law_put_told := fun_mk (st := s_law_put_told) l15 c15 k15,
      g_law_put_told := PySem.W.mg_of X G a15,
      b_law_put_told := (fun_mk (st := s_law_put_told) l15 c15 k15).binds (ps := ["_law_elder", "_law_pieces_here"]) fun _ _ _ _ _ _ us hl => match us, hl with | [_, _], _ => rfl,
      F_law_near := fun_mk (st := s_law_near) l16 c16 k16,
      g_law_near := PySem.W.mg_of X G a16,
      b_law_near := (fun_mk (st := s_law_near) l16 c16 k16).binds (ps := ["_law_source_here", "_law_elder"]) fun _ _ _ _ _ _ us hl => match us, hl with | [_, _], _ => rfl,
      F_law := fun_mk (st := s_law) l17 c17 k17,
      g_law := PySem.W.mg_of X G a17,
      b_law := (fun_mk (st := s_law) l17 c17 k17).binds (ps := ["_law_script"]) fun _ _ _ _ _ _ us hl => match us, hl with | [_], _ => rfl,
      F_BadPiece_init := fun_mk (st := s_BadPiece_init) l18 c18 k18,
      x_BadPiece := ⟨PySem.W.mg_of X G gc_BadPiece, ⟨⟨_, _, _, _, _, _, _, _, _, _, _, _, _, _, _, xl_BadPiece, vb_BadPiece⟩, sa_BadPiece, ec_BadPiece, tc_BadPiece, kc_BadPiece⟩, no_BadPiece, ic_BadPiece, ti_BadPiece, (fun_mk (st := s_BadPiece_init) l18 c18 k18).binds (ps := ["self", "number"]) fun _ _ _ _ _ _ us hl => match us, hl with | [_, _], _ => rfl, ⟨ga_BadPiece, gg_BadPiece, ec_BadPiece, hd_BadPiece⟩, ⟨ga_BadPiece, gg_BadPiece, ec_BadPiece, hd_BadPiece, ha_BadPiece, hn0, ht0, hm_BadPiece⟩, PySem.W.exm_ref ec_BadPiece hd_BadPiece tc_BadPiece ss_BadPiece⟩,
      F_BadForm_init := fun_mk (st := s_BadForm_init) l19 c19 k19,
      x_BadForm := ⟨PySem.W.mg_of X G gc_BadForm, ⟨⟨_, _, _, _, _, _, _, _, _, _, _, _, _, _, _, xl_BadForm, vb_BadForm⟩, sa_BadForm, ec_BadForm, tc_BadForm, kc_BadForm⟩, no_BadForm, ic_BadForm, ti_BadForm, (fun_mk (st := s_BadForm_init) l19 c19 k19).binds (ps := ["self", "place"]) fun _ _ _ _ _ _ us hl => match us, hl with | [_, _], _ => rfl, ⟨ga_BadForm, gg_BadForm, ec_BadForm, hd_BadForm⟩, ⟨ga_BadForm, gg_BadForm, ec_BadForm, hd_BadForm, ha_BadForm, hn0, ht0, hm_BadForm⟩, PySem.W.exm_ref ec_BadForm hd_BadForm tc_BadForm ss_BadForm⟩,
      g_BadPiece := PySem.W.mg_of X G gc_BadPiece,
      g_BadForm := PySem.W.mg_of X G gc_BadForm,
      g_RomError := PySem.W.mg_of X G gc_RomError,
      g_COPY := PySem.W.mg_of X G gc_COPY,
      k_BadPiece_RomError := ki_BadPiece_RomError,
      k_BadPiece_ValueError := ki_BadPiece_ValueError,
      k_BadForm_RomError := ki_BadForm_RomError,
      k_BadForm_ValueError := ki_BadForm_ValueError,
      n_ValueError := PySem.W.mg_none_of X G z_ValueError,
      n_abs := PySem.W.mg_none_of X G z_abs,
      n_bool := PySem.W.mg_none_of X G z_bool,
      n_enumerate := PySem.W.mg_none_of X G z_enumerate,
      n_int := PySem.W.mg_none_of X G z_int,
      n_isinstance := PySem.W.mg_none_of X G z_isinstance,
      n_len := PySem.W.mg_none_of X G z_len,
      n_list := PySem.W.mg_none_of X G z_list,
      n_range := PySem.W.mg_none_of X G z_range,
      n_sum := PySem.W.mg_none_of X G z_sum,
      n_tuple := PySem.W.mg_none_of X G z_tuple }
  exact ⟨(PySem.W.fnOf "law" "law" (defArgs s_law) (defBody s_law) (defScope s_law) .none kV17 dc17 pm17 an17 cd17 ct17), fun s v => .of_eq rfl, fun base _ _ => ok_law T⟩
end R1
open PySem PySem.W PyProof.Rows
set_option maxHeartbeats 0 in
theorem PySem.Challenge.cw_romwright_k60_pieces_back_holds : PySem.Challenge.rw_romwright_k60_pieces_back.Holds := by
  w_on; o_law; k_head; (case hw => w_witness2)
  k_fill
  refine L2.walk_of (l := PySem.Challenge.rw_romwright_k60_pieces_back) (n := 63) (k := 9) (x := "_law_script") (CX := fun _ => L2.CX0) (sp := fun w => R1.spLaw _) rfl (by decide) rfl ⟨rfl, by decide, by decide⟩ (fun w h Y => PySem.W.kIn_of Y) ?F (fun _ _ a ns hl _ hS => ⟨a, ns, rfl, hS, hl, fun _ => rfl⟩) (fun _ _ _ _ _ h => h)
  case F =>
    intro w mg fa h KX G hmg
    refine' R1.all_mk KX G hmg ?a1 ?l1 ?c1 ?k1 ?a2 ?l2 ?c2 ?k2 ?a3 ?l3 ?c3 ?k3 ?a4 ?l4 ?c4 ?k4 ?a5 ?l5 ?c5 ?k5 ?a6 ?l6 ?c6 ?k6 ?a7 ?l7 ?c7 ?k7 ?a8 ?l8 ?c8 ?k8 ?a9 ?l9 ?c9 ?k9 ?a10 ?l10 ?c10 ?k10 ?a11 ?l11 ?c11 ?k11 ?a12 ?l12 ?c12 ?k12 ?a13 ?l13 ?c13 ?k13 ?a14 ?l14 ?c14 ?k14 ?a15 ?l15 ?c15 ?k15 ?a16 ?l16 ?c16 ?k16 ?a17 ?l17 ?c17 ?k17 ?l18 ?c18 ?k18 ?l19 ?c19 ?k19 ?gc_BadPiece ?xl_BadPiece ?vb_BadPiece ?sa_BadPiece ?ec_BadPiece ?tc_BadPiece ?kc_BadPiece ?no_BadPiece ?ic_BadPiece ?ti_BadPiece ?ga_BadPiece ?gg_BadPiece ?hd_BadPiece ?ha_BadPiece ?hm_BadPiece ?ss_BadPiece ?gc_BadForm ?xl_BadForm ?vb_BadForm ?sa_BadForm ?ec_BadForm ?tc_BadForm ?kc_BadForm ?no_BadForm ?ic_BadForm ?ti_BadForm ?ga_BadForm ?gg_BadForm ?hd_BadForm ?ha_BadForm ?hm_BadForm ?ss_BadForm ?hn0 ?ht0 ?gc_RomError ?gc_COPY ?ki_BadPiece_RomError ?ki_BadPiece_ValueError ?ki_BadForm_RomError ?ki_BadForm_ValueError ?z_ValueError ?z_abs ?z_bool ?z_enumerate ?z_int ?z_isinstance ?z_len ?z_list ?z_range ?z_sum ?z_tuple
    (case a1 => k_is)
    (case a2 => k_is)
    (case a3 => k_is)
    (case a4 => k_is)
    (case a5 => k_is)
    (case a6 => k_is)
    (case a7 => k_is)
    (case a8 => k_is)
    (case a9 => k_is)
    (case a10 => k_is)
    (case a11 => k_is)
    (case a12 => k_is)
    (case a13 => k_is)
    (case a14 => k_is)
    (case a15 => k_is)
    (case a16 => k_is)
    (case a17 => k_is)
    (case gc_BadPiece => k_is)
    (case gc_BadForm => k_is)
    (case gc_RomError => k_is)
    (case gc_COPY => k_is)
    (case ic_BadPiece => k_is)
    (case ic_BadForm => k_is)
    (case l1 => k_is)
    (case c1 => k_is)
    (case k1 => k_is)
    (case l2 => k_is)
    (case c2 => k_is)
    (case k2 => k_is)
    (case l3 => k_is)
    (case c3 => k_is)
    (case k3 => k_is)
    (case l4 => k_is)
    (case c4 => k_is)
    (case k4 => k_is)
    (case l5 => k_is)
    (case c5 => k_is)
    (case k5 => k_is)
    (case l6 => k_is)
    (case c6 => k_is)
    (case k6 => k_is)
    (case l7 => k_is)
    (case c7 => k_is)
    (case k7 => k_is)
    (case l8 => k_is)
    (case c8 => k_is)
    (case k8 => k_is)
    (case l9 => k_is)
    (case c9 => k_is)
    (case k9 => k_is)
    (case l10 => k_is)
    (case c10 => k_is)
    (case k10 => k_is)
    (case l11 => k_is)
    (case c11 => k_is)
    (case k11 => k_is)
    (case l12 => k_is)
    (case c12 => k_is)
    (case k12 => k_is)
    (case l13 => k_is)
    (case c13 => k_is)
    (case k13 => k_is)
    (case l14 => k_is)
    (case c14 => k_is)
    (case k14 => k_is)
    (case l15 => k_is)
    (case c15 => k_is)
    (case k15 => k_is)
    (case l16 => k_is)
    (case c16 => k_is)
    (case k16 => k_is)
    (case l17 => k_is)
    (case c17 => k_is)
    (case k17 => k_is)
    (case l18 => k_is)
    (case c18 => k_is)
    (case k18 => k_is)
    (case l19 => k_is)
    (case c19 => k_is)
    (case k19 => k_is)
    (case xl_BadPiece => k_is)
    (case vb_BadPiece => first | k_is | decide +kernel)
    (case sa_BadPiece => k_is)
    (case ec_BadPiece => k_is)
    (case tc_BadPiece => k_is)
    (case kc_BadPiece => k_is)
    (case no_BadPiece => k_is)
    (case ti_BadPiece => k_is)
    (case ga_BadPiece => k_is)
    (case gg_BadPiece => k_is)
    (case hd_BadPiece => k_is)
    (case ha_BadPiece => k_is)
    (case hm_BadPiece => k_is)
    (case ss_BadPiece => k_is)
    (case xl_BadForm => k_is)
    (case vb_BadForm => first | k_is | decide +kernel)
    (case sa_BadForm => k_is)
    (case ec_BadForm => k_is)
    (case tc_BadForm => k_is)
    (case kc_BadForm => k_is)
    (case no_BadForm => k_is)
    (case ti_BadForm => k_is)
    (case ga_BadForm => k_is)
    (case gg_BadForm => k_is)
    (case hd_BadForm => k_is)
    (case ha_BadForm => k_is)
    (case hm_BadForm => k_is)
    (case ss_BadForm => k_is)
    (case hn0 => k_is)
    (case ht0 => k_is)
    (case ki_BadPiece_RomError => first | k_is | kit_is | decide +kernel)
    (case ki_BadPiece_ValueError => first | k_is | kit_is | decide +kernel)
    (case ki_BadForm_RomError => first | k_is | kit_is | decide +kernel)
    (case ki_BadForm_ValueError => first | k_is | kit_is | decide +kernel)
    (case z_ValueError => k_is)
    (case z_abs => k_is)
    (case z_bool => k_is)
    (case z_enumerate => k_is)
    (case z_int => k_is)
    (case z_isinstance => k_is)
    (case z_len => k_is)
    (case z_list => k_is)
    (case z_range => k_is)
    (case z_sum => k_is)
    (case z_tuple => k_is)

