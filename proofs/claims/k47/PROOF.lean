import PyProof.Rows.All
import Wide.All
import OpenK.AllK
import Wide.FinOn
import HandS.ForMost
import HandS.Wide
import HandS.Walk
import HandS.IsInst
import HandS.TupAny
import HandS.StrMore
import HandS.Replace
import HandS.Style
import HandS.Evl
import HandS.ForExc
import HandS.ExcInit
import HandS.ExcField
import HandS.ExcIs
import KE.KExcIs
import HandS.HotCalls
import HandS.ExcInitHot
import KE.KxField
import HandS.FStr
import HandS.Iter
import PyProof.Rows.ChunkEnd
import HandS.Star
import HandS.Strs
import HandS.WideBits
import HandS.OwnEq
import HandS.OwnIter
import HandS.IterVal
import OpenK.KMeth
import OpenK.KOps
import HandS.SetFor
import PySem.Challenge.RW_romwright_k47_alphabets
set_option Elab.async false
set_option linter.all false
set_option maxRecDepth 100000
set_option maxHeartbeats 4000000
namespace RK
open PySem PySem.Spec PyProof.Rows L2
/-! ### heaps -/
/-- all but what stands at p is as it was -/
def But (p : Addr) (H H' : Hp) : Prop := ∀ b o, b ≠ p → H b = some o → H' b = some o
theorem But.refl (p : Addr) (H : Hp) : But p H H := fun _ _ _ h => h
theorem But.upd {p : Addr} {H H' : Hp} {o : HO} (h : But p H H') : But p H (upd H' p o) := fun b u n e => by
  rw [upd_ne n]
  exact h b u n e
theorem But.trans {p : Addr} {H H1 H2 : Hp} (a : But p H H1) (b : But p H1 H2) : But p H H2 := fun c o n h => b c o n (a c o n h)
theorem but_new {p D : Addr} {H H' : Hp} {o : HO} (h : But p H H') (n : H D = none) : But p H (upd H' D o) := fun b u nb e => by
  rw [upd_ne (ne_of_none e n)]
  exact h b u nb e
theorem But.of {p : Addr} {H H' : Hp} (h : Same H H') : But p H H' := fun b o _ e => h b o e
theorem same_new {H : Hp} {p : Addr} {o : HO} (h : H p = none) : Same H (upd H p o) := fun b x e => by
  rw [upd_ne (ne_of_none e h)]
  exact e
theorem sqT_up {K : PySem.W.Frag} {H H' : Hp} {a : Addr} {xs : List V} (h : SqT K H a xs) (e : Same H H') : SqT K H' a xs := by
  rcases h with (h | ⟨o, h⟩) | h
  · exact .inl (.inl (e _ _ h))
  · exact .inl (.inr ⟨o, e _ _ h⟩)
  · exact .inr h
theorem sqL_up {K : PySem.W.Frag} {H H' : Hp} {a : Addr} {xs : List V} (h : SqL K H a xs) (e : Same H H') : SqL K H' a xs := e.seq h
/-- a new object that H did not know changes -/
theorem same_mut {H H' : Hp} {p : Addr} {o : HO} (e : Same H H') (h : H p = none) : Same H (upd H' p o) := fun a u ha => by
  rw [upd_ne (ne_of_none ha h)]
  exact e a u ha
/-- the heap without p -/
def hid (H : Hp) (p : Addr) : Hp := fun b => if b = p then none else H b
theorem hid_same {H : Hp} {p : Addr} : Same (hid H p) H := fun b o e => by
  unfold hid at e
  split at e
  · cases e
  · exact e
theorem hid_at {H : Hp} {p b : Addr} {o : HO} (h : H b = some o) (n : b ≠ p) : hid H p b = some o := by
  unfold hid
  rw [if_neg n]
  exact h
theorem hid_but {H H' : Hp} {p : Addr} (h : But p H H') : Same (hid H p) (hid H' p) := fun b o e => by
  unfold hid at e ⊢
  split at e
  · cases e
  · rename_i n
    rw [if_neg n]
    exact h b o n e
mutual
theorem dpUp {K : PySem.W.Frag} {H H' : Hp} (e : Same H H') : ∀ {v : V} {d : PyData}, Dp K H v d → Dp K H' v d
  | _, _, .non => .non
  | _, _, .bl b => .bl b
  | _, _, .int i => .int i
  | _, _, .str x => .str x
  | _, _, .lst h t => .lst (sqL_up h e) (dpAllUp e t)
  | _, _, .tup h t => .tup (sqT_up h e) (dpAllUp e t)
theorem dpAllUp {K : PySem.W.Frag} {H H' : Hp} (e : Same H H') : ∀ {vs : List V} {ds : List PyData}, DpAll K H vs ds → DpAll K H' vs ds
  | _, _, .nil => .nil
  | _, _, .cons h t => .cons (dpUp e h) (dpAllUp e t)
end
/-! ### data of any depth, none of whose changeable objects lies in S -/
abbrev ASet := Addr → Prop
def noS : ASet := fun _ => False
def inS (S : ASet) (a : Addr) : ASet := fun b => S b ∨ b = a
/-- at a: a list | a tuple that is not in S -/
def XL (K : PySem.W.Frag) (H : Hp) (S : ASet) (a : Addr) (xs : List V) : Prop := (¬ S a ∧ Rd H a (.lst xs)) ∨ SqL K (fun _ => none) a xs
def XT (K : PySem.W.Frag) (H : Hp) (S : ASet) (a : Addr) (xs : List V) : Prop := (¬ S a ∧ Rd H a (.tup xs)) ∨ SqT K (fun _ => none) a xs
/-- what stood outside of S stands -/
def Out (S : ASet) (H H' : Hp) : Prop := ∀ b o, ¬ S b → H b = some o → H' b = some o
theorem Out.of {S : ASet} {H H' : Hp} (h : Same H H') : Out S H H' := fun b o _ e => h b o e
theorem Out.refl (S : ASet) (H : Hp) : Out S H H := fun _ _ _ h => h
theorem Out.trans {S : ASet} {H H1 H2 : Hp} (a : Out S H H1) (b : Out S H1 H2) : Out S H H2 := fun c o n h => b c o n (a c o n h)
theorem Out.mono {S S' : ASet} {H H' : Hp} (h : Out S H H') (k : ∀ a, S a → S' a) : Out S' H H' := fun b o n e => h b o (fun z => n (k b z)) e
theorem Out.put {S : ASet} {H H' : Hp} {a : Addr} {o : HO} (h : Out S H H') (ha : S a) : Out S H (upd H' a o) := fun b u n e => by
  rw [upd_ne fun z => n (by rw [z]; exact ha)]
  exact h b u n e
section
variable {K : PySem.W.Frag} {H H' : Hp} {S S' : ASet} {v x : V} {a p : Addr} {xs : List V} {d : PyData} {ds : List PyData}
theorem XL.sq (h : XL K H S a xs) : SqL K H a xs := by
  rcases h with ⟨_, h⟩ | (h | ⟨_, h⟩) | h
  · exact .inl h
  · cases h
  · cases h
  · exact .inr h
theorem XT.sq (h : XT K H S a xs) : SqT K H a xs := by
  rcases h with ⟨_, h⟩ | (h | ⟨_, h⟩) | h
  · exact .inl h
  · cases h
  · cases h
  · exact .inr h
theorem XL.of (h : H a = some (.lst xs)) (n : ¬ S a) : XL K H S a xs := .inl ⟨n, .inl h⟩
theorem XT.of (h : H a = some (.tup xs)) (n : ¬ S a) : XT K H S a xs := .inl ⟨n, .inl h⟩
theorem XL.up (h : XL K H S a xs) (e : Out S H H') : XL K H' S a xs := by
  rcases h with ⟨n, h | ⟨o, h⟩⟩ | h
  · exact .inl ⟨n, .inl (e _ _ n h)⟩
  · exact .inl ⟨n, .inr ⟨o, e _ _ n h⟩⟩
  · exact .inr h
theorem XT.up (h : XT K H S a xs) (e : Out S H H') : XT K H' S a xs := by
  rcases h with ⟨n, h | ⟨o, h⟩⟩ | h
  · exact .inl ⟨n, .inl (e _ _ n h)⟩
  · exact .inl ⟨n, .inr ⟨o, e _ _ n h⟩⟩
  · exact .inr h
/-- a further address that is not in the heap is kept out -/
theorem XL.add (h : XL K H S a xs) (hp : H p = none) : XL K H (inS S p) a xs := by
  rcases h with ⟨n, h⟩ | h
  · refine .inl ⟨fun z => ?_, h⟩
    rcases z with z | z
    · exact n z
    · subst z
      rcases h with h | ⟨o, h⟩ <;> rw [hp] at h <;> cases h
  · exact .inr h
theorem XT.add (h : XT K H S a xs) (hp : H p = none) : XT K H (inS S p) a xs := by
  rcases h with ⟨n, h⟩ | h
  · refine .inl ⟨fun z => ?_, h⟩
    rcases z with z | z
    · exact n z
    · subst z
      rcases h with h | ⟨o, h⟩ <;> rw [hp] at h <;> cases h
  · exact .inr h
theorem XL.less (h : XL K H S a xs) (k : ∀ a, S' a → S a) : XL K H S' a xs := by
  rcases h with ⟨n, h⟩ | h
  · exact .inl ⟨fun z => n (k _ z), h⟩
  · exact .inr h
theorem XT.less (h : XT K H S a xs) (k : ∀ a, S' a → S a) : XT K H S' a xs := by
  rcases h with ⟨n, h⟩ | h
  · exact .inl ⟨fun z => n (k _ z), h⟩
  · exact .inr h
mutual
inductive Dx (K : PySem.W.Frag) (H : Hp) (S : ASet) : V → PyData → Prop
  | non : Dx K H S .non .none
  | bl (b : Bool) : Dx K H S (.bl b) (.bool b)
  | int (i : Int) : Dx K H S (.int i) (.int i)
  | str (x : Str) : Dx K H S (.str x) (.str x)
  | lst {a : Addr} {xs : List V} {ds : List PyData} : XL K H S a xs → DxAll K H S xs ds → Dx K H S (.ref a) (.list ds)
  | tup {a : Addr} {xs : List V} {ds : List PyData} : XT K H S a xs → DxAll K H S xs ds → Dx K H S (.ref a) (.tuple ds)
inductive DxAll (K : PySem.W.Frag) (H : Hp) (S : ASet) : List V → List PyData → Prop
  | nil : DxAll K H S [] []
  | cons {v : V} {vs : List V} {d : PyData} {ds : List PyData} : Dx K H S v d → DxAll K H S vs ds → DxAll K H S (v :: vs) (d :: ds)
end
mutual
theorem Dx.up (e : Out S H H') : ∀ {v : V} {d : PyData}, Dx K H S v d → Dx K H' S v d
  | _, _, .non => .non
  | _, _, .bl b => .bl b
  | _, _, .int i => .int i
  | _, _, .str x => .str x
  | _, _, .lst h t => .lst (h.up e) (DxAll.up e t)
  | _, _, .tup h t => .tup (h.up e) (DxAll.up e t)
theorem DxAll.up (e : Out S H H') : ∀ {vs : List V} {ds : List PyData}, DxAll K H S vs ds → DxAll K H' S vs ds
  | _, _, .nil => .nil
  | _, _, .cons h t => .cons (Dx.up e h) (DxAll.up e t)
end
mutual
theorem Dx.add (hp : H p = none) : ∀ {v : V} {d : PyData}, Dx K H S v d → Dx K H (inS S p) v d
  | _, _, .non => .non
  | _, _, .bl b => .bl b
  | _, _, .int i => .int i
  | _, _, .str x => .str x
  | _, _, .lst h t => .lst (h.add hp) (DxAll.add hp t)
  | _, _, .tup h t => .tup (h.add hp) (DxAll.add hp t)
theorem DxAll.add (hp : H p = none) : ∀ {vs : List V} {ds : List PyData}, DxAll K H S vs ds → DxAll K H (inS S p) vs ds
  | _, _, .nil => .nil
  | _, _, .cons h t => .cons (Dx.add hp h) (DxAll.add hp t)
end
mutual
theorem Dx.less (k : ∀ a, S' a → S a) : ∀ {v : V} {d : PyData}, Dx K H S v d → Dx K H S' v d
  | _, _, .non => .non
  | _, _, .bl b => .bl b
  | _, _, .int i => .int i
  | _, _, .str x => .str x
  | _, _, .lst h t => .lst (h.less k) (DxAll.less k t)
  | _, _, .tup h t => .tup (h.less k) (DxAll.less k t)
theorem DxAll.less (k : ∀ a, S' a → S a) : ∀ {vs : List V} {ds : List PyData}, DxAll K H S vs ds → DxAll K H S' vs ds
  | _, _, .nil => .nil
  | _, _, .cons h t => .cons (Dx.less k h) (DxAll.less k t)
end
mutual
theorem Dx.dp : ∀ {v : V} {d : PyData}, Dx K H S v d → Dp K H v d
  | _, _, .non => .non
  | _, _, .bl b => .bl b
  | _, _, .int i => .int i
  | _, _, .str x => .str x
  | _, _, .lst h t => .lst h.sq (DxAll.dp t)
  | _, _, .tup h t => .tup h.sq (DxAll.dp t)
theorem DxAll.dp : ∀ {vs : List V} {ds : List PyData}, DxAll K H S vs ds → DpAll K H vs ds
  | _, _, .nil => .nil
  | _, _, .cons h t => .cons (Dx.dp h) (DxAll.dp t)
end
theorem dxAll_get : ∀ {vs : List V} {ds : List PyData} {i : Nat} {x : V}, DxAll K H S vs ds → vs[i]? = some x → ∃ d, ds[i]? = some d ∧ Dx K H S x d
  | _, _, _, _, .nil, e => by simp at e
  | _, _, 0, _, .cons h _, e => by
    simp at e
    subst e
    exact ⟨_, rfl, h⟩
  | _, _, i + 1, x, .cons _ t, e => by
    obtain ⟨d, h1, h2⟩ := dxAll_get (i := i) (x := x) t (by simpa using e)
    exact ⟨d, by simpa using h1, h2⟩
theorem Dx.of_get {vs : List V} {ds : List PyData} {i : Nat} (h : DxAll K H S vs ds) (e : vs[i]? = some x) (e2 : ds[i]? = some d) : Dx K H S x d := by
  obtain ⟨d', h1, h2⟩ := dxAll_get h e
  rw [e2] at h1
  rw [Option.some.inj h1]
  exact h2
theorem dxAll_len : ∀ {vs : List V} {ds : List PyData}, DxAll K H S vs ds → vs.length = ds.length
  | _, _, .nil => rfl
  | _, _, .cons _ t => by
    rw [List.length_cons, List.length_cons, dxAll_len t]
theorem dxAll_app : ∀ {vs ws : List V} {ds es : List PyData}, DxAll K H S vs ds → DxAll K H S ws es → DxAll K H S (vs ++ ws) (ds ++ es)
  | _, _, _, _, .nil, h => h
  | _, _, _, _, .cons a t, h => .cons a (dxAll_app t h)
theorem dxAll_ints : ∀ ns : List Int, DxAll K H S (ns.map V.int) (ns.map PyData.int)
  | [] => .nil
  | n :: r => .cons (.int n) (dxAll_ints r)
theorem dxAll_strs : ∀ ns : List Str, DxAll K H S (ns.map V.str) (ns.map PyData.str)
  | [] => .nil
  | n :: r => .cons (.str n) (dxAll_strs r)
theorem dxAll_ints_inv : ∀ {vs : List V} {ns : List Int}, DxAll K H S vs (ns.map PyData.int) → vs = ns.map V.int
  | _, [], .nil => rfl
  | _, n :: r, .cons h t => by
    cases h
    rw [dxAll_ints_inv t]
    rfl
end
section
variable {K : PySem.W.Frag} {H H' : Hp} {v x : V} {a p : Addr} {xs : List V} {d : PyData} {ds : List PyData}
/-! ### isinstance -/
def tn : PyData → String
  | .none => "NoneType"
  | .bool _ => "bool"
  | .int _ => "int"
  | .str _ => "str"
  | .list _ => "list"
  | .tuple _ => "tuple"
  | .dict _ => "dict"
def isB (a c : String) : Bool := a == c || (a == "bool" && c == "int")
theorem kitT : ∀ a ∈ (["NoneType", "bool", "int", "str", "list", "tuple"] : List String), ∀ c ∈ (["int", "bool", "str", "list", "tuple"] : List String), kitB a c = some (isB a c) := by decide +kernel
theorem dp_tn (h : Dp K H v d) : tn d ∈ (["NoneType", "bool", "int", "str", "list", "tuple"] : List String) := by
  cases h <;> simp [tn]
theorem dp_ty (h : Dp K H v d) : TyX K H v (.type (tn d)) := by
  cases h with
  | non => exact .base .non
  | bl b => exact .base (.bl b)
  | int i => exact .base (.int i)
  | str x => exact .base (.str x)
  | lst h _ =>
    rcases h with (h | ⟨o, h⟩) | ⟨o, its, n, hk, hc, _⟩
    · exact .base (.lst h)
    · exact .base (.frz h)
    · exact .kList hk hc
  | tup h _ =>
    rcases h with (h | ⟨o, h⟩) | ⟨o, its, n, hk, hc, _⟩
    · exact .base (.tup h)
    · exact .fTuple h
    · exact .kTuple hk hc
theorem r_isi {c : String} {Q : VK} (h : Dp K H v d) (hc : c ∈ (["int", "bool", "str", "list", "tuple"] : List String)) (q : Q (.bl (isB (tn d) c)) H) : rIsi K [v, .ty c] H Q :=
  ⟨v, .ty c, _, _, _, rfl, .ty c, dp_ty h, kit_ty (kitT _ (dp_tn h) c hc), q⟩
theorem kit_any {t : String} (ht : t ∈ (["NoneType", "bool", "int", "str", "list", "tuple"] : List String)) : ∀ cs : List String, (∀ c ∈ cs, c ∈ (["int", "bool", "str", "list", "tuple"] : List String)) →
    PySem.W.kitAny K (.type t) (cs.map Value.type) = some (cs.any (isB t))
  | [], _ => rfl
  | c :: r, h => by
    have h1 : PySem.W.kitOne K (.type t) (.type c) = some (isB t c) := kit_ty (kitT t ht c (h c List.mem_cons_self))
    have h2 := kit_any ht r fun x hx => h x (List.mem_cons_of_mem _ hx)
    show PySem.W.kitAny K (.type t) (.type c :: r.map Value.type) = some (isB t c || r.any (isB t))
    refine kitAny_cons h1 (fun e => ?_) (fun e => ?_)
    · rw [e, Bool.false_or]
      exact h2
    · rw [e, Bool.true_or]
theorem paired_ty : ∀ cs : List String, Paired ClsV (cs.map V.ty) (cs.map Value.type)
  | [] => .nil
  | c :: r => .cons (.ty c) (paired_ty r)
theorem r_isiT {cs : List String} {Q : VK} (h : Dp K H v d) (hp : H p = some (.tup (cs.map V.ty))) (hc : ∀ c ∈ cs, c ∈ (["int", "bool", "str", "list", "tuple"] : List String)) (q : Q (.bl (cs.any (isB (tn d)))) H) : rIsiT K [v, .ref p] H Q :=
  ⟨v, p, _, _, _, _, rfl, hp, paired_ty cs, dp_ty h, kit_any (dp_tn h) cs hc, q⟩
end
theorem ifT {c : Bool} {A B : Prop} (h : c = true) (a : A) : if c = true then A else B := by
  rw [if_pos h]
  exact a
theorem ifF {c : Bool} {A B : Prop} (h : c = false) (b : B) : if c = true then A else B := by
  rw [h, if_neg Bool.false_ne_true]
  exact b
theorem ifB {c : Bool} {A B : Prop} (ht : c = true → A) (hf : c = false → B) : if c = true then A else B := by
  cases c with
  | true => exact ifT rfl (ht rfl)
  | false => exact ifF rfl (hf rfl)
theorem lenOk {α : Type} {xs : List α} {n : Nat} (h : xs.length = n) (hn : n ≤ 100000) : xs.length ≤ sizeLine := by
  rw [h]
  exact Nat.le_trans hn (by decide)
theorem range_getD {α β : Type} (g : α → β) (z : α) : ∀ l : List α, (List.range l.length).map (fun i => g (l.getD i z)) = l.map g := fun l => by
  apply List.ext_getElem?
  intro i
  by_cases h : i < l.length
  · rw [List.getElem?_map, List.getElem?_range h, List.getElem?_map, List.getElem?_eq_getElem h]
    simp [List.getD_eq_getElem?_getD, List.getElem?_eq_getElem h]
  · rw [List.getElem?_eq_none (by simp; omega), List.getElem?_eq_none (by simp; omega)]
theorem depth_get : ∀ {ds : List PyData} {i : Nat} {d : PyData}, ds[i]? = some d → d.depth ≤ PyData.depthAll ds
  | [], _, _, h => by simp at h
  | x :: r, 0, d, h => by
    simp at h
    subst h
    exact Nat.le_max_left _ _
  | x :: r, i + 1, d, h => Nat.le_trans (depth_get (ds := r) (i := i) (by simpa using h)) (Nat.le_max_right _ _)
/-! no list or tuple in it is very long -/
mutual
def wdB : PyData → Bool
  | .list xs => decide (xs.length ≤ 100000) && wdA xs
  | .tuple xs => decide (xs.length ≤ 100000) && wdA xs
  | .none => true
  | .bool _ => true
  | .int _ => true
  | .str _ => true
  | .dict _ => true
def wdA : List PyData → Bool
  | [] => true
  | x :: r => wdB x && wdA r
end
theorem wdA_get : ∀ {ds : List PyData} {i : Nat} {d : PyData}, wdA ds = true → ds[i]? = some d → wdB d = true
  | [], _, _, _, h => by simp at h
  | x :: r, 0, d, w, h => by
    simp at h
    subst h
    exact (Bool.and_eq_true_iff.mp w).1
  | x :: r, i + 1, d, w, h => wdA_get (ds := r) (i := i) (Bool.and_eq_true_iff.mp w).2 (by simpa using h)
theorem wdA_all : ∀ {ds : List PyData}, (∀ d ∈ ds, wdB d = true) → wdA ds = true
  | [], _ => rfl
  | x :: r, h => Bool.and_eq_true_iff.mpr ⟨h x List.mem_cons_self, wdA_all fun d hd => h d (List.mem_cons_of_mem _ hd)⟩
/-! ### rules whose reading has a name -/
def rTupOf (K : PySem.W.Frag) : List V → Hp → VK → Prop := fun xs H Q => ∃ p ys, xs = [.ref p] ∧ ((SqL K H p ys ∧ ∀ l, H l = none → Q (.ref l) (upd H l (.tup ys))) ∨ (SqT K H p ys ∧ Q (.ref p) H))
section
variable {X : Cx}
theorem tuple_of : CallR X (.type "tuple") (rTupOf X.K) := call_tuple_of
theorem len_seq : CallR X (.builtin "len") (Evl.rLenS X.K) := call_len_seq
theorem list_of : CallR X (.type "list") (Evl.rListS X.K) := call_list_of
end
/-! ### what a walk goes over, lists or tuples -/
theorem PI_or {X : Cx} {tg l : Expr} {w1 w2 : TI} (h1 : PI X tg l w1) (h2 : PI X tg l w2) : PI X tg l (fun σ H R => w1 σ H R ∨ w2 σ H R) :=
  ⟨fun pins s σ H R I h => h.elim (h1.run pins s σ H R I) (h2.run pins s σ H R I)⟩
/-! ### comprehensions without tests whose elements have a value each; the target is the name at k -/
section
variable {J : It} {n : Nat} {G : Hp → Prop} {Y : Nat → Hp → V → Hp → Prop}
theorem lc_vals (w : Walk J n G Y) {te : TE} {σ : L2.St} {H1 : Hp} {D : Addr} {Qd : Hp → Prop} {k : Nat} (I : Nat → V → Prop) (f : Nat → V) (hD : H1 D = none) (hG : ∀ H, Same H1 H → G H) (hn : n ≤ 1000000)
    (hY : ∀ i H x H', i < n → Y i H x H' → H' = H ∧ I i x)
    (hs : ∀ i x H, i < n → Same H1 H → I i x → ∀ Q : VK, (∀ H3, Same H H3 → Q (f i) H3) → te ((σ.set k none).set k (some x)) H Q) (hd : ∀ H, Same H1 H → H D = some (.lst ((List.range n).map f)) → Qd H) :
    ∃ W : Nat → Nat → Hp → Prop, (∃ m, W 0 m (upd H1 D (.lst []))) ∧ ∀ i m H, W i m H →
      (J.stop i H ∧ Qd H) ∨ (J.go i H ∧ ∃ Nx : Hp → Prop, (∀ H', Nx H' → ∃ m', m' < m ∧ W (i + 1) m' H') ∧ ∀ x H', J.yld i H x H' → gName k x (wipe σ [k]) H' fun σ2 H2 => wipe σ2 [k] = wipe σ [k] ∧ tYes σ2 H2 fun b H3 =>
        if b = true then te σ2 H3 fun y H4 => ∃ acc, H4 D = some (.lst acc) ∧ acc.length < sizeLine ∧ Nx (upd H4 D (.lst (acc ++ [y]))) else Nx H3) := by
  refine lc_it w (fun i H => Same H1 H ∧ H D = some (.lst ((List.range i).map f))) ⟨same_new hD, upd_same⟩ (fun i H _ h => hG H h.1) (fun i x H H' hi hp y => ?_) fun H h => hd H h.1 h.2
  obtain ⟨sm, e⟩ := hp
  obtain ⟨rfl, hx⟩ := hY i H x H' hi y
  refine ⟨?_, ?_⟩
  · show ((σ.set k none).set k (some x)).set k none = σ.set k none
    rw [List.set_set, List.set_set]
  show te ((σ.set k none).set k (some x)) H' _
  refine hs i x H' hi sm hx _ fun H3 s3 => ?_
  have e3 : H3 D = some (.lst ((List.range i).map f)) := s3 _ _ e
  refine ⟨_, e3, ?_, same_mut (sm.trans s3) hD, ?_⟩
  · rw [List.length_map, List.length_range]
    exact Nat.lt_of_lt_of_le (Nat.lt_of_lt_of_le hi hn) (by decide)
  · rw [upd_same, List.range_succ, List.map_append]
    rfl
/-- a comprehension whose elements may change what stands; Pv speaks of the turn, the list so far and the heap -/
theorem lc_inv (w : Walk J n G Y) {te : TE} {σ : L2.St} {H1 : Hp} {D : Addr} {Qd : Hp → Prop} {k : Nat} (I : Nat → V → Prop) (Pv : Nat → List V → Hp → Prop) (hn : n ≤ 1000000) (h0 : Pv 0 [] (upd H1 D (.lst [])))
    (hG : ∀ i acc H, Pv i acc H → G H) (hY : ∀ i H x H', i < n → Y i H x H' → H' = H ∧ I i x)
    (hs : ∀ i x acc H, i < n → acc.length = i → Pv i acc H → H D = some (.lst acc) → I i x → ∀ Q : VK, (∀ v H3, H3 D = some (.lst acc) → Pv (i + 1) (acc ++ [v]) (upd H3 D (.lst (acc ++ [v]))) → Q v H3) → te ((σ.set k none).set k (some x)) H Q)
    (hd : ∀ acc H, acc.length = n → Pv n acc H → H D = some (.lst acc) → Qd H) :
    ∃ W : Nat → Nat → Hp → Prop, (∃ m, W 0 m (upd H1 D (.lst []))) ∧ ∀ i m H, W i m H →
      (J.stop i H ∧ Qd H) ∨ (J.go i H ∧ ∃ Nx : Hp → Prop, (∀ H', Nx H' → ∃ m', m' < m ∧ W (i + 1) m' H') ∧ ∀ x H', J.yld i H x H' → gName k x (wipe σ [k]) H' fun σ2 H2 => wipe σ2 [k] = wipe σ [k] ∧ tYes σ2 H2 fun b H3 =>
        if b = true then te σ2 H3 fun y H4 => ∃ acc, H4 D = some (.lst acc) ∧ acc.length < sizeLine ∧ Nx (upd H4 D (.lst (acc ++ [y]))) else Nx H3) := by
  refine lc_it w (fun i H => ∃ acc, acc.length = i ∧ H D = some (.lst acc) ∧ Pv i acc H) ⟨[], rfl, upd_same, h0⟩ (fun i H _ h => ?_) (fun i x H H' hi hp y => ?_) fun H h => ?_
  · obtain ⟨acc, _, _, p⟩ := h
    exact hG i acc H p
  · obtain ⟨acc, hl, e, p⟩ := hp
    obtain ⟨rfl, hx⟩ := hY i H x H' hi y
    refine ⟨?_, ?_⟩
    · show ((σ.set k none).set k (some x)).set k none = σ.set k none
      rw [List.set_set, List.set_set]
    show te ((σ.set k none).set k (some x)) H' _
    refine hs i x acc H' hi hl p e hx _ fun v H3 e3 p3 => ⟨acc, e3, ?_, acc ++ [v], ?_, upd_same, p3⟩
    · rw [hl]
      exact Nat.lt_of_lt_of_le (Nat.lt_of_lt_of_le hi hn) (by decide)
    · rw [List.length_append, hl]
      rfl
  · obtain ⟨acc, hl, e, p⟩ := h
    exact hd acc H hl p e
theorem lc_data {K : PySem.W.Frag} {S : ASet} (w : Walk J n G Y) {te : TE} {σ : L2.St} {H1 : Hp} {D : Addr} {Qd : Hp → Prop} {k : Nat} (I : Nat → V → Prop) (f : Nat → PyData) (hS : ∀ a, S a → H1 a ≠ none) (hD : H1 D = none) (hG : ∀ H, Same H1 H → G H) (hn : n ≤ 1000000)
    (hY : ∀ i H x H', i < n → Y i H x H' → H' = H ∧ I i x)
    (hs : ∀ i x H, i < n → Same H1 H → H D ≠ none → I i x → ∀ Q : VK, (∀ v H3, Same H H3 → Dx K H3 (inS S D) v (f i) → Q v H3) → te ((σ.set k none).set k (some x)) H Q)
    (hd : ∀ H, Same H1 H → Dx K H S (.ref D) (.list ((List.range n).map f)) → Qd H) :
    ∃ W : Nat → Nat → Hp → Prop, (∃ m, W 0 m (upd H1 D (.lst []))) ∧ ∀ i m H, W i m H →
      (J.stop i H ∧ Qd H) ∨ (J.go i H ∧ ∃ Nx : Hp → Prop, (∀ H', Nx H' → ∃ m', m' < m ∧ W (i + 1) m' H') ∧ ∀ x H', J.yld i H x H' → gName k x (wipe σ [k]) H' fun σ2 H2 => wipe σ2 [k] = wipe σ [k] ∧ tYes σ2 H2 fun b H3 =>
        if b = true then te σ2 H3 fun y H4 => ∃ acc, H4 D = some (.lst acc) ∧ acc.length < sizeLine ∧ Nx (upd H4 D (.lst (acc ++ [y]))) else Nx H3) := by
  have hnS : ¬ S D := fun z => hS D z hD
  refine lc_it w (fun i H => Same H1 H ∧ ∃ acc, H D = some (.lst acc) ∧ DxAll K H (inS S D) acc ((List.range i).map f)) ⟨same_new hD, [], upd_same, .nil⟩ (fun i H _ h => hG H h.1) (fun i x H H' hi hp y => ?_) fun H h => ?_
  · obtain ⟨sm, acc, e, da⟩ := hp
    obtain ⟨rfl, hx⟩ := hY i H x H' hi y
    refine ⟨?_, ?_⟩
    · show ((σ.set k none).set k (some x)).set k none = σ.set k none
      rw [List.set_set, List.set_set]
    show te ((σ.set k none).set k (some x)) H' _
    refine hs i x H' hi sm (by rw [e]; exact fun z => nomatch z) hx _ fun v H3 s3 dv => ?_
    have hl : acc.length = i := by rw [dxAll_len da, List.length_map, List.length_range]
    refine ⟨acc, s3 _ _ e, ?_, same_mut (sm.trans s3) hD, acc ++ [v], upd_same, ?_⟩
    · rw [hl]
      exact Nat.lt_of_lt_of_le (Nat.lt_of_lt_of_le hi hn) (by decide)
    · rw [List.range_succ, List.map_append]
      have o : Out (inS S D) H3 (upd H3 D (.lst (acc ++ [v]))) := (Out.refl _ _).put (.inr rfl)
      exact dxAll_app (DxAll.up o (DxAll.up (Out.of s3) da)) (.cons (Dx.up o dv) .nil)
  · obtain ⟨sm, acc, e, da⟩ := h
    exact hd H sm (.lst (XL.of e hnS) (DxAll.less (fun a z => .inl z) da))
end
end RK

namespace RK
open PySem PySem.Spec PyProof.Rows L2 PySem.Builtin.Str
/-! ### texts as lists of code points -/
def sO (l : List Nat) : Str := ⟨l.toArray⟩
theorem sO_eta (x : Str) : sO x.cps.toList = x := rfl
theorem sO_list (l : List Nat) : (sO l).cps.toList = l := rfl
theorem sO_len (l : List Nat) : (sO l).length = l.length := rfl
theorem sO_inj {a b : List Nat} (h : sO a = sO b) : a = b := by
  have := congrArg (fun s : Str => s.cps.toList) h
  exact this
theorem sO_app (a b : List Nat) : sO a ++ sO b = sO (a ++ b) := by
  show (⟨a.toArray ++ b.toArray⟩ : Str) = ⟨(a ++ b).toArray⟩
  rw [List.append_toArray]
theorem sO_at {l : List Nat} {i : Nat} {c : Nat} (h : l[i]? = some c) : atI (sO l).cps.toList (i : Int) = some c := atI_nat h
theorem join_fold (l : List Str) : ∀ (acc : Array Nat), (l.foldl (fun acc p => acc ++ (sO []).cps ++ p.cps) acc) = (acc.toList ++ (l.map fun s => s.cps.toList).flatten).toArray := by
  induction l with
  | nil => intro acc; simp
  | cons p r ih =>
    intro acc
    rw [List.foldl_cons, ih]
    simp [sO]
theorem join_nil (l : List Str) : Txt.join (sO []) l = sO (l.map fun s => s.cps.toList).flatten := by
  cases l with
  | nil => rfl
  | cons p r =>
    show (⟨(r.foldl (fun acc p => acc ++ (sO []).cps ++ p.cps) p.cps)⟩ : Str) = _
    rw [join_fold]
    simp [sO]
theorem strip_take (goes : Nat → Bool) : ∀ l : List Nat, l.take (l.length - (l.reverse.takeWhile goes).length) = (l.reverse.dropWhile goes).reverse := fun l => by
  have h : l.reverse = l.reverse.takeWhile goes ++ l.reverse.dropWhile goes := (List.takeWhile_append_dropWhile).symm
  have h2 : l = (l.reverse.dropWhile goes).reverse ++ (l.reverse.takeWhile goes).reverse := by
    rw [← List.reverse_append, List.takeWhile_append_dropWhile, List.reverse_reverse]
  have h3 : l.length = (l.reverse.dropWhile goes).length + (l.reverse.takeWhile goes).length := by
    have := congrArg List.length h2
    rw [List.length_append, List.length_reverse, List.length_reverse] at this
    exact this
  have h4 : l.length - (l.reverse.takeWhile goes).length = (l.reverse.dropWhile goes).reverse.length := by
    rw [List.length_reverse]
    omega
  rw [h4]
  conv => lhs; arg 2; rw [h2]
  rw [List.take_left]
theorem rstrip_sO (l : List Nat) : Txt.rstrip (sO l) = sO (l.reverse.dropWhile Unicode.isSpace).reverse := by
  have hi : stripHi Unicode.isSpace true (sO l) 0 = l.length - (l.reverse.takeWhile Unicode.isSpace).length := rfl
  show (if (stripSame Unicode.isSpace false true (sO l)) = true then sO l else stripped Unicode.isSpace false true (sO l)) = _
  have e : stripped Unicode.isSpace false true (sO l) = sO (l.reverse.dropWhile Unicode.isSpace).reverse := by
    show (⟨l.toArray.extract 0 (l.length - (l.reverse.takeWhile Unicode.isSpace).length)⟩ : Str) = _
    rw [List.extract_toArray, List.extract_eq_take_drop, List.drop_zero, Nat.sub_zero, strip_take]
    rfl
  split
  · rename_i h
    have h1 : (l.length - (l.reverse.takeWhile Unicode.isSpace).length == l.length) = true := (Bool.and_eq_true_iff.mp h).2
    have h2 : l.length - (l.reverse.takeWhile Unicode.isSpace).length = l.length := by simpa using h1
    have h3 := strip_take Unicode.isSpace l
    rw [h2, List.take_length] at h3
    rw [← h3]
  · exact e
theorem ljust_sO (l : List Nat) (n : Nat) (h : l.length ≤ n) : Txt.ljust (sO l) (n : Int) = sO (l ++ List.replicate (n - l.length) 32) := by
  show (if (n : Int) ≤ (l.length : Nat) then sO l else padded (sO l) 0 ((n : Int).toNat - l.length) 32) = _
  split
  · rename_i h2
    have : n - l.length = 0 := by omega
    rw [this]
    simp [sO]
  · show (⟨Array.replicate 0 32 ++ l.toArray ++ Array.replicate ((n : Int).toNat - l.length) 32⟩ : Str) = _
    rw [Int.toNat_natCast]
    simp [sO]
/-- parts of a text -/
theorem cut_lo (l : List Nat) (k : Nat) : cutS (sO l) (some (k : Int)) none = sO (l.drop k) := by
  show (⟨((l.drop (HT.sIx l.length 0 (some (k : Int)))).take (HT.sIx l.length l.length none - HT.sIx l.length 0 (some (k : Int)))).toArray⟩ : Str) = _
  rw [HT.sIx_nat, HT.sIx_none]
  have e : (l.drop (min k l.length)).take (l.length - min k l.length) = l.drop k := by
    rw [List.take_of_length_le (by rw [List.length_drop]; omega)]
    by_cases h : k ≤ l.length
    · rw [Nat.min_eq_left h]
    · rw [Nat.min_eq_right (by omega), List.drop_length, List.drop_of_length_le (by omega)]
  rw [e]
  rfl
theorem cut_hi (l : List Nat) (k : Nat) : cutS (sO l) none (some (k : Int)) = sO (l.take k) := by
  show (⟨((l.drop (HT.sIx l.length 0 none)).take (HT.sIx l.length l.length (some (k : Int)) - HT.sIx l.length 0 none)).toArray⟩ : Str) = _
  rw [HT.sIx_nat, HT.sIx_none, List.drop_zero, Nat.sub_zero]
  have e : l.take (min k l.length) = l.take k := by
    by_cases h : k ≤ l.length
    · rw [Nat.min_eq_left h]
    · rw [Nat.min_eq_right (by omega), List.take_length, List.take_of_length_le (by omega)]
  rw [e]
  rfl
theorem rep_fold (a : Array Nat) : ∀ (n : Nat) (acc : Array Nat), (List.replicate n a).foldl (· ++ ·) acc = (acc.toList ++ (List.replicate n a.toList).flatten).toArray
  | 0, acc => by simp
  | n + 1, acc => by
    rw [List.replicate_succ, List.foldl_cons, rep_fold a n, List.replicate_succ]
    simp
section
variable {X : Cx}
/-- a text times a small number -/
theorem op_rep_str : OpR X (binaryOp .Mult) (fun x y H Q => ∃ (l : List Nat) (n : Nat), x = .str (sO l) ∧ y = .int (n : Int) ∧ l.length ≤ 1000 ∧ n ≤ 1000 ∧ Q (.str (sO (List.replicate n l).flatten)) H) := by
  intro pins s σ H x y v u Q I rx ry h
  obtain ⟨l, n, rfl, rfl, hl, hn, q⟩ := h
  obtain ⟨t, rfl⟩ := rx
  obtain ⟨t2, rfl⟩ := ry
  have big : l.length * n ≤ 1000000 := Nat.mul_le_mul hl hn
  refine P.mul_str ?_ (fun _ _ => ?_) (fun _ _ => ?_) ?_
  · rw [decide_eq_false (show ¬ (n : Int) < -(2 ^ 63) by omega), decide_eq_false (show ¬ (n : Int) ≥ 2 ^ 63 by omega)]
    rfl
  · show ¬ ((l.length : Nat) : Int) > (2 ^ 63 - 1) / (n : Int)
    have h1 : (0 : Int) < n := by omega
    have h2 : (1000 : Int) ≤ (2 ^ 63 - 1) / (n : Int) := (Int.le_ediv_iff_mul_le h1).mpr (by omega)
    omega
  · show tooLong (l.length * (n : Int).toNat) = false
    rw [Int.toNat_natCast]
    exact decide_eq_false (by show ¬ _; have : (1000000 : Nat) ≤ sizeLine := by decide
                              omega)
  · have fin : ∀ (z : Str) tk tok, z = sO (List.replicate n l).flatten → EP X pins σ Q (Value.str z tok) { s with toks := tk } := fun z tk tok e => by subst e; exact ⟨.str _, H, I.tok _, ⟨_, rfl⟩, q⟩
    have hsz : ∀ z : Str, z = sO (List.replicate n l).flatten → z.length ≤ sizeLine := fun z e => by
      rw [e, sO_len]
      have e2 : (List.replicate n l).flatten.length = n * l.length := by simp
      rw [e2, Nat.mul_comm]
      exact Nat.le_trans big (by decide)
    split
    · have : n = 0 := by omega
      subst this
      exact ⟨by decide, fin _ _ _ rfl⟩
    · split
      · rename_i h2
        rcases Bool.or_eq_true_iff.mp h2 with h3 | h3
        · have h4 : (n : Int) = 1 := by simpa using h3
          have h5 : n = 1 := by omega
          subst h5
          refine fin _ s.toks _ ?_
          simp
        · have h4 : l.length = 0 := (eq_of_beq h3 : (sO l).length = 0)
          have h5 : l = [] := List.eq_nil_of_length_eq_zero h4
          subst h5
          refine fin _ s.toks _ ?_
          have : (List.replicate n ([] : List Nat)).flatten = [] := by simp
          rw [this]
      · have e : (⟨(List.replicate (n : Int).toNat (sO l).cps).foldl (· ++ ·) #[]⟩ : Str) = sO (List.replicate n l).flatten := by
          rw [rep_fold, Int.toNat_natCast]
          simp [sO]
        exact ⟨hsz _ e, fin _ _ _ e⟩
end
end RK

namespace RK
open PySem PySem.Spec PyProof.Rows L2 PySem.Builtin.Str
/-! ### names and the words that pack them -/
def sg (k : Nat) : Nat := if k = 0 then 32 else if k ≤ 26 then 96 + k else 21 + k
abbrev LTR : List Nat := (Str.ofString "abcdefghijklmnopqrstuvwxyz").cps.toList
abbrev SGN : List Nat := (Str.ofString " abcdefghijklmnopqrstuvwxyz0123456789").cps.toList
theorem SGN_eq : SGN = (List.range 37).map sg := by decide +kernel
theorem LTR_eq : LTR = (List.range 26).map fun k => sg (k + 1) := by decide +kernel
def isN (l : List Nat) : Bool := (decide (1 ≤ l.length) && decide (l.length ≤ 9) && decide (l.headD 0 ∈ LTR)) && l.all fun c => decide (c ∈ SGN) && !decide (c = 32)
theorem dec_blank (c : Nat) : decide (V.str (sO [c]) = V.str (Str.ofString " ")) = decide (c = 32) := by
  have e : Str.ofString " " = sO [32] := by decide +kernel
  rw [e, decide_eq_decide]
  constructor
  · intro h
    have := sO_inj (V.str.inj h)
    exact (List.cons.inj this).1
  · intro h
    rw [h]
/-- the codes of a name -/
structure Nk (ks : List Nat) : Prop where
  pos : 1 ≤ ks.length
  le : ks.length ≤ 9
  head : 1 ≤ ks.headD 0 ∧ ks.headD 0 ≤ 26
  all : ∀ k ∈ ks, 1 ≤ k ∧ k ≤ 36
theorem sg_mem {k : Nat} (h : k ≤ 36) : sg k ∈ SGN := by
  rw [SGN_eq]
  exact List.mem_map.mpr ⟨k, List.mem_range.mpr (by omega), rfl⟩
theorem sg_ne {k : Nat} (h : 1 ≤ k) : sg k ≠ 32 := by
  unfold sg
  split
  · omega
  · split <;> omega
theorem sg_inj {a b : Nat} (ha : a ≤ 36) (hb : b ≤ 36) (h : sg a = sg b) : a = b := by
  unfold sg at h
  split at h <;> split at h <;> (try split at h) <;> (try split at h) <;> omega
theorem sg_lt {k : Nat} (h : k ≤ 36) : sg k ∈ LTR ↔ 1 ≤ k ∧ k ≤ 26 := by
  rw [LTR_eq, List.mem_map]
  constructor
  · rintro ⟨j, hj, e⟩
    have hj := List.mem_range.mp hj
    have := sg_inj (by omega) h e
    omega
  · rintro ⟨h1, h2⟩
    exact ⟨k - 1, List.mem_range.mpr (by omega), by rw [Nat.sub_add_cancel h1]⟩
theorem isN_codes {ks : List Nat} (h36 : ∀ k ∈ ks, k ≤ 36) : isN (ks.map sg) = (decide (1 ≤ ks.length) && decide (ks.length ≤ 9) && decide (1 ≤ ks.headD 0 ∧ ks.headD 0 ≤ 26) && ks.all fun k => decide (1 ≤ k)) := by
  unfold isN
  rw [List.length_map]
  have e1 : decide ((ks.map sg).headD 0 ∈ LTR) = decide (1 ≤ ks.headD 0 ∧ ks.headD 0 ≤ 26) := by
    cases ks with
    | nil => decide +kernel
    | cons k r =>
      show decide (sg k ∈ LTR) = decide (1 ≤ k ∧ k ≤ 26)
      rw [decide_eq_decide]
      exact sg_lt (h36 k List.mem_cons_self)
  have e2 : ((ks.map sg).all fun c => decide (c ∈ SGN) && !decide (c = 32)) = ks.all fun k => decide (1 ≤ k) := by
    rw [List.all_map]
    apply Bool.eq_iff_iff.mpr
    rw [List.all_eq_true, List.all_eq_true]
    constructor
    · intro h k hk
      have := h k hk
      apply decide_eq_true
      rcases Nat.eq_zero_or_pos k with z | z
      · subst z
        exact absurd this (by decide +kernel)
      · exact z
    · intro h k hk
      have hk1 : 1 ≤ k := of_decide_eq_true (h k hk)
      show (decide (sg k ∈ SGN) && !decide (sg k = 32)) = true
      rw [decide_eq_true (sg_mem (h36 k hk)), decide_eq_false (sg_ne hk1)]
      rfl
  rw [e1, e2]
theorem isN_of {ks : List Nat} (h : Nk ks) : isN (ks.map sg) = true := by
  rw [isN_codes fun k hk => (h.all k hk).2, decide_eq_true h.pos, decide_eq_true h.le, decide_eq_true h.head]
  rw [List.all_eq_true.mpr fun k hk => decide_eq_true (h.all k hk).1]
  rfl
theorem isN_long {l : List Nat} (h : 10 ≤ l.length) : isN l = false := by
  unfold isN
  rw [decide_eq_false (show ¬ l.length ≤ 9 by omega), Bool.and_false]
  rfl
theorem isN_head {l : List Nat} (h : l.headD 0 ∉ LTR) : isN l = false := by
  unfold isN
  rw [decide_eq_false h, Bool.and_false]
  rfl
theorem isN_mem {l : List Nat} {c : Nat} (h : c ∈ l) (hc : (decide (c ∈ SGN) && !decide (c = 32)) = false) : isN l = false := by
  unfold isN
  rw [show (l.all fun c => decide (c ∈ SGN) && !decide (c = 32)) = false from ?_, Bool.and_false]
  apply Bool.eq_false_iff.mpr
  intro z
  have := List.all_eq_true.mp z c h
  rw [hc] at this
  cases this
/-! words -/
def cds (w : Nat) : List Nat := [w / 1600, w / 40 % 40, w % 40]
def rtrim (ks : List Nat) : List Nat := (ks.reverse.dropWhile (· == 0)).reverse
theorem rtrim_app (l : List Nat) (x : Nat) : rtrim (l ++ [x]) = if x = 0 then rtrim l else l ++ [x] := by
  unfold rtrim
  rw [List.reverse_append]
  show ((x :: l.reverse).dropWhile (· == 0)).reverse = _
  rw [List.dropWhile_cons]
  by_cases h : x = 0
  · rw [if_pos h, if_pos (by rw [h]; rfl)]
  · rw [if_neg h, if_neg (by simpa using h)]
    simp
theorem rtrim_pre (l : List Nat) : rtrim l = l.take (rtrim l).length := by
  have h : l.reverse = l.reverse.takeWhile (· == 0) ++ l.reverse.dropWhile (· == 0) := (List.takeWhile_append_dropWhile).symm
  have h2 : l = rtrim l ++ (l.reverse.takeWhile (· == 0)).reverse := by
    unfold rtrim
    rw [← List.reverse_append, List.takeWhile_append_dropWhile, List.reverse_reverse]
  conv => rhs; arg 2; rw [h2]
  rw [List.take_left]
theorem rtrim_big {l : List Nat} {x : Nat} (h : x ∈ l) (hx : x ≠ 0) : x ∈ rtrim l := by
  have h2 : l = rtrim l ++ (l.reverse.takeWhile (· == 0)).reverse := by
    unfold rtrim
    rw [← List.reverse_append, List.takeWhile_append_dropWhile, List.reverse_reverse]
  rw [h2] at h
  rcases List.mem_append.mp h with h | h
  · exact h
  · have := List.mem_reverse.mp h
    have h3 : ∀ (r : List Nat), x ∈ r.takeWhile (· == 0) → x = 0 := fun r => by
      induction r with
      | nil => intro z; cases z
      | cons y r ih =>
        rw [List.takeWhile_cons]
        split
        · rename_i hy
          intro z
          rcases List.mem_cons.mp z with z | z
          · rw [z]; simpa using hy
          · exact ih z
        · intro z; cases z
    exact absurd (h3 _ this) hx
theorem rtrim_sub {l : List Nat} {x : Nat} (h : x ∈ rtrim l) : x ∈ l := by
  rw [rtrim_pre] at h
  exact List.mem_of_mem_take h
theorem rtrim_len (l : List Nat) : (rtrim l).length ≤ l.length := by
  rw [rtrim_pre, List.length_take]
  omega
theorem rtrim_head {l : List Nat} (h : rtrim l ≠ []) : (rtrim l).headD 0 = l.headD 0 := by
  rw [rtrim_pre] at h ⊢
  cases l with
  | nil => simp at h
  | cons x r =>
    cases e : (rtrim (x :: r)).length with
    | zero => rw [e] at h; exact absurd rfl h
    | succ n => rfl
/-- the program's way -/
def wn (ks : List Nat) : Option (List Nat) := if ks.any (fun k => decide (37 ≤ k)) then none else if isN ((rtrim ks).map sg) then some ((rtrim ks).map sg) else none
/-- the law's way -/
def un (ks : List Nat) : Option (List Nat) := if (rtrim ks).all (fun k => decide (1 ≤ k ∧ k ≤ 36)) && (decide ((rtrim ks).length ≠ 0) && decide (ks.headD 0 ≤ 26)) then some ((rtrim ks).map sg) else none
theorem wn_un (ks : List Nat) (h9 : ks.length ≤ 9) : wn ks = un ks := by
  unfold wn un
  by_cases hb : ks.any (fun k => decide (37 ≤ k)) = true
  · rw [if_pos hb]
    obtain ⟨k, hk, hk2⟩ := List.any_eq_true.mp hb
    have hk3 : 37 ≤ k := of_decide_eq_true hk2
    have : (rtrim ks).all (fun k => decide (1 ≤ k ∧ k ≤ 36)) = false := by
      apply Bool.eq_false_iff.mpr
      intro z
      have := of_decide_eq_true (List.all_eq_true.mp z k (rtrim_big hk (by omega)))
      omega
    rw [this]
    rfl
  · rw [if_neg hb]
    have h36 : ∀ k ∈ ks, k ≤ 36 := fun k hk => by
      apply Decidable.byContradiction
      intro z
      exact hb (List.any_eq_true.mpr ⟨k, hk, decide_eq_true (by omega)⟩)
    have h36' : ∀ k ∈ rtrim ks, k ≤ 36 := fun k hk => h36 k (rtrim_sub hk)
    have hl := rtrim_len ks
    have e : isN ((rtrim ks).map sg) = ((rtrim ks).all (fun k => decide (1 ≤ k ∧ k ≤ 36)) && (decide ((rtrim ks).length ≠ 0) && decide (ks.headD 0 ≤ 26))) := by
      rw [isN_codes h36']
      apply Bool.eq_iff_iff.mpr
      simp only [Bool.and_eq_true, decide_eq_true_eq, List.all_eq_true]
      constructor
      · rintro ⟨⟨⟨h1, _⟩, h3, h4⟩, h5⟩
        have hne : rtrim ks ≠ [] := fun z => by rw [z] at h1; exact absurd h1 (by decide)
        rw [rtrim_head hne] at h3 h4
        exact ⟨fun k hk => ⟨h5 k hk, h36' k hk⟩, by omega, h4⟩
      · rintro ⟨h1, h2, h3⟩
        have hne : rtrim ks ≠ [] := fun z => by rw [z] at h2; exact h2 rfl
        refine ⟨⟨⟨by omega, by omega⟩, ?_⟩, fun k hk => (h1 k hk).1⟩
        have hm : (rtrim ks).headD 0 ∈ rtrim ks := by
          cases hr : rtrim ks with
          | nil => exact absurd hr hne
          | cons x r => exact List.mem_cons_self
        have := h1 _ hm
        rw [rtrim_head hne] at this ⊢
        exact ⟨this.1, h3⟩
    rw [e]
def pad (ks : List Nat) : List Nat := ks ++ List.replicate (9 - ks.length) 0
theorem pad_len {ks : List Nat} (h : ks.length ≤ 9) : (pad ks).length = 9 := by
  unfold pad
  rw [List.length_append, List.length_replicate]
  omega
def pk1 (cs : List Nat) (k : Nat) : Nat := (cs.getD k 0 * 40 + cs.getD (k + 1) 0) * 40 + cs.getD (k + 2) 0
def pk3 (cs : List Nat) : List Nat := [pk1 cs 0, pk1 cs 3, pk1 cs 6]
theorem cds_pk1 {cs : List Nat} {k : Nat} (h : ∀ x ∈ cs, x ≤ 39) : cds (pk1 cs k) = [cs.getD k 0, cs.getD (k + 1) 0, cs.getD (k + 2) 0] := by
  have g : ∀ i, cs.getD i 0 ≤ 39 := fun i => by
    rw [List.getD_eq_getElem?_getD]
    cases e : cs[i]? with
    | none => exact Nat.zero_le _
    | some x => exact h x (List.mem_of_getElem? e)
  have a := g k
  have b := g (k + 1)
  have c := g (k + 2)
  unfold cds pk1
  congr 1
  · omega
  · congr 1
    · omega
    · congr 1
      omega
theorem cds_pk3 {cs : List Nat} (h : ∀ x ∈ cs, x ≤ 39) (h9 : cs.length = 9) : (pk3 cs).flatMap cds = cs := by
  match cs, h9 with
  | [a, b, c, d, e, f, g, i, j], _ =>
    show cds _ ++ (cds _ ++ (cds _ ++ [])) = _
    rw [cds_pk1 h, cds_pk1 h, cds_pk1 h]
    rfl
theorem rtrim_pad {ks : List Nat} (h : Nk ks) : rtrim (pad ks) = ks := by
  unfold pad
  generalize 9 - ks.length = n
  induction n with
  | zero =>
    rw [List.replicate_zero, List.append_nil]
    cases e : ks.reverse with
    | nil =>
      have := congrArg List.reverse e
      rw [List.reverse_reverse] at this
      rw [this]
      rfl
    | cons x r =>
      have e2 : ks = r.reverse ++ [x] := by
        have := congrArg List.reverse e
        rw [List.reverse_reverse, List.reverse_cons] at this
        exact this
      rw [e2, rtrim_app, if_neg]
      have := h.all x (by rw [e2]; simp)
      omega
  | succ n ih =>
    rw [List.replicate_succ', ← List.append_assoc, rtrim_app, if_pos rfl]
    exact ih
theorem pad_le {ks : List Nat} (h : Nk ks) : ∀ x ∈ pad ks, x ≤ 39 := fun x hx => by
  unfold pad at hx
  rcases List.mem_append.mp hx with hx | hx
  · have := h.all x hx
    omega
  · have := List.eq_of_mem_replicate hx
    omega
theorem wn_pad {ks : List Nat} (h : Nk ks) : wn (pad ks) = some (ks.map sg) := by
  unfold wn
  rw [rtrim_pad h, isN_of h, if_neg, if_pos rfl]
  intro z
  obtain ⟨k, hk, hk2⟩ := List.any_eq_true.mp z
  have hk3 : 37 ≤ k := of_decide_eq_true hk2
  unfold pad at hk
  rcases List.mem_append.mp hk with hx | hx
  · have := h.all k hx
    omega
  · have := List.eq_of_mem_replicate hx
    omega
/-- signs found in the tables -/
theorem find_sg : ∀ k : _root_.Fin 37, Txt.find (Str.ofString " abcdefghijklmnopqrstuvwxyz0123456789") (sO [sg k.val]) = (k.val : Int) := by decide +kernel
theorem occ_sg : ∀ k : _root_.Fin 37, occurrences (Str.ofString " abcdefghijklmnopqrstuvwxyz0123456789") (sO [sg k.val]) 0 (Str.ofString " abcdefghijklmnopqrstuvwxyz0123456789").length 1 = [k.val] := by decide +kernel
theorem space_sg : ∀ k : _root_.Fin 37, Unicode.isSpace (sg k.val) = (k.val == 0) := by decide +kernel
theorem rstrip_sg {ks : List Nat} (h : ∀ k ∈ ks, k ≤ 36) : Txt.rstrip (sO (ks.map sg)) = sO ((rtrim ks).map sg) := by
  rw [rstrip_sO]
  unfold rtrim
  rw [← List.map_reverse]
  have e : ∀ r : List Nat, (∀ k ∈ r, k ≤ 36) → (r.map sg).dropWhile Unicode.isSpace = (r.dropWhile (· == 0)).map sg := fun r => by
    induction r with
    | nil => intro _; rfl
    | cons x r ih =>
      intro hr
      rw [List.map_cons, List.dropWhile_cons, List.dropWhile_cons]
      have hx : Unicode.isSpace (sg x) = (x == 0) := space_sg ⟨x, by have := hr x List.mem_cons_self; omega⟩
      rw [hx]
      split
      · exact ih fun k hk => hr k (List.mem_cons_of_mem _ hk)
      · rfl
  rw [e _ fun k hk => h k (List.mem_reverse.mp hk), ← List.map_reverse]
/-! lists of small numbers as they stand in the program -/
def intV (l : List Nat) : List V := l.map fun (n : Nat) => V.int (n : Int)
theorem atI_intV {cs : List Nat} {k : Int} (h0 : 0 ≤ k) (h1 : k < (cs.length : Int)) : atI (intV cs) k = some (.int ((cs.getD k.toNat 0 : Nat) : Int)) := by
  obtain ⟨j, rfl⟩ : ∃ j : Nat, k = (j : Int) := ⟨k.toNat, by omega⟩
  have hj : j < cs.length := by omega
  refine atI_nat ?_
  unfold intV
  rw [List.getElem?_map, List.getElem?_eq_getElem hj, Int.toNat_natCast, List.getD_eq_getElem?_getD, List.getElem?_eq_getElem hj]
  rfl
theorem intV_map {α : Type} (g : α → Nat) (l : List α) : intV (l.map g) = l.map fun x => V.int ((g x : Nat) : Int) := by
  unfold intV
  rw [List.map_map]
  rfl
theorem intV_ints (l : List Nat) : intV l = (l.map fun (n : Nat) => (n : Int)).map V.int := by
  unfold intV
  rw [List.map_map]
  rfl
theorem intV_range (cs : List Nat) : (List.range cs.length).map (fun i => V.int ((cs.getD i 0 : Nat) : Int)) = intV cs := range_getD (fun n : Nat => V.int (n : Int)) 0 cs
theorem ljust_pad {ks : List Nat} (h : ks.length ≤ 9) : Txt.ljust (sO (ks.map sg)) 9 = sO ((pad ks).map sg) := by
  have e := ljust_sO (ks.map sg) 9 (by rw [List.length_map]; exact h)
  rw [List.length_map] at e
  unfold pad
  rw [List.map_append, List.map_replicate]
  exact e
/-! numbers as data -/
def intsD (l : List Nat) : PyData := .tuple ((l.map fun (n : Nat) => (n : Int)).map PyData.int)
theorem lay_ints : ∀ l : List Int, PyData.canLayAll0 (l.map PyData.int) = true
  | [] => rfl
  | _ :: r => lay_ints r
theorem lay_intsD (l : List Nat) : (intsD l).canLay0 = true := lay_ints _
theorem dep_ints : ∀ l : List Int, PyData.depthAll (l.map PyData.int) = 0
  | [] => rfl
  | x :: r => by
    show max 0 (PyData.depthAll (r.map PyData.int)) = 0
    rw [dep_ints r]
    rfl
theorem dep_intsD (l : List Nat) : (intsD l).depth ≤ 1 := by
  show PyData.depthAll _ + 1 ≤ 1
  rw [dep_ints]
  exact Nat.le_refl 1
theorem wd_ints : ∀ l : List Int, wdA (l.map PyData.int) = true
  | [] => rfl
  | _ :: r => wd_ints r
theorem wd_intsD {l : List Nat} (h : l.length ≤ 100000) : wdB (intsD l) = true := by
  show (decide (_ ≤ 100000) && wdA _) = true
  rw [wd_ints, List.length_map, List.length_map, decide_eq_true h]
  rfl
theorem dx_intsD {K : PySem.W.Frag} {H : Hp} {p : Addr} {l : List Nat} (h : H p = some (.tup (intV l))) : Dx K H noS (.ref p) (intsD l) := by
  rw [intV_ints] at h
  exact .tup (XT.of h fun z => z.elim) (dxAll_ints _)
/-! parts of a tuple -/
theorem cutV_lo {xs : List V} (k : Nat) : cutV xs (some (k : Int)) none = xs.drop k := by
  show (xs.drop (HT.sIx xs.length 0 (some (k : Int)))).take (HT.sIx xs.length xs.length none - HT.sIx xs.length 0 (some (k : Int))) = _
  rw [HT.sIx_nat, HT.sIx_none, List.take_of_length_le (by rw [List.length_drop]; omega)]
  by_cases h : k ≤ xs.length
  · rw [Nat.min_eq_left h]
  · rw [Nat.min_eq_right (by omega), List.drop_length, List.drop_of_length_le (by omega)]
theorem cutV_hi {xs : List V} (k : Nat) : cutV xs none (some (k : Int)) = xs.take k := by
  show (xs.drop (HT.sIx xs.length 0 none)).take (HT.sIx xs.length xs.length (some (k : Int)) - HT.sIx xs.length 0 none) = _
  rw [HT.sIx_nat, HT.sIx_none, List.drop_zero, Nat.sub_zero]
  by_cases h : k ≤ xs.length
  · rw [Nat.min_eq_left h]
  · rw [Nat.min_eq_right (by omega), List.take_length, List.take_of_length_le (by omega)]
theorem slA_of {K : PySem.W.Frag} {H : Hp} {a : Addr} {xs : List V} {lo hi : Option Int} {Q : VK} (h : SqT K H a xs) (q : ∀ p H', Same H H' → SqT K H' p (cutV xs lo hi) → Q (.ref p) H') : rSlA K (.ref a) lo hi H Q := by
  refine ⟨a, xs, rfl, h, fun e => q a H (Same.refl _) ?_, fun _ p hp => q p _ (same_new hp) (SqT.of upd_same)⟩
  have : cutV xs lo hi = xs := by
    show (xs.drop (HT.sIx xs.length 0 lo)).take (HT.sIx xs.length xs.length hi - HT.sIx xs.length 0 lo) = _
    rw [e.1, e.2, List.drop_zero, Nat.sub_zero, List.take_length]
  rw [this]
  exact h
end RK

namespace RK
open PySem PySem.Spec PyProof.Rows L2
/-! ### an own error that keeps one thing, and a try whose first clause names it -/
/-- what the first clause wishes: the error is its own -/
def wHit (K : PySem.W.Frag) (c : Value) (i : Nat) (ts : Addr → Value → Option Addr → TS) (D : Ends) : WX := fun cls d σ H => PySem.W.exmOne K cls c = some true ∧
  ∀ a, H a = none → ts a cls d ⟨fun σ' H' => D.nx (σ'.set i none) H', D.rt, fun σ' H' => D.bk (σ'.set i none) H', fun σ' H' => D.ct (σ'.set i none) H'⟩ (σ.set i (some (.ref a))) H
section
variable {X : Cx} {x n : Str} {c : Value} {i : Nat} {body suite : List Stmt} {hds : List ExceptHandler} {b₀ : Stmt} {np pos pos' : Pos} {tb : WX → TS} {ts : Addr → Value → Option Addr → TS} {pins : List (Addr × Obj)}
/-- what the body leaves, seen from outside the try -/
theorem flow_out {D : Ends} {xe : Value → Shared → Prop} (ok : X.Ok) {f : Flow} {s1 : Shared} (h : SP (X.tr (X.pn ++ pins) xe) [] D f s1) : SP X pins D f s1 := by
  cases f with
  | ret u => exact let ⟨v, σ', H', J, r, q⟩ := h; ⟨v, σ', H', J.ofTry ok, r, q⟩
  | next => exact let ⟨σ', H', J, q⟩ := h; ⟨σ', H', J.ofTry ok, q⟩
  | brk => exact let ⟨σ', H', J, q⟩ := h; ⟨σ', H', J.ofTry ok, q⟩
  | cont => exact let ⟨σ', H', J, q⟩ := h; ⟨σ', H', J.ofTry ok, q⟩
/-- an error that flies stands in no frame -/
theorem no_frame {B h : Heap} {l : List Env} {a : Addr} {o : Obj} {vs : Array Value} (ff : h.FunFrames B l) (e : h.get? a = some o) (hd : o.data = .fields vs) : a ∉ frs l := fun hm => by
  obtain ⟨_, o2, e2, no⟩ := ff.mem hm
  have : o2 = o := Option.some.inj (e2.symm.trans e)
  exact no vs (this ▸ hd)
/-- the first clause's test -/
theorem names_it {a : Addr} {o : Obj} {σ : L2.St} {H : Hp} {s : Shared} {Q : Value → Shared → Prop} {E : Value → Shared → Prop} (hc : Names X x c) (S : Inv (X.suite a ((a, o) :: (X.pn ++ pins))) [] σ H s) (q : Q c s) :
    wpAny (model X.prog X.w) (X.A.mark (some (.ref a))) (eval (.Name x np) X.env) Q E s := by
  rcases hc with ⟨hg, hd, h | ⟨h1, h2, h3⟩⟩
  · exact ld_glob (X := Cx.suite X a ((a, o) :: (X.pn ++ pins))) S hg h q hd
  · exact ld_blt (X := Cx.suite X a ((a, o) :: (X.pn ++ pins))) S hg h1 h2 q h3 hd
end

/-! ### an own error class C: __init__(self, f): self.f = f -/
/-- what __init__ does of a fresh error -/
def spKeep (f : Str) (C : Addr) : Sp := fun vs H Q _ => ∃ (a : Addr) (v : V), vs = [.ref a, v] ∧ H a = some (exo a C none) ∧ ∀ dx, H dx = none → dx ≠ a → Q .non (upd (upd H dx (exd dx [(f, v)])) a (exo a C (some dx)))
structure ErrC (K : PySem.W.Frag) (mg : Str → Option Value) (x f : Str) (C fI : Addr) (fd : FuncData) : Prop where
  g : mg x = some (.ref C)
  ox : OexC K C
  no : PySem.W.findIn K (.ref C) f = some none
  iC : PySem.W.findIn K (.ref C) "__init__" = some (some (.ref fI))
  tI : PySem.W.typeIn K (.ref fI) = some (.type "function")
  b : Binds K fd ["self", f] []
  xf : XfC K C
  ex : ExcC K C
  te : PySem.W.exmOne K (.ref C) (.ref C) = some true
section
variable {X : Cx} {x f : Str} {C fI : Addr} {fd : FuncData} {k : Nat} {e : Expr} {es : List Expr} {ta : TA} {p pos : Pos}
/-- C(e), to be raised -/
theorem pmk_err (T : ErrC X.K X.mg x f C fI fd) (F1 : FnOk X.prog X.w X.K X.mg X.base CX0 k fI fd ["self", f] (spKeep f C)) (hr : Room (k + 1) X.A) (ha : PA X (e :: es) ta) (hg : Gl X x := by rfl) (hdb : (x == ("__debug__" : Str)) = false := by decide)
    (he : starEach (e :: es) X.env = (false, eval e X.env) :: starEach es X.env := by rfl) (hpl : (backTo pos (starEach es X.env)).any (·.1) = false := by rfl) : PMk X (.Call (.Name x p) (e :: es) [] pos) (tMkO C (spKeep f C) [] ta) :=
  pmk_oex T.ox T.iC T.tI F1 hr T.b .nil (fun _ _ _ _ _ _ _ z => z.elim) hg T.g ha hdb he hpl
/-- the end of its reading -/
theorem keep_end {H1 : Hp} {v : V} {Q : XK} (q : ∀ d H2, Same H1 H2 → H1 d = none → H2 d = some (.xd [(f, v)]) → Q (.ref C) (some d) H2) : ([v] : List V).length ≤ 1000 ∧ ∀ a, H1 a = none → spKeep f C (.ref a :: ([v] ++ [])) (upd H1 a (exo a C none))
    (fun v H2 => v = .non ∧ ∃ (d : Addr) (fs : List (Str × V)), H2 a = some (exo a C (some d)) ∧ H2 d = some (exd d fs) ∧ H1 d = none ∧ Q (.ref C) (some d) (upd (del H2 a) d (.xd fs))) (fun _ _ _ => False) := by
  refine ⟨by show 1 ≤ 1000; decide, fun a na => ⟨a, v, rfl, upd_same, fun dx nd ne => ⟨rfl, dx, [(f, v)], upd_same, ?_, ?_, ?_⟩⟩⟩
  · rw [upd_ne ne, upd_same]
  · rw [upd_ne ne] at nd
    exact nd
  · rw [upd_ne ne] at nd
    refine q dx _ (fun b o eb => ?_) nd upd_same
    have b1 : b ≠ dx := ne_of_none eb nd
    have b2 : b ≠ a := ne_of_none eb na
    rw [upd_ne b1, del_ne b2, upd_ne b2, upd_ne b1, upd_ne b2]
    exact eb
/-- isinstance(e, c), e the error in hand whose own dict is dd -/
def rIsEx (K : PySem.W.Frag) (D a dd : Addr) : List V → Hp → VK → Prop := fun xs H Q => ∃ (c : V) (cv : Value) (b : Bool) (fs : List (Str × V)), xs = [.ref a, c] ∧ (∀ u, RelV c u → u = cv) ∧ PySem.W.kitOne K (.ref D) cv = some b ∧ H dd = some (.xd fs) ∧ Q (.bl b) H
theorem call_isEx {a D : Addr} {o : Obj} {cls : Value} {d : Option Addr} {ps : List (Addr × Obj)} (T : ExcC X.K D) (hz : Zc cls d o) (hf : ∃ vs, o.data = .fields vs) :
    CallR (X.suite a ((a, o) :: ps)) (.builtin "isinstance") (fun xs H Q => ∃ dd, cls = .ref D ∧ d = some dd ∧ rIsEx X.K D a dd xs H Q) := by
  intro pins s σ H xs us Q I r h
  obtain ⟨dd, rfl, rfl, c, cv, b, fs, rfl, hcv, hk, hd, q⟩ := h
  obtain ⟨u1, u2, rfl, r1, r2⟩ := vals2 r
  obtain rfl := hcv u2 r2
  cases r1
  obtain ⟨ga, _⟩ := I.pin (a, o) (List.mem_append_left _ List.mem_cons_self)
  obtain ⟨vs, ef⟩ := hf
  obtain ⟨mA, hns, _⟩ := (show ObjOk X.prog X.w H s.heap dd (.xd fs) from I.hok dd _ hd)
  obtain ⟨od, ho, _⟩ := lookIn_ns hns
  have J : PySem.W.InstAt s.heap a o D (some od) := ⟨ga, hz.1, by unfold PySem.W.notCls; rw [ef], by rw [hz.2]; exact ho⟩
  have hc : (PySem.W.clsIn X.K D).isSome = true := by
    have := T.hd
    unfold PySem.W.hasDictIn at this
    cases e : PySem.W.clsIn X.K D with
    | none => rw [e] at this; cases this
    | some => rfl
  exact PySem.W.kia_one (PySem.W.kitx_exc hc T.hg T.hk T.hs T.ha T.hn T.ht T.hm) I.kIn J hk (fun z => nomatch z) fun tk => ⟨.bl b, H, I.kept (t' := tk) fun _ _ z => z, rfl, q⟩
end
end RK

namespace RK
open PySem PySem.Spec PyProof.Rows L2 HotX
/-! ### the end of a walk over a list or a tuple while an error is handled -/
section
variable {prog : Program} {w : World} {A : Around} {E : Value → Shared → Prop} {s : Shared}
theorem next_list_hot {it l x1 : Addr} {i : Nat} {items : Array Value} {Q : Option Value → Shared → Prop} (hot : HotAt A x1 s.heap) (ne : x1 ≠ it) (hit : s.heap.IsListIter it l i) (hl : s.heap.IsList l items) (hx : items[i]? = none)
    (hQ : ∀ h', (∀ b o, b ≠ it → s.heap.get? b = some o → h'.get? b = some o) → Q none { s with heap := h' }) : wpAny (model prog w) A (pyNext (.ref it)) Q E s := by
  obtain ⟨hh, o1, vs1, h1, d1, c1⟩ := hot
  obtain ⟨oi, gi, ci, di⟩ := id hit
  obtain ⟨ol, gl, _, nl, dl⟩ := hl
  unfold pyNext
  refine wpAny_bind (wpAny_attempt (wpAny_callSpecial?_slot (name := "__next__") hit.typeIs slot_listiter_next (wpAny_call_entry slot_listiter_next hit.typeIs entry_listiter_next ?_ (args_listiter_next _))))
  refine wpAny_bind (m := field (.ref it) 0) (wpAny_field gi di (x := .ref l) rfl ?_)
  refine (if_neg (Bool.false_ne_true : ¬ ((Value.ref l == Value.none) = true))).symm ▸ ?_
  refine wpAny_bind (m := field (.ref it) 1) (wpAny_field gi di (x := .int i 0) rfl (wpAny_bind (m := seqItems? (.ref l)) (wpAny_seqItems gl dl ?_)))
  simp only [Int.toNat_natCast, hx]
  refine wpAny_bind (wpAny_rule (wpAny_bind (wpAny_setField gi di (by simp) (wpAny_bind (m := newExc (.type "StopIteration") []) ?_))))
  simp only [newExc, newTuple]
  refine wpAny_bind (wpAny_newObj_type (wpAny_bind (m := firstArgMember _ _) (wpAny_of_eq (a := Value.none) (by first | rfl | (simp only [firstArgMember]; rfl)) (wpAny_newObj_type ?_ (by size_fits)))) (by size_fits))
  have k0 : ∀ b o, b ≠ it → s.heap.get? b = some o → (s.heap.update it (Obj.mapFields (·.setIfInBounds 0 Value.none))).get? b = some o := fun b o n e => by
    rw [Heap.get?_update_other _ _ (Ne.symm n)]; exact e
  have u1 := Heap.get?_push_of_some { cls := .type "tuple", data := .seq #[] } (k0 _ _ ne h1)
  refine raiseNew_hot ⟨hh, o1, vs1, Heap.get?_push_of_some _ u1, d1, c1⟩ (Nat.ne_of_lt (Heap.lt_size u1)) (Heap.get?_push_size _ rfl) rfl (by first | (simp; done) | (simp; omega)) (wpAny_bind (wpAny_isInstance (T := "StopIteration") (b := true) ⟨_, Heap.get?_update_self _ (Heap.get?_push_size _ rfl) rfl, rfl⟩ isSubtype_stop (wpAny_pure (hQ _ fun b o n e => ?_))))
  have u2 := Heap.get?_push_of_some { cls := .type "tuple", data := .seq #[] } (k0 _ _ n e)
  rw [Heap.get?_update_other _ _ (Nat.ne_of_gt (Heap.lt_size u2))]; exact Heap.get?_push_of_some _ u2
theorem next_tuple_hot {it l x1 : Addr} {i : Nat} {items : Array Value} {Q : Option Value → Shared → Prop} (hot : HotAt A x1 s.heap) (ne : x1 ≠ it) (hit : s.heap.IsTupleIter it l i) (hl : s.heap.IsTuple l items) (hx : items[i]? = none)
    (hQ : ∀ h', (∀ b o, b ≠ it → s.heap.get? b = some o → h'.get? b = some o) → Q none { s with heap := h' }) : wpAny (model prog w) A (pyNext (.ref it)) Q E s := by
  obtain ⟨hh, o1, vs1, h1, d1, c1⟩ := hot
  obtain ⟨oi, gi, ci, di⟩ := id hit
  obtain ⟨ol, gl, _, nl, dl⟩ := hl
  unfold pyNext
  refine wpAny_bind (wpAny_attempt (wpAny_callSpecial?_slot (name := "__next__") hit.typeIs F.slot_tuple_iterator_next (wpAny_call_entry F.slot_tuple_iterator_next hit.typeIs F.entry_tuple_iterator_next ?_ (F.args_tuple_iterator_next_1 _))))
  refine wpAny_bind (m := field (.ref it) 0) (wpAny_field gi di (x := .ref l) rfl ?_)
  refine (if_neg (Bool.false_ne_true : ¬ ((Value.ref l == Value.none) = true))).symm ▸ ?_
  refine wpAny_bind (m := field (.ref it) 1) (wpAny_field gi di (x := .int i 0) rfl (wpAny_bind (m := seqItems? (.ref l)) (wpAny_seqItems gl dl ?_)))
  simp only [Int.toNat_natCast, hx]
  refine wpAny_bind (wpAny_rule (wpAny_bind (wpAny_setField gi di (by simp) (wpAny_bind (m := newExc (.type "StopIteration") []) ?_))))
  simp only [newExc, newTuple]
  refine wpAny_bind (wpAny_newObj_type (wpAny_bind (m := firstArgMember _ _) (wpAny_of_eq (a := Value.none) (by first | rfl | (simp only [firstArgMember]; rfl)) (wpAny_newObj_type ?_ (by size_fits)))) (by size_fits))
  have k0 : ∀ b o, b ≠ it → s.heap.get? b = some o → (s.heap.update it (Obj.mapFields (·.setIfInBounds 0 Value.none))).get? b = some o := fun b o n e => by
    rw [Heap.get?_update_other _ _ (Ne.symm n)]; exact e
  have u1 := Heap.get?_push_of_some { cls := .type "tuple", data := .seq #[] } (k0 _ _ ne h1)
  refine raiseNew_hot ⟨hh, o1, vs1, Heap.get?_push_of_some _ u1, d1, c1⟩ (Nat.ne_of_lt (Heap.lt_size u1)) (Heap.get?_push_size _ rfl) rfl (by first | (simp; done) | (simp; omega)) (wpAny_bind (wpAny_isInstance (T := "StopIteration") (b := true) ⟨_, Heap.get?_update_self _ (Heap.get?_push_size _ rfl) rfl, rfl⟩ isSubtype_stop (wpAny_pure (hQ _ fun b o n e => ?_))))
  have u2 := Heap.get?_push_of_some { cls := .type "tuple", data := .seq #[] } (k0 _ _ n e)
  rw [Heap.get?_update_other _ _ (Nat.ne_of_gt (Heap.lt_size u2))]; exact Heap.get?_push_of_some _ u2
end
/-! ### walks over lists and tuples there -/
section
variable {P : Program} {w : World} {K : PySem.W.Frag} {tg : Expr} (a it : Addr)
theorem turn_listH : L2H.TurnH P w K tg (Itl K a) [it] it (fun i h => h.IsListIter it a i) := by
  have T : Turn P w K tg (Itl K a) [it] it (fun i h => h.IsListIter it a i) := turn_list a it
  refine ⟨T.mem, T.obj, T.keep, ?_, ?_, T.self⟩
  · rintro X rfl rfl rfl - i pins s σ H E I hf st ⟨xs, x, hq, hx⟩
    obtain ⟨its, rv, pl, _⟩ := I.list hq
    obtain ⟨u, hu, ru⟩ := rv.get hx
    obtain ⟨g0, g1, g2, g3, g4, g5⟩ := hf it T.mem
    refine wpAny_pyNext_list_item st pl.isList (x := u) (by simpa using hu) fun h2 st2 sb => ⟨u, rfl, ?_⟩
    obtain ⟨o, eo, co, dd⟩ := id st2
    refine go_of (s := { s with heap := h2 }) eo co dd (by decide) ⟨x, H, I.turned (t' := s.toks) (fun b ob hb e => (sb.2 b hb).trans e) g0 g1 g3 g4 g5, ru, ⟨rfl, fun ys hy => ?_⟩, st2, fun b hb => (hf b hb).1⟩
    rw [I.list_inj hy hq, hx]
  · rintro X rfl rfl rfl hc i pins s σ H E I hf st ⟨xs, hq, hx⟩
    obtain ⟨its, rv, pl, _⟩ := I.list hq
    obtain ⟨g0, g1, g2, g3, g4, g5⟩ := hf it T.mem
    obtain ⟨p, ⟨hh, vs1, d1, c1⟩, hp⟩ := hc
    have P1 := I.pin p (List.mem_append_left _ hp)
    have hl := rv.length
    exact next_list_hot ⟨hh, p.2, vs1, P1.1, d1, c1⟩ (g5 p (List.mem_append_left _ hp)) st pl.isList (by simp; omega) fun h2 eb => ⟨rfl, I.turned (t' := s.toks) (fun b ob hb e => eb b ob hb e) g0 g1 g3 g4 g5⟩
theorem turn_tupleH : L2H.TurnH P w K tg (Itt K a) [it] it (fun i h => h.IsTupleIter it a i) := by
  have T : Turn P w K tg (Itt K a) [it] it (fun i h => h.IsTupleIter it a i) := turn_tuple a it
  refine ⟨T.mem, T.obj, T.keep, ?_, ?_, T.self⟩
  · rintro X rfl rfl rfl - i pins s σ H E I hf st ⟨xs, x, hq, hx⟩
    obtain ⟨its, rv, pl, _⟩ := I.tuple hq
    obtain ⟨u, hu, ru⟩ := rv.get hx
    obtain ⟨g0, g1, g2, g3, g4, g5⟩ := hf it T.mem
    refine wpAny_pyNext_tuple_item st (show s.heap.IsTuple a its.toArray from pl) (x := u) (by simpa using hu) fun h2 st2 sb => ⟨u, rfl, ?_⟩
    obtain ⟨o, eo, co, dd⟩ := id st2
    refine go_of (s := { s with heap := h2 }) eo co dd (by decide) ⟨x, H, I.turned (t' := s.toks) (fun b ob hb e => (sb.2 b hb).trans e) g0 g1 g3 g4 g5, ru, ⟨rfl, fun ys hy => ?_⟩, st2, fun b hb => (hf b hb).1⟩
    rw [I.tuple_inj hy hq, hx]
  · rintro X rfl rfl rfl hc i pins s σ H E I hf st ⟨xs, hq, hx⟩
    obtain ⟨its, rv, pl, _⟩ := I.tuple hq
    obtain ⟨g0, g1, g2, g3, g4, g5⟩ := hf it T.mem
    obtain ⟨p, ⟨hh, vs1, d1, c1⟩, hp⟩ := hc
    have P1 := I.pin p (List.mem_append_left _ hp)
    have hl := rv.length
    exact next_tuple_hot ⟨hh, p.2, vs1, P1.1, d1, c1⟩ (g5 p (List.mem_append_left _ hp)) st (show s.heap.IsTuple a its.toArray from pl) (by simp; omega) fun h2 eb => ⟨rfl, I.turned (t' := s.toks) (fun b ob hb e => eb b ob hb e) g0 g1 g3 g4 g5⟩
end
section
variable {X : Cx} {tg l : Expr} {tl : TE}
theorem pi_listH (hl : PE X l tl) : L2H.PIH X tg l (iList X.K tl) := by
  refine ⟨fun pins s σ H R I h => thn (hl.run pins s σ H _ I h) fun v s1 ⟨x, H1, I1, r1, a, ex, ⟨xs, hq⟩, q⟩ => ?_⟩
  subst ex; cases r1
  obtain ⟨its, rv, pl, _⟩ := I1.list hq
  refine wpAny_pyIter_list pl.isList ⟨s1.heap.objs.size, [s1.heap.objs.size], _, _, H1, rfl, I1.kept (t' := s1.toks) fun b o e => Heap.get?_push_of_some _ e, turn_listH a _, ⟨_, Heap.get?_push_size _ rfl, rfl, rfl⟩, fun b hb => ?_, q⟩
  rw [List.mem_singleton.mp hb]
  exact I1.fpOk (Nat.le_refl _) (I1.hok.fresh (Nat.le_refl _))
theorem pi_tupH (hl : PE X l tl) : L2H.PIH X tg l (iTup X.K tl) := by
  refine ⟨fun pins s σ H R I h => thn (hl.run pins s σ H _ I h) fun v s1 ⟨x, H1, I1, r1, a, ex, ⟨xs, hq⟩, q⟩ => ?_⟩
  subst ex; cases r1
  obtain ⟨its, rv, pl, _⟩ := I1.tuple hq
  refine wpAny_pyIter_tuple (show s1.heap.IsTuple a its.toArray from pl) ⟨s1.heap.objs.size, [s1.heap.objs.size], _, _, H1, rfl, I1.kept (t' := s1.toks) fun b o e => Heap.get?_push_of_some _ e, turn_tupleH a _, ⟨_, Heap.get?_push_size _ rfl, rfl, rfl⟩, fun b hb => ?_, q⟩
  rw [List.mem_singleton.mp hb]
  exact I1.fpOk (Nat.le_refl _) (I1.hok.fresh (Nat.le_refl _))
theorem PIH_or {w1 w2 : TI} (h1 : L2H.PIH X tg l w1) (h2 : L2H.PIH X tg l w2) : L2H.PIH X tg l (fun σ H R => w1 σ H R ∨ w2 σ H R) :=
  ⟨fun pins s σ H R I h => h.elim (h1.run pins s σ H R I) (h2.run pins s σ H R I)⟩
end
/-! ### list comprehensions there: the block keeps the error that is handled among its pins -/
abbrev blkH (X : Cx) (s : Shared) (H : Hp) (scope : Scope) (ce : Env) (fp : List Addr) (p : Addr × Obj) : Cx := { X.blk s H scope ce fp with pn := [p] }
section
variable {X : Cx} {pins : List (Addr × Obj)} {s : Shared} {σ : L2.St} {H : Hp} {Q : VK} {elt tg iter : Expr} {ifs : List Expr} {scope : Scope} {own : List (Str × Nat)} {pos pos2 : Pos} {wi : TI} {g : TG} {tt : TT} {te : TE}
theorem okH {s3 : Shared} {ce : Env} {fp : List Addr} {p : Addr × Obj} (nc : X.calm = false) (ok : (X.blk s3 H scope ce fp).Ok) : (blkH X s3 H scope ce fp p).Ok :=
  ⟨ok.mod, ok.kind, ok.glob, ok.blt, ok.above, ok.inj, ok.has, ok.cab, fun z => absurd (nc.symm.trans z) Bool.false_ne_true, ok.frames, ok.stk, ok.exf, ok.bs, ok.bsz, ok.noex, ok.exfs, ok.funs, ok.frf⟩
theorem comp_hot {Qf : Value → Shared → Prop} (nc : X.calm = false) {p : Addr × Obj} (hot : L2H.Hot1 X.A p) (hp : p ∈ X.pn) (hN : X.N.Nodup) (I : Inv X pins σ H s) (hi : L2H.PIH X tg iter wi) (ok : BlkOk X.N X.env.scope scope own)
    (hg : ∀ s H C cl fp, PG (blkH X s H scope (compEnvC scope cl C X.env) fp p) tg g) (ht : ∀ s H C cl fp, PTs (blkH X s H scope (compEnvC scope cl C X.env) fp p) ifs tt)
    (he : ∀ s H C cl fp, PE (blkH X s H scope (compEnvC scope cl C X.env) fp p) elt te) (hs : ∀ x, foldedSetIterable iter X.env x = pure x) (h : tLc wi g tt te (own.map (·.2)) σ H Q)
    (hR : ∀ D C s' m H', Inv X pins σ H' s' → Q (.ref D) H' → s'.heap.Ns C m → FpOk X pins H' C → compPost (model X.prog X.w) X.A X.xe none Qf (.ref D) C (.ok .next) s') :
    wpAny (model X.prog X.w) X.A (comprehension (.ListComp elt [⟨tg, iter, ifs, 0⟩] scope pos) scope X.env pos2 (newList []) false (eval iter X.env) none) Qf X.xe s := by
  have free : ∀ y ∈ scope.names, y.2 = .free → ∃ c, X.env.cells.lookup y.1 = some c := fun y hy e => I.ok.has _ (ok.free y hy e)
  refine wpAny_comprehension_free (use := none) rfl hs (closure_ok free) ok.kind (fun y hy e => (ok.uniq y hy).trans (congrArg some e)) (thn (hi.run pins s σ H _ I h) fun _ t1 hx => thn hx fun _ t2 ⟨it, fp, tn, J, H2, ei, I2, T, st2, f2, q⟩ => ?_)
  subst ei
  refine wpAny_newObj_type (newEnv_comp ?_) (Nat.zero_le _)
  have nD : H2 t2.heap.objs.size = none := I2.hok.fresh (Nat.le_refl _)
  obtain ⟨W, ⟨m0, w0⟩, turn⟩ := q _ nD
  generalize eD : t2.heap.objs.size = D at nD w0 turn ⊢
  generalize e3 : ({ t2 with heap := t2.heap.push { cls := .type "list", data := .seq ([] : List Value).toArray } } : Shared) = t3
  have hp3 : t3.heap = t2.heap.push { cls := .type "list", data := .seq ([] : List Value).toArray } := by rw [← e3]
  have I3 : Inv X pins σ (upd H2 D (.lst [])) t3 := by
    rw [← e3]
    exact I2.laid (t' := t2.toks) (fun b o e => Heap.get?_push_of_some _ e) (Nat.le_of_eq eD) ⟨Nat.zero_le _, [], 0, .nil, by rw [← eD]; exact Heap.get?_push_size _ rfl⟩
  have f3 : ∀ b ∈ fp, FpOk X pins (upd H2 D (.lst [])) b ∧ b < t3.heap.objs.size := fun b hb => by
    obtain ⟨o, eo, _⟩ := T.obj _ _ st2 b hb
    have lt : b < D := by rw [← eD]; exact Heap.lt_size eo
    exact ⟨⟨(upd_ne (Nat.ne_of_lt lt)).trans (f2 b hb).1, (f2 b hb).2⟩, by rw [hp3, Heap.size_push, eD]; exact Nat.lt_succ_of_lt lt⟩
  have I4 := block_start I3 ok hN f3
  have P3 := I3.pin p (List.mem_append_left _ hp)
  have pS : p.1 ∉ frs X.stack := fun hm => (List.mem_cons.mp (I3.stkSub p.1 hm)).elim P3.2.2.1 P3.2.2.2.1
  have pg := hg t3 (upd H2 D (.lst [])) t3.heap.objs.size (cellsFrom (t3.heap.objs.size + 1) scope.names (cloFrom X.env.cells scope.names [])) fp
  have pt := ht t3 (upd H2 D (.lst [])) t3.heap.objs.size (cellsFrom (t3.heap.objs.size + 1) scope.names (cloFrom X.env.cells scope.names [])) fp
  have pe := he t3 (upd H2 D (.lst [])) t3.heap.objs.size (cellsFrom (t3.heap.objs.size + 1) scope.names (cloFrom X.env.cells scope.names [])) fp
  show codeAny _ _ (.compStart _ 0 (.ref it) (.ref D) (compEnvC scope (cellsFrom (t3.heap.objs.size + 1) scope.names (cloFrom X.env.cells scope.names [])) t3.heap.objs.size X.env)) (compPost _ X.A X.xe none Qf (.ref D) t3.heap.objs.size) { t3 with heap := pushCells (t3.heap.push { cls := .type "dict", data := .dict #[] }) scope.names }
  have nfp : ∀ b ∈ fp, (upd H2 D (.lst [])) b = none := fun b hb => (f3 b hb).1.1
  generalize hce : compEnvC scope (cellsFrom (t3.heap.objs.size + 1) scope.names (cloFrom X.env.cells scope.names [])) t3.heap.objs.size X.env = ce at I4 pg pt pe ⊢
  have cL : ce.locals = t3.heap.objs.size := by rw [← hce]; rfl
  generalize hH3 : upd H2 D (.lst []) = H3 at I3 I4 P3 pg pt pe w0 nfp f3
  generalize hs4 : ({ t3 with heap := pushCells (t3.heap.push { cls := .type "dict", data := .dict #[] }) scope.names } : Shared) = t4 at I4 ⊢
  have k4 : ∀ b o, t3.heap.get? b = some o → t4.heap.get? b = some o := fun b o e => by rw [← hs4]; exact pushCells_keeps _ _ _ _ (Heap.get?_push_of_some _ e)
  have k3 : ∀ b o, t2.heap.get? b = some o → t4.heap.get? b = some o := fun b o e => k4 b o (by rw [hp3]; exact Heap.get?_push_of_some _ e)
  have st4 : tn 0 t4.heap := T.keep _ _ _ st2 fun b _ o e => k3 b o e
  have J4 : Inv (blkH X t3 H3 scope ce fp p) [] (wipe σ (own.map (·.2))) H3 t4 := ⟨okH nc I4.ok, I4.os, I4.bare, I4.base, I4.loc, I4.cell, I4.free, I4.freeC, fun r hr => by
    have er : r = p := by simpa using hr
    subst er
    exact ⟨k4 _ _ P3.1, P3.2.1, by rw [show (blkH X t3 H3 scope ce fp r).env.locals = t3.heap.objs.size from cL]; exact Nat.ne_of_lt (Heap.lt_size P3.1), pS, P3.2.2.2.2⟩, I4.hok, I4.len⟩
  have hc : L2H.HotC (blkH X t3 H3 scope ce fp p) := ⟨p, hot, List.mem_cons_self⟩
  have stat : ∀ {σ' : L2.St} {H' : Hp} {s' : Shared}, Inv (blkH X t3 H3 scope ce fp p) [] σ' H' s' → (∀ b ∈ fp, H' b = none) → ∀ b ∈ fp, FpOk (blkH X t3 H3 scope ce fp p) [] H' b := fun I' hn b hb =>
    ⟨hn b hb, (I'.ok.exf b hb).1, I'.ok.exfs b hb, .inl hb, (I'.ok.exf b hb).2, fun r hr => by
      have er : r = p := by simpa using hr
      rw [er]
      exact (f2 b hb).2.2.2.2.2 p (List.mem_append_left _ hp)⟩
  have loop : codeAny (model X.prog X.w) X.A (.compLoop (.ListComp elt [⟨tg, iter, ifs, 0⟩] scope pos) 0 (.ref it) (.ref D) ce) (compPost (model X.prog X.w) X.A X.xe none Qf (.ref D) t3.heap.objs.size) t4 := by
    refine compLoop_any (fun n s' => ∃ i H', Inv (blkH X t3 H3 scope ce fp p) [] (wipe σ (own.map (·.2))) H' s' ∧ tn i s'.heap ∧ (∀ b ∈ fp, H' b = none) ∧ W i n H') (fun n t5 ⟨i, H5, I5, st5, n5, w5⟩ => ?_) m0 ⟨0, H3, J4, st4, nfp, w0⟩
    rcases turn i n H5 w5 with ⟨stop, qq⟩ | ⟨go, Nx, hNx, step⟩
    · refine thnF (T.done (blkH X t3 H3 scope ce fp p) rfl rfl rfl hc i [] t5 _ H5 (fun _ _ => False) I5 (stat I5 n5) st5 stop) fun r t6 ⟨er, I6⟩ => ?_
      subst er
      have I7 : Inv X pins σ H5 t6 := I3.call' (ch := fp) I6.os I6.base I6.hok I6.bare fun b hb => ⟨(f3 b hb).1.2.2.2.1, (f3 b hb).1.2.1, (f3 b hb).1.2.2.2.2.1, (f3 b hb).1.2.2.2.2.2⟩
      have nC : H5 t3.heap.objs.size = none := cL ▸ (I6.free : H5 ce.locals = none)
      obtain ⟨m, hn, _⟩ := I6.loc
      exact hR D _ t6 m H5 I7 qq (cL ▸ (hn : t6.heap.Ns ce.locals m)) (I3.fpOk (Nat.le_refl _) nC)
    · refine thnF (T.item (blkH X t3 H3 scope ce fp p) rfl rfl rfl hc i [] t5 _ H5 (fun _ _ => False) I5 (stat I5 n5) st5 go) fun r t6 ⟨u, er, h6⟩ => ?_
      subst er
      refine thnF h6 fun _ t7 ⟨x, H7, I7, r7, y7, st7, n7⟩ => thnF (pg.run _ t7 _ H7 x u _ (I7.pinned (stat I7 n7) (T.obj _ _ st7)) r7 (step x H7 y7)) fun _ t8 ⟨σ8, H8, I8, hw8, q8⟩ => thnF (pt.run _ t8 σ8 H8 _ I8 q8) fun b t9 ⟨H9, I9, q9⟩ => ?_
      have back : ∀ {s' : Shared} {H' : Hp}, Inv (blkH X t3 H3 scope ce fp p) ([] ++ pinsAt fp t7.heap) σ8 H' s' → Nx H' → ∃ m, m < n ∧ ∃ i H', Inv (blkH X t3 H3 scope ce fp p) [] (wipe σ (own.map (·.2))) H' s' ∧ tn i s'.heap ∧ (∀ b ∈ fp, H' b = none) ∧ W i m H' := fun {s' H'} I' nx => by
        obtain ⟨m', lt, w'⟩ := hNx H' nx
        have at_ : ∀ b ∈ fp, ∀ o, t7.heap.get? b = some o → s'.heap.get? b = some o ∧ H' b = none := fun b hb o e => ⟨(I'.pin (b, o) (.tail _ (mem_pinsAt hb e))).1, (I'.pin (b, o) (.tail _ (mem_pinsAt hb e))).2.1⟩
        refine ⟨m', lt, i + 1, H', (I'.unpinned (pins := [])).weak (by rw [← hw8, wipe_length]) (fun j v e => (wipe_some (hw8 ▸ e)).1), T.keep _ _ _ st7 fun b hb o e => (at_ b hb o e).1, fun b hb => ?_, w'⟩
        exact let ⟨o, e, _⟩ := T.obj _ _ st7 b hb; (at_ b hb o e).2
      cases b with
      | false => exact back I9 q9
      | true => exact thnF (pe.run _ t9 σ8 H9 _ I9 q9) fun z t10 ⟨yv, H10, I10, r10, acc, d10, z10, nx⟩ => app_ok (X := blkH X t3 H3 scope ce fp p) I10 d10 z10 r10 fun t11 I11 => back I11 nx
  exact codeAny_compStart_list loop (T.self X.A 0 _ _ _ st4 loop)
theorem pe_lcH (nc : X.calm = false) {p : Addr × Obj} (hot : L2H.Hot1 X.A p) (hp : p ∈ X.pn) (hN : X.N.Nodup) (hi : L2H.PIH X tg iter wi) (ok : BlkOk X.N X.env.scope scope own)
    (hg : ∀ s H C cl fp, PG (blkH X s H scope (compEnvC scope cl C X.env) fp p) tg g) (ht : ∀ s H C cl fp, PTs (blkH X s H scope (compEnvC scope cl C X.env) fp p) ifs tt)
    (he : ∀ s H C cl fp, PE (blkH X s H scope (compEnvC scope cl C X.env) fp p) elt te) (hs : ∀ x, foldedSetIterable iter X.env x = pure x := by intro _; rfl) : PE X (.ListComp elt [⟨tg, iter, ifs, 0⟩] scope pos) (tLc wi g tt te (own.map (·.2))) := by
  refine ⟨fun pins s σ H Q I h => ?_⟩
  rw [eval_ListComp]
  exact comp_hot nc hot hp hN I hi ok hg ht he hs h fun D C s2 m H2 I2 q hn f => ⟨m, hn, fun h2 sb => ⟨.ref D, H2, I2.turned (t' := s2.toks) (fun b o hb e => (sb.2 b hb).trans e) f.1 f.2.1 f.2.2.2.1 f.2.2.2.2.1 f.2.2.2.2.2, rfl, q⟩⟩
end
/-! ### errors raised where nothing is handled, their context None -/
section
variable {X : Cx} {x f : Str} {C fI : Addr} {fd : FuncData} {k : Nat} {e : Expr} {ta : TA} {p pos : Pos}
theorem pmk_errN (T : ErrC X.K X.mg x f C fI fd) (F1 : FnOk X.prog X.w X.K X.mg X.base CX0 k fI fd ["self", f] (spKeep f C)) (hr : Room (k + 1) X.A) (ha : PA X [e] ta) (hg : Gl X x := by rfl) (hdb : (x == ("__debug__" : Str)) = false := by decide)
    (he : starEach [e] X.env = (false, eval e X.env) :: starEach [] X.env := by rfl) (hpl : (backTo pos (starEach [] X.env)).any (·.1) = false := by rfl) : L2N.PMk X (.Call (.Name x p) [e] [] pos) (tMkO C (spKeep f C) [] ta) := by
  intro pins s σ H Q I h
  obtain ⟨nm, q, N, bs, bm, sn, sub, ab, col, dd, k0, k1, k2, k3, k5, lkC, vbm⟩ := T.ox.cls
  refine wpAny_Call_Name_kw (ld_glob I hg T.g (PySem.W.callWith_K (h₀ := X.base) I.ok.mod.kin T.ox.kC (thn (ha.run pos pins s σ H _ I h) fun us s1 ⟨vs, H1, I1, r1, lv, q1⟩ => ⟨I1.kIn, ?_⟩) he hpl) hdb)
  obtain ⟨hp, g, dr, tk, os⟩ := s1
  generalize ea : hp.objs.size + 1 = a
  have ge : hp.objs.size ≤ a := by omega
  have hq := q1 a (I1.hok.fresh ge)
  have kk : ∀ b o, hp.get? b = some o → ((hp.push (PySem.W.kdv_tup us)).push (PySem.HandSPX.excO C hp.objs.size)).get? b = some o := fun b o z => Heap.get?_push_of_some _ (Heap.get?_push_of_some _ z)
  have ga : ((hp.push (PySem.W.kdv_tup us)).push (PySem.HandSPX.excO C hp.objs.size)).get? a = some (PySem.HandSPX.excO C hp.objs.size) := by rw [← ea]; heap_get
  have I2 : Inv X pins σ (upd H1 a (exo a C none)) ⟨(hp.push (PySem.W.kdv_tup us)).push (PySem.HandSPX.excO C hp.objs.size), g, dr, tk, os⟩ := I1.laid (t' := tk) (o := exo a C none) kk ge (exo_ok ga)
  have r2 : Vals (V.ref a :: (vs ++ [])) (Value.ref a :: (us ++ [])) := .cons rfl (r1.append .nil)
  have lu : us.length ≤ sizeLine := by
    have := Paired.length r1; have : (1000 : Nat) ≤ sizeLine := by decide
    omega
  have ll : (Value.ref a :: us ++ []).length = (["self", f] : List Str).length := (r2.length).symm.trans (F1.len _ _ _ _ hq)
  have bb := T.b ⟨(hp.push (PySem.W.kdv_tup us)).push (PySem.HandSPX.excO C hp.objs.size), g, dr, tk, os⟩ (Value.ref a :: us) I2.kIn ll
  subst ea
  refine wpAny_call (PySem.HandSPX.call_own F.excBase_ValueError (fun Y => PySem.HandSPX.refsVE_contains Y bm vbm) (I1.kIn _ _ lkC) (PySem.W.looks_findIn I1.kIn T.iC) (fun self => PySem.W.bind_fn I1.kIn self T.tI) lu
    (codeAny_mono (F1.run _ X.stack _ _ ⟨Value.ref _ :: us, []⟩ _ _ _ (fun _ _ _ => False) (hr.make C us []) (I2.env0.make C us []) bb r2 hq) fun r s2 z => ?_))
  match r, z with
  | .error _, z => exact False.elim z
  | .ok .next, z => exact False.elim z
  | .ok .brk, z => exact False.elim z
  | .ok .cont, z => exact False.elim z
  | .ok (.ret u), ⟨v, H2, os2, bare2, un2, hok2, rv, ev, d, fs, e1, e2, e3, q2⟩ =>
    subst ev
    obtain ⟨h2, g2, d2, t2, os3⟩ := s2
    obtain ⟨t0, G, J, kG, gn, go, na⟩ := mk_end0 (d2 := d2) (t2 := t2) I1 ge kk un2 hok2 os2 bare2 e1 e2 e3
    exact ⟨rv, _, _, _, ⟨G, g2, d2, t2, os3⟩, _, .ref C, some d, rfl, J, kG, gn, go, ⟨rfl, rfl, fun vs z => by cases z; rfl⟩, rfl, rfl, na, rfl, bare2, raises_own T.ox.exC T.ox.tyC, q2⟩
/-- a def that may raise so -/
theorem Fun.okN {P : Program} {w : World} {K : PySem.W.Frag} {mg : Str → Option Value} {base : Heap} {x qual : Str} {st : Stmt} {f : Addr} {fd : FuncData} {N ps : List Str} {k : Nat} {sp : Sp} (F : Fun K x qual st f fd) (S : FnScope N ps (defScope st))
    (len : ∀ vs H Q E, sp vs H Q E → vs.length = ps.length) (body : ∀ (cdv : Value) (A : Around) (outer : List Env) (s : Shared) (H : Hp) (vs : List V) (Q : VK) (E : XK), Room k (A.deeper (envOfC qual (defScope st) s.heap.objs.size f cdv)) → sp vs H Q E →
      ∃ t, PSs (cxOf (L2N.CX P w) P w K mg base N qual (defScope st) f cdv A outer s H E) (defBody st) t ∧ t { nx := fun _ H' => Q .non H', rt := Q } (start N vs) H) : FnOk P w K mg base (L2N.CX P w) (k + 1) f fd ps sp := by
  obtain ⟨oc, od, kV, doc, pm, an, cdv, ct, osl, rfl, lk, hcd⟩ := F.ex
  exact fn_of lk hcd S len fun A outer s H vs Q E hr z => body cdv A outer s H vs Q E hr z
/-- a def called while an error is handled -/
theorem Fun.okH {P : Program} {w : World} {K : PySem.W.Frag} {mg : Str → Option Value} {base : Heap} {x qual : Str} {st : Stmt} {f : Addr} {fd : FuncData} {N ps : List Str} {k : Nat} {sp : Sp} (F : Fun K x qual st f fd) (S : FnScope N ps (defScope st))
    (len : ∀ vs H Q E, sp vs H Q E → vs.length = ps.length) (body : ∀ (cdv : Value) (A : Around) (outer : List Env) (s : Shared) (H : Hp) (vs : List V) (Q : VK) (E : XK) (p : Addr × Obj), L2H.Hot1 A p → L2H.RoomH k (A.deeper (envOfC qual (defScope st) s.heap.objs.size f cdv)) → sp vs H Q E →
      ∃ t, PSs (L2H.cxH CX0 P w K mg base N qual (defScope st) f cdv A outer s H E p).nox (defBody st) t ∧ t { nx := fun _ H' => Q .non H', rt := Q } (start N vs) H) : L2H.FnH P w K mg base CX0 (k + 1) f fd ps sp := by
  obtain ⟨oc, od, kV, doc, pm, an, cdv, ct, osl, rfl, lk, hcd⟩ := F.ex
  refine L2H.fn_ofH lk hcd S len fun A outer s H vs Q E p hot hr z => ?_
  obtain ⟨t, h1, h2⟩ := body cdv A outer s H vs Q E p hot hr z
  exact ⟨t, h1.nox, h2⟩
end
section
variable {X : Cx} {x n : Str} {c : Value} {i : Nat} {body suite : List Stmt} {hds : List ExceptHandler} {b₀ : Stmt} {np pos pos' : Pos} {tb : WX → TS} {ts : Addr → Value → Option Addr → TS} {pins : List (Addr × Obj)}
theorem ps_try_hitN (st : X.stack = X.env :: X.outer) (fr : X.env.frame = some X.env.locals) (ndN : X.N.Nodup) (ni : X.N[i]? = some n) (nl : X.env.kindOf n = some .local) (nc : Names X x c)
    (hB : ∀ (W : WX) (ps : List (Addr × Obj)) (xe : Value → Shared → Prop), L2N.Takes (X.tr ps xe) W → PassesOwn (model X.prog X.w) X.A X.env xe → PSs (X.tr ps xe) body (tb W))
    (hS : ∀ (a : Addr) (o : Obj) (cls : Value) (d : Option Addr) (ps : List (Addr × Obj)), L2N.Zn cls d o → (∃ vs, o.data = .fields vs) → PSs (X.suite a ((a, o) :: ps)) (b₀ :: suite) (ts a cls d)) :
    PS X (.Try body (.ExceptHandler (some (.Name x np)) (some n) (b₀ :: suite) pos' :: hds) [] [] pos) (fun D σ H => tb (wHit X.K c i ts D) D σ H) := by
  refine ⟨fun pins s σ H D I h => wpAny_Try_except ?_⟩
  have fr2 : X.A.frames = some (X.env :: X.outer) := I.ok.frames.trans (congrArg some st)
  refine wpAny_mono ((hB _ (X.pn ++ pins) (fun e s₁ => wpAny (model X.prog X.w) X.A (noteFrame e X.env) (fun _ s₂ => wpAny (model X.prog X.w) X.A (setFlight e none) (fun _ s₃ => wpAny (model X.prog X.w) X.A
    (handleBy e X.env (.ExceptHandler (some (.Name x np)) (some n) (b₀ :: suite) pos' :: hds)) (SP X pins D) X.xe s₃) X.xe s₂) X.xe s₁) (fun u t xx => ?_) PassesOwn.looking).run [] s σ H D (I.toTry _) h) (fun f t q => ?_) (fun _ _ z => z)
  case refine_2 =>
    have q' := flow_out (pins := pins) I.ok q
    cases f with
    | next => exact wpAny_execs_nil q'
    | _ => exact q'
  obtain ⟨a, B, t0, ps, σ1, H1, cls, d, eu, J0, nB, u1, sk, na, eo, bare, hit, go⟩ := xx
  subst eu
  have J := J0.ofTry I.ok
  rw [show (X.tr (X.pn ++ pins) _).stack = X.env :: X.outer from st] at sk
  refine L2N.Sky.land L2N.Zn.steady fr2 fr sk fun h3 f3 u3 => ?_
  have J3 : Inv X pins σ1 H1 { t with heap := h3 } := J.landed nB f3.1 (u1.trans u3) eo bare
  obtain ⟨o3, v3, g3, z3, d3⟩ := f3.there
  have out := no_frame f3.2.2.1 g3 d3
  have aL : a ≠ X.env.locals := fun e => out (List.mem_filterMap.mpr ⟨X.env, .head _, by rw [e]; exact fr⟩)
  have aF : a ∉ X.fs := fun m => out (by rw [show frs (X.env :: X.outer) = X.env.locals :: frs X.outer from List.filterMap_cons_some fr]; exact .tail _ m)
  refine wpAny_handleBy_cons (codeAny_handlers_test (names_it nc (J3.suite g3 d3 na aL aF) ?_)) (by intro z; cases z)
  refine (PySem.W.exm_one (M := model X.prog X.w) J3.kIn (fun _ _ _ _ k z => wpAny_typeOf_ref (k _ _ g3) (by rw [z3.1]; exact z)) hit).here ?_
  refine codeAny_handlers_suite_as (HandSPX.lands_againZ f3 fun h4 f4 u4 => ?_)
  have J4 : Inv X pins σ1 H1 { t with heap := h4 } := J.landed nB f4.1 ((u1.trans u3).trans u4) eo bare
  obtain ⟨o4, v4, g4, z4, d4⟩ := f4.there
  refine store_ok (X := Cx.suite X a ((a, o4) :: (X.pn ++ pins))) (v := .ref a) (J4.suite g4 d4 na aL aF) ndN ni (.inl nl) rfl (fun t5 S5 => ?_) (.inr nl)
  refine wpAny_mono ((hS a o4 cls d (X.pn ++ pins) z4 ⟨_, d4⟩).run [] t5 _ H1 _ S5 (go a na)) (fun f t6 q => ?_) (fun _ _ z => z.elim)
  cases f with
  | ret u => exact let ⟨v6, σ6, H6, S6, r6, q6⟩ := q; gone_ok (S6.unsuite I.ok) ndN ni nl fun t7 J7 => ⟨v6, _, H6, J7, r6, q6⟩
  | next => exact let ⟨σ6, H6, S6, q6⟩ := q; gone_ok (S6.unsuite I.ok) ndN ni nl fun t7 J7 => ⟨_, H6, J7, q6⟩
  | brk => exact let ⟨σ6, H6, S6, q6⟩ := q; gone_ok (S6.unsuite I.ok) ndN ni nl fun t7 J7 => ⟨_, H6, J7, q6⟩
  | cont => exact let ⟨σ6, H6, S6, q6⟩ := q; gone_ok (S6.unsuite I.ok) ndN ni nl fun t7 J7 => ⟨_, H6, J7, q6⟩
/-- the suite's context bears the error -/
theorem hot_suite {a : Addr} {o : Obj} {cls : Value} {d : Option Addr} {ps : List (Addr × Obj)} (z : L2N.Zn cls d o) (h : ∃ vs, o.data = .fields vs) : L2H.HotC (X.suite a ((a, o) :: ps)) :=
  let ⟨vs, e⟩ := h
  ⟨(a, o), ⟨rfl, vs, e, z.2.2 vs e⟩, List.mem_cons_self⟩
theorem passN : Passes (L2N.CX X.prog X.w) X E0 := fun _ _ _ _ _ _ _ h => let ⟨_, _, _, _, _, _, _, _, _, _, _, _, z⟩ := h; z.elim
/-- nothing leaves a suite -/
theorem pass_at0 {σ : L2.St} : PassesAt CX0 X σ (fun _ _ _ => False) := fun _ _ _ _ _ _ h => h.elim
end
theorem unitsH {k : Nat} {A : Around} (r : L2H.RoomH k A) : A.units + 64 < cLine := by
  have := r.un
  omega
end RK

namespace RK
open PySem PySem.Spec PyProof.Rows L2 PySem.Builtin.Str
/-! ### {n:04x} of a word -/
def hx (k : Nat) : Nat := if k < 10 then 48 + k else 87 + k
def hexd (n : Nat) : List Nat := [hx (n / 4096), hx (n / 256 % 16), hx (n / 16 % 16), hx (n % 16)]
theorem hx_char : ∀ k : _root_.Fin 16, (Nat.digitChar k.val).toNat = hx k.val := by decide +kernel
theorem tod16 {n : Nat} (h : n < 65536) : (Nat.toDigits 16 n).length ≤ 4 ∧ List.replicate (4 - (Nat.toDigits 16 n).length) 48 ++ (Nat.toDigits 16 n).map Char.toNat = hexd n := by
  have hc : ∀ k, k < 16 → (Nat.digitChar k).toNat = hx k := fun k hk => hx_char ⟨k, hk⟩
  have z : hx 0 = 48 := rfl
  have base : ∀ k, k < 16 → Nat.toDigits 16 k = [Nat.digitChar k] := fun k hk => Nat.toDigits_of_lt_base hk
  have step : ∀ k, 16 ≤ k → Nat.toDigits 16 k = Nat.toDigits 16 (k / 16) ++ [Nat.digitChar (k % 16)] := fun k hk => Nat.toDigits_of_base_le (by decide) hk
  unfold hexd
  by_cases h1 : n < 16
  · rw [base n h1, show n / 4096 = 0 by omega, show n / 256 % 16 = 0 by omega, show n / 16 % 16 = 0 by omega, show n % 16 = n by omega]
    refine ⟨show 1 ≤ 4 by decide, ?_⟩
    show List.replicate 3 48 ++ [(Nat.digitChar n).toNat] = _
    rw [hc n h1]
    rfl
  rw [step n (by omega)]
  by_cases h2 : n / 16 < 16
  · rw [base (n / 16) h2, show n / 4096 = 0 by omega, show n / 256 % 16 = 0 by omega, show n / 16 % 16 = n / 16 by omega]
    refine ⟨show 2 ≤ 4 by decide, ?_⟩
    show List.replicate 2 48 ++ [(Nat.digitChar (n / 16)).toNat, (Nat.digitChar (n % 16)).toNat] = _
    rw [hc _ h2, hc _ (Nat.mod_lt _ (by decide))]
    rfl
  rw [step (n / 16) (by omega)]
  by_cases h3 : n / 16 / 16 < 16
  · rw [base (n / 16 / 16) h3, show n / 4096 = 0 by omega, show n / 256 % 16 = n / 16 / 16 by omega]
    refine ⟨show 3 ≤ 4 by decide, ?_⟩
    show List.replicate 1 48 ++ [(Nat.digitChar (n / 16 / 16)).toNat, (Nat.digitChar (n / 16 % 16)).toNat, (Nat.digitChar (n % 16)).toNat] = _
    rw [hc _ h3, hc _ (Nat.mod_lt _ (by decide)), hc _ (Nat.mod_lt _ (by decide))]
    rfl
  rw [step (n / 16 / 16) (by omega), base (n / 16 / 16 / 16) (by omega), show n / 4096 = n / 16 / 16 / 16 by omega, show n / 256 = n / 16 / 16 by omega]
  refine ⟨show 4 ≤ 4 by decide, ?_⟩
  show List.replicate 0 48 ++ [(Nat.digitChar (n / 16 / 16 / 16)).toNat, (Nat.digitChar (n / 16 / 16 % 16)).toNat, (Nat.digitChar (n / 16 % 16)).toNat, (Nat.digitChar (n % 16)).toNat] = _
  rw [hc _ (by omega), hc _ (Nat.mod_lt _ (by decide)), hc _ (Nat.mod_lt _ (by decide)), hc _ (Nat.mod_lt _ (by decide))]
  rfl
section
variable {X : Cx}
open Builtin PySem.W Builtin.Float
abbrev sp4 : Str := ⟨#[48, 52, 120]⟩
theorem ret_text2 {M : Model} {A : Around} {E : Value → Shared → Prop} {s : Shared} {X T : PySem.Str} {Q : Fin → Shared → Prop} (e : X = T) (hL : T.length ≤ sizeLine) (h : ∀ t k, Q (.done (.ret (.str T t))) { s with toks := k }) : wpAny M A (retStr X) Q E s := by
  subst e
  exact KXf.ret_text rfl hL h
def f4 : Builtin.Float.FormatSpec := { fill := 48, align := 61, width := some 4, type := some 120 }
theorem fmt4_meets {n : Nat} (h : n < 65536) (t u : Tok) : Meets («int.__format__» ⟨[.int (n : Int) t, .str sp4 u], []⟩) (fun _ R s => ∀ t' k, R (.ok (.ret (.str (sO (hexd n)) t'))) { s with toks := k }) := by
  apply KPc.meets_of
  intro prog w A s Q E hq
  unfold Builtin.«int.__format__»
  refine wpAny_bind (wpAny_of_eq (a := (_, _)) rfl ?_)
  refine wpAny_bind (wpAny_of_eq (a := _) rfl ?_)
  refine wpAny_ite (KPc.ite_no Bool.false_ne_true ?_)
  refine wpAny_bind (wpAny_typeNameOf (T := "str") (typeIs_str _ _ _) (by decide) fun _ => ?_)
  refine wpAny_bind (wpAny_of_eq (a := some _) rfl ?_)
  refine wpAny_ite (KPc.ite_no (by decide) ?_)
  refine wpAny_ite (KPc.ite_no (by decide) ?_)
  refine wpAny_bind (wpAny_typeNameOfCut_int ?_)
  have hp : parseFormatSpec sp4.cps.toList "int" 62 = .ok f4 := rfl
  have hty : f4.type.getD (if (sp4.cps.back? == some 0) = true then 0 else 100) = 120 := rfl
  have h1 : f4.precision = none := rfl
  have h2 : f4.noNeg0 = false := rfl
  have h3 : f4.alt = false := rfl
  have h4 : f4.width = some 4 := rfl
  have h5 : f4.grouping = none := rfl
  have h6 : f4.sign = none := rfl
  have h7 : f4.fill = 48 := rfl
  have h8 : f4.align = 61 := rfl
  obtain ⟨f, hf⟩ : ∃ f, f = f4 := ⟨_, rfl⟩
  rw [← hf] at hp hty h1 h2 h3 h4
  simp only [hp, hty]
  rw [if_pos (by decide)]
  show wpAny _ _ (if _ then _ else _) _ _ _
  rw [if_neg (by simp [h1])]
  show wpAny _ _ (if _ then _ else _) _ _ _
  rw [if_neg (by simp [h2])]
  show wpAny _ _ (if _ then _ else _) _ _ _
  rw [if_neg (by decide)]
  show wpAny _ _ (if _ then _ else _) _ _ _
  rw [if_neg (by decide)]
  show wpAny _ _ (if _ then _ else _) _ _ _
  rw [if_neg (by simp [h4])]
  refine ret_text2 (T := sO (hexd n)) ?_ ?_ hq
  case refine_1 =>
    obtain ⟨hl, ht⟩ := tod16 h
    simp only [h3, Bool.false_eq_true, if_false, Int.natAbs_natCast, decide_eq_false (by omega : ¬ (n : Int) < 0), show ((120 : Nat) == 88) = false by decide, show ((16 : Nat) == 10) = false by decide]
    generalize Nat.toDigits 16 n = ds at hl ht
    subst hf
    conv => lhs; whnf
    simp only [h4, h5, h6, h7, h8, List.length_nil, Bool.false_eq_true, if_false, beq_self_eq_true, Bool.and_self, if_true]
    have e4 : ((4 : Nat) : Int) - (((0 : Nat) : Int) + ((0 : Nat) : Int) + ((0 : Nat) : Int)) = 4 := by decide
    rw [e4]
    clear h1 h2 h3 h4 h5 h6 h7 h8 hty hp hq
    cases ds with
    | nil =>
      show _ = sO (hexd n)
      rw [← ht]
      rfl
    | cons c r =>
      have hm : ((c :: r).map Char.toNat).length = (c :: r).length := List.length_map ..
      show (⟨(([] ++ [] ++ [] ++ List.replicate (4 - ((List.replicate (4 - ((c :: r).map Char.toNat).length) 48 ++ (c :: r).map Char.toNat).length : Int)).toNat 48 ++ (List.replicate (4 - ((c :: r).map Char.toNat).length) 48 ++ (c :: r).map Char.toNat)) ++ [] ++ []).toArray⟩ : Str) = _
      rw [hm, ht]
      rfl
  case refine_2 => exact Nat.le_trans (show 4 ≤ 100 by decide) (by decide)
/-- {e:04x} of a word -/
def tF4 (te : TE) : TE := fun σ H Q => te σ H fun x H1 => ∃ n : Nat, x = .int (n : Int) ∧ n < 65536 ∧ Q (.str (sO (hexd n))) H1
theorem pe_fmt4 {e spec : Expr} {te : TE} {pos : Pos} (he : PE X e te) (hs : PE X spec (tC (.str (Str.ofString "04x")))) : PE X (.FormattedValue e (-1) (some spec) pos) (tF4 te) := by
  refine ⟨fun pins s σ H Q I h => ?_⟩
  refine wpAny_FormattedValue_spec (thn (he.run pins s σ H _ I h) fun v s1 ⟨x, H1, I1, r1, q⟩ => ?_)
  obtain ⟨n, rfl, hn, q⟩ := q
  obtain ⟨t, rfl⟩ := r1
  refine thn (hs.run pins s1 σ H1 (fun x H2 => x = .str (Str.ofString "04x") ∧ Q (.str (sO (hexd n))) H2) I1 ⟨rfl, q⟩) fun u s2 ⟨y, H2, I2, r2, ey, q2⟩ => ?_
  subst ey
  obtain ⟨t2, rfl⟩ := r2
  refine ⟨_, _, rfl, KXf.field_int (spec' := sp4) (by decide +kernel) rfl (by decide) (fun u => fmt4_meets hn _ u) fun t' k => ⟨.str _, H2, I2.tok _, ⟨_, rfl⟩, q2⟩⟩
end
/-! digits -/
abbrev HXD : List Nat := (Str.ofString "0123456789abcdef").cps.toList
/-- a digit's value -/
def dv (c : Nat) : Nat := if c ≤ 57 then c - 48 else c - 87
theorem HXD_eq : HXD = (List.range 16).map hx := by decide +kernel
theorem hx_mem {k : Nat} (h : k < 16) : hx k ∈ HXD := by
  rw [HXD_eq]
  exact List.mem_map.mpr ⟨k, List.mem_range.mpr h, rfl⟩
theorem hxd_of {c : Nat} (h : c ∈ HXD) : ∃ k, k < 16 ∧ c = hx k := by
  rw [HXD_eq] at h
  obtain ⟨k, h1, h2⟩ := List.mem_map.mp h
  exact ⟨k, List.mem_range.mp h1, h2.symm⟩
theorem hx_dv : ∀ k : _root_.Fin 16, dv (hx k.val) = k.val := by decide +kernel
theorem hx_find : ∀ k : _root_.Fin 16, Txt.find (Str.ofString "0123456789abcdef") (sO [hx k.val]) = (k.val : Int) := by decide +kernel
theorem hx_occ : ∀ k : _root_.Fin 16, occurrences (Str.ofString "0123456789abcdef") (sO [hx k.val]) 0 (Str.ofString "0123456789abcdef").length 1 = [k.val] := by decide +kernel
theorem hx_at : ∀ k : _root_.Fin 16, (Str.ofString "0123456789abcdef").cps.toList[k.val]? = some (hx k.val) := by decide +kernel
theorem find_dv {c : Nat} (h : c ∈ HXD) : Txt.find (Str.ofString "0123456789abcdef") (sO [c]) = (dv c : Int) := by
  obtain ⟨k, hk, rfl⟩ := hxd_of h
  rw [hx_find ⟨k, hk⟩, hx_dv ⟨k, hk⟩]
theorem occ_dv {c : Nat} (h : c ∈ HXD) : occurrences (Str.ofString "0123456789abcdef") (sO [c]) 0 (Str.ofString "0123456789abcdef").length 1 = [dv c] := by
  obtain ⟨k, hk, rfl⟩ := hxd_of h
  rw [hx_occ ⟨k, hk⟩, hx_dv ⟨k, hk⟩]
/-- the first place that is no digit | the length, if it is no multiple of four -/
def fbad (l : List Nat) : Option Nat := match l.findIdx? (fun c => !decide (c ∈ HXD)) with
  | some i => some i
  | none => if l.length % 4 = 0 then none else some l.length
theorem fbad_at {l : List Nat} {i : Nat} (hi : i < l.length) (h : l.getD i 0 ∉ HXD) (hp : ∀ j, j < i → l.getD j 0 ∈ HXD) : fbad l = some i := by
  have e : l.findIdx? (fun c => !decide (c ∈ HXD)) = some i := by
    rw [List.findIdx?_eq_some_iff_getElem]
    refine ⟨hi, ?_, fun j hj => ?_⟩
    · rw [List.getD_eq_getElem?_getD, List.getElem?_eq_getElem hi] at h
      have h2 : l[i] ∉ HXD := h
      rw [decide_eq_false h2]
      rfl
    · have := hp j hj
      rw [List.getD_eq_getElem?_getD, List.getElem?_eq_getElem (by omega)] at this
      have h2 : l[j] ∈ HXD := this
      rw [decide_eq_true h2]
      decide
  unfold fbad
  rw [e]
theorem fbad_all {l : List Nat} (h : ∀ j, j < l.length → l.getD j 0 ∈ HXD) : fbad l = if l.length % 4 = 0 then none else some l.length := by
  have e : l.findIdx? (fun c => !decide (c ∈ HXD)) = none := by
    rw [List.findIdx?_eq_none_iff]
    intro c hc
    obtain ⟨j, hj, rfl⟩ := List.mem_iff_getElem.mp hc
    have := h j hj
    rw [List.getD_eq_getElem?_getD, List.getElem?_eq_getElem hj] at this
    have h2 : l[j] ∈ HXD := this
    rw [decide_eq_true h2]
    rfl
  unfold fbad
  rw [e]
theorem fbad_none {l : List Nat} (h : fbad l = none) : (∀ c ∈ l, c ∈ HXD) ∧ l.length % 4 = 0 := by
  unfold fbad at h
  cases e : l.findIdx? (fun c => !decide (c ∈ HXD)) with
  | some i => rw [e] at h; cases h
  | none =>
    rw [e] at h
    have h2 : (if l.length % 4 = 0 then none else some l.length) = none := h
    refine ⟨fun c hc => ?_, ?_⟩
    · have := List.findIdx?_eq_none_iff.mp e c hc
      apply Decidable.byContradiction
      intro z
      rw [decide_eq_false z] at this
      cases this
    · apply Decidable.byContradiction
      intro z
      rw [if_neg z] at h2
      cases h2
def val4 (l : List Nat) : Nat := l.foldl (fun a c => a * 16 + dv c) 0
theorem val4_app (l : List Nat) (c : Nat) : val4 (l ++ [c]) = val4 l * 16 + dv c := by
  unfold val4
  rw [List.foldl_append]
  rfl
/-- the words of a text of digits -/
def rdw (l : List Nat) : List Nat := (List.range (l.length / 4)).map fun k => val4 ((l.drop (4 * k)).take 4)
theorem val4_hexd {w : Nat} (h : w ≤ 65535) : val4 (hexd w) = w := by
  have e : ∀ k, k < 16 → dv (hx k) = k := fun k hk => hx_dv ⟨k, hk⟩
  show (((0 * 16 + dv (hx (w / 4096))) * 16 + dv (hx (w / 256 % 16))) * 16 + dv (hx (w / 16 % 16))) * 16 + dv (hx (w % 16)) = w
  rw [e _ (by omega), e _ (by omega), e _ (by omega), e _ (by omega)]
  omega
theorem flat_hexd (ws : List Nat) : (ws.flatMap hexd).length = 4 * ws.length := by
  induction ws with
  | nil => rfl
  | cons x r ih =>
    rw [List.flatMap_cons, List.length_append, ih, List.length_cons]
    show 4 + _ = _
    omega
theorem rdw_flat {ws : List Nat} (h : ∀ w ∈ ws, w ≤ 65535) : rdw (ws.flatMap hexd) = ws := by
  unfold rdw
  rw [flat_hexd, show 4 * ws.length / 4 = ws.length by omega]
  apply List.ext_getElem?
  intro i
  by_cases hi : i < ws.length
  · rw [List.getElem?_map, List.getElem?_range hi]
    have e : ∀ (ws : List Nat) (i : Nat), i < ws.length → ((ws.flatMap hexd).drop (4 * i)).take 4 = hexd (ws.getD i 0) := fun ws => by
      induction ws with
      | nil => intro i hi; exact absurd hi (Nat.not_lt_zero _)
      | cons x r ih =>
        intro i hi
        cases i with
        | zero => rfl
        | succ i =>
          rw [List.flatMap_cons, show 4 * (i + 1) = 4 * i + 4 by omega]
          have := ih i (by simpa using hi)
          show ((hexd x ++ _).drop (4 * i + 4)).take 4 = _
          rw [show 4 * i + 4 = (hexd x).length + 4 * i from by show _ = 4 + 4 * i; omega, List.drop_length_add_append]
          exact this
    show some (val4 _) = _
    rw [e ws i hi, List.getD_eq_getElem?_getD, List.getElem?_eq_getElem hi]
    exact congrArg some (val4_hexd (h _ (List.getElem_mem hi)))
  · rw [List.getElem?_eq_none (by simp; omega), List.getElem?_eq_none (by omega)]
theorem fbad_flat {ws : List Nat} (hw : ∀ w ∈ ws, w ≤ 65535) : fbad (ws.flatMap hexd) = none := by
  have hm : ∀ c ∈ ws.flatMap hexd, c ∈ HXD := fun c hc => by
    obtain ⟨w, h1, h⟩ := List.mem_flatMap.mp hc
    have := hw w h1
    unfold hexd at h
    rcases List.mem_cons.mp h with z | h
    · rw [z]; exact hx_mem (by omega)
    rcases List.mem_cons.mp h with z | h
    · rw [z]; exact hx_mem (by omega)
    rcases List.mem_cons.mp h with z | h
    · rw [z]; exact hx_mem (by omega)
    rw [List.mem_singleton.mp h]
    exact hx_mem (by omega)
  rw [fbad_all fun j hj => by rw [List.getD_eq_getElem?_getD, List.getElem?_eq_getElem hj]; exact hm _ (List.getElem_mem hj), flat_hexd, if_pos (by omega)]
theorem cut_mid (l : List Nat) (a b : Nat) (h : a ≤ b) : cutS (sO l) (some (a : Int)) (some (b : Int)) = sO ((l.drop a).take (b - a)) := by
  show (⟨((l.drop (HT.sIx l.length 0 (some (a : Int)))).take (HT.sIx l.length l.length (some (b : Int)) - HT.sIx l.length 0 (some (a : Int)))).toArray⟩ : Str) = _
  rw [HT.sIx_nat, HT.sIx_nat]
  have e : (l.drop (min a l.length)).take (min b l.length - min a l.length) = (l.drop a).take (b - a) := by
    by_cases h1 : a ≤ l.length
    · rw [Nat.min_eq_left h1]
      by_cases h2 : b ≤ l.length
      · rw [Nat.min_eq_left h2]
      · rw [Nat.min_eq_right (by omega), List.take_of_length_le (by rw [List.length_drop]; omega), List.take_of_length_le (by rw [List.length_drop]; omega)]
    · have h3 : min a l.length = l.length := by omega
      rw [h3, List.drop_length, List.drop_of_length_le (by omega)]
      simp
  rw [e]
  rfl
end RK

namespace RK
open PySem PySem.Spec PyProof.Rows L2 PySem.Builtin.Str
/-! ### enumerate(text) -/
def Itse (x : Str) : It := ⟨fun i _ => i < x.cps.size, fun i H v H' => ∃ T c, v = .ref T ∧ H T = none ∧ H' = upd H T (.tup [.int (i : Nat), .str ⟨#[c]⟩]) ∧ x.cps[i]? = some c, fun i _ => x.cps.size ≤ i⟩
theorem draws_str {prog : Program} {w : World} {A : Around} (hh : A.handled = none) (it : Addr) (x : Str) (t : Tok) :
    Draws prog w A it [it] x.cps.size (fun i v => ∃ c u, x.cps[i]? = some c ∧ v = .str ⟨#[c]⟩ u) (fun i h => h.IsStrIter it (strIterType x) x t i) := by
  unfold strIterType
  cases x.cps.all (· < 128)
  · exact Draws.strWide hh it x t
  · exact Draws.strAscii hh it x t
theorem turn_enumS {P : Program} {w : World} {K : PySem.W.Frag} {elts : List Expr} {kk : Nat} {tpos : Pos} (x : Str) (t : Tok) (e it : Addr) :
    Turn P w K (.Tuple elts kk tpos) (Itse x) [e, it] e (fun i h => (∃ old, IsEnum h e it ((i : Nat) : Int) old) ∧ h.IsStrIter it (strIterType x) x t i ∧ e ≠ it ∧ i ≤ x.cps.size) where
  mem := by simp
  obj := fun i h st b hb => by
    obtain ⟨⟨old, he⟩, ⟨o, ho, hc, hd⟩, _⟩ := st
    have e' : b = e ∨ b = it := by simpa using hb
    rcases e' with z | z
    · rw [z]; exact ⟨_, he, fun v q => nomatch q⟩
    · rw [z]; exact ⟨o, ho, fun v q => by rw [hd] at q; cases q⟩
  keep := fun i h h' st k => let ⟨⟨old, he⟩, ⟨o, ho, r⟩, hne, hle⟩ := st; ⟨⟨old, k e (by simp) _ he⟩, ⟨o, k it (by simp) o ho, r⟩, hne, hle⟩
  item := by
    intro X hP hw hK hc i pins s σ H E I hf st hg
    subst hP hw hK
    obtain ⟨⟨old, he⟩, hit, hne, hle⟩ := st
    have hel : e < s.heap.objs.size := Heap.lt_size he
    have hil : it < s.heap.objs.size := by obtain ⟨_, q, _⟩ := hit; exact Heap.lt_size q
    have D := draws_str (A := X.A.in1) (prog := X.prog) (w := X.w) (show X.A.in1.handled = none from I.ok.hd hc) it x t
    refine wpAny_pyNext_enum_itemD D he hit hg hne (by simpa using hne) fun u h' tk hu ho hit' hT hsz hk => ?_
    obtain ⟨c, tc, hcx, rfl⟩ := hu
    refine ⟨_, rfl, wpAny_letOwnedTupleGo_enum (s := { s with heap := h', toks := tk + 1 }) ho fun h'' he' sb => ?_⟩
    have hT2 : h''.get? s.heap.objs.size = some { cls := .type "tuple", data := .seq #[.int i tk, .str ⟨#[c]⟩ tc] } := (sb.2 _ (Nat.ne_of_gt hel)).trans hT
    have new : ObjOk X.prog X.w (upd H s.heap.objs.size (.tup [.int (i : Nat), .str ⟨#[c]⟩])) h'' s.heap.objs.size (.tup [.int (i : Nat), .str ⟨#[c]⟩]) :=
      ⟨by show 2 ≤ sizeLine; decide, [.int i tk, .str ⟨#[c]⟩ tc], .cons ⟨_, rfl⟩ (.cons ⟨_, rfl⟩ .nil), ⟨_, hT2, rfl, _, rfl⟩⟩
    have I1 : Inv X pins σ (upd H s.heap.objs.size (.tup [.int (i : Nat), .str ⟨#[c]⟩])) { s with heap := h'', toks := tk + 1 } :=
      I.turnedNew (ch := [e, it]) (fun b ob hb q => (sb.2 b (fun z => hb (by simp [z]))).trans (hk b ob (fun z => hb (by simp [z])) (fun z => hb (by simp [z])) q)) hf (Nat.le_refl _) new
    refine ⟨.ref s.heap.objs.size, _, I1, rfl, ⟨_, c, rfl, I.hok.fresh (Nat.le_refl _), rfl, hcx⟩, ⟨⟨.str ⟨#[c]⟩ tc, ?_⟩, ?_, hne, hg⟩, fun b hb => ?_⟩
    · have e1 : ((i + 1 : Nat) : Int) = (i : Int) + 1 := by omega
      rw [e1]; exact he'
    · obtain ⟨o, ho2, r⟩ := hit'
      exact ⟨o, (sb.2 it (Ne.symm hne)).trans ho2, r⟩
    · have hb' : b < s.heap.objs.size := by
        have e' : b = e ∨ b = it := by simpa using hb
        rcases e' with z | z
        · rw [z]; exact hel
        · rw [z]; exact hil
      rw [upd_ne (Nat.ne_of_lt hb')]
      exact (hf b hb).1
  done := by
    intro X hP hw hK hc i pins s σ H E I hf st hg
    subst hP hw hK
    obtain ⟨⟨old, he⟩, hit, hne, hle⟩ := st
    obtain ⟨f0, f1, f2, f3, f4, f5⟩ := hf it (by simp)
    have ei : i = x.cps.size := Nat.le_antisymm hle hg
    have D := draws_str (A := X.A.in1) (prog := X.prog) (w := X.w) (show X.A.in1.handled = none from I.ok.hd hc) it x t
    subst ei
    exact wpAny_pyNext_enum_endD D he hit fun h' eb => ⟨rfl, I.turned (t' := s.toks) (fun b o hb q => eb b o hb q) f0 f1 f3 f4 f5⟩
  self := fun A i s Q E st h => let ⟨⟨_, he⟩, _⟩ := st; wpAny_pyIter_enum he h
/-- the text at each turn, each sign in a new pair -/
def iEnS (ta : TA) : TI := fun σ H R => ta σ H fun vs H1 => ∃ x, vs = [.str x] ∧ R (Itse x) H1
theorem pi_enumS {X : Cx} {e : Expr} {ta : TA} {p pos tpos : Pos} {elts : List Expr} {kk : Nat} (hg : Gl X "enumerate") (hm : X.mg "enumerate" = none) (ha : PA X [e] ta) (hs : starEach [e] X.env = [(false, eval e X.env)] := by rfl) :
    PI X (.Tuple elts kk tpos) (.Call (.Name "enumerate" p) [e] [] pos) (iEnS ta) := by
  refine ⟨fun pins s σ H R I h => ?_⟩
  refine Call_ (ld_blt I hg hm boot_enumerate (PyProof.Rows.callWith_type1 (thn (ha.run pos pins s σ H _ I h) fun us s1 ⟨vs, H1, I1, r1, q1⟩ => ?_) hs rfl))
  obtain ⟨x, ex, q⟩ := q1
  subst ex
  cases r1 with
  | cons r rr =>
    cases rr
    obtain ⟨t, rfl⟩ := r
    refine call_enumerate_str fun h' he hit hsz hk => wpAny_pyIter_enum he ?_
    have I2 : Inv X pins σ H1 { s1 with heap := h' } := I1.kept (t' := s1.toks) hk
    refine ⟨s1.heap.objs.size + 1, [s1.heap.objs.size + 1, s1.heap.objs.size], _, _, H1, rfl, I2, turn_enumS x t (s1.heap.objs.size + 1) s1.heap.objs.size, ⟨⟨.none, he⟩, hit, Nat.succ_ne_self _, Nat.zero_le _⟩, fun b hb => ?_, q⟩
    have e' : b = s1.heap.objs.size + 1 ∨ b = s1.heap.objs.size := by simpa using hb
    have hge : s1.heap.objs.size ≤ b := by
      rcases e' with z | z
      · rw [z]; omega
      · rw [z]; omega
    exact I1.fpOk hge (I1.hok.fresh hge)
theorem walk_enumS {x : Str} : Walk (Itse x) x.cps.size (fun _ => True) (fun i H v H' => ∃ T c, v = .ref T ∧ H T = none ∧ H' = upd H T (.tup [.int (i : Nat), .str ⟨#[c]⟩]) ∧ x.cps[i]? = some c) :=
  ⟨fun i H hi _ => hi, fun H _ => Nat.le_refl _, fun i H v H' _ _ y => y⟩
theorem rg4 {n : Nat} (h : n ≤ 10000) (hm : n % 4 = 0) : RgC 0 (n : Int) 4 (n / 4) := by
  have e : Builtin.Range.rangeSize 0 (n : Int) 4 = ((n / 4 : Nat) : Int) := by
    rw [rangeSize_pos (by decide) (by omega)]
    omega
  have fl : ∀ i : Int, -100000 ≤ i → i ≤ 100000 → Builtin.Range.rangeFitsLong i = true := fun i h1 h2 => by
    unfold Builtin.Range.rangeFitsLong
    rw [decide_eq_true (show -(2 ^ 63) ≤ i by omega), decide_eq_true (show i < 2 ^ 63 by omega)]
    rfl
  refine ⟨by decide, by decide, ?_, e⟩
  unfold Builtin.Range.small
  rw [e, fl 0 (by decide) (by decide), fl (n : Int) (by omega) (by omega), fl 4 (by decide) (by decide), fl _ (by omega) (by omega)]
  rw [if_pos (by decide), fl _ (by omega) (by omega), Bool.or_true]
  rfl
end RK

namespace RK
open PySem PySem.Spec PyProof.Rows L2 StX
/-! ### defs with *rest that may raise where nothing is handled -/
theorem cxUpN {P : Program} {w : World} : CXUp (L2N.CX P w) := by
  rintro outer s H s2 H2 E e s' un kp ho ⟨a, B, H', cls, d, ea, fl, hok, ub, na, os, ag, he⟩
  refine ⟨a, B, H', cls, d, ea, fl, hok, ⟨fun b o q n hb => ub.keep b o (kp b o q) (un.free b o q n (by simp)) hb, fun b o q hb => ub.slot b o (kp b o q) hb, fun b o q n => ub.free b o (kp b o q) (un.free b o q n (by simp)),
    fun b o q hb => ub.there b o (kp b o q) hb, fun b xs q => ub.tups b xs (un.tups b xs q), fun b o xs q => ub.frzs b o xs (un.frzs b o xs q), fun b ps q => ?_⟩, na, os.trans ho, ag, he⟩
  obtain ⟨m1, e1⟩ := un.tbls b ps q
  obtain ⟨m2, e2⟩ := ub.tbls b _ e1
  exact ⟨m1 ++ m2, by rw [e2, Array.append_assoc]⟩
section
variable {X : Cx} {CX : CXT} {k : Nat} {f : Addr} {sp : Sp} {x : Str} {e : Expr} {es : List Expr} {t : TA} {p pos : Pos} {E : L2.St → XK}
theorem run_fnRS {pins : List (Addr × Obj)} {σ : L2.St} {H : Hp} {s : Shared} {Q : VK} {us : List Value} {vs : List V} (F : FnR X.prog X.w X.K X.mg X.base CX k f sp) (hr : Room k X.A) (hx : PassesAt CX X σ (E σ))
    (I : Inv X pins σ H s) (r : Vals vs us) (h : sp vs H Q (E σ)) : wpAny (model X.prog X.w) X.A (call (.ref f) us) (EP X pins σ Q) X.xe s := by
  refine wpAny_call (codeAny_mono (F X.A X.stack s H us vs Q (E σ) hr I.env0 r h) fun r s' hq => ?_)
  cases r with
  | error e => exact hx pins H s e s' I hq
  | ok fl =>
    cases fl with
    | ret u => exact I.after hq
    | next => exact False.elim hq
    | brk => exact False.elim hq
    | cont => exact False.elim hq
theorem pe_callRS (F : FnR X.prog X.w X.K X.mg X.base CX k f sp) (hr : Room k X.A) (hg : Gl X x) (hm : X.mg x = some (.ref f)) (hk : PySem.W.keepIn X.K (.ref f) = true) (hx : ∀ σ, PassesAt CX X σ (E σ))
    (ha : PA X (e :: es) t) (hdb : (x == ("__debug__" : Str)) = false := by decide) (he : starEach (e :: es) X.env = (false, eval e X.env) :: starEach es X.env := by rfl) (hpl : (backTo pos (starEach es X.env)).any (·.1) = false := by rfl) :
    PE X (.Call (.Name x p) (e :: es) [] pos) (tCallS sp E t) := by
  refine ⟨fun pins s σ H Q I h => ?_⟩
  refine wpAny_Call_Name_kw (ld_glob I hg hm ?_ hdb)
  refine PySem.W.callWith_K (h₀ := X.base) I.ok.mod.kin hk (thn (ha.run pos pins s σ H _ I h) fun us s1 ⟨vs, H1, I1, r, q⟩ => ⟨I1.kIn, ?_⟩) he hpl
  exact run_fnRS F hr (hx σ) I1 r q
theorem passAtN {σ : L2.St} : PassesAt (L2N.CX X.prog X.w) X σ (fun _ _ _ => False) := fun _ _ _ _ _ _ h => let ⟨_, _, _, _, _, _, _, _, _, _, _, _, z⟩ := h; z.elim
end
/-- a def with *rest: its promise speaks of the bound names, the call's of all that is handed on -/
def spStar (n : Nat) (sp : Sp) : Sp := fun vs H Q E => ∃ ws rest, vs = ws ++ rest ∧ ws.length = n ∧ rest.length ≤ sizeLine ∧ ∀ p, H p = none → sp (ws ++ [V.ref p]) (upd H p (.tup rest)) Q E
theorem Fun.starN {P : Program} {w : World} {K : PySem.W.Frag} {mg : Str → Option Value} {base : Heap} {x qual pv : Str} {st : Stmt} {f : Addr} {fd : FuncData} {N ps : List Str} {k : Nat} {sp : Sp} (F : Fun K x qual st f fd) (S : FnScope N (ps ++ [pv]) (defScope st))
    (hb : ∀ us rest : List Value, us.length = ps.length → bindArgs fd ⟨us ++ rest, []⟩ = (newTuple rest >>= fun t => pure (ps.zip us ++ [(pv, t)])))
    (body : ∀ (cdv : Value) (A : Around) (outer : List Env) (s : Shared) (H : Hp) (vs : List V) (Q : VK) (E : XK), Room k (A.deeper (envOfC qual (defScope st) s.heap.objs.size f cdv)) → sp vs H Q E →
      ∃ t, PSs (cxOf (L2N.CX P w) P w K mg base N qual (defScope st) f cdv A outer s H E) (defBody st) t ∧ t { nx := fun _ H' => Q .non H', rt := Q } (start N vs) H) : FnR P w K mg base (L2N.CX P w) (k + 1) f (spStar ps.length sp) := by
  obtain ⟨oc, od, kV, doc, pm, an, cdv, ct, osl, rfl, lk, hcd⟩ := F.ex
  exact fn_star lk hcd S cxUpN hb fun A outer s H vs Q E hr z => body cdv A outer s H vs Q E hr z
section
variable {X : Cx}
/-- t.index(x), x a text, ahead of it texts and None -/
theorem mt_tupIdx : MtR X "tuple.index" (fun x xs H Q => ∃ p, ∃ ys : List V, ∃ z j, x = .ref p ∧ xs = [.str z] ∧ SqT X.K H p ys ∧ (∀ v ∈ ys, v = .non ∨ ∃ y, v = .str y) ∧ ys[j]? = some (.str z) ∧ (∀ m, m < j → ys[m]? ≠ some (.str z)) ∧ Q (.int (j : Nat)) H) := by
  intro pins s σ H x xs v us Q I rx rs h
  obtain ⟨p, ys, z, j, rfl, rfl, hq, hfl, hy, hno, q⟩ := h
  cases rx
  obtain ⟨u, rfl, t, rfl⟩ := vals1 rs
  obtain ⟨its, r, pl, hz⟩ := I.tuple hq
  obtain ⟨⟨cls, dd, dt, sl⟩, ho, hc, n, hd⟩ := pl
  simp only at hc hd
  subst hc
  subst hd
  have hl : its.toArray.size = ys.length := by rw [List.size_toArray, ← r.length]
  have hj : j < its.toArray.size := by rw [hl]; exact (List.getElem?_eq_some_iff.mp hy).1
  have at' : ∀ (m : Nat) (hm : m < its.toArray.size), (∃ y t', ys[m]? = some (.str y) ∧ its.toArray[m] = Value.str y t') ∨ (ys[m]? = some .non ∧ its.toArray[m] = Value.none) := fun m hm => by
    have hm' : m < ys.length := by rw [← hl]; exact hm
    have hg : ys[m]? = some ys[m] := List.getElem?_eq_getElem hm'
    obtain ⟨w, hw, hr⟩ := r.get hg
    have e := (List.getElem?_eq_some_iff.mp hw).2
    rcases hfl ys[m] (List.getElem_mem hm') with e2 | ⟨y, e2⟩
    · rw [e2] at hr hg
      refine .inr ⟨hg, ?_⟩
      have : w = Value.none := hr
      rw [← this, ← e]
      simp
    · rw [e2] at hr hg
      obtain ⟨t', hw'⟩ := hr
      refine .inl ⟨y, t', hg, ?_⟩
      rw [← hw', ← e]
      simp
  refine call_meets PySem.F.slot_tuple_index ⟨_, ho, rfl⟩ PySem.F.entry_tuple_index (PySem.F.args_tuple_index_2 _ _) (TI.tuple_indexAt p its.toArray n dd sl (.str z t) (eqU (.str z)) j hj ?_ ?_)
    ⟨ho, fun w hw => mem_eqAt (x := .str z) ⟨t, rfl⟩ rfl r ?_ w (by simpa using hw), ⟨.int (j : Nat), H, I.tok _, ⟨_, rfl⟩, q⟩⟩
  · rcases at' j hj with ⟨y, t', h1, h2⟩ | ⟨h1, h2⟩
    · rw [hy] at h1
      cases h1
      rw [h2]
      show (z == z) = true
      exact beq_self_eq_true z
    · rw [hy] at h1
      cases h1
  · intro m hm hmj
    rcases at' m hm with ⟨y, t', h1, h2⟩ | ⟨h1, h2⟩
    · rw [h2]
      show (y == z) = false
      exact beq_eq_false_iff_ne.mpr fun e => hno m hmj (by rw [h1, e])
    · rw [h2]
      rfl
  · rw [List.all_eq_true]
    intro v hv
    rcases hfl v hv with e | ⟨y, e⟩
    · rw [e]; rfl
    · rw [e]; rfl
end
/-- a tuple behind a tuple, whatever the two are -/
theorem catA_of {K : PySem.W.Frag} {H : Hp} {a b : Addr} {xs ys : List V} {Q : VK} (ha : SqT K H a xs) (hb : SqT K H b ys) (hl : xs.length + ys.length ≤ 100000) (q : ∀ p H', Same H H' → SqT K H' p (xs ++ ys) → Q (.ref p) H') : rCatA K (.ref a) (.ref b) H Q := by
  refine ⟨a, b, xs, ys, rfl, rfl, ha, hb, Nat.le_trans hl (lenOk (xs := List.replicate 100000 ()) (n := 100000) (List.length_replicate ..) (Nat.le_refl _) |> fun h => by rw [List.length_replicate] at h; exact h), fun e => q b H (Same.refl _) (by rw [e]; exact hb), fun _ e => q a H (Same.refl _) (by rw [e, List.append_nil]; exact ha), fun _ _ p hp => q p _ (same_new hp) (SqT.of upd_same)⟩
end RK

namespace RK
open PySem PySem.Spec PyProof.Rows L2
section
variable {J : It} {n : Nat} {G : Hp → Prop} {Y : Nat → Hp → V → Hp → Prop}
/-- a comprehension with one test, whose elements have a value each; the target is the name at k -/
theorem lc_filt (w : Walk J n G Y) {tt : TT} {te : TE} {σ : L2.St} {H1 : Hp} {D : Addr} {Qd : Hp → Prop} {k : Nat} (I : Nat → V → Prop) (c : Nat → Bool) (f : Nat → V) (hD : H1 D = none) (hG : ∀ H, Same H1 H → G H) (hn : n ≤ 1000000)
    (hY : ∀ i H x H', i < n → Y i H x H' → H' = H ∧ I i x)
    (ht : ∀ i x H, i < n → Same H1 H → I i x → ∀ Q : Bool → Hp → Prop, Q (c i) H → tt ((σ.set k none).set k (some x)) H Q)
    (hs : ∀ i x H, i < n → c i = true → Same H1 H → I i x → ∀ Q : VK, (∀ H3, Same H H3 → Q (f i) H3) → te ((σ.set k none).set k (some x)) H Q) (hd : ∀ H, Same H1 H → H D = some (.lst (((List.range n).filter c).map f)) → Qd H) :
    ∃ W : Nat → Nat → Hp → Prop, (∃ m, W 0 m (upd H1 D (.lst []))) ∧ ∀ i m H, W i m H →
      (J.stop i H ∧ Qd H) ∨ (J.go i H ∧ ∃ Nx : Hp → Prop, (∀ H', Nx H' → ∃ m', m' < m ∧ W (i + 1) m' H') ∧ ∀ x H', J.yld i H x H' → gName k x (wipe σ [k]) H' fun σ2 H2 => wipe σ2 [k] = wipe σ [k] ∧ tt σ2 H2 fun b H3 =>
        if b = true then te σ2 H3 fun y H4 => ∃ acc, H4 D = some (.lst acc) ∧ acc.length < sizeLine ∧ Nx (upd H4 D (.lst (acc ++ [y]))) else Nx H3) := by
  refine lc_it w (fun i H => Same H1 H ∧ H D = some (.lst (((List.range i).filter c).map f))) ⟨same_new hD, upd_same⟩ (fun i H _ h => hG H h.1) (fun i x H H' hi hp y => ?_) fun H h => hd H h.1 h.2
  obtain ⟨sm, e⟩ := hp
  obtain ⟨rfl, hx⟩ := hY i H x H' hi y
  refine ⟨?_, ?_⟩
  · show ((σ.set k none).set k (some x)).set k none = σ.set k none
    rw [List.set_set, List.set_set]
  show tt ((σ.set k none).set k (some x)) H' _
  refine ht i x H' hi sm hx _ ?_
  by_cases hc : c i = true
  · rw [if_pos hc]
    refine hs i x H' hi hc sm hx _ fun H3 s3 => ?_
    have e3 := s3 _ _ e
    refine ⟨_, e3, ?_, same_mut (sm.trans s3) hD, ?_⟩
    · rw [List.length_map]
      refine Nat.lt_of_le_of_lt (List.length_filter_le _ _) ?_
      rw [List.length_range]
      exact Nat.lt_of_lt_of_le (Nat.lt_of_lt_of_le hi hn) (by decide)
    · rw [upd_same, List.range_succ, List.filter_append, List.map_append]
      rw [show [i].filter c = [i] by simp only [List.filter, hc]]
      rfl
  · rw [if_neg hc]
    refine ⟨sm, ?_⟩
    rw [e, List.range_succ, List.filter_append, List.map_append]
    rw [show [i].filter c = [] by simp only [List.filter, hc]]
    rw [List.map_nil, List.append_nil]
end
end RK

namespace RK
open PySem PySem.Spec PyProof.Rows L2
/-! ### tuples where the rules know lists alone: xs.extend(t), sum(t), enumerate(t) -/
theorem meets_extendT (l b : Addr) (items items2 : Array Value) (n n2 : Nat) (dd : Option Addr) (sl : Array (Option Value)) (hz : items.size + items2.size ≤ sizeLine) :
    Meets (Builtin.«list.extend» ⟨[Value.ref l, Value.ref b], []⟩) fun x R s => s.heap.get? l = some { cls := Value.type "list", data := Data.seq items n } ∧
      s.heap.get? b = some { cls := Value.type "tuple", dict := dd, data := Data.seq items2 n2, slots := sl } ∧
      R (Except.ok (Flow.ret Value.none)) { s with heap := s.heap.update l (Obj.mapSeq fun x => x ++ items2) } := by
  refine Meets.of_wp fun prog w A R s h => ?_
  obtain ⟨hl, hb, h⟩ := h
  show wpAny _ _ (Builtin.List.listExtendWith (.ref l) (.ref b) .none) _ _ _
  unfold Builtin.List.listExtendWith
  refine wpAny_bind (wpAny_typeOf_ref hb ?_)
  refine wpAny_ite_true (by simp) ?_
  refine wpAny_bind ?_
  unfold Builtin.List.listItems
  refine wpAny_bind (wpAny_seqItems hb rfl (wpAny_pure ?_))
  refine wpAny_bind (wpAny_bind (wpAny_seqItems hl rfl (wpAny_pure ?_)))
  have hbig : Builtin.List.listTooLong (items.size + items2.size) = false := notLongL hz
  refine wpAny_ite_false (by rw [hbig, Bool.and_false]; rfl) ?_
  refine wpAny_bind ?_
  show wpAny _ _ (updateSeq l (fun x => x ++ items2)) _ _ _
  refine wpAny_updateSeq hl rfl (wpAny_pure ⟨_, rfl, h⟩) (by omega) (by rw [Array.size_append]; omega)
/-! enumerate over a tuple -/
theorem meets_enumerate_newT (l : Addr) (items : Array Value) (n : Nat) (dct : Option Addr) (sl : Array (Option Value)) :
    Meets (Builtin.«enumerate.__new__» ⟨[Value.type "enumerate", Value.ref l], []⟩) fun x R s => s.heap.get? l = some { cls := Value.type "tuple", dict := dct, data := Data.seq items n, slots := sl } ∧
      R (Except.ok (Flow.ret (Value.ref (s.heap.push { cls := Value.type "tuple_iterator", data := Data.fields #[Value.ref l, Value.int 0 0] }).objs.size)))
        { s with heap := (s.heap.push { cls := Value.type "tuple_iterator", data := Data.fields #[Value.ref l, Value.int 0 0] }).push { cls := Value.type "enumerate", data := Data.fields #[Value.none, Value.bool false, Value.ref s.heap.objs.size, rawInt 0, Value.none, Value.none] } } := by
  refine Meets.of_wp fun prog w A R s h => ?_
  obtain ⟨hl, h⟩ := h
  have hsub := sub_enumerate
  have hL : s.heap.IsTuple l items := ⟨_, hl, rfl, n, rfl⟩
  unfold Builtin.«enumerate.__new__»
  refine wpAny_bind ?_
  unfold Builtin.SmallTypes.newClass
  refine wpAny_bind (wpAny_pure (wpAny_ite_false rfl (wpAny_bind (wpAny_of_eq hsub (wpAny_ite_false rfl (wpAny_pure ?_))))))
  refine wpAny_ite_true rfl (wpAny_bind ?_)
  unfold Builtin.SmallTypes.calledThroughType
  refine wpAny_bind (wpAny_stack_any fun st => wpAny_pure ?_)
  have fin : wpAny (model prog w) A.in1 (pyIter (Value.ref l) >>= fun it => Builtin.SmallTypes.newRecord (Value.type "enumerate") (Builtin.SmallTypes.ownedTupleFields ++ [it, rawInt 0, Value.none, Value.none]) >>= fun v => ret v) (fun fin s' => ∃ v, fin = Fin.done (Flow.ret v) ∧ R (Except.ok (Flow.ret v)) s') (fun e s' => R (Except.error e) s') s := by
    refine wpAny_bind (wpAny_pyIter_tuple hL ?_)
    refine wpAny_bind ?_
    unfold Builtin.SmallTypes.newRecord
    show wpAny _ _ (newObj (Value.type "enumerate") (Data.fields #[Value.none, Value.bool false, Value.ref s.heap.objs.size, rawInt 0, Value.none, Value.none])) _ _ _
    exact wpAny_newObj_type (wpAny_pure ⟨_, rfl, h⟩) (by show 6 ≤ sizeLine + 2; decide)
  split
  · rename_i c tail kw snd tl heq
    generalize (c == Value.type "enumerate") = short
    cases short with
    | false =>
      refine wpAny_ite_false rfl (wpAny_bind (wpAny_of_eq (a := (Value.ref l, none)) rfl ?_))
      exact fin
    | true =>
      refine wpAny_ite_true rfl (wpAny_bind (wpAny_of_eq (a := (Value.ref l, none)) rfl ?_))
      exact fin
  · refine wpAny_ite_false rfl (wpAny_bind (wpAny_of_eq (a := (Value.ref l, none)) rfl ?_))
    exact fin
section
variable {prog : Program} {w : World} {A : Around} {E : Value → Shared → Prop} {s : Shared}
theorem nextOf_tup_item {it l : Addr} {i : Nat} {items : Array Value} {x : Value} {Q : Value → Shared → Prop} (hit : s.heap.IsTupleIter it l i) (hl : s.heap.IsTuple l items) (hx : items[i]? = some x)
    (hQ : ∀ h', h'.IsTupleIter it l (i + 1) → Heap.SameBut it s.heap h' → Q x { s with heap := h' }) : wpAny (model prog w) A (Builtin.SmallTypes.nextOf (Value.ref it)) Q E s := by
  obtain ⟨⟨oc, od, odt, osl⟩, gi, ci, di⟩ := id hit
  simp only at ci di
  subst ci
  subst di
  obtain ⟨ol, gl, _, nl, dl⟩ := hl
  unfold Builtin.SmallTypes.nextOf
  refine wpAny_bind (wpAny_callSpecial?_slot (name := "__next__") hit.typeIs F.slot_tuple_iterator_next (wpAny_call_entry F.slot_tuple_iterator_next hit.typeIs F.entry_tuple_iterator_next ?_ (F.args_tuple_iterator_next_1 _)))
  refine wpAny_bind (m := field (.ref it) 0) (wpAny_field gi rfl (x := .ref l) rfl ?_)
  refine (if_neg (Bool.false_ne_true : ¬ ((Value.ref l == Value.none) = true))).symm ▸ ?_
  refine wpAny_bind (m := field (.ref it) 1) (wpAny_field gi rfl (x := .int i 0) rfl (wpAny_bind (m := seqItems? (.ref l)) (wpAny_seqItems gl dl ?_)))
  simp only [Int.toNat_natCast, hx]
  refine wpAny_bind (wpAny_setField gi rfl (by simp) (wpAny_pure ⟨x, rfl, wpAny_pure (hQ _ ⟨_, Heap.get?_update_self _ gi rfl, rfl, rfl⟩ ⟨?_, fun b n => Heap.get?_update_other _ _ (Ne.symm n)⟩)⟩))
  exact Heap.size_update _ _ _
theorem nextOf_tup_end {it l : Addr} {i : Nat} {items : Array Value} {Q : Value → Shared → Prop} (hh : A.handled = none) (hit : s.heap.IsTupleIter it l i) (hl : s.heap.IsTuple l items) (hx : items[i]? = none)
    (hQ : ∀ (h' : Heap) (e : Addr), Heap.ExtBut it s.heap h' → (∃ o, h'.get? e = some o ∧ o.cls = Value.type "StopIteration") → E (Value.ref e) { s with heap := h' }) : wpAny (model prog w) A (Builtin.SmallTypes.nextOf (Value.ref it)) Q E s := by
  obtain ⟨oi, gi, ci, di⟩ := id hit
  obtain ⟨ol, gl, _, nl, dl⟩ := hl
  unfold Builtin.SmallTypes.nextOf
  refine wpAny_bind (wpAny_callSpecial?_slot (name := "__next__") hit.typeIs F.slot_tuple_iterator_next (wpAny_call_entry F.slot_tuple_iterator_next hit.typeIs F.entry_tuple_iterator_next ?_ (F.args_tuple_iterator_next_1 _)))
  refine wpAny_bind (m := field (.ref it) 0) (wpAny_field gi di (x := .ref l) rfl ?_)
  refine (if_neg (Bool.false_ne_true : ¬ ((Value.ref l == Value.none) = true))).symm ▸ ?_
  refine wpAny_bind (m := field (.ref it) 1) (wpAny_field gi di (x := .int i 0) rfl (wpAny_bind (m := seqItems? (.ref l)) (wpAny_seqItems gl dl ?_)))
  simp only [Int.toNat_natCast, hx]
  refine wpAny_bind (wpAny_rule (wpAny_bind (wpAny_setField gi di (by simp) ?_)))
  unfold Builtin.SmallTypes.stopIteration
  refine wpAny_bind (m := newExc (.type "StopIteration") []) ?_
  simp only [newExc, newTuple]
  refine wpAny_bind (wpAny_newObj_type (wpAny_bind (m := firstArgMember _ _) (wpAny_of_eq (a := Value.none) (by first | rfl | (simp only [firstArgMember]; rfl)) (wpAny_newObj_type ?_ (by size_fits)))) (by size_fits))
  unfold raiseNew
  refine wpAny_bind (wpAny_handled ?_)
  rw [show A.in1.handled = none from hh]
  refine wpAny_throw (hQ _ _ (fun b o n e => ?_) ⟨_, Heap.get?_push_size _ rfl, rfl⟩)
  refine Heap.get?_push_of_some _ (Heap.get?_push_of_some _ ?_)
  rw [Heap.get?_update_other _ _ (Ne.symm n)]
  exact e
theorem draws_tup (hh : A.handled = none) (it l : Addr) (ne : l ≠ it) (items : Array Value) :
    Draws prog w A it [it, l] items.size (fun i v => items[i]? = some v) fun i h => h.IsTupleIter it l i ∧ h.IsTuple l items := by
  refine ⟨fun i h st => let ⟨⟨o, g, _⟩, _⟩ := st; ⟨o, g⟩, fun i h h' st k => let ⟨⟨o, g, r⟩, ⟨o2, g2, r2⟩⟩ := st; ⟨⟨o, k it (by simp) o g, r⟩, ⟨o2, k l (by simp) o2 g2, r2⟩⟩, fun i s Q E hi st h => ?_, fun s Q E st h => ?_⟩
  · obtain ⟨h1, h2⟩ := st
    have hx : items[i]? = some items[i] := Array.getElem?_eq_getElem hi
    refine nextOf_tup_item h1 h2 hx fun h' st' sb => ?_
    obtain ⟨o2, g2, r2⟩ := h2
    exact h _ _ s.toks hx ⟨st', ⟨o2, (sb.2 l ne).trans g2, r2⟩⟩ sb
  · obtain ⟨h1, h2⟩ := st
    exact nextOf_tup_end hh h1 h2 (by simp) fun h' e eb he => h h' e eb he
theorem call_enumerate_tup {l : Addr} {items : Array Value} {Q : Value → Shared → Prop} (hL : s.heap.IsTuple l items)
    (h : ∀ h', IsEnum h' (s.heap.objs.size + 1) s.heap.objs.size 0 Value.none → h'.IsTupleIter s.heap.objs.size l 0 → h'.objs.size = s.heap.objs.size + 2 → (∀ b o, s.heap.get? b = some o → h'.get? b = some o) → Q (Value.ref (s.heap.objs.size + 1)) { s with heap := h' }) :
    wpAny (model prog w) A (call (Value.type "enumerate") [Value.ref l]) Q E s := by
  obtain ⟨⟨c, dct, dt, sl⟩, hl, hc, n, hd⟩ := hL
  simp only at hc hd
  subst hc
  subst hd
  have hz := Heap.size_push s.heap { cls := .type "tuple_iterator", data := Data.fields #[Value.ref l, Value.int 0 0] }
  refine callType_new F.called_enumerate (by decide) (F.typeCall_enumerate_1 (Value.ref l)) (F.newCall_enumerate_1 (Value.ref l)) (fun obj => F.args_object_init_2 obj (Value.ref l)) F.entry_enumerate_new (meets_enumerate_newT l items n dct sl) ⟨hl, ?_⟩
  have he := Heap.get?_push_size (s.heap.push { cls := Value.type "tuple_iterator", data := Data.fields #[Value.ref l, Value.int 0 0] }) (o := { cls := Value.type "enumerate", data := Data.fields #[Value.none, Value.bool false, Value.ref s.heap.objs.size, rawInt 0, Value.none, Value.none] }) rfl
  rw [hz] at he
  show Shared.TypeIs _ (Value.ref (Heap.objs _).size) "enumerate" ∧ Q (Value.ref (Heap.objs _).size) _
  rw [hz]
  refine ⟨⟨_, he, rfl⟩, h _ he ⟨_, Heap.get?_push_of_some _ (Heap.get?_push_size _ rfl), rfl, rfl⟩ ?_ fun b o e => Heap.get?_push_of_some _ (Heap.get?_push_of_some _ e)⟩
  rw [Heap.size_push, hz]
theorem draws_tup_end (hh : A.handled = none) (it l : Addr) (ne : l ≠ it) (items : Array Value) (i0 : Nat) (hx : items[i0]? = none) :
    Draws prog w A it [it, l] i0 (fun _ _ => False) fun i h => i = i0 ∧ h.IsTupleIter it l i ∧ h.IsTuple l items := by
  refine ⟨fun i h st => let ⟨_, ⟨o, g, _⟩, _⟩ := st; ⟨o, g⟩, fun i h h' st k => let ⟨e, ⟨o, g, r⟩, ⟨o2, g2, r2⟩⟩ := st; ⟨e, ⟨o, k it (by simp) o g, r⟩, ⟨o2, k l (by simp) o2 g2, r2⟩⟩, fun i s Q E hi st h => ?_, fun s Q E st h => ?_⟩
  · exact absurd st.1 (Nat.ne_of_lt hi)
  · obtain ⟨_, h1, h2⟩ := st
    exact nextOf_tup_end hh h1 h2 hx fun h' e eb he => h h' e eb he
end
def IteT (K : PySem.W.Frag) (a : Addr) : It := ⟨fun i H => ∃ xs x, SqT K H a xs ∧ xs[i]? = some x, fun i H v H' => ∃ T x, v = V.ref T ∧ H T = none ∧ H' = upd H T (.tup [.int (i : Nat), x]) ∧ ∀ xs, SqT K H a xs → xs[i]? = some x, fun i H => ∃ xs, SqT K H a xs ∧ xs.length ≤ i⟩
theorem tup_ne {h : Heap} {a it : Addr} {i : Nat} {items : Array Value} (hit : h.IsTupleIter it a i) (pl : h.IsTuple a items) : a ≠ it := fun z => by
  subst z
  obtain ⟨o, h1, c1, _⟩ := hit
  obtain ⟨o2, h2, c2, _⟩ := pl
  rw [h1] at h2
  cases h2
  rw [c1] at c2
  exact absurd c2 (by decide)
theorem enum_ne {h : Heap} {a e it : Addr} {i : Int} {old : Value} {items : Array Value} (he : IsEnum h e it i old) (pl : h.IsTuple a items) : e ≠ a := fun z => by
  subst z
  obtain ⟨o2, h2, c2, _⟩ := pl
  rw [show h.get? e = _ from he] at h2
  cases h2
  exact absurd (show Value.type "enumerate" = Value.type "tuple" from c2) (by decide)
theorem turn_enumT {P : Program} {w : World} {K : PySem.W.Frag} {elts : List Expr} {kk : Nat} {tpos : Pos} (a e it : Addr) :
    Turn P w K (.Tuple elts kk tpos) (IteT K a) [e, it] e (fun i h => (∃ old, IsEnum h e it ((i : Nat) : Int) old) ∧ h.IsTupleIter it a i ∧ e ≠ it) where
  mem := by simp
  obj := fun i h st b hb => by
    obtain ⟨⟨old, he⟩, ⟨o, ho, hc, hd⟩, _⟩ := st
    have e' : b = e ∨ b = it := by simpa using hb
    rcases e' with z | z
    · rw [z]; exact ⟨_, he, fun v q => nomatch q⟩
    · rw [z]; exact ⟨o, ho, fun v q => by rw [hd] at q; cases q⟩
  keep := fun i h h' st k => let ⟨⟨old, he⟩, ⟨o, ho, r⟩, hne⟩ := st; ⟨⟨old, k e (by simp) _ he⟩, ⟨o, k it (by simp) o ho, r⟩, hne⟩
  item := by
    intro X hP hw hK hc i pins s σ H E I hf st hg
    subst hP hw hK
    obtain ⟨⟨old, he⟩, hit, hne⟩ := st
    obtain ⟨xs, x, hq, hx⟩ := hg
    obtain ⟨its, rv, pl, _⟩ := I.tuple hq
    have pl' : s.heap.IsTuple a its.toArray := pl
    have hel : e < s.heap.objs.size := Heap.lt_size he
    have hil : it < s.heap.objs.size := by obtain ⟨_, q, _⟩ := hit; exact Heap.lt_size q
    have ne := tup_ne hit pl'
    have ne2 := enum_ne he pl'
    have D := draws_tup (A := X.A.in1) (prog := X.prog) (w := X.w) (show X.A.in1.handled = none from I.ok.hd hc) it a ne its.toArray
    have hlt : i < its.toArray.size := by
      rw [List.size_toArray, ← rv.length]
      exact (List.getElem?_eq_some_iff.mp hx).1
    obtain ⟨u0, hu0, ru⟩ := rv.get hx
    refine wpAny_pyNext_enum_itemD D he ⟨hit, pl'⟩ hlt hne (by simp [hne, ne2]) fun u h' tk hu ho hst hT hsz hk => ?_
    have eu : u = u0 := by
      have h1 : its[i]? = some u := by simpa using hu
      rw [hu0] at h1
      exact (Option.some.inj h1).symm
    subst eu
    obtain ⟨hit', pl2⟩ := hst
    refine ⟨_, rfl, wpAny_letOwnedTupleGo_enum (s := { s with heap := h', toks := tk + 1 }) ho fun h'' he' sb => ?_⟩
    have hT2 : h''.get? s.heap.objs.size = some { cls := .type "tuple", data := .seq #[.int i tk, u] } := (sb.2 _ (Nat.ne_of_gt hel)).trans hT
    have new : ObjOk X.prog X.w (upd H s.heap.objs.size (.tup [.int (i : Nat), x])) h'' s.heap.objs.size (.tup [.int (i : Nat), x]) :=
      ⟨by show 2 ≤ sizeLine; decide, [.int i tk, u], .cons ⟨_, rfl⟩ (.cons ru .nil), ⟨_, hT2, rfl, _, rfl⟩⟩
    have I1 : Inv X pins σ (upd H s.heap.objs.size (.tup [.int (i : Nat), x])) { s with heap := h'', toks := tk + 1 } :=
      I.turnedNew (ch := [e, it]) (fun b ob hb q => (sb.2 b (fun z => hb (by simp [z]))).trans (hk b ob (fun z => hb (by simp [z])) (fun z => hb (by simp [z])) q)) hf (Nat.le_refl _) new
    refine ⟨.ref s.heap.objs.size, _, I1, rfl, ⟨_, x, rfl, I.hok.fresh (Nat.le_refl _), rfl, fun ys hy => by rw [I.tuple_inj hy hq, hx]⟩, ⟨⟨u, ?_⟩, ?_, hne⟩, fun b hb => ?_⟩
    · have e1 : ((i + 1 : Nat) : Int) = (i : Int) + 1 := by omega
      rw [e1]; exact he'
    · obtain ⟨o, ho2, r⟩ := hit'
      exact ⟨o, (sb.2 it (Ne.symm hne)).trans ho2, r⟩
    · have hb' : b < s.heap.objs.size := by
        have e' : b = e ∨ b = it := by simpa using hb
        rcases e' with z | z
        · rw [z]; exact hel
        · rw [z]; exact hil
      rw [upd_ne (Nat.ne_of_lt hb')]
      exact (hf b hb).1
  done := by
    intro X hP hw hK hc i pins s σ H E I hf st hg
    subst hP hw hK
    obtain ⟨⟨old, he⟩, hit, hne⟩ := st
    obtain ⟨xs, hq, hx⟩ := hg
    obtain ⟨its, rv, pl, _⟩ := I.tuple hq
    have pl' : s.heap.IsTuple a its.toArray := pl
    obtain ⟨f0, f1, f2, f3, f4, f5⟩ := hf it (by simp)
    have D := draws_tup_end (A := X.A.in1) (prog := X.prog) (w := X.w) (show X.A.in1.handled = none from I.ok.hd hc) it a (tup_ne hit pl') its.toArray i (by
      have := rv.length
      simp
      omega)
    exact wpAny_pyNext_enum_endD D he ⟨rfl, hit, pl'⟩ fun h' eb => ⟨rfl, I.turned (t' := s.toks) (fun b o hb q => eb b o hb q) f0 f1 f3 f4 f5⟩
  self := fun A i s Q E st h => let ⟨⟨_, he⟩, _⟩ := st; wpAny_pyIter_enum he h
def iEnumT (K : PySem.W.Frag) (ta : TA) : TI := fun σ H R => ta σ H fun vs H1 => ∃ a xs, vs = [V.ref a] ∧ SqT K H1 a xs ∧ R (IteT K a) H1
theorem pi_enumT {X : Cx} {e : Expr} {ta : TA} {p pos tpos : Pos} {elts : List Expr} {kk : Nat} (hg : Gl X "enumerate") (hm : X.mg "enumerate" = none) (ha : PA X [e] ta) (hs : starEach [e] X.env = [(false, eval e X.env)] := by rfl) :
    PI X (.Tuple elts kk tpos) (.Call (.Name "enumerate" p) [e] [] pos) (iEnumT X.K ta) := by
  refine ⟨fun pins s σ H R I h => ?_⟩
  refine Call_ (ld_blt I hg hm boot_enumerate (PyProof.Rows.callWith_type1 (thn (ha.run pos pins s σ H _ I h) fun us s1 ⟨vs, H1, I1, r1, q1⟩ => ?_) hs rfl))
  obtain ⟨a, xs, ex, hq, q⟩ := q1
  subst ex
  cases r1 with
  | cons r rr =>
    cases rr
    cases r
    obtain ⟨its, rv, pl, _⟩ := I1.tuple hq
    refine call_enumerate_tup (show s1.heap.IsTuple a its.toArray from pl) fun h' he hit hsz hk => wpAny_pyIter_enum he ?_
    have I2 : Inv X pins σ H1 { s1 with heap := h' } := I1.kept (t' := s1.toks) hk
    refine ⟨s1.heap.objs.size + 1, [s1.heap.objs.size + 1, s1.heap.objs.size], _, _, H1, rfl, I2, turn_enumT a (s1.heap.objs.size + 1) s1.heap.objs.size, ⟨⟨.none, he⟩, hit, Nat.succ_ne_self _⟩, fun b hb => ?_, q⟩
    have e' : b = s1.heap.objs.size + 1 ∨ b = s1.heap.objs.size := by simpa using hb
    have hge : s1.heap.objs.size ≤ b := by
      rcases e' with z | z
      · rw [z]; omega
      · rw [z]; omega
    exact I1.fpOk hge (I1.hok.fresh hge)
theorem walk_enumT {K : PySem.W.Frag} {a : Addr} {xs : List V} : Walk (IteT K a) xs.length (fun H => SqT K H a xs) (fun i H v H' => ∃ T x, v = V.ref T ∧ H T = none ∧ H' = upd H T (.tup [.int (i : Nat), x]) ∧ xs[i]? = some x) :=
  ⟨fun i H hi h => ⟨xs, xs[i], h, List.getElem?_eq_getElem hi⟩, fun H h => ⟨xs, h, Nat.le_refl _⟩, fun i H v H' _ h y => let ⟨T, x, a, b, c, d⟩ := y; ⟨T, x, a, b, c, d xs h⟩⟩
section
variable {X : Cx}
def rExtendT (K : PySem.W.Frag) : V → List V → Hp → VK → Prop := fun x vs H Q => ∃ l b xs zs, x = .ref l ∧ vs = [.ref b] ∧ H l = some (.lst xs) ∧ SqT K H b zs ∧ xs.length + zs.length ≤ sizeLine ∧ Q .non (upd H l (.lst (xs ++ zs)))
theorem mt_extendT : MtR X "list.extend" (rExtendT X.K) := by
  intro pins s σ H x xs v us Q I rx rs h
  obtain ⟨l, b, ys, zs, rfl, rfl, hl, hb, hz, q⟩ := h
  cases rx
  obtain ⟨u, rfl, ru⟩ := rs.one
  cases ru
  obtain ⟨z1, its, n, r1, l1, e1⟩ := I.lstM hl
  obtain ⟨its2, r2, pl2, _⟩ := I.tuple hb
  obtain ⟨⟨cls, dd, dt, sl⟩, ho, hc, n2, hd⟩ := pl2
  simp only at hc hd
  subst hc
  subst hd
  have l2 := r2.length
  refine call_meets PySem.F.slot_list_extend ⟨_, e1, rfl⟩ PySem.F.entry_list_extend (PySem.F.args_list_extend_2 _ _) (meets_extendT l b its.toArray its2.toArray n n2 dd sl (by rw [List.size_toArray, List.size_toArray]; omega)) ⟨e1, ho, ?_⟩
  refine ⟨.non, upd H l (.lst (ys ++ zs)), ?_, rfl, q⟩
  exact I.lset (t' := s.toks) hl e1 (by simp) (r1.append r2) (by rw [List.length_append]; omega)
theorem ints_get : ∀ {vs : List Value} {ns : List Int} {i : Nat} {v : Value}, IntsAre vs ns → vs[i]? = some v → ∃ t, v = .int (ns.getD i 0) t
  | _, _, _, _, .nil, e => by simp at e
  | _, _, 0, _, .cons n t _, e => by
    simp at e
    exact ⟨t, e.symm⟩
  | _, _, i + 1, v, .cons n t r, e => by
    obtain ⟨t', e'⟩ := ints_get (i := i) (v := v) r (by simpa using e)
    exact ⟨t', by simpa using e'⟩
theorem preSum_getD : ∀ (ns : List Int) (m : Nat), m ≤ ns.length → preSum (fun i => ns.getD i 0) m = (ns.take m).sum := fun ns m => by
  induction m with
  | zero => intro _; rfl
  | succ m ih =>
    intro h
    show preSum _ m + ns.getD m 0 = _
    rw [ih (by omega), List.take_add_one, List.getElem?_eq_getElem (by omega), List.sum_append, List.getD_eq_getElem?_getD, List.getElem?_eq_getElem (by omega)]
    simp
def rSumT (K : PySem.W.Frag) : List V → Hp → VK → Prop := fun vs H Q => ∃ (a : Addr) (ns : List Int), vs = [V.ref a] ∧ SqT K H a (ns.map V.int) ∧ Q (.int ns.sum) H
theorem cr_sumT (hc : X.calm = true) : CallR X (.builtin "sum") (rSumT X.K) := by
  intro pins s σ H vs us Q I rv h
  obtain ⟨a, ns, rfl, ha, q⟩ := h
  obtain ⟨u, rfl, ru⟩ := rv.one
  cases ru
  obtain ⟨its, r, pl, _⟩ := I.tuple ha
  have hi := ints_of_vals r
  have hlen := r.length
  rw [List.length_map] at hlen
  have pl' : s.heap.IsTuple a its.toArray := pl
  have la : a < s.heap.objs.size := by obtain ⟨o, ho, _⟩ := pl'; exact Heap.lt_size ho
  refine call_sum_walkG (wpAny_pyIter_tuple pl' ?_)
  refine ⟨s.heap.objs.size, [s.heap.objs.size, a], [s.heap.objs.size], its.toArray.size, _, _, fun i => ns.getD i 0, rfl, Walks.tuple (by exact I.ok.hd hc) _ a (Nat.ne_of_lt la) its.toArray, ⟨⟨_, Heap.get?_push_size _ rfl, rfl, rfl⟩, ?_⟩, fun b hb => ?_, fun i v hv => ints_get (i := i) hi (by simpa using hv), fun h' tk t' k => ?_⟩
  · obtain ⟨o, ho, r⟩ := pl'
    exact ⟨o, Heap.get?_push_of_some _ ho, r⟩
  · rw [Heap.size_push]
    have e' : b = s.heap.objs.size ∨ b = a := by simpa using hb
    rcases e' with z | z
    · rw [z]; exact Nat.lt_succ_self _
    · rw [z]; exact Nat.lt_succ_of_lt la
  · refine ⟨.int ns.sum, H, ?_, ?_, q⟩
    · refine I.kept (t' := tk) fun b o e => k b o ?_ (Heap.get?_push_of_some _ e)
      have := Heap.lt_size e
      intro z
      have e' : b = s.heap.objs.size := by simpa using z
      exact absurd e' (Nat.ne_of_lt this)
    · rw [preSum_getD _ _ (by rw [List.size_toArray]; omega), List.size_toArray, ← hlen, List.take_length]
      exact ⟨_, rfl⟩
end
end RK

namespace RK
open PySem PySem.Spec PyProof.Rows L2
/-- a comprehension with two for, both targets names (at k and k1), no tests -/
theorem lc2_it {J : It} {n : Nat} {G : Hp → Prop} {Y : Nat → Hp → V → Hp → Prop} (w : Walk J n G Y) {wi1 : TI} {te : TE} {σ : L2.St} {H1 : Hp} {D : Addr} {Qd : Hp → Prop} {k k1 : Nat} (hk : k ≠ k1) (Pv : Nat → Hp → Prop) (h0 : Pv 0 (upd H1 D (.lst []))) (hG : ∀ i H, i ≤ n → Pv i H → G H)
    (hs : ∀ (i : Nat) (x : V) (H H' : Hp), i < n → Pv i H → Y i H x H' → ∀ R : It → Hp → Prop, (∀ (J1 : It) (H4 : Hp) (n1 : Nat) (G1 : Hp → Prop) (Y1 : Nat → Hp → V → Hp → Prop) (P1 : Nat → Hp → Prop), Walk J1 n1 G1 Y1 → P1 0 H4 → (∀ j H, j ≤ n1 → P1 j H → G1 H) →
      (∀ (j : Nat) (y : V) (H H' : Hp), j < n1 → P1 j H → Y1 j H y H' → te (((((σ.set k1 none).set k none).set k (some x)).set k1 none).set k1 (some y)) H' fun z H7 => ∃ acc, H7 D = some (.lst acc) ∧ acc.length < sizeLine ∧ P1 (j + 1) (upd H7 D (.lst (acc ++ [z])))) →
      (∀ H, P1 n1 H → Pv (i + 1) H) → R J1 H4) → wi1 (((σ.set k1 none).set k none).set k (some x)) H' R)
    (hd : ∀ H, Pv n H → Qd H) :
    ∃ W : Nat → Nat → Hp → Prop, (∃ m, W 0 m (upd H1 D (.lst []))) ∧ ∀ (i m : Nat) (H : Hp), W i m H → (J.stop i H ∧ Qd H) ∨ (J.go i H ∧ ∃ Nx : Hp → Prop, (∀ H', Nx H' → ∃ m', m' < m ∧ W (i + 1) m' H') ∧ ∀ (x : V) (H' : Hp), J.yld i H x H' →
      gName k x (wipe σ [k, k1]) H' fun σ2 H2 => wipe σ2 [k, k1] = wipe σ [k, k1] ∧ tYes σ2 H2 fun b H3 => if b = true then wi1 σ2 H3 fun J1 H4 => ∃ W1 : Nat → Nat → Hp → Prop, (∃ m, W1 0 m H4) ∧ ∀ (j k' : Nat) (H : Hp), W1 j k' H → (J1.stop j H ∧ Nx H) ∨ (J1.go j H ∧ ∃ Nx1 : Hp → Prop, (∀ H', Nx1 H' → ∃ k2, k2 < k' ∧ W1 (j + 1) k2 H') ∧
        ∀ (x : V) (H' : Hp), J1.yld j H x H' → gName k1 x (wipe σ2 [k1]) H' fun σ3 H5 => wipe σ3 [k1] = wipe σ2 [k1] ∧ tYes σ3 H5 fun b H6 => if b = true then te σ3 H6 fun y H7 => ∃ acc, H7 D = some (.lst acc) ∧ acc.length < sizeLine ∧ Nx1 (upd H7 D (.lst (acc ++ [y]))) else Nx1 H6) else Nx H3) := by
  refine ⟨fun i m H => i ≤ n ∧ m = n - i ∧ Pv i H, ⟨n, Nat.zero_le _, rfl, h0⟩, fun i m H hW => ?_⟩
  obtain ⟨hi, rfl, hp⟩ := hW
  rcases Nat.lt_or_ge i n with hlt | hge
  · refine .inr ⟨w.goes i H hlt (hG i H hi hp), fun H' => Pv (i + 1) H', fun H' h => ⟨n - (i + 1), by omega, by omega, rfl, h⟩, fun x H' y => ?_⟩
    have y' := w.yields i H x H' hlt (hG i H hi hp) y
    refine ⟨?_, ?_⟩
    · show ((((σ.set k1 none).set k none).set k (some x)).set k1 none).set k none = (σ.set k1 none).set k none
      rw [List.set_set, List.set_comm _ _ hk, List.set_set, List.set_set]
    show wi1 (((σ.set k1 none).set k none).set k (some x)) H' _
    refine hs i x H H' hlt hp y' _ fun J1 H4 n1 G1 Y1 P1 w1 p0 hG1 st en => ?_
    refine ⟨fun j m H => j ≤ n1 ∧ m = n1 - j ∧ P1 j H, ⟨n1, Nat.zero_le _, rfl, p0⟩, fun j m Hj hW1 => ?_⟩
    obtain ⟨hj, rfl, hp1⟩ := hW1
    rcases Nat.lt_or_ge j n1 with hlt1 | hge1
    · refine .inr ⟨w1.goes j Hj hlt1 (hG1 j Hj hj hp1), fun H' => P1 (j + 1) H', fun H' h => ⟨n1 - (j + 1), by omega, by omega, rfl, h⟩, fun y H'' yy => ?_⟩
      have yy' := w1.yields j Hj y H'' hlt1 (hG1 j Hj hj hp1) yy
      refine ⟨?_, ?_⟩
      · show (((((σ.set k1 none).set k none).set k (some x)).set k1 none).set k1 (some y)).set k1 none = (((σ.set k1 none).set k none).set k (some x)).set k1 none
        rw [List.set_set, List.set_set]
      exact st j y Hj H'' hlt1 hp1 yy'
    · have : j = n1 := Nat.le_antisymm hj hge1
      subst this
      exact .inl ⟨w1.stops Hj (hG1 j Hj hj hp1), en Hj hp1⟩
  · have : i = n := Nat.le_antisymm hi hge
    subst this
    exact .inl ⟨w.stops H (hG i H hi hp), hd H hp⟩
theorem xt_sq {K : PySem.W.Frag} {H : Hp} {S : ASet} {r : Addr} {xs : List V} (h : SqT K H r xs) (n : ∀ a, S a → ∃ ys, H a = some (.lst ys)) : XT K H S r xs := by
  rcases h with h | h
  · refine .inl ⟨fun z => ?_, h⟩
    obtain ⟨ys, e⟩ := n r z
    rcases h with h | ⟨o, h⟩ <;> rw [e] at h <;> cases h
  · exact .inr (.inr h)
/-- a tuple and a new one behind it -/
theorem catA_xt {K : PySem.W.Frag} {H : Hp} {S : ASet} {a b : Addr} {xs ys : List V} {Q : VK} (ha : SqT K H a xs) (hb : XT K H S b ys) (hy : ys ≠ []) (hS : ∀ c, S c → H c ≠ none) (hl : xs.length + ys.length ≤ 100000) (q : ∀ p H', Same H H' → XT K H' S p (xs ++ ys) → Q (.ref p) H') : rCatA K (.ref a) (.ref b) H Q :=
  ⟨a, b, xs, ys, rfl, rfl, ha, hb.sq, Nat.le_trans hl (show 100000 ≤ sizeLine by decide), fun e => q b H (Same.refl _) (by rw [e]; exact hb), fun _ e => absurd e hy, fun _ _ p hp => q p _ (same_new hp) (XT.of upd_same fun z => hS p z hp)⟩
end RK

/-! own __len__, __contains__, __eq__, __iter__ (handing back a tuple's iterator), list(o) -/
namespace DK
open PySem PySem.Spec PyProof.Rows L2

section
variable {X : Cx} {pins : List (Addr × Obj)} {σ : L2.St} {H : Hp} {s : Shared} {CX : CXT} {k : Nat} {f C : Addr} {sp : Sp} {E : XK}

/-- the callee runs below the running body -/
theorem run_sub {A1 : Around} {Q : VK} {us : List Value} {vs : List V} (F : FnR X.prog X.w X.K X.mg X.base CX k f sp) (sb : Sub X k A1) (hx : Passes CX X E) (I : Inv X pins σ H s) (r : Vals vs us) (h : sp vs H Q E) :
    wpAny (model X.prog X.w) A1 (call (.ref f) us) (EP X pins σ Q) X.xe s := by
  have e0 : Env0 X.prog X.w X.K X.mg X.base A1 X.stack s H := by
    have e := I.env0
    exact ⟨by rw [sb.fr]; exact e.frames, e.mod, e.bs, e.bsz, e.funs, e.frf, e.hok, e.bare⟩
  refine wpAny_call (codeAny_mono (F A1 X.stack s H us vs Q E sb.room e0 r h) fun r s' hq => ?_)
  cases r with
  | error e => exact hx pins σ H s e s' I hq
  | ok fl =>
    cases fl with
    | ret u => exact I.after hq
    | next => exact False.elim hq
    | brk => exact False.elim hq
    | cont => exact False.elim hq

/-- the def at f stands in the class at C under this name -/
structure Own (K : PySem.W.Frag) (C : Addr) (name : Str) (f : Addr) : Prop where
  at_ : PySem.W.findIn K (.ref C) name = some (some (.ref f))
  fn : PySem.W.isFn K (.ref f) = true

/-! ### len(o) -/
def rLenO (C : Addr) (sp : Sp) (E : XK) : List V → Hp → VK → Prop := fun xs H Q => ∃ a dx fs, xs = [V.ref a] ∧ H a = some (.ins C dx fs) ∧
  sp [.ref a] H (fun v H' => ∃ n : Int, v = .int n ∧ (0 ≤ n ∧ n < 2 ^ 63) ∧ Q (.int n) H') E
theorem call_lenO_at {A1 : Around} {Q : VK} {a dx : Addr} {fs : List (Str × V)} (c : Own X.K C "__len__" f) (F : FnR X.prog X.w X.K X.mg X.base CX k f sp) (hx : Passes CX X E) (sb : Sub X (k + 1) A1) (I : Inv X pins σ H s) (ha : H a = some (.ins C dx fs))
    (hsp : sp [.ref a] H (fun v H' => ∃ n : Int, v = .int n ∧ (0 ≤ n ∧ n < 2 ^ 63) ∧ Q (.int n) H') E) : wpAny (model X.prog X.w) A1 (call (.builtin "len") [.ref a]) (EP X pins σ Q) X.xe s := by
  obtain ⟨mA, J, _⟩ := ins_get I.hok ha
  obtain ⟨od, J, _⟩ := J.look
  obtain ⟨m, hF⟩ := I.fr
  refine PySem.W.len_K hF I.ok.mod.kin J c.at_ c.fn ?_
  refine wpAny_mono (run_sub (us := [.ref a]) (vs := [V.ref a]) F sb.in1 hx I (.cons rfl .nil) hsp) (fun r s' hq => ?_) fun _ _ z => z
  obtain ⟨v, H', I', rv, n, rfl, hn, q⟩ := hq
  obtain ⟨t, rfl⟩ := rv
  exact ⟨hn, .int n, H', I'.tok _, ⟨_, rfl⟩, q⟩
theorem call_lenO (c : Own X.K C "__len__" f) (F : FnR X.prog X.w X.K X.mg X.base CX k f sp) (hx : Passes CX X E) (hr : Room (k + 1) X.A) : CallR X (.builtin "len") (rLenO C sp E) := by
  intro pins s σ H xs us Q I r h
  obtain ⟨a, dx, fs, rfl, ha, hsp⟩ := h
  obtain ⟨u, rfl, ru⟩ := r.one
  cases ru
  exact call_lenO_at c F hx ⟨hr, rfl⟩ I ha hsp

/-! ### x in o -/
def rInO (neg : Bool) (C : Addr) (sp : Sp) (E : XK) : R2 := fun x y H Q => ∃ a dx fs, y = V.ref a ∧ H a = some (.ins C dx fs) ∧
  sp [.ref a, x] H (fun v H' => ∃ b : Bool, v = .bl b ∧ Q (.bl (b ^^ neg)) H') E
theorem op_inO (c : Own X.K C "__contains__" f) (F : FnR X.prog X.w X.K X.mg X.base CX k f sp) (hx : Passes CX X E) (hr : Room k X.A) : OpR X (compareOp .In) (rInO false C sp E) := by
  intro pins s σ H x y v u Q I rx ry h
  obtain ⟨a, dx, fs, rfl, ha, hsp⟩ := h
  cases ry
  obtain ⟨mA, J, _⟩ := ins_get I.hok ha
  obtain ⟨od, J, _⟩ := J.look
  obtain ⟨m, hF⟩ := I.fr
  refine PySem.W.in_K hF I.ok.mod.kin J c.at_ c.fn ?_
  refine wpAny_mono (run_sub (us := [.ref a, v]) (vs := [V.ref a, x]) F ⟨hr, rfl⟩ hx I (.cons rfl (.cons rx .nil)) hsp) (fun r s' hq => ?_) fun _ _ z => z
  obtain ⟨w', H', I', rv, b, rfl, q⟩ := hq
  cases rv
  refine wpAny_truthy_bool ?_
  exact ⟨.bl b, H', I', rfl, by simpa using q⟩
theorem op_notInO (c : Own X.K C "__contains__" f) (F : FnR X.prog X.w X.K X.mg X.base CX k f sp) (hx : Passes CX X E) (hr : Room k X.A) : OpR X (compareOp .NotIn) (rInO true C sp E) := by
  intro pins s σ H x y v u Q I rx ry h
  obtain ⟨a, dx, fs, rfl, ha, hsp⟩ := h
  cases ry
  obtain ⟨mA, J, _⟩ := ins_get I.hok ha
  obtain ⟨od, J, _⟩ := J.look
  obtain ⟨m, hF⟩ := I.fr
  refine PySem.W.notIn_K hF I.ok.mod.kin J c.at_ c.fn ?_
  refine wpAny_mono (run_sub (us := [.ref a, v]) (vs := [V.ref a, x]) F ⟨hr, rfl⟩ hx I (.cons rfl (.cons rx .nil)) hsp) (fun r s' hq => ?_) fun _ _ z => z
  obtain ⟨w', H', I', rv, b, rfl, q⟩ := hq
  cases rv
  refine wpAny_truthy_bool ?_
  exact ⟨.bl (!b), H', I', rfl, by simpa using q⟩

/-! ### o == p, both of the class at C; the own __eq__ says which -/
def rEqO (C : Addr) (sp : Sp) (E : XK) : R2 := fun x y H Q => ∃ a dx fs b dy gs, x = V.ref a ∧ y = V.ref b ∧ H a = some (.ins C dx fs) ∧ H b = some (.ins C dy gs) ∧
  sp [.ref a, .ref b] H (fun v H' => ∃ k : Bool, v = .bl k ∧ Q (.bl k) H') E
theorem op_eqO (c : Own X.K C "__eq__" f) (F : FnR X.prog X.w X.K X.mg X.base CX k f sp) (hx : Passes CX X E) (hr : Room k X.A) : OpR X (compareOp .Eq) (rEqO C sp E) := by
  intro pins s σ H x y v u Q I rx ry h
  obtain ⟨a, dx, fs, b, dy, gs, rfl, rfl, ha, hb, hsp⟩ := h
  cases rx
  cases ry
  obtain ⟨mA, J, _⟩ := ins_get I.hok ha
  obtain ⟨mB, J', _⟩ := ins_get I.hok hb
  obtain ⟨od, J, _⟩ := J.look
  obtain ⟨od', J', _⟩ := J'.look
  obtain ⟨m, hF⟩ := I.fr
  show wpAny (model X.prog X.w) X.A (richCompare .Eq (.ref a) (.ref b)) (EP X pins σ Q) X.xe s
  refine PySem.W.cmp_K (op := .Eq) (tb := .ref C) hr.units0 hF I.ok.mod.kin J J'.type (by simp [PySem.W.notFirst]) c.at_ c.fn ?_
  refine wpAny_mono (run_sub (us := [.ref a, .ref b]) (vs := [V.ref a, V.ref b]) F ⟨hr, rfl⟩ hx I (.cons rfl (.cons rfl .nil)) hsp) (fun r s' hq => ?_) fun _ _ z => z
  obtain ⟨w', H', I', rv, b', rfl, q⟩ := hq
  cases rv
  exact ⟨.bl b', H', I', rfl, q⟩
end

/-! ### a tuple's iterator as a tracked thing -/
def TiO (t it : Addr) (i : Nat) : HO := .ext fun h => h.IsTupleIter it t i
theorem tiO_ok {P : Program} {w : World} {H : Hp} {h : Heap} {t it : Addr} {i : Nat} (e : h.IsTupleIter it t i) : ObjOk P w H h it (TiO t it i) :=
  ⟨e, (let ⟨o, ho, _⟩ := e; ⟨o, ho⟩), fun h1 h2 q k => q.at k⟩
section
variable {X : Cx} {pins : List (Addr × Obj)} {σ : L2.St} {H : Hp} {s : Shared} {t it : Addr} {i : Nat}
theorem tiO_get (I : Inv X pins σ H s) (e : H it = some (TiO t it i)) : s.heap.IsTupleIter it t i := (I.hok it _ e).1
end
section
variable {prog : Program} {w : World} {A : Around} {E : Value → Shared → Prop} {s : Shared} {t : Addr} {items : Array Value}
theorem call_iter_tup {Q : Value → Shared → Prop} (hl : s.heap.IsTuple t items) (h : Q (.ref s.heap.objs.size) { s with heap := s.heap.push { cls := .type "tuple_iterator", data := .fields #[.ref t, .int 0 0] } }) :
    wpAny (model prog w) A (call (.builtin "iter") [.ref t]) Q E s := by
  refine Calls.call_function_entry (by decide +kernel) (by decide +kernel) PySem.W.kdk_entry_iter (PySem.W.kdk_args_iter _) ?_
  unfold Builtin.«iter»
  refine wpAny_bind (m := someArgs "iter" 1 2 _) (wpAny_of_eq (a := [Value.ref t]) (by first | rfl | kernel_rfl!) ?_)
  show wpAny _ _ (pyIter (.ref t) >>= _) _ _ _
  refine wpAny_bind (wpAny_pyIter_tuple hl ?_)
  exact wpAny_pure ⟨_, rfl, h⟩
end
/-- iter(t), t a tuple: a new iterator, younger than the entry -/
def rIterT (K : PySem.W.Frag) (n : Nat) : List V → Hp → VK → Prop := fun xs H Q => ∃ (t : Addr) (zs : List V), xs = [V.ref t] ∧ SqT K H t zs ∧ ∀ it, H it = none → n ≤ it → Q (.ref it) (upd H it (TiO t it 0))
theorem call_iterT {X : Cx} : CallR X (.builtin "iter") (rIterT X.K X.s_0.heap.objs.size) := by
  intro pins s σ H xs us Q I r h
  obtain ⟨t, zs, rfl, hq, q⟩ := h
  obtain ⟨u, rfl, ru⟩ := r.one
  cases ru
  obtain ⟨its, rv, pl, hz⟩ := I.tuple hq
  refine call_iter_tup (show s.heap.IsTuple t its.toArray from pl) ?_
  exact ⟨.ref s.heap.objs.size, _, I.laid (t' := s.toks) (fun b u e => Heap.get?_push_of_some _ e) (Nat.le_refl _) (tiO_ok ⟨_, Heap.get?_push_size _ rfl, rfl, rfl⟩), rfl, q _ (I.hok.fresh (Nat.le_refl _)) I.sz⟩

/-! ### a def whose promise may speak of the heap's size at its entry -/
def FnS (P : Program) (w : World) (K : PySem.W.Frag) (mg : Str → Option Value) (base : Heap) (CX : CXT) (k : Nat) (f : Addr) (spN : Nat → Sp) : Prop :=
  ∀ (A : Around) (outer : List Env) (s : Shared) (H : Hp) (us : List Value) (vs : List V) (Q : VK) (E : XK), Room k A → Env0 P w K mg base A outer s H → Vals vs us → spN s.heap.objs.size vs H Q E →
    codeAny (model P w) A (.call (.ref f) ⟨us, []⟩) (CR CX outer P w H s Q E) s
theorem fn_ofS {CX : CXT} {P : Program} {w : World} {K : PySem.W.Frag} {mg : Str → Option Value} {base : Heap} {k : Nat} {f : Addr} {name qual : Str} {params : Arguments} {body : List Stmt} {scope : Scope} {dV kV doc pm cdv ct oc : Value} {an od : Option Addr}
    {osl : Array (Option Value)} {N ps : List Str} {spN : Nat → Sp} (lk : K.lookup f = some ⟨oc, od, .func (PySem.W.fnOf name qual params body scope dV kV doc pm an cdv ct), osl⟩) (hcd : PySem.W.codeIn K cdv qual = true) (S : FnScope N ps scope)
    (hbd : Binds K (PySem.W.fnOf name qual params body scope dV kV doc pm an cdv ct) ps [])
    (len : ∀ n vs H Q E, spN n vs H Q E → vs.length = ps.length)
    (hbody : ∀ (A : Around) (outer : List Env) (s : Shared) (H : Hp) (vs : List V) (Q : VK) (E : XK), Room k (A.deeper (envOfC qual scope s.heap.objs.size f cdv)) → spN s.heap.objs.size vs H Q E →
      ∃ t, PSs (cxOf CX P w K mg base N qual scope f cdv A outer s H E) body t ∧ t { nx := fun _ H' => Q .non H', rt := Q } (start N vs) H) :
    FnS P w K mg base CX (k + 1) f spN := by
  intro A outer s H us vs Q E hr e0 r hsp
  have below : ∀ b o, base.get? b = some o → s.heap.get? b = some o := fun b o z => (e0.bs b o z).1
  have KX := e0.mod.kin.keeps below
  have nl := len _ _ _ _ _ hsp
  have cellsOf : ∀ y ∈ ps.zip us, scope.names.lookup y.1 = some .local ∨
      (scope.names.lookup y.1 = some .cell ∧ ((cellsFrom (s.heap.objs.size + 1) scope.names []).lookup y.1).isSome = true) := by
    rintro ⟨n, v⟩ hy
    exact (S.par n (List.of_mem_zip hy).1).imp id fun q => ⟨q, PySem.W.cellsFrom_some _ _ _ (.inl q)⟩
  have hb : BindsTo s (PySem.W.fnOf name qual params body scope dV kV doc pm an cdv ct) ⟨us, []⟩ (ps.zip us) := by
    have z := hbd s us KX (by rw [List.append_nil, ← r.length, nl])
    simpa using z
  refine codeAny_call_function hr.depth (KX _ _ lk) rfl S.co S.gen rfl
    (PySem.W.codeRec_of KX hcd) (hb _ _ _ _ ?_)
  refine wpAny_newFunctionEnv_cells S.kind cellsOf
    fun env he s1 x => ?_
  cases he
  refine ⟨(e0.mod.nolimit.keeps below).keeps x.toInCall.keep, codeAny_func ?_⟩
  obtain ⟨t, ht, hq⟩ := hbody A outer s H vs Q E
    (hr.deeper _) hsp
  have I : Inv (cxOf CX P w K mg base N qual scope f cdv A outer s H E)
      [] (L2.start N vs) H s1 :=
    inv_start S hr.hd e0 nl r x
  refine wpAny_mono (ht.run [] s1 (start N vs) H _ I hq)
    (fun fl s' hs => ?_) fun _ _ z => z
  cases fl with
  | ret u => exact (let ⟨v, σ', H', J, rv, q⟩ := hs; ⟨v, H', J.os, J.bare, J.base, J.hok, rv, q⟩)
  | next => exact (let ⟨σ', H', J, q⟩ := hs; ⟨V.non, H', J.os, J.bare, J.base, J.hok, rfl, q⟩)
  | brk => exact (let ⟨_, _, _, q⟩ := hs; False.elim q)
  | cont => exact (let ⟨_, _, _, q⟩ := hs; False.elim q)
/-- what __iter__ of the class promises: P says which tuple -/
def spIterN (P : Addr → Addr → Hp → Prop) (K : PySem.W.Frag) (n : Nat) : Sp := fun vs H Q _ => ∃ a t, vs = [V.ref a] ∧ P a t H ∧ ∀ it, H it = none → n ≤ it → Q (.ref it) (upd H it (TiO t it 0))
/-- own things that hand back a tuple's iterator -/
structure OwnI (X : Cx) (CX : CXT) (C f : Addr) (k : Nat) (P : Addr → Addr → Hp → Prop) : Prop where
  own : Own X.K C "__iter__" f
  run : FnS X.prog X.w X.K X.mg X.base CX k f (spIterN P X.K)
section
variable {X : Cx} {pins : List (Addr × Obj)} {σ : L2.St} {H : Hp} {s : Shared} {CX : CXT} {k : Nat} {f C : Addr} {E : XK} {P : Addr → Addr → Hp → Prop}
/-- the iterator comes: it is forgotten at once, and may turn -/
theorem iter_own {A1 : Around} {a t dx : Addr} {fs : List (Str × V)} {Q : Value → Shared → Prop} (o : OwnI X CX C f k P) (sb : Sub X k A1) (hx : Passes CX X E) (I : Inv X pins σ H s) (ha : H a = some (.ins C dx fs)) (hP : P a t H)
    (h : ∀ it s', Inv X pins σ H s' → s'.heap.IsTupleIter it t 0 → FpOk X pins H it → Q (.ref it) s') : wpAny (model X.prog X.w) A1 (pyIter (.ref a)) Q X.xe s := by
  obtain ⟨mA, J, _⟩ := ins_get I.hok ha
  obtain ⟨od, J, _⟩ := J.look
  obtain ⟨m, hF⟩ := I.fr
  refine PySem.W.owit_iter hF I.ok.mod.kin J o.own.at_ o.own.fn ?_
  have e0 : Env0 X.prog X.w X.K X.mg X.base A1 X.stack s H := by
    have e := I.env0
    exact ⟨by rw [sb.fr]; exact e.frames, e.mod, e.bs, e.bsz, e.funs, e.frf, e.hok, e.bare⟩
  have r2 : Vals [V.ref a] [Value.ref a] := .cons rfl .nil
  have hsp : spIterN P X.K s.heap.objs.size [V.ref a] H (fun v H' => ∃ it, v = .ref it ∧ H it = none ∧ s.heap.objs.size ≤ it ∧ H' = upd H it (TiO t it 0)) E :=
    ⟨a, t, rfl, hP, fun it n g => ⟨it, rfl, n, g, rfl⟩⟩
  refine wpAny_call (codeAny_mono (o.run A1 X.stack s H [.ref a] [.ref a] _ E sb.room e0 r2 hsp) fun r s' hq => ?_)
  cases r with
  | error e => exact hx pins σ H s e s' I hq
  | ok fl =>
    cases fl with
    | next => exact False.elim hq
    | brk => exact False.elim hq
    | cont => exact False.elim hq
    | ret u =>
      obtain ⟨v, H', I', rv, it, ev, hn, hg, eH⟩ := I.after hq
      subst ev
      cases rv
      rw [eH] at I'
      have st := tiO_get I' upd_same
      have hT : s'.TypeIs (.ref it) "tuple_iterator" := (let ⟨o, ho, hc, _⟩ := st; ⟨o, ho, hc⟩)
      have hd : (upd H it (TiO t it 0)) it = some (.ext fun h => h.IsTupleIter it t 0) := upd_same
      have I2 := ItX.inv_drop I' hd
      have fp := ItX.inv_fp I' hd (Nat.le_trans I.sz hg)
      rw [ItX.dropH_upd hn] at I2 fp
      show wpAny _ _ (specialOf (.ref it) "__next__") _ _ _
      exact wpAny_specialOf hT slot_tupleiter_next.lookup (h it s' I2 st fp)
/-- for x in o; a comprehension over o -/
def iOwnI (K : PySem.W.Frag) (C : Addr) (P : Addr → Addr → Hp → Prop) (te : TE) : TI := fun σ H R => te σ H fun x H1 => ∃ a t dx fs, x = V.ref a ∧ H1 a = some (.ins C dx fs) ∧ P a t H1 ∧ R (Itt K t) H1
theorem pi_ownI {tg e : Expr} {te : TE} (he : PE X e te) (o : OwnI X CX C f k P) (hx : Passes CX X E) (hr : Room k X.A) : PI X tg e (iOwnI X.K C P te) := by
  refine ⟨fun pins s σ H R I h => ?_⟩
  refine thn (he.run pins s σ H _ I h) fun v s1 ⟨x, H1, I1, r1, q1⟩ => ?_
  obtain ⟨a, t, dx, fs, rfl, ha, hP, q⟩ := q1
  cases r1
  refine iter_own (E := E) o ⟨hr, rfl⟩ hx I1 ha hP fun it s' I2 st fp => ?_
  exact ⟨it, [it], _, Itt X.K t, H1, rfl, I2, turn_tuple t it, st, fun b hb => by
    have e : b = it := by simpa using hb
    subst e
    exact fp, q⟩
end

/-! ### list(o) -/
section
variable {X : Cx} {pins : List (Addr × Obj)} {σ : L2.St} {H : Hp} {s : Shared} {CX CXl : CXT} {k kl : Nat} {f g C t it q : Addr} {E El : XK} {P : Addr → Addr → Hp → Prop} {A1 : Around} {xs : List V} {spl : Sp}
theorem tup_loop {Rs : Result → Shared → Prop} (hh : A1.in1.handled = none) (hdone : ∀ s, Inv X pins σ (upd H q (.lst xs)) s → Rs (.ok (.ret .none)) s) (ht : SqT X.K H t xs) (hq : H q = none)
    (hfp : ∀ b, b = it → FpOk X pins (upd H q (.lst [])) b) :
    ∀ (m i : Nat) (s : Shared), m = xs.length - i → i ≤ xs.length → Inv X pins σ (upd H q (.lst (xs.take i))) s → s.heap.IsTupleIter it t i →
      codeAny (model X.prog X.w) A1 (.builtin "list.extend.loop" ⟨[.ref q, .ref it, .none], []⟩) Rs s := by
  have hqt : ∀ {ys : List V}, SqT X.K (upd H q (.lst ys)) t xs := fun {ys} => SqT.ext ht fun a o z => by
    rw [upd_ne (ne_of_none z hq)]
    exact z
  have nq : it ≠ q := fun z => by
    have z2 := (hfp it rfl).1
    rw [z, upd_same] at z2
    cases z2
  have fpn : ∀ ys, FpOk X pins (upd H q (.lst ys)) it := fun ys => by
    obtain ⟨f0, f1⟩ := hfp it rfl
    refine ⟨?_, f1⟩
    rw [upd_ne nq] at f0 ⊢
    exact f0
  intro m
  induction m with
  | zero =>
    intro i s hm hi I st
    have hi' : i = xs.length := by omega
    subst hi'
    refine codeAny_builtin PySem.F.entry_extend_loop ?_
    rw [Around.under_plainId PySem.F.plain_extend_loop _]
    show wpAny _ A1.in1 (pyNext (.ref it) >>= _) _ _ s
    obtain ⟨its, rv, pl, hz⟩ := I.tuple hqt
    obtain ⟨f0, f1, f2, f3, f4, f5⟩ := fpn (xs.take xs.length)
    have hl := rv.length
    refine wpAny_bind (wpAny_pyNext_tuple_end hh st (show s.heap.IsTuple t its.toArray from pl) (by simp; omega) fun h' eb => ?_)
    refine wpAny_pure (hdone _ ?_)
    have I2 : Inv X pins σ _ { s with heap := h' } := I.turned (t' := s.toks) (fun b o hb e => eb b o hb e) f0 f1 f3 f4 f5
    rw [List.take_length] at I2
    exact I2
  | succ m ih =>
    intro i s hm hi I st
    have hlt : i < xs.length := by omega
    refine codeAny_builtin PySem.F.entry_extend_loop ?_
    rw [Around.under_plainId PySem.F.plain_extend_loop _]
    show wpAny _ A1.in1 (pyNext (.ref it) >>= _) _ _ s
    obtain ⟨its, rv, pl, hz⟩ := I.tuple hqt
    obtain ⟨f0, f1, f2, f3, f4, f5⟩ := fpn (xs.take i)
    obtain ⟨u, hu, ru⟩ := rv.get (List.getElem?_eq_getElem hlt)
    refine wpAny_bind (wpAny_pyNext_tuple_item st (show s.heap.IsTuple t its.toArray from pl) (x := u) (by simpa using hu) fun h' st' sb => ?_)
    have I1 : Inv X pins σ (upd H q (.lst (xs.take i))) { s with heap := h' } := I.turned (t' := s.toks) (fun b o hb e => (sb.2 b hb).trans e) f0 f1 f3 f4 f5
    show wpAny _ A1.in1 (updateSeq q (·.push u) >>= _) _ _ _
    obtain ⟨z, its2, k2, r2, hl2, e2⟩ := I1.lstM upd_same
    have hlen : (xs.take i).length < sizeLine := by rw [List.length_take]; omega
    refine wpAny_bind (wpAny_updateSeq e2 rfl (wpAny_pure ⟨plainId_quiet PySem.F.plain_extend_loop _, ?_⟩) (by rw [List.size_toArray]; omega) (by show (its2.toArray.push u).size ≤ sizeLine + 1; rw [Array.size_push, List.size_toArray]; omega))
    have I3 := I1.lset (f := (·.push u)) (its' := its2 ++ [u]) (t' := s.toks) upd_same e2 (by simp) (r2.append (.cons ru .nil)) (by rw [List.length_append, List.length_singleton]; omega)
    rw [upd_upd] at I3
    have et : xs.take i ++ [xs[i]] = xs.take (i + 1) := by rw [List.take_add_one, List.getElem?_eq_getElem hlt]; rfl
    rw [et] at I3
    refine ih (i + 1) _ (by omega) (by omega) I3 ?_
    obtain ⟨o, ho, hc, hd⟩ := st'
    exact ⟨o, (Heap.get?_update_other h' _ (Ne.symm nq)).trans ho, hc, hd⟩
/-- room is made by the own length -/
theorem hint_own {a dx : Addr} {fs : List (Str × V)} {Q : Bool → Shared → Prop} (c : Own X.K C "__len__" g) (F : FnR X.prog X.w X.K X.mg X.base CX0 kl g spl) (sb : Sub X (kl + 1) A1) (I : Inv X pins σ H s) (ha : H a = some (.ins C dx fs))
    {n : Nat} (hn : n ≤ sizeLine) (hsp : spl [.ref a] H (fun v H' => ∃ k : Int, v = .int k ∧ (0 ≤ k ∧ k < 2 ^ 63) ∧ k = n ∧ H' = H) El)
    (h : ∀ b s', Inv X pins σ H s' → Q b s') : wpAny (model X.prog X.w) A1 (Builtin.List.listLengthHint (.ref a)) Q X.xe s := by
  obtain ⟨mA, J, _⟩ := ins_get I.hok ha
  obtain ⟨od, J, _⟩ := J.look
  have hK := I.kIn
  unfold Builtin.List.listLengthHint
  refine wpAny_bind (wpAny_bind (J.type.here ((PySem.W.looks_findIn hK c.at_).here ?_)))
  refine PySem.W.KFB.if_not rfl ?_
  refine PySem.W.KFB.if_so rfl ?_
  refine wpAny_bind (wpAny_rule ?_)
  refine wpAny_bind (wpAny_attempt ?_)
  have J0 : Inv X.nox pins σ H s := I.wish _
  have q := call_lenO_at (X := X.nox) (E := El) (Q := fun v H' => v = .int n ∧ H' = H) (A1 := A1) c F (fun _ _ _ _ _ _ _ z => False.elim z) ⟨sb.room, sb.fr⟩ J0 ha (by simpa using hsp)
  refine wpAny_mono q (fun r s' hq => ?_) fun _ _ z => False.elim z
  obtain ⟨v, H', I', rv, rfl, rfl⟩ := hq
  obtain ⟨t, rfl⟩ := rv
  refine wpAny_bind (wpAny_pure ?_)
  refine PySem.W.KFB.if_not (by unfold Builtin.List.listTooLong; simp; omega) ?_
  exact wpAny_pure (h _ _ I'.unwish)
/-- a list's first filling by such a thing -/
theorem extend_own {Rs : Result → Shared → Prop} {a dx : Addr} {fs : List (Str × V)} (o : OwnI X CX C f k P) (hx : Passes CX X E) (c : Own X.K C "__len__" g) (F : FnR X.prog X.w X.K X.mg X.base CX0 kl g spl)
    (sb : Sub X k A1.in1) (sbl : Sub X (kl + 1) A1.in1) (ht : SqT X.K H t xs) (hq : H q = none) (hqn : X.s_0.heap.objs.size ≤ q) (ha : H a = some (.ins C dx fs)) (hP : P a t (upd H q (.lst [])))
    (hsp : ∀ H, (∃ dx fs, H a = some (.ins C dx fs)) → P a t H → spl [.ref a] H (fun v H' => ∃ k : Int, v = .int k ∧ (0 ≤ k ∧ k < 2 ^ 63) ∧ k = xs.length ∧ H' = H) El)
    (hdone : ∀ s, Inv X pins σ (upd H q (.lst xs)) s → Rs (.ok (.ret .none)) s) (herr : ∀ e s, X.xe e s → Rs (.error e) s) (I : Inv X pins σ (upd H q (.lst [])) s) :
    wpAny (model X.prog X.w) A1.in1 (Builtin.List.listExtendWith (.ref q) (.ref a) .none)
      (fun fin s' => match fin with | .done f => Rs (.ok f) s' | .again c' => c'.quiet = true ∧ codeAny (model X.prog X.w) A1 c' Rs s') (fun e s' => Rs (.error e) s') s := by
  have hne : q ≠ a := fun z => by rw [← z, hq] at ha; cases ha
  have ha2 : upd H q (.lst []) a = some (.ins C dx fs) := by rw [upd_ne (Ne.symm hne)]; exact ha
  obtain ⟨mA, J, _⟩ := ins_get I.hok ha2
  obtain ⟨od, J, _⟩ := J.look
  have htq : SqT X.K (upd H q (.lst [])) t xs := SqT.ext ht fun b u z => by
    rw [upd_ne (ne_of_none z hq)]
    exact z
  obtain ⟨_, _, _, hz⟩ := I.tuple htq
  unfold Builtin.List.listExtendWith
  refine wpAny_bind (J.type.here ?_)
  simp only [show Builtin.List.listSameRef (.ref q) (.ref a) = false by simp [Builtin.List.listSameRef, hne], show (Value.ref C == Value.type "list") = false from rfl, show (Value.ref C == Value.type "tuple") = false from rfl, Bool.or_false, Bool.false_eq_true, if_false]
  refine wpAny_bind (wpAny_mono (iter_own (E := E) (Q := fun v s' => ∃ it, v = .ref it ∧ Inv X pins σ (upd H q (.lst [])) s' ∧ s'.heap.IsTupleIter it t 0 ∧ FpOk X pins (upd H q (.lst [])) it) o sb hx I ha2 hP
    fun it s' I' st fp => ⟨it, rfl, I', st, fp⟩) (fun v s' hv => ?_) herr)
  obtain ⟨it, rfl, I', st, fp⟩ := hv
  have I1 := I'.pinned (fp := [it]) (fun b hb => by
    have e : b = it := by simpa using hb
    subst e
    exact fp) (fun b hb => by
    have e : b = it := by simpa using hb
    subst e
    obtain ⟨oo, ho, hc, hd⟩ := st
    exact ⟨oo, ho, fun v z => by rw [hd] at z; cases z⟩)
  refine wpAny_bind (wpAny_holding (hint_own (Q := fun b s2 => Inv X pins σ (upd H q (.lst [])) s2 ∧ s2.heap.IsTupleIter it t 0) c F sbl I1 ha2 hz (hsp _ ⟨_, _, ha2⟩ hP) fun b s2 I2 => ⟨I2.unpinned, by
    obtain ⟨oo, ho, hc, hd⟩ := st
    exact ⟨oo, (I2.pin (it, oo) (List.mem_append_right _ (List.mem_append_right _ (mem_pinsAt (by simp) ho)))).1, hc, hd⟩⟩) |> fun w => wpAny_mono w (fun b s2 h2 => ?_) herr)
  obtain ⟨I2, st2⟩ := h2
  have loop : ∀ s3, Inv X pins σ (upd H q (.lst [])) s3 → s3.heap.IsTupleIter it t 0 → codeAny (model X.prog X.w) A1 (.builtin "list.extend.loop" ⟨[.ref q, .ref it, .none], []⟩) Rs s3 := fun s3 I3 st3 =>
    tup_loop (q := q) sb.room.hd hdone ht hq (fun b hb => by rw [hb]; exact fp) (xs.length - 0) 0 s3 rfl (Nat.zero_le _) I3 st3
  have nq : it ≠ q := fun z => by
    have z2 := fp.1
    rw [z, upd_same] at z2
    cases z2
  obtain ⟨z, its, k2, r3, hl3, e3⟩ := I2.lstM upd_same
  cases r3
  refine wpAny_ite_split (fun _ => ?_) (fun _ => wpAny_pure ⟨plainId_quiet PySem.F.plain_extend_loop _, loop _ I2 st2⟩)
  refine wpAny_bind (wpAny_rule ?_)
  refine wpAny_bind ?_
  show wpAny _ _ (updateSeq q (·.push .none) >>= fun _ => updateSeq q (·.pop)) _ _ _
  refine wpAny_bind (wpAny_updateSeq e3 rfl ?_)
  have I4 := I2.lset (f := (·.push Value.none)) (its' := [Value.none]) (ys := [.non]) (t' := s2.toks) upd_same e3 (by simp) (.cons rfl .nil) (by rw [List.length_singleton, sizeLine_eq]; decide)
  rw [upd_upd] at I4
  obtain ⟨z4, its4, k4, r4, hl4, e4⟩ := I4.lstM upd_same
  obtain ⟨u4, rfl, ru4⟩ := r4.one
  refine wpAny_updateSeq e4 rfl ?_ (by show 1 ≤ sizeLine; rw [sizeLine_eq]; decide) (by show 0 ≤ sizeLine + 1; exact Nat.zero_le _)
  have I5 := I4.lset (f := (·.pop)) (its := [u4]) (its' := []) (ys := []) (t' := s2.toks) upd_same e4 (by rfl) .nil (Nat.zero_le _)
  rw [upd_upd] at I5
  refine wpAny_pure ⟨plainId_quiet PySem.F.plain_extend_loop _, loop _ I5 ?_⟩
  obtain ⟨oo, ho, hc, hd⟩ := st2
  exact ⟨oo, (Heap.get?_update_other _ _ (Ne.symm nq)).trans ((Heap.get?_update_other _ _ (Ne.symm nq)).trans ho), hc, hd⟩
/-- list(o) -/
def rListO (K : PySem.W.Frag) (C : Addr) (P : Addr → Addr → Hp → Prop) (spl : Sp) (El : XK) : List V → Hp → VK → Prop := fun vs H Q => ∃ a dx fs t xs, vs = [V.ref a] ∧ H a = some (.ins C dx fs) ∧ SqT K H t xs ∧
  (∀ q, H q = none → P a t (upd H q (.lst []))) ∧ (∀ H, (∃ dx fs, H a = some (.ins C dx fs)) → P a t H → spl [.ref a] H (fun v H' => ∃ k : Int, v = .int k ∧ (0 ≤ k ∧ k < 2 ^ 63) ∧ k = xs.length ∧ H' = H) El) ∧
  ∀ q, H q = none → Q (.ref q) (upd H q (.lst xs))
theorem call_listO (o : OwnI X CX C f k P) (hx : Passes CX X E) (c : Own X.K C "__len__" g) (F : FnR X.prog X.w X.K X.mg X.base CX0 kl g spl) (hr : Room (k + 2) X.A) (hrl : Room (kl + 3) X.A) : CallR X (.type "list") (rListO X.K C P spl El) := by
  intro pins s σ H vs us Q I rv h
  obtain ⟨a, dx, fs, t, xs, rfl, ha, ht, hP, hsp, hQ⟩ := h
  obtain ⟨u, rfl, ru⟩ := rv.one
  cases ru
  have sb : Sub X k X.A.in1.in1 := Sub.in1 (Sub.in1 (⟨hr, rfl⟩ : Sub X (k + 2) X.A))
  have sbl : Sub X (kl + 1) X.A.in1.in1 := Sub.in1 (Sub.in1 (⟨hrl, rfl⟩ : Sub X (kl + 3) X.A))
  refine callType_codes (Q₁ := fun obj s₁ => obj = .ref s.heap.objs.size ∧ s₁ = { s with heap := s.heap.push { cls := .type "list", data := .seq #[] } }) PySem.F.called_list (PySem.F.typeCall_list_1 _) PySem.F.entry_list_init
    (code_list_new _ ⟨rfl, rfl⟩) fun obj s₁ h₁ => ?_
  obtain ⟨rfl, rfl⟩ := h₁
  have hS : (s.heap.push { cls := .type "list", data := .seq #[] }).get? s.heap.objs.size = some { cls := .type "list", data := .seq #[] } := Heap.get?_push_size _ rfl
  refine ⟨⟨_, hS, rfl⟩, PySem.F.args_list_init_2 _ _, ?_⟩
  have fr : H s.heap.objs.size = none := I.hok.fresh (Nat.le_refl _)
  have I1 : Inv X pins σ (upd H s.heap.objs.size (.lst [])) { s with heap := s.heap.push { cls := .type "list", data := .seq #[] } } := I.lnew (its := []) (t' := s.toks) .nil (Nat.zero_le _)
  show wpAny _ _ (do let old ← Builtin.List.listItems (.ref s.heap.objs.size); Builtin.List.listUpdate (.ref s.heap.objs.size) (fun _ => #[]); letGo old.toList.reverse; Builtin.List.listExtendWith (.ref s.heap.objs.size) (.ref a) .none) _ _ _
  refine wpAny_bind ?_
  unfold Builtin.List.listItems
  refine wpAny_bind (wpAny_seqItems hS rfl (wpAny_pure ?_))
  show wpAny _ _ (updateSeq s.heap.objs.size (fun _ => #[]) >>= fun _ => letGo (#[] : Array Value).toList.reverse >>= fun _ => Builtin.List.listExtendWith (.ref s.heap.objs.size) (.ref a) .none) _ _ _
  refine wpAny_bind (wpAny_updateSeq hS rfl ?_)
  have I2 := I1.lset (f := fun _ => #[]) (its := []) (its' := []) (ys := []) (t' := s.toks) upd_same hS rfl .nil (Nat.zero_le _)
  rw [upd_upd] at I2
  refine wpAny_bind (wpAny_letGo ?_)
  exact extend_own (A1 := X.A.in1) (El := El) (Rs := wants (fun r s₂ => r = .none ∧ EP X pins σ Q (.ref s.heap.objs.size) s₂) X.xe) o hx c F sb sbl ht fr I.sz ha (hP _ fr) hsp
    (fun s' I' => ⟨rfl, .ref s.heap.objs.size, _, I', rfl, hQ _ fr⟩) (fun e s' he => he) I2
end
end DK

/-! len(set(t)) of a tuple of ints; a new instance within a try -/
namespace DK
open PySem PySem.Spec PyProof.Rows L2 StX

theorem mem_len : ∀ (ks ns : List Int), ks.Nodup → (∀ k, k ∈ ks → k ∈ ns) → ks.length ≤ ns.length
  | [], _, _, _ => Nat.zero_le _
  | k :: ks, ns, hn, h => by
    have h1 : k ∈ ns := h k List.mem_cons_self
    have h2 := mem_len ks (ns.erase k) (List.nodup_cons.mp hn).2 fun j hj => (List.mem_erase_of_ne fun e => (List.nodup_cons.mp hn).1 (by rw [← e]; exact hj)).mpr (h j (List.mem_cons_of_mem _ hj))
    rw [List.length_erase_of_mem h1] at h2
    have : 0 < ns.length := List.length_pos_of_mem h1
    simp only [List.length_cons]
    omega
theorem nodup_len {ks ns : List Int} (hk : ks.Nodup) (h : ∀ k, k ∈ ks ↔ k ∈ ns) : ks.length = ns.length ↔ ns.Nodup := by
  refine ⟨fun e => ?_, fun hn => Nat.le_antisymm (mem_len _ _ hk fun k => (h k).mp) (mem_len _ _ hn fun k => (h k).mpr)⟩
  apply Decidable.byContradiction
  intro hn
  have : ∃ k rest, ns.Perm (k :: k :: rest) := by
    clear h e hk
    induction ns with
    | nil => exact absurd List.nodup_nil hn
    | cons a r ih =>
      by_cases ha : a ∈ r
      · exact ⟨a, r.erase a, (List.perm_cons_erase ha).cons a⟩
      · obtain ⟨k, rest, p⟩ := ih fun z => hn (List.nodup_cons.mpr ⟨ha, z⟩)
        exact ⟨k, a :: rest, (p.cons a).trans ((List.Perm.swap k a (k :: rest)).trans ((List.Perm.swap k a rest).cons k))⟩
  obtain ⟨k, rest, p⟩ := this
  have := mem_len ks (k :: rest) hk fun j hj => by
    have := p.mem_iff.mp ((h j).mp hj)
    simpa using this
  have := p.length_eq
  simp only [List.length_cons] at *
  omega
def tLenSetT (K : PySem.W.Frag) (ta : TE) : TE := fun σ H Q => ta σ H fun x H1 => ∃ (l : Addr) (ns : List Int), x = V.ref l ∧ SqT K H1 l (ns.map V.int) ∧ ns.length ≤ 1000 ∧ ∀ c : Nat, (c = ns.length ↔ ns.Nodup) → Q (.int c) H1
theorem pe_lenSetT {X : Cx} {a : Expr} {ta : TE} {p p2 q pos : Pos} (hc : X.calm = true) (hg : Gl X "len") (hm : X.mg "len" = none) (hg2 : Gl X "set") (hm2 : X.mg "set" = none) (ha : PE X a ta)
    (na : starEach [a] X.env = (false, eval a X.env) :: starEach [] X.env := by rfl) : PE X (.Call (.Name "len" p) [.Call (.Name "set" p2) [a] [] q] [] pos) (tLenSetT X.K ta) := by
  refine ⟨fun pins s σ H Q I h => ?_⟩
  refine Call_ (ld_blt I hg hm PySem.boot_len ?_)
  refine PyProof.Rows.callWith_builtin1 (PyProof.Rows.args_cons ?_ rfl) rfl rfl
  refine Call_ (ld_blt I hg2 hm2 PyProof.Rows.boot_set ?_)
  refine PyProof.Rows.callWith_type1 (PyProof.Rows.args_cons (thn (ha.run pins s σ H _ I h) fun v s1 ⟨x, H1, I1, r1, l, ns, ex, hq, hl, q1⟩ => PyProof.Rows.args_nil ?_) na) na rfl
  subst ex
  cases r1
  obtain ⟨its, rv, pt, hz⟩ := I1.tuple hq
  refine call_set_tupI ns (I1.ok.hd hc) (show s1.heap.IsTuple l its.toArray from pt) (ints_of_vals rv) (by unfold scanBound; omega) fun h' tk c R1 hcn k => ?_
  obtain ⟨o, es, ep, t, ho, hex, hdt, g, nd, hm3, hb, hf, hn, hr, hl2⟩ := R1
  have I2 : Inv X pins σ H1 { s1 with heap := h', toks := tk } := I1.kept k
  refine PyProof.Rows.args_nil ?_
  have hsz : (es.toList.map keyOf).length = es.size := by simp
  have key := nodup_len (ns := ns) nd fun j => (hm3 j).symm.trans (by simp)
  rw [hsz] at key
  have small : es.size ≤ ns.length := by omega
  exact call_len_set ho hex hdt hf (by omega) ⟨.int es.size, H1, I2.tok _, ⟨_, rfl⟩, q1 _ key⟩
/-- C(e, ..) where what is raised is wished for at the maker's slots -/
def tMakeS (C : Addr) (sp : Sp) (E : L2.St → XK) (t : TA) : TE := fun σ H Q => t σ H fun vs H1 => ∀ x dx, H1 x = Option.none → H1 dx = Option.none → dx ≠ x →
  sp (V.ref x :: vs) (upd (upd H1 dx (.own x)) x (.ins C dx [])) (fun v H2 => v = .non ∧ Q (.ref x) H2) (E σ)
section
variable {X : Cx} {CX : CXT} {k : Nat} {f C : Addr} {sp : Sp} {E : L2.St → XK} {x : Str} {e : Expr} {es : List Expr} {t : TA} {p pos : Pos}
theorem pe_makeS (M : Mk X.K C f) (F : FnR X.prog X.w X.K X.mg X.base CX k f sp) (hr : Room (k + 1) X.A) (hg : Gl X x) (hm : X.mg x = some (.ref C)) (hx : ∀ σ, PassesAt CX X σ (E σ)) (ha : PA X (e :: es) t) (hdb : (x == ("__debug__" : Str)) = false := by decide)
    (he : starEach (e :: es) X.env = (false, eval e X.env) :: starEach es X.env := by rfl) (hpl : (backTo pos (starEach es X.env)).any (·.1) = false := by rfl) : PE X (.Call (.Name x p) (e :: es) [] pos) (tMakeS C sp E t) := by
  refine ⟨fun pins s σ H Q I h => ?_⟩
  refine wpAny_Call_Name_kw (ld_glob I hg hm ?_ hdb)
  refine PySem.W.callWith_K (h₀ := X.base) I.ok.mod.kin M.kp (thn (ha.run pos pins s σ H _ I h) fun us s1 ⟨vs, H1, I1, r, h1⟩ => ⟨I1.kIn, ?_⟩) he hpl
  have hq := h1 (s1.heap.objs.size + 1) s1.heap.objs.size (I1.hok.fresh (Nat.le_succ _)) (I1.hok.fresh (Nat.le_refl _)) (Nat.ne_of_lt (Nat.lt_succ_self _))
  have I2 := Inv.made (C := C) I1
  have r2 : Vals (V.ref (s1.heap.objs.size + 1) :: vs) (Value.ref (s1.heap.objs.size + 1) :: us) := .cons rfl r
  refine wpAny_call (make_map (f := f) I1.kIn M.makes M.init (beq_iff_eq.mp M.fn) (codeAny_mono (F _ X.stack _ _ (Value.ref (s1.heap.objs.size + 1) :: us) _ _ (E σ) (hr.make C us []) (I2.env0.make C us []) r2 hq) fun r s' hq' => ?_))
  cases r with
  | error e => exact hx σ pins _ _ e s' I2 hq'
  | ok fl =>
    cases fl with
    | ret u =>
      obtain ⟨v, H', I3, rv, ev, q3⟩ := I2.after hq'
      subst ev
      exact ⟨rv, ⟨V.ref (s1.heap.objs.size + 1), H', I3, rfl, q3⟩⟩
    | next => exact False.elim hq'
    | brk => exact False.elim hq'
    | cont => exact False.elim hq'
end
end DK

namespace R1
open PySem PySem.Spec PyProof.Rows L2 RK
local macro_rules | `(tactic| walk_at "sq") => `(tactic| first
  | exact SqL.of upd_same | exact upd_same | exact SqL.of (by assumption) | exact SqL.of (by rw [upd_ne (by assumption)]; assumption) | assumption)
local macro_rules | `(tactic| walk_at "sd") => `(tactic| first
  | assumption | omega | (refine Or.inl ⟨?_, ?_⟩ <;> omega) | (show _ ∧ _; constructor <;> omega) | (show _ ≠ _; simp; omega) | (exact Or.inl ⟨by decide, by decide⟩) | (exact Or.inr ⟨by decide, by decide⟩) | (show _ < _; decide) | (show _ ≤ _; decide))
local macro_rules | `(tactic| walk_at "at") => `(tactic| first | rfl | (refine atI_intV ?_ ?_ <;> omega) | assumption)
local macro_rules | `(tactic| walk_at "s1") => `(tactic| first
  | refine ⟨_, rfl, ?_⟩ | refine ⟨_, _, rfl, rfl, ?_⟩ | refine ⟨rfl, ?_⟩
  | refine ⟨_, _, _, _, rfl, rfl, by walk_at "sq", by walk_at "at", ?_⟩
  | refine Or.inl ⟨_, rfl, ?_⟩
  | refine ⟨_, _, rfl, Or.inl (by walk_at "sq"), ?_⟩
  | refine And.intro (by walk_at "sd") ?_)
local macro_rules | `(tactic| walk_at "s") => `(tactic| repeat walk_at "s1")

def topS (i : Nat) : Stmt := PySem.Challenge.pw_romwright_k47_alphabets.main.body.getD i (.Pass ⟨0, 0, 0, 0⟩)
abbrev s_BadAlphabet_init : Stmt := inClass (topS 4) 0
abbrev N_BadAlphabet_init : List Str := ["self", "words"]
theorem sc_BadAlphabet_init : FnScope N_BadAlphabet_init ["self", "words"] (defScope s_BadAlphabet_init) := ⟨rfl, rfl, rfl, by decide +kernel, rfl, by decide +kernel, by decide +kernel⟩
abbrev s_is_between : Stmt := topS 5
abbrev N_is_between : List Str := ["thing", "least", "most"]
theorem sc_is_between : FnScope N_is_between ["thing", "least", "most"] (defScope s_is_between) := ⟨rfl, rfl, rfl, by decide +kernel, rfl, by decide +kernel, by decide +kernel⟩
abbrev s_is_word : Stmt := topS 6
abbrev N_is_word : List Str := ["thing"]
theorem sc_is_word : FnScope N_is_word ["thing"] (defScope s_is_word) := ⟨rfl, rfl, rfl, by decide +kernel, rfl, by decide +kernel, by decide +kernel⟩
abbrev s_tuples_of : Stmt := topS 8
abbrev N_tuples_of : List Str := ["words", "count", "rows", "_", "row", "word"]
theorem sc_tuples_of : FnScope N_tuples_of ["words", "count"] (defScope s_tuples_of) := ⟨rfl, rfl, rfl, by decide +kernel, rfl, by decide +kernel, by decide +kernel⟩
abbrev s_Alphabet_init : Stmt := inClass (topS 10) 0
abbrev N_Alphabet_init : List Str := ["self", "words", "word"]
theorem sc_Alphabet_init : FnScope N_Alphabet_init ["self", "words"] (defScope s_Alphabet_init) := ⟨rfl, rfl, rfl, by decide +kernel, rfl, by decide +kernel, by decide +kernel⟩
abbrev s_Alphabet_iter : Stmt := inClass (topS 10) 1
abbrev N_Alphabet_iter : List Str := ["self"]
theorem sc_Alphabet_iter : FnScope N_Alphabet_iter ["self"] (defScope s_Alphabet_iter) := ⟨rfl, rfl, rfl, by decide +kernel, rfl, by decide +kernel, by decide +kernel⟩
abbrev s_Alphabet_contains : Stmt := inClass (topS 10) 2
abbrev N_Alphabet_contains : List Str := ["self", "x"]
theorem sc_Alphabet_contains : FnScope N_Alphabet_contains ["self", "x"] (defScope s_Alphabet_contains) := ⟨rfl, rfl, rfl, by decide +kernel, rfl, by decide +kernel, by decide +kernel⟩
abbrev s_Alphabet_len : Stmt := inClass (topS 10) 3
abbrev N_Alphabet_len : List Str := ["self"]
theorem sc_Alphabet_len : FnScope N_Alphabet_len ["self"] (defScope s_Alphabet_len) := ⟨rfl, rfl, rfl, by decide +kernel, rfl, by decide +kernel, by decide +kernel⟩
abbrev s_Alphabet_call : Stmt := inClass (topS 10) 4
abbrev N_Alphabet_call : List Str := ["self", "count"]
theorem sc_Alphabet_call : FnScope N_Alphabet_call ["self", "count"] (defScope s_Alphabet_call) := ⟨rfl, rfl, rfl, by decide +kernel, rfl, by decide +kernel, by decide +kernel⟩
abbrev s_Alphabet_eq : Stmt := inClass (topS 10) 5
abbrev N_Alphabet_eq : List Str := ["self", "other"]
theorem sc_Alphabet_eq : FnScope N_Alphabet_eq ["self", "other"] (defScope s_Alphabet_eq) := ⟨rfl, rfl, rfl, by decide +kernel, rfl, by decide +kernel, by decide +kernel⟩
abbrev s_law_source : Stmt := topS 12
abbrev N_law_source : List Str := ["_law_script", "_law_cell", "_law_cells", "_law_mixed"]
theorem sc_law_source : FnScope N_law_source ["_law_script"] (defScope s_law_source) := ⟨rfl, rfl, rfl, by decide +kernel, rfl, by decide +kernel, by decide +kernel⟩
abbrev s_law_draw : Stmt := topS 13
abbrev N_law_draw : List Str := ["_law_source_here", "_law_below", "_law_cells", "_law_place", "_law_digits", "_law_count", "_law_seed", "_law_number"]
theorem sc_law_draw : FnScope N_law_draw ["_law_source_here", "_law_below"] (defScope s_law_draw) := ⟨rfl, rfl, rfl, by decide +kernel, rfl, by decide +kernel, by decide +kernel⟩
abbrev s_law_word : Stmt := topS 14
abbrev N_law_word : List Str := ["_law_source_here", "_law_way"]
theorem sc_law_word : FnScope N_law_word ["_law_source_here"] (defScope s_law_word) := ⟨rfl, rfl, rfl, by decide +kernel, rfl, by decide +kernel, by decide +kernel⟩
abbrev s_law_is_number : Stmt := topS 15
abbrev N_law_is_number : List Str := ["_law_thing"]
theorem sc_law_is_number : FnScope N_law_is_number ["_law_thing"] (defScope s_law_is_number) := ⟨rfl, rfl, rfl, by decide +kernel, rfl, by decide +kernel, by decide +kernel⟩
abbrev s_law_plain : Stmt := topS 16
abbrev N_law_plain : List Str := ["_law_thing", "_law_one"]
theorem sc_law_plain : FnScope N_law_plain ["_law_thing"] (defScope s_law_plain) := ⟨rfl, rfl, rfl, by decide +kernel, rfl, by decide +kernel, by decide +kernel⟩
abbrev s_law_is_good : Stmt := topS 17
abbrev N_law_is_good : List Str := ["_law_words", "_law_k"]
theorem sc_law_is_good : FnScope N_law_is_good ["_law_words"] (defScope s_law_is_good) := ⟨rfl, rfl, rfl, by decide +kernel, rfl, by decide +kernel, by decide +kernel⟩
abbrev s_law_rows : Stmt := topS 18
abbrev N_law_rows : List Str := ["_law_words", "_law_count", "_law_rows_here", "_law_step", "_law_longer", "_law_row", "_law_word_here"]
theorem sc_law_rows : FnScope N_law_rows ["_law_words", "_law_count"] (defScope s_law_rows) := ⟨rfl, rfl, rfl, by decide +kernel, rfl, by decide +kernel, by decide +kernel⟩
abbrev s_law_apart : Stmt := topS 19
abbrev N_law_apart : List Str := ["_law_words", "_law_found", "_law_word_here", "_law_step"]
theorem sc_law_apart : FnScope N_law_apart ["_law_words"] (defScope s_law_apart) := ⟨rfl, rfl, rfl, by decide +kernel, rfl, by decide +kernel, by decide +kernel⟩
abbrev s_law_refused : Stmt := topS 20
abbrev N_law_refused : List Str := ["_law_argument", "_law_kept", "e"]
theorem sc_law_refused : FnScope N_law_refused ["_law_argument"] (defScope s_law_refused) := ⟨rfl, rfl, rfl, by decide +kernel, rfl, by decide +kernel, by decide +kernel⟩
abbrev s_law_tells : Stmt := topS 21
abbrev N_law_tells : List Str := ["_law_alphabet", "_law_words", "_law_probes", "_law_probe", "_law_count", "_law_due", "_law_told", "_law_word_here"]
theorem sc_law_tells : FnScope N_law_tells ["_law_alphabet", "_law_words", "_law_probes"] (defScope s_law_tells) := ⟨rfl, rfl, rfl, by decide +kernel, rfl, by decide +kernel, by decide +kernel⟩
abbrev s_law_made : Stmt := topS 22
abbrev N_law_made : List Str := ["_law_words", "_law_probes", "_law_k", "_law_turned", "_law_first", "_law_second", "_law_less", "_law_word_here", "_law_greatest", "_law_other"]
theorem sc_law_made : FnScope N_law_made ["_law_words", "_law_probes"] (defScope s_law_made) := ⟨rfl, rfl, rfl, by decide +kernel, rfl, by decide +kernel, by decide +kernel⟩
abbrev s_law : Stmt := topS 23
abbrev N_law : List Str := ["_law_script", "_law_source_here", "_law_count", "_law_way", "_law_place", "_law_spare", "_law_k", "_law_words", "_law_probes", "_law_word_here", "_law_at"]
theorem sc_law : FnScope N_law ["_law_script"] (defScope s_law) := ⟨rfl, rfl, rfl, by decide +kernel, rfl, by decide +kernel, by decide +kernel⟩
/-- where things stand -/
structure Ads where
  a_is_between : Addr
  d_is_between : FuncData
  a_is_word : Addr
  d_is_word : FuncData
  a_tuples_of : Addr
  d_tuples_of : FuncData
  a_law_source : Addr
  d_law_source : FuncData
  a_law_draw : Addr
  d_law_draw : FuncData
  a_law_word : Addr
  d_law_word : FuncData
  a_law_is_number : Addr
  d_law_is_number : FuncData
  a_law_plain : Addr
  d_law_plain : FuncData
  a_law_is_good : Addr
  d_law_is_good : FuncData
  a_law_rows : Addr
  d_law_rows : FuncData
  a_law_apart : Addr
  d_law_apart : FuncData
  a_law_refused : Addr
  d_law_refused : FuncData
  a_law_tells : Addr
  d_law_tells : FuncData
  a_law_made : Addr
  d_law_made : FuncData
  a_law : Addr
  d_law : FuncData
  c_BadAlphabet : Addr
  a_BadAlphabet_init : Addr
  d_BadAlphabet_init : FuncData
  c_RomError : Addr
  c_BadWord : Addr
  c_TooMany : Addr
  c_Alphabet : Addr
  a_Alphabet_init : Addr
  d_Alphabet_init : FuncData
  a_Alphabet_iter : Addr
  d_Alphabet_iter : FuncData
  a_Alphabet_contains : Addr
  d_Alphabet_contains : FuncData
  a_Alphabet_len : Addr
  d_Alphabet_len : FuncData
  a_Alphabet_call : Addr
  d_Alphabet_call : FuncData
  a_Alphabet_eq : Addr
  d_Alphabet_eq : FuncData
structure Txt (K : PySem.W.Frag) (mg : Str → Option Value) (A : Ads) : Prop where
  F_is_between : Fun K "is_between" "is_between" s_is_between A.a_is_between A.d_is_between
  g_is_between : mg "is_between" = some (.ref A.a_is_between)
  b_is_between : Binds K A.d_is_between ["thing", "least", "most"] []
  F_is_word : Fun K "is_word" "is_word" s_is_word A.a_is_word A.d_is_word
  g_is_word : mg "is_word" = some (.ref A.a_is_word)
  b_is_word : Binds K A.d_is_word ["thing"] []
  F_tuples_of : Fun K "tuples_of" "tuples_of" s_tuples_of A.a_tuples_of A.d_tuples_of
  g_tuples_of : mg "tuples_of" = some (.ref A.a_tuples_of)
  b_tuples_of : Binds K A.d_tuples_of ["words", "count"] []
  F_law_source : Fun K "_law_source" "_law_source" s_law_source A.a_law_source A.d_law_source
  g_law_source : mg "_law_source" = some (.ref A.a_law_source)
  b_law_source : Binds K A.d_law_source ["_law_script"] []
  F_law_draw : Fun K "_law_draw" "_law_draw" s_law_draw A.a_law_draw A.d_law_draw
  g_law_draw : mg "_law_draw" = some (.ref A.a_law_draw)
  b_law_draw : Binds K A.d_law_draw ["_law_source_here", "_law_below"] []
  F_law_word : Fun K "_law_word" "_law_word" s_law_word A.a_law_word A.d_law_word
  g_law_word : mg "_law_word" = some (.ref A.a_law_word)
  b_law_word : Binds K A.d_law_word ["_law_source_here"] []
  F_law_is_number : Fun K "_law_is_number" "_law_is_number" s_law_is_number A.a_law_is_number A.d_law_is_number
  g_law_is_number : mg "_law_is_number" = some (.ref A.a_law_is_number)
  b_law_is_number : Binds K A.d_law_is_number ["_law_thing"] []
  F_law_plain : Fun K "_law_plain" "_law_plain" s_law_plain A.a_law_plain A.d_law_plain
  g_law_plain : mg "_law_plain" = some (.ref A.a_law_plain)
  b_law_plain : Binds K A.d_law_plain ["_law_thing"] []
  F_law_is_good : Fun K "_law_is_good" "_law_is_good" s_law_is_good A.a_law_is_good A.d_law_is_good
  g_law_is_good : mg "_law_is_good" = some (.ref A.a_law_is_good)
  b_law_is_good : Binds K A.d_law_is_good ["_law_words"] []
  F_law_rows : Fun K "_law_rows" "_law_rows" s_law_rows A.a_law_rows A.d_law_rows
  g_law_rows : mg "_law_rows" = some (.ref A.a_law_rows)
  b_law_rows : Binds K A.d_law_rows ["_law_words", "_law_count"] []
  F_law_apart : Fun K "_law_apart" "_law_apart" s_law_apart A.a_law_apart A.d_law_apart
  g_law_apart : mg "_law_apart" = some (.ref A.a_law_apart)
  b_law_apart : Binds K A.d_law_apart ["_law_words"] []
  F_law_refused : Fun K "_law_refused" "_law_refused" s_law_refused A.a_law_refused A.d_law_refused
  g_law_refused : mg "_law_refused" = some (.ref A.a_law_refused)
  b_law_refused : Binds K A.d_law_refused ["_law_argument"] []
  F_law_tells : Fun K "_law_tells" "_law_tells" s_law_tells A.a_law_tells A.d_law_tells
  g_law_tells : mg "_law_tells" = some (.ref A.a_law_tells)
  b_law_tells : Binds K A.d_law_tells ["_law_alphabet", "_law_words", "_law_probes"] []
  F_law_made : Fun K "_law_made" "_law_made" s_law_made A.a_law_made A.d_law_made
  g_law_made : mg "_law_made" = some (.ref A.a_law_made)
  b_law_made : Binds K A.d_law_made ["_law_words", "_law_probes"] []
  F_law : Fun K "law" "law" s_law A.a_law A.d_law
  g_law : mg "law" = some (.ref A.a_law)
  b_law : Binds K A.d_law ["_law_script"] []
  F_BadAlphabet_init : Fun K "__init__" "BadAlphabet.__init__" s_BadAlphabet_init A.a_BadAlphabet_init A.d_BadAlphabet_init
  x_BadAlphabet : ErrC K mg "BadAlphabet" "words" A.c_BadAlphabet A.a_BadAlphabet_init A.d_BadAlphabet_init
  F_Alphabet_init : Fun K "__init__" "Alphabet.__init__" s_Alphabet_init A.a_Alphabet_init A.d_Alphabet_init
  b_Alphabet_init : Binds K A.d_Alphabet_init ["self", "words"] []
  m_Alphabet : Mk K A.c_Alphabet A.a_Alphabet_init
  F_Alphabet_iter : Fun K "__iter__" "Alphabet.__iter__" s_Alphabet_iter A.a_Alphabet_iter A.d_Alphabet_iter
  b_Alphabet_iter : Binds K A.d_Alphabet_iter ["self"] []
  o_Alphabet_iter : DK.Own K A.c_Alphabet "__iter__" A.a_Alphabet_iter
  F_Alphabet_contains : Fun K "__contains__" "Alphabet.__contains__" s_Alphabet_contains A.a_Alphabet_contains A.d_Alphabet_contains
  b_Alphabet_contains : Binds K A.d_Alphabet_contains ["self", "x"] []
  o_Alphabet_contains : DK.Own K A.c_Alphabet "__contains__" A.a_Alphabet_contains
  F_Alphabet_len : Fun K "__len__" "Alphabet.__len__" s_Alphabet_len A.a_Alphabet_len A.d_Alphabet_len
  b_Alphabet_len : Binds K A.d_Alphabet_len ["self"] []
  o_Alphabet_len : DK.Own K A.c_Alphabet "__len__" A.a_Alphabet_len
  F_Alphabet_call : Fun K "__call__" "Alphabet.__call__" s_Alphabet_call A.a_Alphabet_call A.d_Alphabet_call
  b_Alphabet_call : Binds K A.d_Alphabet_call ["self", "count"] []
  co_Alphabet : StX.CallO K A.c_Alphabet A.a_Alphabet_call
  F_Alphabet_eq : Fun K "__eq__" "Alphabet.__eq__" s_Alphabet_eq A.a_Alphabet_eq A.d_Alphabet_eq
  b_Alphabet_eq : Binds K A.d_Alphabet_eq ["self", "other"] []
  o_Alphabet_eq : DK.Own K A.c_Alphabet "__eq__" A.a_Alphabet_eq
  cl_Alphabet : Cls K A.c_Alphabet
  na_Alphabet_words : NoAttr K A.c_Alphabet "words"
  ty_Alphabet : ∀ {H : Hp} {a dx : Addr} {fs : List (Str × V)}, H a = some (HO.ins A.c_Alphabet dx fs) → TyX K H (.ref a) (.ref A.c_Alphabet)
  g_BadAlphabet : mg "BadAlphabet" = some (.ref A.c_BadAlphabet)
  g_RomError : mg "RomError" = some (.ref A.c_RomError)
  g_BadWord : mg "BadWord" = some (.ref A.c_BadWord)
  g_TooMany : mg "TooMany" = some (.ref A.c_TooMany)
  g_Alphabet : mg "Alphabet" = some (.ref A.c_Alphabet)
  k_BadAlphabet_RomError : PySem.W.kitOne K (.ref A.c_BadAlphabet) (.ref A.c_RomError) = some true
  k_BadAlphabet_ValueError : PySem.W.kitOne K (.ref A.c_BadAlphabet) (.type "ValueError") = some true
  k_BadAlphabet_BadWord : PySem.W.kitOne K (.ref A.c_BadAlphabet) (.ref A.c_BadWord) = some false
  k_BadAlphabet_TooMany : PySem.W.kitOne K (.ref A.c_BadAlphabet) (.ref A.c_TooMany) = some false
  k_Alphabet_Alphabet : PySem.W.kitOne K (.ref A.c_Alphabet) (.ref A.c_Alphabet) = some true
  n_ValueError : mg "ValueError" = none
  n_abs : mg "abs" = none
  n_all : mg "all" = none
  n_bool : mg "bool" = none
  n_int : mg "int" = none
  n_isinstance : mg "isinstance" = none
  n_iter : mg "iter" = none
  n_len : mg "len" = none
  n_list : mg "list" = none
  n_max : mg "max" = none
  n_range : mg "range" = none
  n_set : mg "set" = none
  n_tuple : mg "tuple" = none
theorem ok_BadAlphabet_init {P : Program} {w : World} {K : PySem.W.Frag} {mg : Str → Option Value} {base : Heap} {A : Ads} (T : Txt K mg A) : FnOk P w K mg base CX0 1 A.a_BadAlphabet_init A.d_BadAlphabet_init ["self", "words"] (spKeep "words" A.c_BadAlphabet) := by
  refine T.F_BadAlphabet_init.ok sc_BadAlphabet_init (fun vs H Q E h => ?_) (fun cdv B outer s H vs Q E hr h => ?_)
  · obtain ⟨a, v, rfl, _⟩ := h
    rfl
  · obtain ⟨a, v, rfl, e, q⟩ := h
    refine ⟨_, pss_one (ps_ost (pv 0) (pv 1)), ?_⟩
    exact ⟨_, rfl, _, rfl, a, A.c_BadAlphabet, rfl, T.x_BadAlphabet.ox, T.x_BadAlphabet.no, .inl ⟨e, q⟩⟩

/-! ### the law's source of draws -/
def Src (c : Addr) (H : Hp) (p : Addr) : Prop := ∃ (cs : List Int) (pl dg ct mx : Int), H p = some (.lst [.ref c, .int pl, .int dg, .int ct, .int mx]) ∧ H c = some (.lst (cs.map V.int)) ∧ 0 < cs.length ∧ 0 ≤ pl
theorem src_ne {H : Hp} {c p : Addr} (h : Src c H p) : H p ≠ none := by
  obtain ⟨cs, pl, dg, ct, mx, e, _⟩ := h
  rw [e]
  exact fun z => nomatch z
theorem src_cne {H : Hp} {c p : Addr} (h : Src c H p) : H c ≠ none := by
  obtain ⟨cs, pl, dg, ct, mx, _, e, _⟩ := h
  rw [e]
  exact fun z => nomatch z
theorem src_up {H H' : Hp} {c p : Addr} (h : Src c H p) (e : Same H H') : Src c H' p := by
  obtain ⟨cs, pl, dg, ct, mx, h1, h2, h3⟩ := h
  exact ⟨cs, pl, dg, ct, mx, e _ _ h1, e _ _ h2, h3⟩
/-- what is neither of its two lists may change -/
theorem src_put {H : Hp} {c p D : Addr} {o : HO} (h : Src c H p) (hp : D ≠ p) (hc : D ≠ c) : Src c (upd H D o) p := by
  obtain ⟨cs, pl, dg, ct, mx, h1, h2, h3⟩ := h
  exact ⟨cs, pl, dg, ct, mx, by rw [upd_ne (Ne.symm hp)]; exact h1, by rw [upd_ne (Ne.symm hc)]; exact h2, h3⟩
/-- a list of numbers is not the source -/
theorem src_ints {H : Hp} {c p D : Addr} {l : List Nat} (h : Src c H p) (e : H D = some (.lst (intV l))) : D ≠ p := fun z => by
  obtain ⟨cs, pl, dg, ct, mx, h1, _⟩ := h
  subst z
  rw [e] at h1
  have := HO.lst.inj (Option.some.inj h1)
  cases l with
  | nil => cases this
  | cons a r =>
    have := (List.cons.inj this).1
    cases this
def spDraw : Sp := fun vs H Q _ => ∃ (c p : Addr) (b : Int), vs = [.ref p, .int b] ∧ Src c H p ∧ 0 < b ∧ b < 1000000 ∧ ∀ H' (r : Nat), (r : Int) < b → Src c H' p → But p H H' → Q (.int (r : Int)) H'
def spSource (K : PySem.W.Frag) : Sp := fun vs H Q _ => ∃ (a : Addr) (ns : List Int), vs = [.ref a] ∧ SqL K H a (ns.map V.int) ∧ ns.length ≤ 63 ∧ ∀ H' c p, Same H H' → H c = none → H p = none → Src c H' p → Q (.ref p) H'
theorem get_int {cs : List Int} {i : Int} (h0 : 0 ≤ i) (h1 : i < cs.length) : ∃ z, atI (cs.map V.int) i = some (.int z) := by
  obtain ⟨j, rfl⟩ : ∃ j : Nat, i = (j : Int) := ⟨i.toNat, by omega⟩
  have hj : j < cs.length := by omega
  exact ⟨cs[j], atI_nat (by rw [List.getElem?_map, List.getElem?_eq_getElem hj]; rfl)⟩
/-! plain: a value with what tells its kind -/
mutual
def plD : PyData → PyData
  | .list xs => .tuple [.bool true, .list (plA xs)]
  | .tuple xs => .tuple [.bool false, .list (plA xs)]
  | .bool b => .tuple [.bool true, .bool b]
  | .none => .tuple [.bool false, .none]
  | .int i => .tuple [.bool false, .int i]
  | .str x => .tuple [.bool false, .str x]
  | .dict kvs => .tuple [.bool false, .dict kvs]
def plA : List PyData → List PyData
  | [] => []
  | x :: r => plD x :: plA r
end
theorem plA_map : ∀ xs : List PyData, plA xs = xs.map plD
  | [] => rfl
  | x :: r => by
    show plD x :: plA r = plD x :: r.map plD
    rw [plA_map r]
mutual
theorem plD_depth : ∀ d : PyData, (plD d).depth ≤ 2 * d.depth + 1
  | .list xs => by
    have h := plA_depth xs
    show max 0 (max (PyData.depthAll (plA xs) + 1) 0) + 1 ≤ 2 * (PyData.depthAll xs + 1) + 1
    omega
  | .tuple xs => by
    have h := plA_depth xs
    show max 0 (max (PyData.depthAll (plA xs) + 1) 0) + 1 ≤ 2 * (PyData.depthAll xs + 1) + 1
    omega
  | .bool b => by show 1 ≤ 1; omega
  | .none => by show 1 ≤ 1; omega
  | .int i => by show 1 ≤ 1; omega
  | .str x => by show 1 ≤ 1; omega
  | .dict kvs => by
    show max 0 (max (PyData.depthKv kvs + 1) 0) + 1 ≤ 2 * (PyData.depthKv kvs + 1) + 1
    omega
theorem plA_depth : ∀ ds : List PyData, (PyData.depthAll (plA ds)) ≤ 2 * (PyData.depthAll ds) + 1
  | [] => Nat.zero_le _
  | x :: r => by
    have h1 := plD_depth x
    have h2 := plA_depth r
    show max (plD x).depth (PyData.depthAll (plA r)) ≤ 2 * (max x.depth (PyData.depthAll r)) + 1
    omega
end
mutual
theorem plD_lay : ∀ d : PyData, d.canLay0 = true → (plD d).canLay0 = true
  | .list xs, h => by
    show (true && (PyData.canLayAll0 (plA xs) && true)) = true
    rw [plA_lay xs h]
    rfl
  | .tuple xs, h => by
    show (true && (PyData.canLayAll0 (plA xs) && true)) = true
    rw [plA_lay xs h]
    rfl
  | .bool b, h => rfl
  | .none, h => rfl
  | .int i, h => rfl
  | .str x, h => by
    show (true && ((PyData.str x).canLay0 && true)) = true
    rw [h]
    rfl
  | .dict kvs, h => by cases h
theorem plA_lay : ∀ ds : List PyData, PyData.canLayAll0 ds = true → PyData.canLayAll0 (plA ds) = true
  | [], _ => rfl
  | x :: r, h => by
    have h' := Bool.and_eq_true_iff.mp h
    show ((plD x).canLay0 && PyData.canLayAll0 (plA r)) = true
    rw [plD_lay x h'.1, plA_lay r h'.2]
    rfl
end
theorem plD_shaped {d : PyData} (h : d.canLay0 = true) (hd : d.depth ≤ 20) : SeqAt.shaped (plD d) = true := by
  have h2 := plD_depth d
  unfold SeqAt.shaped
  rw [plD_lay d h, Bool.true_and]
  exact decide_eq_true (by omega)
def spPlain (K : PySem.W.Frag) : Nat → Sp
  | 0 => fun _ _ _ _ => False
  | n + 1 => fun vs H Q _ => ∃ (v : V) (d : PyData) (S : ASet), vs = [v] ∧ (∀ a, S a → H a ≠ none) ∧ Dx K H S v d ∧ d.depth ≤ n ∧ wdB d = true ∧ ∀ H' v', Same H H' → Dx K H' S v' (plD d) → Q v' H'

section
variable {P : Program} {w : World} {K : PySem.W.Frag} {mg : Str → Option Value} {base : Heap} {A : Ads}
theorem ok_law_draw (T : Txt K mg A) : FnOk P w K mg base CX0 1 A.a_law_draw A.d_law_draw ["_law_source_here", "_law_below"] spDraw := by
  refine T.F_law_draw.ok sc_law_draw (fun vs H Q E h => ?_) (fun cdv B outer s H vs Q E hr h => ?_)
  · obtain ⟨c, p, b, rfl, _⟩ := h
    rfl
  · obtain ⟨c, p, b, rfl, ⟨cs, pl, dg, ct, mx, hp, hc, hn, hpl⟩, hb, hb2, q⟩ := h
    refine ⟨_, (pss_cons (ps_set (i := 2) sc_law_draw.nd rfl (.inl rfl) (pe_ix ix_list (pv 0) pe_int (fun _ _ => rfl)))
    (pss_cons (ps_set (i := 3) sc_law_draw.nd rfl (.inl rfl) (pe_ix ix_list (pv 0) pe_int (fun _ _ => rfl)))
    (pss_cons (ps_set (i := 4) sc_law_draw.nd rfl (.inl rfl) (pe_ix ix_list (pv 0) pe_int (fun _ _ => rfl)))
    (pss_cons (ps_set (i := 5) sc_law_draw.nd rfl (.inl rfl) (pe_ix ix_list (pv 0) pe_int (fun _ _ => rfl)))
    (pss_cons (ps_asg (pe_op op_add (pv 5) pe_int) (pg_sub (pv 0) pe_int set_list))
    (pss_cons (ps_if (PW.pt (pw_and (pt_cmpR op_eq (pe_ix ix_list (pv 0) pe_int (fun _ _ => rfl)) pe_int (nomark _)) (pw_and1 (pt_cmpR op_lt (pv 3) (pe_callB len_seq (by rfl) T.n_len (by decide +kernel) (pa_cons (pv 2) pa_nil)) (nomark _))))) (pss_cons (ps_asg (pe_op op_fdivN (pv 4) (pv 1)) (pg_sub (pv 0) pe_int set_list))
    (pss_cons (ps_if (pt_cmpR op_eq (pe_ix ix_list (pv 0) pe_int (fun _ _ => rfl)) pe_int (nomark _)) (pss_cons (ps_asg (pe_op op_add (pv 3) pe_int) (pg_sub (pv 0) pe_int set_list))
    (pss_one (ps_if (pt_cmpR op_lt (pe_op op_add (pv 3) pe_int) (pe_callB len_seq (by rfl) T.n_len (by decide +kernel) (pa_cons (pv 2) pa_nil)) (nomark _)) (pss_one (ps_asg (pe_ix ix_list (pv 2) (pe_op op_add (pv 3) pe_int) (fun _ _ => rfl)) (pg_sub (pv 0) pe_int set_list))) pss_nil))) pss_nil)
    (pss_one (ps_ret (pe_op op_modN (pe_callTy call_int1 (by rfl) T.n_int (by decide +kernel) (pa_cons (pv 4) pa_nil)) (pv 1)))))) pss_nil)
    (pss_cons (ps_set (i := 6) sc_law_draw.nd rfl (.inl rfl) (pe_op op_add (pe_op op_add (pe_ix ix_list (pv 2) (pe_op op_modN (pe_callTy call_int1 (by rfl) T.n_int (by decide +kernel) (pa_cons (pv 5) pa_nil)) (pe_callB len_seq (by rfl) T.n_len (by decide +kernel) (pa_cons (pv 2) pa_nil))) (fun _ _ => rfl)) (pe_op op_mul pe_int (pv 5))) pe_int))
    (pss_cons (ps_set (i := 7) sc_law_draw.nd rfl (.inl rfl) (pe_op op_mod (pe_callTy call_int1 (by rfl) T.n_int (by decide +kernel) (pa_cons (pe_op op_add (pe_op op_mul (pv 6) pe_int) (pe_op op_mul (pe_op op_add (pv 5) pe_int) pe_int)) pa_nil)) pe_int))
    (pss_cons (ps_set (i := 7) sc_law_draw.nd rfl (.inl rfl) (pe_op op_mod (pe_callTy call_int1 (by rfl) T.n_int (by decide +kernel) (pa_cons (pe_op op_add (pe_op op_mul (pv 7) (pe_op op_add (pe_op op_add (pe_op op_mod (pe_callTy call_int1 (by rfl) T.n_int (by decide +kernel) (pa_cons (pv 7) pa_nil)) pe_int) (pv 5)) pe_int)) (pv 6)) pa_nil)) pe_int))
    (pss_one (ps_ret (pe_op op_modN (pe_callTy call_int1 (by rfl) T.n_int (by decide +kernel) (pa_cons (pe_op op_fdiv (pv 7) pe_int) pa_nil)) (pv 1))))))))))))), ?_⟩
    have nc : c ≠ p := ne_of hc hp (by intro z; have := HO.lst.inj z; cases cs with | nil => cases hn | cons a r => cases this)
    have hmod : ∀ i : Int, 0 ≤ i.fmod b ∧ i.fmod b < b := fun i => ⟨Int.fmod_nonneg_of_pos _ hb, Int.fmod_lt_of_pos _ hb⟩
    have cat : ∀ {H1}, But p H H1 → H1 c = some (.lst (cs.map V.int)) := fun h => h c _ nc hc
    have fin : ∀ {H1} {x1 x2 x3 x4 : Int} (i : Int), But p H H1 → 0 ≤ x1 → H1 p = some (.lst [.ref c, .int x1, .int x2, .int x3, .int x4]) → Q (.int (i.fmod b)) H1 := fun i bt h e => by
      have := q _ (i.fmod b).toNat (by have := hmod i; omega) ⟨cs, _, _, _, _, e, cat bt, hn, h⟩ bt
      rw [Int.toNat_of_nonneg (hmod i).1] at this
      exact this
    have hb3 : b ≠ 0 ∧ b.natAbs < 1073741824 := ⟨by omega, by omega⟩
    have hl : 0 < (cs.map V.int).length := by rw [List.length_map]; exact hn
    have tail : ∀ i : Int, 0 ≤ i.fmod ((cs.map V.int).length : Int) ∧ i.fmod ((cs.map V.int).length : Int) < cs.length := fun i => by
      rw [List.length_map]
      exact ⟨Int.fmod_nonneg_of_pos _ (by omega), Int.fmod_lt_of_pos _ (by omega)⟩
    obtain ⟨z, hz⟩ := get_int (cs := cs) (tail ct).1 (tail ct).2
    walk_at "s"
    have b1 : ∀ o, But p H (upd H p o) := fun o => (But.refl p H).upd
    have c1 : ∀ o, SqL K (upd H p o) c (cs.map V.int) := fun o => SqL.of (cat (b1 o))
    refine ite2 (fun e => ?_) (fun e => ?_)
    · refine ⟨_, rfl, .ref c, rfl, c, _, rfl, .inl (c1 _), ?_⟩
      walk_at "s"
      refine ite2 (fun e => ?_) (fun e => ?_)
      · walk_at "s"
        refine ite2 (fun e => ?_) (fun e => ?_)
        · walk_at "s"
          refine ⟨c, _, rfl, .inl (SqL.of (cat (b1 _).upd.upd)), ?_⟩
          walk_at "s"
          refine ite2 (fun e3 => ?_) (fun e3 => ?_)
          · have e4 : pl + 1 < ((cs.map V.int).length : Int) := of_decide_eq_true e3
            obtain ⟨z2, hz2⟩ := get_int (cs := cs) (i := pl + 1) (by omega) (by rw [List.length_map] at e4; exact e4)
            walk_at "s"
            refine ⟨_, _, _, _, rfl, rfl, SqL.of (cat (b1 _).upd.upd), hz2, ?_⟩
            walk_at "s"
            exact fin _ (b1 _).upd.upd.upd (by omega) upd_same
          · walk_at "s"
            exact fin _ (b1 _).upd.upd (by omega) upd_same
        · walk_at "s"
          exact fin _ (b1 _).upd hpl upd_same
      · walk_at "s"
        try (refine ⟨_, _, _, _, rfl, rfl, c1 _, hz, ?_⟩)
        walk_at "s"
        exact fin _ (b1 _) hpl upd_same
    · walk_at "s"
      try (refine ⟨_, _, _, _, rfl, rfl, c1 _, hz, ?_⟩)
      walk_at "s"
      exact fin _ (b1 _) hpl upd_same

theorem ok_law_source (T : Txt K mg A) : FnOk P w K mg base CX0 1 A.a_law_source A.d_law_source ["_law_script"] (spSource K) := by
  refine T.F_law_source.ok sc_law_source (fun vs H Q E h => ?_) (fun cdv A outer s H vs Q E hr h => ?_)
  · obtain ⟨a, ns, rfl, _⟩ := h
    rfl
  · obtain ⟨a, ns, rfl, hS, hl, q⟩ := h
    refine ⟨_, (pss_cons (ps_setLc (i := 2) (own := [("_law_cell", 1)]) rfl sc_law_source.nd rfl rfl (sw_true rfl rfl rfl (by decide +kernel)) (pi_list (pv 0)) (blkOk_by (own := [("_law_cell", 1)]) (N := N_law_source) (sc := defScope s_law_source) (by decide +kernel)) (fun _ _ _ _ _ => pg_name (i := 1) sc_law_source.nd rfl (Or.inl rfl)) (fun _ _ _ _ _ => pts_nil) (fun _ _ _ _ _ => by exact (pe_callB call_abs (by rfl) T.n_abs (by decide +kernel) (pa_cons (pe_callTy call_int1 (by rfl) T.n_int (by decide +kernel) (pa_cons (pv 1) pa_nil)) pa_nil))))
    (pss_cons (ps_if (pt_cmpR op_eq (pe_callB len_seq (by rfl) T.n_len (by decide +kernel) (pa_cons (pv 2) pa_nil)) pe_int (nomark _)) (pss_one (ps_set (i := 2) sc_law_source.nd rfl (.inl rfl) (pe_lst (pa_cons pe_int pa_nil)))) pss_nil)
    (pss_cons (ps_set (i := 3) sc_law_source.nd rfl (.inl rfl) pe_int)
    (pss_cons (ps_if (pt_cmpR op_lt (pe_ix ix_list (pv 2) pe_int (fun _ _ => rfl)) (pe_op op_pow pe_int pe_int) (nomark _)) (pss_one (ps_set (i := 3) sc_law_source.nd rfl (.inl rfl) (pe_op op_mod (pe_callTy call_int1 (by rfl) T.n_int (by decide +kernel) (pa_cons (pe_ix ix_list (pv 2) pe_int (fun _ _ => rfl)) pa_nil)) pe_int))) pss_nil)
    (pss_one (ps_ret (pe_lst (pa_cons (pv 2) (pa_cons pe_int (pa_cons (pe_ix ix_list (pv 2) pe_int (fun _ _ => rfl)) (pa_cons pe_int (pa_cons (pv 3) pa_nil)))))))))))), ?_⟩
    have w := walk_list (K := K) (a := a) (xs := ns.map V.int)
    refine ⟨_, rfl, a, rfl, ⟨_, hS⟩, fun D hD => ?_⟩
    have hx : ∀ {i : Nat} {x : V}, (ns.map V.int)[i]? = some x → x = .int (ns.getD i 0) := fun {i x} e => by
      rw [List.getElem?_map] at e
      cases h : ns[i]? with
      | none => rw [h] at e; cases e
      | some z =>
        rw [h] at e
        rw [List.getD_eq_getElem?_getD, h]
        exact (Option.some.inj e).symm
    refine lc_vals w (fun i x => (ns.map V.int)[i]? = some x) (fun i => .int (if ns.getD i 0 < 0 then -ns.getD i 0 else ns.getD i 0)) hD (fun H' e => e.seq hS) (by rw [List.length_map]; omega) (fun i H x H' _ y => y) (fun i x H' hi sm e Q q => ?_) (fun H1 s1 e1 => ?_)
    · rw [hx e]
      exact ⟨_, rfl, .inl ⟨_, rfl, _, rfl, q _ (Same.refl _)⟩⟩
    have e2 : H1 D = some (.lst (((List.range ns.length).map fun i => if ns.getD i 0 < 0 then -ns.getD i 0 else ns.getD i 0).map V.int)) := by
      rw [e1, List.map_map, List.length_map]
      rfl
    generalize hcs : ((List.range ns.length).map fun i => if ns.getD i 0 < 0 then -ns.getD i 0 else ns.getD i 0) = cs at e2
    clear hcs e1
    refine ⟨_, rfl, D, _, rfl, .inl (SqL.of e2), rfl, _, rfl, ite2 (fun e => ?_) (fun e => ?_)⟩
    · refine ⟨by decide, fun c hc => ?_⟩
      generalize hH : upd H1 c (.lst [V.int 5]) = H2
      have fc : H c = none := s1.free hc
      have ec : H2 c = some (.lst (([5] : List Int).map V.int)) := by rw [← hH]; exact upd_same
      have s2 : Same H1 H2 := by rw [← hH]; exact same_new hc
      have sm : Same H H2 := s1.trans s2
      have hl : 0 < ([5] : List Int).length := by decide
      generalize ([5] : List Int) = cs at ec hl
      clear hH hc
      obtain ⟨z, h0⟩ := get_int (cs := cs) (i := 0) (Int.le_refl 0) (by omega)
      have fin : ∀ (x1 x2 x3 x4 : Int) {H3 : Hp}, 0 ≤ x1 → Same H1 H3 → H3 = H2 → ∀ p, H3 p = none → Q (.ref p) (upd H3 p (.lst [.ref c, .int x1, .int x2, .int x3, .int x4])) := fun x1 x2 x3 x4 H3 h1 s3 e3 p hp => by
        subst e3
        exact q _ c _ (sm.trans (same_new hp)) fc (sm.free hp) ⟨cs, x1, x2, x3, x4, upd_same, by rw [upd_ne (ne_of_none ec hp)]; exact ec, hl, h1⟩
      refine ⟨.ref c, rfl, c, _, _, _, rfl, rfl, SqL.of ec, h0, _, _, rfl, rfl, ⟨by decide, by decide, by decide⟩, _, _, rfl, rfl, _, rfl, ite2 (fun e => ?_) (fun e => ?_)⟩
      · refine ⟨.ref c, rfl, c, _, _, _, rfl, rfl, SqL.of ec, h0, .inl ⟨_, rfl, _, _, rfl, rfl, (by show (0 : Int) < 2; decide), ?_⟩⟩
        refine ⟨.ref c, rfl, .ref c, rfl, c, _, _, _, rfl, rfl, SqL.of ec, h0, _, rfl, lenOk (n := 5) rfl (by decide), fun p hp => ?_⟩
        exact fin _ _ _ _ (Int.le_refl 0) s2 rfl p hp
      · refine ⟨.ref c, rfl, .ref c, rfl, c, _, _, _, rfl, rfl, SqL.of ec, h0, _, rfl, lenOk (n := 5) rfl (by decide), fun p hp => ?_⟩
        exact fin _ _ _ _ (Int.le_refl 0) s2 rfl p hp
    · have hl : 0 < cs.length := by
        cases cs with
        | nil => exact absurd (decide_eq_true rfl) e
        | cons => exact Nat.succ_pos _
      have ec := e2
      have fc : H D = none := hD
      generalize D = c at ec fc
      generalize hH : H1 = H2 at ec
      have s2 : Same H1 H2 := by rw [← hH]; exact Same.refl _
      have sm : Same H H2 := s1.trans s2
      obtain ⟨z, h0⟩ := get_int (cs := cs) (i := 0) (Int.le_refl 0) (by omega)
      have fin : ∀ (x1 x2 x3 x4 : Int) {H3 : Hp}, 0 ≤ x1 → Same H1 H3 → H3 = H2 → ∀ p, H3 p = none → Q (.ref p) (upd H3 p (.lst [.ref c, .int x1, .int x2, .int x3, .int x4])) := fun x1 x2 x3 x4 H3 h1 s3 e3 p hp => by
        subst e3
        exact q _ c _ (sm.trans (same_new hp)) fc (sm.free hp) ⟨cs, x1, x2, x3, x4, upd_same, by rw [upd_ne (ne_of_none ec hp)]; exact ec, hl, h1⟩
      refine ⟨.ref c, rfl, c, _, _, _, rfl, rfl, SqL.of ec, h0, _, _, rfl, rfl, ⟨by decide, by decide, by decide⟩, _, _, rfl, rfl, _, rfl, ite2 (fun e => ?_) (fun e => ?_)⟩
      · refine ⟨.ref c, rfl, c, _, _, _, rfl, rfl, SqL.of ec, h0, .inl ⟨_, rfl, _, _, rfl, rfl, (by show (0 : Int) < 2; decide), ?_⟩⟩
        refine ⟨.ref c, rfl, .ref c, rfl, c, _, _, _, rfl, rfl, SqL.of ec, h0, _, rfl, lenOk (n := 5) rfl (by decide), fun p hp => ?_⟩
        exact fin _ _ _ _ (Int.le_refl 0) s2 rfl p hp
      · refine ⟨.ref c, rfl, .ref c, rfl, c, _, _, _, rfl, rfl, SqL.of ec, h0, _, rfl, lenOk (n := 5) rfl (by decide), fun p hp => ?_⟩
        exact fin _ _ _ _ (Int.le_refl 0) s2 rfl p hp
def spNone : Sp := fun _ _ _ _ => False
theorem ok_plain (T : Txt K mg A) : ∀ n : Nat, FnOk P w K mg base CX0 n A.a_law_plain A.d_law_plain ["_law_thing"] (spPlain K n)
  | 0 => ⟨fun _ _ _ _ h => h.elim, fun _ _ _ _ _ _ _ _ _ _ _ _ _ h => h.elim⟩
  | n + 1 => by
    have G0 : FnOk P w K mg base CX0 n A.a_law_plain A.d_law_plain ["_law_thing"] (spPlain K n) := ok_plain T n
    refine T.F_law_plain.ok sc_law_plain (fun vs H Q E h => ?_) (fun cdv A outer s H vs Q E hr h => ?_)
    · obtain ⟨v, d, S, rfl, _⟩ := h
      rfl
    · obtain ⟨v, d, S, rfl, hS, hd, hn, hw, q⟩ := h
      refine ⟨_, (pss_cons (ps_if (pt_val (pe_callB call_isiT (by rfl) T.n_isinstance (by decide +kernel) (pa_cons (pv 0) (pa_cons (pe_tup (pa_cons (pe_bltn (v := .ty "list") (u := .type "list") (by rfl) T.n_list (by decide +kernel) rfl) (pa_cons (pe_bltn (v := .ty "tuple") (u := .type "tuple") (by rfl) T.n_tuple (by decide +kernel) rfl) pa_nil))) pa_nil)))) (pss_one (ps_ret (pe_tup (pa_cons (pe_callB call_isi (by rfl) T.n_isinstance (by decide +kernel) (pa_cons (pv 0) (pa_cons (pe_bltn (v := .ty "list") (u := .type "list") (by rfl) T.n_list (by decide +kernel) rfl) pa_nil))) (pa_cons (pe_lc (own := [("_law_one", 1)]) rfl sc_law_plain.nd (PI_or (pi_list (pv 0)) (pi_tup (pv 0))) (blkOk_by (own := [("_law_one", 1)]) (N := N_law_plain) (sc := defScope s_law_plain) (by decide +kernel)) (fun _ _ _ _ _ => pg_name (i := 1) sc_law_plain.nd rfl (Or.inl rfl)) (fun _ _ _ _ _ => pts_nil) (fun _ _ _ _ _ => by exact (pe_call G0 (hr.mono (by omega)) rfl T.g_law_plain T.F_law_plain.kp T.b_law_plain .nil pass0 (pa_cons (pv 1) pa_nil)))) pa_nil))))) pss_nil)
    (pss_one (ps_ret (pe_tup (pa_cons (pe_callB call_isi (by rfl) T.n_isinstance (by decide +kernel) (pa_cons (pv 0) (pa_cons (pe_bltn (v := .ty "bool") (u := .type "bool") (by rfl) T.n_bool (by decide +kernel) rfl) pa_nil))) (pa_cons (pv 0) pa_nil)))))), ?_⟩
      have out : ∀ (b : Bool), tn d ≠ "list" → tn d ≠ "tuple" → b = isB (tn d) "bool" → plD d = .tuple [.bool b, d] := fun b h1 h2 h3 => by
        subst h3
        cases hd with
        | non => rfl
        | bl => rfl
        | int => rfl
        | str => rfl
        | lst _ _ => exact absurd rfl h1
        | tup _ _ => exact absurd rfl h2
      refine ⟨_, rfl, lenOk rfl (by decide), fun tp htp => ?_⟩
      have hd1 : Dx K _ S v d := Dx.up (Out.of (same_new (o := .tup (["list", "tuple"].map V.ty)) htp)) hd
      refine ⟨v, tp, _, _, _, _, rfl, upd_same, paired_ty ["list", "tuple"], dp_ty hd1.dp, kit_any (dp_tn hd1.dp) ["list", "tuple"] (by decide), ?_⟩
      have sm0 : Same H (upd H tp (.tup [V.ty "list", V.ty "tuple"])) := same_new htp
      refine ⟨_, rfl, ite2 (fun e => ?_) (fun e => ?_)⟩
      · refine ⟨_, rfl, v, .ty "list", _, _, _, rfl, .ty "list", dp_ty hd1.dp, kit_ty (kitT _ (dp_tn hd1.dp) "list" (by decide)), ?_⟩
        have htt : tn d = "list" ∨ tn d = "tuple" := by
          have hb := dp_tn hd.dp
          rcases List.mem_cons.mp hb with h | hb
          · rw [h] at e; exact absurd e (by decide)
          rcases List.mem_cons.mp hb with h | hb
          · rw [h] at e; exact absurd e (by decide)
          rcases List.mem_cons.mp hb with h | hb
          · rw [h] at e; exact absurd e (by decide)
          rcases List.mem_cons.mp hb with h | hb
          · rw [h] at e; exact absurd e (by decide)
          rcases List.mem_cons.mp hb with h | hb
          · exact .inl h
          · exact .inr (List.mem_singleton.mp hb)
        generalize hH1 : upd H tp (.tup (["list", "tuple"].map V.ty)) = H1 at hd1
        have hH2 : upd H tp (.tup [V.ty "list", V.ty "tuple"]) = H1 := hH1
        rw [hH2] at sm0 ⊢
        have hS1 : ∀ a, S a → H1 a ≠ none := fun a z y => hS a z (sm0.free y)
        cases n with
        | zero =>
          cases hd with
          | lst h t => exact absurd hn (Nat.not_succ_le_zero _)
          | tup h t => exact absurd hn (Nat.not_succ_le_zero _)
          | non => rcases htt with z | z <;> exact absurd z (by show ¬ "NoneType" = _; decide)
          | bl => rcases htt with z | z <;> exact absurd z (by show ¬ "bool" = _; decide)
          | int => rcases htt with z | z <;> exact absurd z (by show ¬ "int" = _; decide)
          | str => rcases htt with z | z <;> exact absurd z (by show ¬ "str" = _; decide)
        | succ n =>
          cases hd1 with
          | non => rcases htt with z | z <;> exact absurd z (by show ¬ "NoneType" = _; decide)
          | bl => rcases htt with z | z <;> exact absurd z (by show ¬ "bool" = _; decide)
          | int => rcases htt with z | z <;> exact absurd z (by show ¬ "int" = _; decide)
          | str => rcases htt with z | z <;> exact absurd z (by show ¬ "str" = _; decide)
          | @lst a xs ds h t =>
            have hw' : wdA ds = true := (Bool.and_eq_true_iff.mp hw).2
            have hl : xs.length ≤ 1000000 := by
              have := of_decide_eq_true (Bool.and_eq_true_iff.mp hw).1
              rw [dxAll_len t]
              omega
            refine .inl ⟨_, rfl, a, rfl, ⟨_, h.sq⟩, fun D hD => ?_⟩
            refine lc_data (S := S) (K := K) (walk_list (K := K) (a := a) (xs := xs)) (fun i x => xs[i]? = some x) (fun i => plD (ds.getD i .none)) hS1 hD (fun H' e => (h.up (Out.of e)).sq) hl (fun i H x H' _ y => y) (fun i x H' hi sm hDn e Q q => ?_) (fun H2 s2 d2 => ?_)
            · obtain ⟨di, h1, h2⟩ := dxAll_get (DxAll.up (Out.of sm) t) e
              have h3 : di.depth ≤ n := by
                have := depth_get h1
                have hn' : PyData.depthAll ds + 1 ≤ n + 1 := hn
                omega
              refine ⟨_, rfl, x, di, inS S D, rfl, fun a z => ?_, ?_, h3, wdA_get hw' h1, fun H' v' s3 d3 => ?_⟩
              · rcases z with z | z
                · exact fun y => hS1 a z (sm.free y)
                · rw [z]; exact hDn
              · exact Dx.up (Out.of sm) (Dx.add hD (Dx.of_get t e h1))
              · refine q _ _ s3 ?_
                rw [List.getD_eq_getElem?_getD, h1]
                exact d3
            refine ⟨lenOk (n := 2) rfl (by decide), fun l hl2 => ?_⟩
            have hSl : ¬ S l := fun z => hS l z (((sm0.trans s2)).free hl2)
            refine q _ _ ((sm0.trans s2).trans (same_new hl2)) ?_
            have e3 : (List.range xs.length).map (fun i => plD (ds.getD i .none)) = plA ds := by
              rw [dxAll_len t, range_getD plD .none ds, plA_map]
            rw [e3] at d2
            exact .tup (XT.of upd_same hSl) (.cons (.bl _) (.cons (Dx.up (Out.of (same_new hl2)) d2) .nil))
          | @tup a xs ds h t =>
            have hw' : wdA ds = true := (Bool.and_eq_true_iff.mp hw).2
            have hl : xs.length ≤ 1000000 := by
              have := of_decide_eq_true (Bool.and_eq_true_iff.mp hw).1
              rw [dxAll_len t]
              omega
            refine .inr ⟨_, rfl, a, rfl, ⟨_, h.sq⟩, fun D hD => ?_⟩
            refine lc_data (S := S) (K := K) (walk_tup (K := K) (a := a) (xs := xs)) (fun i x => xs[i]? = some x) (fun i => plD (ds.getD i .none)) hS1 hD (fun H' e => (h.up (Out.of e)).sq) hl (fun i H x H' _ y => y) (fun i x H' hi sm hDn e Q q => ?_) (fun H2 s2 d2 => ?_)
            · obtain ⟨di, h1, h2⟩ := dxAll_get (DxAll.up (Out.of sm) t) e
              have h3 : di.depth ≤ n := by
                have := depth_get h1
                have hn' : PyData.depthAll ds + 1 ≤ n + 1 := hn
                omega
              refine ⟨_, rfl, x, di, inS S D, rfl, fun a z => ?_, ?_, h3, wdA_get hw' h1, fun H' v' s3 d3 => ?_⟩
              · rcases z with z | z
                · exact fun y => hS1 a z (sm.free y)
                · rw [z]; exact hDn
              · exact Dx.up (Out.of sm) (Dx.add hD (Dx.of_get t e h1))
              · refine q _ _ s3 ?_
                rw [List.getD_eq_getElem?_getD, h1]
                exact d3
            refine ⟨lenOk (n := 2) rfl (by decide), fun l hl2 => ?_⟩
            have hSl : ¬ S l := fun z => hS l z (((sm0.trans s2)).free hl2)
            refine q _ _ ((sm0.trans s2).trans (same_new hl2)) ?_
            have e3 : (List.range xs.length).map (fun i => plD (ds.getD i .none)) = plA ds := by
              rw [dxAll_len t, range_getD plD .none ds, plA_map]
            rw [e3] at d2
            exact .tup (XT.of upd_same hSl) (.cons (.bl _) (.cons (Dx.up (Out.of (same_new hl2)) d2) .nil))
      · refine ⟨_, rfl, v, .ty "bool", _, _, _, rfl, .ty "bool", dp_ty hd1.dp, kit_ty (kitT _ (dp_tn hd1.dp) "bool" (by decide)), _, rfl, lenOk (n := 2) rfl (by decide), fun l hl => ?_⟩
        have n1 : tn d ≠ "list" := fun z => e (by rw [z]; decide)
        have n2 : tn d ≠ "tuple" := fun z => e (by rw [z]; decide)
        have hS2 : ¬ S l := fun z => hS l z (sm0.free hl)
        refine q _ _ (sm0.trans (same_new hl)) ?_
        rw [out _ n1 n2 rfl]
        exact .tup (XT.of upd_same hS2) (.cons (.bl _) (.cons (Dx.up (Out.of (same_new hl)) hd1) .nil))
theorem okH_plain (T : Txt K mg A) : ∀ n : Nat, L2H.FnH P w K mg base CX0 n A.a_law_plain A.d_law_plain ["_law_thing"] (spPlain K n)
  | 0 => ⟨fun _ _ _ _ h => h.elim, fun _ _ _ _ _ _ _ _ _ _ _ _ _ _ _ _ h => h.elim⟩
  | n + 1 => by
    have G0 : L2H.FnH P w K mg base CX0 n A.a_law_plain A.d_law_plain ["_law_thing"] (spPlain K n) := okH_plain T n
    refine Fun.okH T.F_law_plain sc_law_plain (fun vs H Q E h => ?_) (fun cdv A outer s H vs Q E p hot hr h => ?_)
    · obtain ⟨v, d, S, rfl, _⟩ := h
      rfl
    · obtain ⟨v, d, S, rfl, hS, hd, hn, hw, q⟩ := h
      refine ⟨_, (pss_cons (ps_if (pt_val (pe_callB (r := rIsiT K) call_isiT (by rfl) T.n_isinstance (by decide +kernel) (pa_cons (pv 0) (pa_cons (pe_tup (pa_cons (pe_bltn (v := .ty "list") (u := .type "list") (by rfl) T.n_list (by decide +kernel) rfl) (pa_cons (pe_bltn (v := .ty "tuple") (u := .type "tuple") (by rfl) T.n_tuple (by decide +kernel) rfl) pa_nil))) pa_nil)))) (pss_one (ps_ret (pe_tup (pa_cons (pe_callB (r := rIsi K) call_isi (by rfl) T.n_isinstance (by decide +kernel) (pa_cons (pv 0) (pa_cons (pe_bltn (v := .ty "list") (u := .type "list") (by rfl) T.n_list (by decide +kernel) rfl) pa_nil))) (pa_cons (pe_lcH (own := [("_law_one", 1)]) rfl hot List.mem_cons_self sc_law_plain.nd (PIH_or (pi_listH (pv 0)) (pi_tupH (pv 0))) (blkOk_by (own := [("_law_one", 1)]) (N := N_law_plain) (sc := defScope s_law_plain) (by decide +kernel)) (fun _ _ _ _ _ => pg_name (i := 1) sc_law_plain.nd rfl (Or.inl rfl)) (fun _ _ _ _ _ => pts_nil) (fun _ _ _ _ _ => by exact (L2H.pe_callH G0 (hr.mono (by omega)) ⟨p, hot, List.mem_cons_self⟩ rfl T.g_law_plain T.F_law_plain.kp T.b_law_plain (fun _ => pass_at0) (pa_cons (pv 1) pa_nil)))) pa_nil))))) pss_nil)
    (pss_one (ps_ret (pe_tup (pa_cons (pe_callB (r := rIsi K) call_isi (by rfl) T.n_isinstance (by decide +kernel) (pa_cons (pv 0) (pa_cons (pe_bltn (v := .ty "bool") (u := .type "bool") (by rfl) T.n_bool (by decide +kernel) rfl) pa_nil))) (pa_cons (pv 0) pa_nil)))))), ?_⟩
      have out : ∀ (b : Bool), tn d ≠ "list" → tn d ≠ "tuple" → b = isB (tn d) "bool" → plD d = .tuple [.bool b, d] := fun b h1 h2 h3 => by
        subst h3
        cases hd with
        | non => rfl
        | bl => rfl
        | int => rfl
        | str => rfl
        | lst _ _ => exact absurd rfl h1
        | tup _ _ => exact absurd rfl h2
      refine ⟨_, rfl, lenOk rfl (by decide), fun tp htp => ?_⟩
      have hd1 : Dx K _ S v d := Dx.up (Out.of (same_new (o := .tup (["list", "tuple"].map V.ty)) htp)) hd
      refine ⟨v, tp, _, _, _, _, rfl, upd_same, paired_ty ["list", "tuple"], dp_ty hd1.dp, kit_any (dp_tn hd1.dp) ["list", "tuple"] (by decide), ?_⟩
      have sm0 : Same H (upd H tp (.tup [V.ty "list", V.ty "tuple"])) := same_new htp
      refine ⟨_, rfl, ite2 (fun e => ?_) (fun e => ?_)⟩
      · refine ⟨_, rfl, v, .ty "list", _, _, _, rfl, .ty "list", dp_ty hd1.dp, kit_ty (kitT _ (dp_tn hd1.dp) "list" (by decide)), ?_⟩
        have htt : tn d = "list" ∨ tn d = "tuple" := by
          have hb := dp_tn hd.dp
          rcases List.mem_cons.mp hb with h | hb
          · rw [h] at e; exact absurd e (by decide)
          rcases List.mem_cons.mp hb with h | hb
          · rw [h] at e; exact absurd e (by decide)
          rcases List.mem_cons.mp hb with h | hb
          · rw [h] at e; exact absurd e (by decide)
          rcases List.mem_cons.mp hb with h | hb
          · rw [h] at e; exact absurd e (by decide)
          rcases List.mem_cons.mp hb with h | hb
          · exact .inl h
          · exact .inr (List.mem_singleton.mp hb)
        generalize hH1 : upd H tp (.tup (["list", "tuple"].map V.ty)) = H1 at hd1
        have hH2 : upd H tp (.tup [V.ty "list", V.ty "tuple"]) = H1 := hH1
        rw [hH2] at sm0 ⊢
        have hS1 : ∀ a, S a → H1 a ≠ none := fun a z y => hS a z (sm0.free y)
        cases n with
        | zero =>
          cases hd with
          | lst h t => exact absurd hn (Nat.not_succ_le_zero _)
          | tup h t => exact absurd hn (Nat.not_succ_le_zero _)
          | non => rcases htt with z | z <;> exact absurd z (by show ¬ "NoneType" = _; decide)
          | bl => rcases htt with z | z <;> exact absurd z (by show ¬ "bool" = _; decide)
          | int => rcases htt with z | z <;> exact absurd z (by show ¬ "int" = _; decide)
          | str => rcases htt with z | z <;> exact absurd z (by show ¬ "str" = _; decide)
        | succ n =>
          cases hd1 with
          | non => rcases htt with z | z <;> exact absurd z (by show ¬ "NoneType" = _; decide)
          | bl => rcases htt with z | z <;> exact absurd z (by show ¬ "bool" = _; decide)
          | int => rcases htt with z | z <;> exact absurd z (by show ¬ "int" = _; decide)
          | str => rcases htt with z | z <;> exact absurd z (by show ¬ "str" = _; decide)
          | @lst a xs ds h t =>
            have hw' : wdA ds = true := (Bool.and_eq_true_iff.mp hw).2
            have hl : xs.length ≤ 1000000 := by
              have := of_decide_eq_true (Bool.and_eq_true_iff.mp hw).1
              rw [dxAll_len t]
              omega
            refine .inl ⟨_, rfl, a, rfl, ⟨_, h.sq⟩, fun D hD => ?_⟩
            refine lc_data (S := S) (K := K) (walk_list (K := K) (a := a) (xs := xs)) (fun i x => xs[i]? = some x) (fun i => plD (ds.getD i .none)) hS1 hD (fun H' e => (h.up (Out.of e)).sq) hl (fun i H x H' _ y => y) (fun i x H' hi sm hDn e Q q => ?_) (fun H2 s2 d2 => ?_)
            · obtain ⟨di, h1, h2⟩ := dxAll_get (DxAll.up (Out.of sm) t) e
              have h3 : di.depth ≤ n := by
                have := depth_get h1
                have hn' : PyData.depthAll ds + 1 ≤ n + 1 := hn
                omega
              refine ⟨_, rfl, x, di, inS S D, rfl, fun a z => ?_, ?_, h3, wdA_get hw' h1, fun H' v' s3 d3 => ?_⟩
              · rcases z with z | z
                · exact fun y => hS1 a z (sm.free y)
                · rw [z]; exact hDn
              · exact Dx.up (Out.of sm) (Dx.add hD (Dx.of_get t e h1))
              · refine q _ _ s3 ?_
                rw [List.getD_eq_getElem?_getD, h1]
                exact d3
            refine ⟨lenOk (n := 2) rfl (by decide), fun l hl2 => ?_⟩
            have hSl : ¬ S l := fun z => hS l z (((sm0.trans s2)).free hl2)
            refine q _ _ ((sm0.trans s2).trans (same_new hl2)) ?_
            have e3 : (List.range xs.length).map (fun i => plD (ds.getD i .none)) = plA ds := by
              rw [dxAll_len t, range_getD plD .none ds, plA_map]
            rw [e3] at d2
            exact .tup (XT.of upd_same hSl) (.cons (.bl _) (.cons (Dx.up (Out.of (same_new hl2)) d2) .nil))
          | @tup a xs ds h t =>
            have hw' : wdA ds = true := (Bool.and_eq_true_iff.mp hw).2
            have hl : xs.length ≤ 1000000 := by
              have := of_decide_eq_true (Bool.and_eq_true_iff.mp hw).1
              rw [dxAll_len t]
              omega
            refine .inr ⟨_, rfl, a, rfl, ⟨_, h.sq⟩, fun D hD => ?_⟩
            refine lc_data (S := S) (K := K) (walk_tup (K := K) (a := a) (xs := xs)) (fun i x => xs[i]? = some x) (fun i => plD (ds.getD i .none)) hS1 hD (fun H' e => (h.up (Out.of e)).sq) hl (fun i H x H' _ y => y) (fun i x H' hi sm hDn e Q q => ?_) (fun H2 s2 d2 => ?_)
            · obtain ⟨di, h1, h2⟩ := dxAll_get (DxAll.up (Out.of sm) t) e
              have h3 : di.depth ≤ n := by
                have := depth_get h1
                have hn' : PyData.depthAll ds + 1 ≤ n + 1 := hn
                omega
              refine ⟨_, rfl, x, di, inS S D, rfl, fun a z => ?_, ?_, h3, wdA_get hw' h1, fun H' v' s3 d3 => ?_⟩
              · rcases z with z | z
                · exact fun y => hS1 a z (sm.free y)
                · rw [z]; exact hDn
              · exact Dx.up (Out.of sm) (Dx.add hD (Dx.of_get t e h1))
              · refine q _ _ s3 ?_
                rw [List.getD_eq_getElem?_getD, h1]
                exact d3
            refine ⟨lenOk (n := 2) rfl (by decide), fun l hl2 => ?_⟩
            have hSl : ¬ S l := fun z => hS l z (((sm0.trans s2)).free hl2)
            refine q _ _ ((sm0.trans s2).trans (same_new hl2)) ?_
            have e3 : (List.range xs.length).map (fun i => plD (ds.getD i .none)) = plA ds := by
              rw [dxAll_len t, range_getD plD .none ds, plA_map]
            rw [e3] at d2
            exact .tup (XT.of upd_same hSl) (.cons (.bl _) (.cons (Dx.up (Out.of (same_new hl2)) d2) .nil))
      · refine ⟨_, rfl, v, .ty "bool", _, _, _, rfl, .ty "bool", dp_ty hd1.dp, kit_ty (kitT _ (dp_tn hd1.dp) "bool" (by decide)), _, rfl, lenOk (n := 2) rfl (by decide), fun l hl => ?_⟩
        have n1 : tn d ≠ "list" := fun z => e (by rw [z]; decide)
        have n2 : tn d ≠ "tuple" := fun z => e (by rw [z]; decide)
        have hS2 : ¬ S l := fun z => hS l z (sm0.free hl)
        refine q _ _ (sm0.trans (same_new hl)) ?_
        rw [out _ n1 n2 rfl]
        exact .tup (XT.of upd_same hS2) (.cons (.bl _) (.cons (Dx.up (Out.of (same_new hl)) hd1) .nil))
end
end R1

namespace R1
open PySem PySem.Spec PyProof.Rows L2 RK
local macro_rules | `(tactic| walk_at "sq") => `(tactic| first
  | exact SqL.of upd_same | exact upd_same | exact SqL.of (by assumption) | exact SqL.of (by rw [upd_ne (by assumption)]; assumption) | assumption)
local macro_rules | `(tactic| walk_at "sd") => `(tactic| first
  | assumption | omega | (refine Or.inl ⟨?_, ?_⟩ <;> omega) | (show _ ∧ _; constructor <;> omega) | (show _ ≠ _; simp; omega) | (exact Or.inl ⟨by decide, by decide⟩) | (exact Or.inr ⟨by decide, by decide⟩) | (show _ < _; decide) | (show _ ≤ _; decide))
local macro_rules | `(tactic| walk_at "at") => `(tactic| first | rfl | (refine atI_intV ?_ ?_ <;> omega) | assumption)
local macro_rules | `(tactic| walk_at "s1") => `(tactic| first
  | refine ⟨_, rfl, ?_⟩ | refine ⟨_, _, rfl, rfl, ?_⟩ | refine ⟨rfl, ?_⟩
  | refine ⟨_, _, _, _, rfl, rfl, by walk_at "sq", by walk_at "at", ?_⟩
  | refine Or.inl ⟨_, rfl, ?_⟩
  | refine ⟨_, _, rfl, Or.inl (by walk_at "sq"), ?_⟩
  | refine And.intro (by walk_at "sd") ?_)
local macro_rules | `(tactic| walk_at "s") => `(tactic| repeat walk_at "s1")

def isW : PyData → Bool
  | .int i => decide (0 ≤ i ∧ i ≤ 65535)
  | _ => false
def toI : PyData → Int
  | .int i => i
  | _ => 0
def goodD : PyData → Bool
  | .tuple ds => (decide (1 ≤ ds.length) && decide (ds.length ≤ 4)) && (ds.all isW && decide ((ds.map toI).Nodup))
  | _ => false
def spIsWord (K : PySem.W.Frag) : Sp := fun vs H Q _ => ∃ (v : V) (d : PyData), vs = [v] ∧ Dp K H v d ∧ Q (.bl (isW d)) H
def spBetween (K : PySem.W.Frag) : Sp := fun vs H Q _ => ∃ (v : V) (d : PyData), vs = [v, .int 0, .int 65535] ∧ Dp K H v d ∧ Q (.bl (isW d)) H
/-! rows -/
def extR (ws : List Nat) (r : List Nat) : List (List Nat) := ws.map fun w => r ++ [w]
def rowsN (ws : List Nat) : Nat → List (List Nat)
  | 0 => [[]]
  | n + 1 => (rowsN ws n).flatMap (extR ws)
theorem ext_len (ws : List Nat) : ∀ l : List (List Nat), (l.flatMap (extR ws)).length = l.length * ws.length
  | [] => by simp
  | r :: l => by
    rw [List.flatMap_cons, List.length_append, ext_len ws l]
    unfold extR
    rw [List.length_map, List.length_cons, Nat.succ_mul, Nat.add_comm]
theorem rows_len (ws : List Nat) : ∀ n, (rowsN ws n).length = ws.length ^ n
  | 0 => rfl
  | n + 1 => by
    show ((rowsN ws n).flatMap (extR ws)).length = _
    rw [ext_len, rows_len ws n, Nat.pow_succ]
theorem rows_le {ws : List Nat} (h : ws.length ≤ 6) : ∀ {n}, n ≤ 3 → (rowsN ws n).length ≤ 216 := fun {n} hn => by
  rw [rows_len]
  have h1 : ws.length ^ n ≤ 6 ^ n := Nat.pow_le_pow_left h n
  have h2 : 6 ^ n ≤ 6 ^ 3 := Nat.pow_le_pow_right (by decide) hn
  have h3 : (6 : Nat) ^ 3 = 216 := by decide
  omega
theorem dx_ints {K : PySem.W.Frag} {H : Hp} {S : ASet} {v : V} {ws : List Nat} (h : Dx K H S v (intsD ws)) : ∃ a, v = .ref a ∧ XT K H S a (intV ws) := by
  cases h with
  | tup h1 h2 =>
    rw [dxAll_ints_inv h2] at h1
    rw [← intV_ints] at h1
    exact ⟨_, rfl, h1⟩
theorem intV_app (a b : List Nat) : intV (a ++ b) = intV a ++ intV b := List.map_append ..
theorem intV_len (a : List Nat) : (intV a).length = a.length := List.length_map ..
theorem mk_ints {K : PySem.W.Frag} {H : Hp} {S : ASet} {q : Addr} {ws : List Nat} (h : H q = some (.tup (intV ws))) (n : ¬ S q) : Dx K H S (.ref q) (intsD ws) := by
  refine .tup (XT.of h n) ?_
  rw [intV_ints]
  exact dxAll_ints _
theorem take_flat {α β : Type} (f : α → List β) (l : List α) (i : Nat) (h : i < l.length) : (l.take (i + 1)).flatMap f = (l.take i).flatMap f ++ f l[i] := by
  rw [List.take_add_one, List.getElem?_eq_getElem h, List.flatMap_append]
  simp
theorem take_map {α β : Type} (f : α → β) (l : List α) (i : Nat) (h : i < l.length) : (l.take (i + 1)).map f = (l.take i).map f ++ [f l[i]] := by
  rw [List.take_add_one, List.getElem?_eq_getElem h, List.map_append]
  rfl
theorem rows_mem (ws : List Nat) : ∀ (n : Nat) {r : List Nat}, r ∈ rowsN ws n → r.length = n
  | 0, r, h => by
    have : r = [] := by simpa [rowsN] using h
    rw [this]
    rfl
  | n + 1, r, h => by
    obtain ⟨r0, h1, h2⟩ := List.mem_flatMap.mp (show r ∈ (rowsN ws n).flatMap (extR ws) from h)
    obtain ⟨w, _, rfl⟩ := List.mem_map.mp h2
    rw [List.length_append, rows_mem ws n h1]
    rfl
def spTup (K : PySem.W.Frag) : Sp := fun vs H Q _ => ∃ (t : Addr) (ws : List Nat) (n : Nat), vs = [.ref t, .int (n : Int)] ∧ SqT K H t (intV ws) ∧ ws.length ≤ 6 ∧ n ≤ 3 ∧ ∀ H' l xs, Same H H' → H l = none → H' l = some (.lst xs) → DxAll K H' (inS noS l) xs ((rowsN ws n).map intsD) → Q (.ref l) H'
section
variable {P : Program} {w : World} {K : PySem.W.Frag} {mg : Str → Option Value} {base : Heap} {A : Ads}
theorem ok_is_between (T : Txt K mg A) : FnOk P w K mg base CX0 1 A.a_is_between A.d_is_between ["thing", "least", "most"] (spBetween K) := by
  refine T.F_is_between.ok sc_is_between (fun vs H Q E h => ?_) (fun cdv B outer s H vs Q E hr h => ?_)
  · obtain ⟨v, d, rfl, _⟩ := h
    rfl
  · obtain ⟨v, d, rfl, hd, q⟩ := h
    refine ⟨_, (pss_one (ps_ret (pe_and (pe_callB call_isi (by rfl) T.n_isinstance (by decide +kernel) (pa_cons (pv 0) (pa_cons (pe_bltn (v := .ty "int") (u := .type "int") (by rfl) T.n_int (by decide +kernel) rfl) pa_nil))) (pe_and (pe_not (pe_callB call_isi (by rfl) T.n_isinstance (by decide +kernel) (pa_cons (pv 0) (pa_cons (pe_bltn (v := .ty "bool") (u := .type "bool") (by rfl) T.n_bool (by decide +kernel) rfl) pa_nil)))) (pe_one (pe_chain op_le op_le (pv 1) (pv 0) (pv 2))))))), ?_⟩
    refine ⟨_, rfl, v, .ty "int", _, _, _, rfl, .ty "int", dp_ty hd, kit_ty (kitT _ (dp_tn hd) "int" (by decide)), _, rfl, ?_⟩
    cases hd with
    | non => exact ifF rfl q
    | str x => exact ifF rfl q
    | lst h t => exact ifF rfl q
    | tup h t => exact ifF rfl q
    | bl b =>
      refine ifT rfl ⟨_, rfl, .bl b, .ty "bool", _, _, _, rfl, .ty "bool", dp_ty (K := K) (.bl b), kit_ty (kitT _ (dp_tn (K := K) (H := H) (.bl b)) "bool" (by decide)), _, rfl, _, rfl, ifF rfl q⟩
    | int i =>
      refine ifT rfl ⟨_, rfl, .int i, .ty "bool", _, _, _, rfl, .ty "bool", dp_ty (K := K) (.int i), kit_ty (kitT _ (dp_tn (K := K) (H := H) (.int i)) "bool" (by decide)), _, rfl, _, rfl, ?_⟩
      refine ifT (by show (!isB "int" "bool") = true; decide) ?_
      refine ⟨_, rfl, _, rfl, _, _, rfl, rfl, _, rfl, ifB (fun e => ⟨_, rfl, _, _, rfl, rfl, ?_⟩) (fun e => ?_)⟩
      · have e2 : isW (.int i) = decide (i ≤ 65535) := by
          show decide (0 ≤ i ∧ i ≤ 65535) = _
          rw [decide_eq_decide]
          exact ⟨fun z => z.2, fun z => ⟨of_decide_eq_true e, z⟩⟩
        rw [e2] at q
        exact q
      · have e2 : isW (.int i) = false := decide_eq_false fun z => of_decide_eq_false e z.1
        rw [e2] at q
        exact q
theorem ok_is_word (T : Txt K mg A) : FnOk P w K mg base CX0 2 A.a_is_word A.d_is_word ["thing"] (spIsWord K) := by
  refine T.F_is_word.ok sc_is_word (fun vs H Q E h => ?_) (fun cdv B outer s H vs Q E hr h => ?_)
  · obtain ⟨v, d, rfl, _⟩ := h
    rfl
  · obtain ⟨v, d, rfl, hd, q⟩ := h
    refine ⟨_, (pss_one (ps_ret (pe_call (ok_is_between T) (hr.mono (by omega)) rfl T.g_is_between T.F_is_between.kp T.b_is_between .nil pass0 (pa_cons (pv 0) (pa_cons pe_int (pa_cons pe_int pa_nil)))))), ?_⟩
    exact ⟨_, rfl, v, d, rfl, hd, q⟩
theorem ok_tuples_of (T : Txt K mg A) : FnOk P w K mg base CX0 1 A.a_tuples_of A.d_tuples_of ["words", "count"] (spTup K) := by
  refine T.F_tuples_of.ok sc_tuples_of (fun vs H Q E h => ?_) (fun cdv B outer s H vs Q E hr h => ?_)
  · obtain ⟨t, ws, n, rfl, _⟩ := h
    rfl
  · obtain ⟨t, ws, n, rfl, ht, hwl, hn, q⟩ := h
    refine ⟨_, (pss_cons (ps_set (i := 2) sc_tuples_of.nd rfl (.inl rfl) (pe_lst (pa_cons (pe_tup pa_nil) pa_nil)))
    (pss_cons (ps_for PassesOwn.never rfl (pi_range1 (by rfl) T.n_range (pa_cons (pv 1) pa_nil)) (pg_name (i := 3) sc_tuples_of.nd rfl (.inl rfl))
      (pss_one (ps_setLc2 (i := 2) (own := [("row", 4), ("word", 5)]) (vs1 := [5]) rfl sc_tuples_of.nd rfl rfl (sw_true rfl rfl rfl (by decide +kernel)) (pi_list (pv 2)) (blkOk_by (own := [("row", 4), ("word", 5)]) (N := N_tuples_of) (sc := defScope s_tuples_of) (by decide +kernel)) (by decide) (fun _ _ _ _ _ => pg_name (i := 4) sc_tuples_of.nd rfl (Or.inl rfl)) (fun _ _ _ _ _ => pts_nil) (fun _ _ _ _ _ => by exact (show PI _ _ _ (iTup K _) from (pi_tup (pv 0)))) (fun _ _ _ _ _ => pg_name (i := 5) sc_tuples_of.nd rfl (Or.inl rfl)) (fun _ _ _ _ _ => pts_nil) (fun _ _ _ _ _ => by exact (pe_op (r := rCatA K) op_catA (pv 4) (pe_tup (pa_cons (pv 5) pa_nil)))))))
    (pss_one (ps_ret (pv 2))))), ?_⟩
    refine ⟨lenOk (n := 0) rfl (by decide), fun q0 hq0 => ⟨lenOk (n := 1) rfl (by decide), fun l0 hl0 => ?_⟩⟩
    have e0 : upd H q0 (.tup []) q0 = some (.tup (intV [])) := upd_same
    have s0 := same_new (o := .tup []) hq0
    generalize upd H q0 (.tup []) = Ha at e0 s0 hl0 ⊢
    have e1 : upd Ha l0 (.lst [V.ref q0]) l0 = some (.lst [V.ref q0]) := upd_same
    have sb := same_new (o := .lst [V.ref q0]) hl0
    have n0 : q0 ≠ l0 := ne_of_none e0 hl0
    have eq0 := sb _ _ e0
    have s1 := s0.trans sb
    have hl0H := s0.free hl0
    generalize upd Ha l0 (.lst [V.ref q0]) = H1 at e1 s1 eq0 ⊢
    refine ⟨_, rfl, (n : Int), rfl, by omega, by omega, ?_⟩
    rw [Int.toNat_natCast]
    refine for_it (walk_range (lo := 0) (n := n)) (fun i σ Hc => ∃ o3 l xs, σ = [some (.ref t), some (.int (n : Int)), some (.ref l), o3, none, none] ∧ Same H Hc ∧ H l = none ∧ Hc l = some (.lst xs) ∧ DxAll K Hc (inS noS l) xs ((rowsN ws i).map intsD))
      ⟨_, l0, _, rfl, s1, hl0H, e1, .cons (mk_ints eq0 fun z => z.elim (fun z => z) n0) .nil⟩ (fun _ _ _ _ _ => trivial) (fun i x σ Hc Hd hi y e => ?_) (fun σ Hc y => ?_)
    · obtain ⟨rfl, rfl⟩ := e
      obtain ⟨o3, l, xs, rfl, sm, hlH, hlc, hda⟩ := y
      have hrl := rows_le hwl (n := i) (by omega)
      have hxl : xs.length = (rowsN ws i).length := by rw [dxAll_len hda, List.length_map]
      show L2.tAsg _ _ _ _ _
      refine ⟨_, rfl, l, rfl, ⟨_, SqL.of hlc⟩, fun D hD => ?_⟩
      have nlD : l ≠ D := ne_of_none hlc hD
      have hwlen : (intV ws).length = ws.length := intV_len ws
      have lim : ∀ {n : Nat}, n ≤ 2000 → n < sizeLine := fun h => Nat.lt_of_lt_of_le (show _ < 16000000 by omega) (by decide)
      refine lc2_it (walk_list (K := K) (a := l) (xs := xs)) (k := 4) (k1 := 5) (by decide) (fun a Hx => Same Hd Hx ∧ ∃ acc, Hx D = some (.lst acc) ∧ DxAll K Hx (inS noS D) acc ((((rowsN ws i).take a).flatMap (extR ws)).map intsD)) ⟨same_new hD, [], upd_same, .nil⟩ (fun a Hx _ h => SqL.of (h.1 _ _ hlc)) (fun a x Hx Hy ha hp y R hR => ?_) (fun Hx h => ?_)
      · obtain ⟨rfl, e⟩ := y
        obtain ⟨sx, acc, hxD, hda2⟩ := hp
        rw [hxl] at ha
        have hdx := Dx.of_get (DxAll.up (Out.of sx) hda) e (d := intsD (rowsN ws i)[a]) (by rw [List.getElem?_map, List.getElem?_eq_getElem ha]; rfl)
        obtain ⟨q1, rfl, hq1⟩ := dx_ints hdx
        have hq1 : XT K Hy (inS noS D) q1 _ := xt_sq hq1.sq fun b hb => by
          rcases hb with hb | hb
          · exact hb.elim
          · subst hb
            exact ⟨_, hxD⟩
        have hrl2 := rows_mem ws i (List.getElem_mem ha)
        rw [take_flat _ _ _ ha] at hR
        generalize (rowsN ws i)[a] = r at hR hq1 hrl2
        have hfl : (((rowsN ws i).take a).flatMap (extR ws)).length ≤ 1296 := by
          rw [ext_len, List.length_take]
          have h1 : min a (rowsN ws i).length * ws.length ≤ 216 * 6 := Nat.mul_le_mul (by omega) hwl
          omega
        generalize ((rowsN ws i).take a).flatMap (extR ws) = pre at hR hda2 hfl
        refine ⟨_, rfl, t, rfl, ⟨_, sqT_up ht (sm.trans sx)⟩, ?_⟩
        refine hR _ _ _ _ _ (fun b Hz => Same Hd Hz ∧ Out (inS noS D) Hy Hz ∧ ∃ acc, Hz D = some (.lst acc) ∧ DxAll K Hz (inS noS D) acc ((pre ++ (ws.take b).map fun w => r ++ [w]).map intsD)) (walk_tup (K := K) (a := t) (xs := intV ws)) ⟨sx, Out.refl _ _, acc, hxD, by rw [List.take_zero, List.map_nil, List.append_nil]; exact hda2⟩ (fun b Hz _ h => sqT_up ht (sm.trans h.1)) (fun j y Hz Hw hj hp1 yy => ?_) (fun Hz hp1 => ?_)
        · obtain ⟨rfl, e2⟩ := yy
          obtain ⟨sz, oz, acc1, hzD, hda3⟩ := hp1
          rw [hwlen] at hj
          have ey : y = .int ((ws[j] : Nat) : Int) := by
            unfold intV at e2
            rw [List.getElem?_map, List.getElem?_eq_getElem hj] at e2
            exact (Option.some.inj e2).symm
          subst ey
          have hal : acc1.length ≤ 1302 := by
            rw [dxAll_len hda3, List.length_map, List.length_append, List.length_map, List.length_take]
            omega
          refine ⟨_, rfl, _, rfl, lenOk (n := 1) rfl (by decide), fun q2 hq2 => ?_⟩
          have s2 := same_new (o := .tup [V.int ((ws[j] : Nat) : Int)]) hq2
          have hr1 := ((hq1.up oz).up (Out.of s2)).sq
          refine catA_of hr1 (SqT.of upd_same) ?_ fun p H7 s7 hp7 => ?_
          · have : (intV r).length ≤ 1000 := by rw [intV_len]; omega
            show _ + 1 ≤ _
            omega
          have s27 := s2.trans s7
          have hD7 := s27 _ _ hzD
          have o7 : Out (inS noS D) H7 (upd H7 D (.lst (acc1 ++ [V.ref p]))) := (Out.refl _ _).put (.inr rfl)
          refine ⟨acc1, hD7, lim (by omega), same_mut (sz.trans s27) hD, (oz.trans (Out.of s27)).trans o7, _, upd_same, ?_⟩
          rw [take_map _ _ _ hj, ← List.append_assoc, List.map_append (l₁ := pre ++ _)]
          refine dxAll_app (DxAll.up o7 (DxAll.up (Out.of s27) hda3)) (.cons (Dx.up o7 (.tup (xt_sq hp7 fun b hb => ?_) ?_)) .nil)
          · rcases hb with hb | hb
            · exact hb.elim
            · subst hb
              exact ⟨_, hD7⟩
          · rw [show intV r ++ [V.int ((ws[j] : Nat) : Int)] = intV (r ++ [ws[j]]) by rw [intV_app]; rfl, intV_ints]
            exact dxAll_ints _
        · obtain ⟨sz, oz, acc1, hzD, hda3⟩ := hp1
          rw [hwlen, List.take_length] at hda3
          exact ⟨sz, acc1, hzD, hda3⟩
      · obtain ⟨sx, acc, hxD, hda2⟩ := h
        rw [hxl, List.take_length] at hda2
        exact ⟨_, D, acc, rfl, sm.trans sx, sm.free hD, hxD, hda2⟩
    · obtain ⟨o3, l, xs, rfl, sm, hlH, hlc, hda⟩ := y
      exact ⟨_, rfl, q _ l xs sm hlH hlc hda⟩
end
end R1

namespace R1
open PySem PySem.Spec PyProof.Rows L2 RK
local macro_rules | `(tactic| walk_at "sq") => `(tactic| first
  | exact SqL.of upd_same | exact upd_same | exact SqL.of (by assumption) | exact SqL.of (by rw [upd_ne (by assumption)]; assumption) | assumption)
local macro_rules | `(tactic| walk_at "sd") => `(tactic| first
  | assumption | omega | (refine Or.inl ⟨?_, ?_⟩ <;> omega) | (show _ ∧ _; constructor <;> omega) | (show _ ≠ _; simp; omega) | (exact Or.inl ⟨by decide, by decide⟩) | (exact Or.inr ⟨by decide, by decide⟩) | (show _ < _; decide) | (show _ ≤ _; decide))
local macro_rules | `(tactic| walk_at "at") => `(tactic| first | rfl | (refine atI_intV ?_ ?_ <;> omega) | assumption)
local macro_rules | `(tactic| walk_at "s1") => `(tactic| first
  | refine ⟨_, rfl, ?_⟩ | refine ⟨_, _, rfl, rfl, ?_⟩ | refine ⟨rfl, ?_⟩
  | refine ⟨_, _, _, _, rfl, rfl, by walk_at "sq", by walk_at "at", ?_⟩
  | refine Or.inl ⟨_, rfl, ?_⟩
  | refine ⟨_, _, rfl, Or.inl (by walk_at "sq"), ?_⟩
  | refine And.intro (by walk_at "sd") ?_)
local macro_rules | `(tactic| walk_at "s") => `(tactic| repeat walk_at "s1")

theorem Fun.okS {P : Program} {w : World} {K : PySem.W.Frag} {mg : Str → Option Value} {base : Heap} {CX : CXT} {x qual : Str} {st : Stmt} {f : Addr} {fd : FuncData} {N ps : List Str} {k : Nat} {spN : Nat → Sp} (F : Fun K x qual st f fd) (S : FnScope N ps (defScope st)) (hb : Binds K fd ps [])
    (len : ∀ n vs H Q E, spN n vs H Q E → vs.length = ps.length)
    (body : ∀ (cdv : Value) (A : Around) (outer : List Env) (s : Shared) (H : Hp) (vs : List V) (Q : VK) (E : XK), Room k (A.deeper (envOfC qual (defScope st) s.heap.objs.size f cdv)) → spN s.heap.objs.size vs H Q E →
      ∃ t, PSs (cxOf CX P w K mg base N qual (defScope st) f cdv A outer s H E) (defBody st) t ∧ t { nx := fun _ H' => Q .non H', rt := Q } (start N vs) H) : DK.FnS P w K mg base CX (k + 1) f spN := by
  obtain ⟨oc, od, kV, doc, pm, an, cdv, ct, osl, rfl, lk, hcd⟩ := F.ex
  exact DK.fn_ofS lk hcd S hb len fun A outer s H vs Q E hr z => body cdv A outer s H vs Q E hr z
/-- at a stands an alphabet of these words -/
def AlK (K : PySem.W.Frag) (C a : Addr) (ws : List Nat) (H : Hp) : Prop := ∃ dx t, H a = some (.ins C dx [("words", .ref t)]) ∧ SqT K H t (intV ws)
theorem AlK.up {K : PySem.W.Frag} {C a : Addr} {ws : List Nat} {H H' : Hp} (h : AlK K C a ws H) (s : Same H H') : AlK K C a ws H' := let ⟨dx, t, h1, h2⟩ := h; ⟨dx, t, s _ _ h1, sqT_up h2 s⟩
def PA1 (K : PySem.W.Frag) (C : Addr) (ws : List Nat) : Addr → Addr → Hp → Prop := fun a t H => ∃ dx, H a = some (.ins C dx [("words", .ref t)]) ∧ SqT K H t (intV ws)
def spCon (K : PySem.W.Frag) (C : Addr) : Sp := fun vs H Q _ => ∃ (a : Addr) (ws : List Nat) (x : Nat), vs = [.ref a, .int (x : Int)] ∧ AlK K C a ws H ∧ Q (.bl (decide (x ∈ ws))) H
def spLen (K : PySem.W.Frag) (C : Addr) : Sp := fun vs H Q _ => ∃ (a : Addr) (ws : List Nat), vs = [.ref a] ∧ AlK K C a ws H ∧ Q (.int (ws.length : Int)) H
def spCall (K : PySem.W.Frag) (C : Addr) : Sp := fun vs H Q _ => ∃ (a : Addr) (ws : List Nat) (n : Nat), vs = [.ref a, .int (n : Int)] ∧ AlK K C a ws H ∧ ws.length ≤ 6 ∧ n ≤ 3 ∧ ∀ H' l xs, Same H H' → H l = none → H' l = some (.lst xs) → DxAll K H' (inS noS l) xs ((rowsN ws n).map intsD) → Q (.ref l) H'
def spEq (K : PySem.W.Frag) (C : Addr) : Sp := fun vs H Q _ => ∃ (a b : Addr) (ws us : List Nat), vs = [.ref a, .ref b] ∧ AlK K C a ws H ∧ AlK K C b us H ∧ Q (.bl (decide (ws = us))) H
def spInit (K : PySem.W.Frag) (C B : Addr) : Sp := fun vs H Q E => ∃ (x dx : Addr) (v : V) (d : PyData), vs = [.ref x, v] ∧ H x = some (.ins C dx []) ∧ Dp K H v d ∧ ((∃ ds, d = .list ds) ∨ ∃ ds, d = .tuple ds) ∧ wdB d = true ∧
  (goodD d = false → ∀ dz H', Same H H' → H dz = none → H' dz = some (.xd [("words", v)]) → E (.ref B) (some dz) H') ∧
  (∀ ws, d = intsD ws → goodD d = true → ∀ H', Same H H' → Q .non (upd H' x (.ins C dx [("words", v)])))
theorem inV_ints (x : Nat) : ∀ ws : List Nat, inV (.int (x : Int)) (intV ws) = decide (x ∈ ws)
  | [] => rfl
  | w :: r => by
    show (eqV (.int (w : Int)) (.int (x : Int)) || inV (.int (x : Int)) (intV r)) = _
    rw [inV_ints x r]
    apply Bool.eq_iff_iff.mpr
    simp only [Bool.or_eq_true, decide_eq_true_eq, List.mem_cons]
    have : eqV (.int (w : Int)) (.int (x : Int)) = true ↔ x = w := by
      show decide ((w : Int) = (x : Int)) = true ↔ _
      rw [decide_eq_true_eq]
      omega
    rw [this]
theorem flat_ints (ws : List Nat) : (intV ws).all flatV = true := by
  rw [List.all_eq_true]
  intro v hv
  obtain ⟨n, _, rfl⟩ := List.mem_map.mp hv
  rfl
theorem eqvA_ints : ∀ ws us : List Nat, PyData.eqvAll ((ws.map fun (n : Nat) => (n : Int)).map PyData.int) ((us.map fun (n : Nat) => (n : Int)).map PyData.int) = decide (ws = us)
  | [], [] => rfl
  | [], _ :: _ => rfl
  | _ :: _, [] => rfl
  | a :: r, b :: s => by
    show (PyData.eqv (.int (a : Int)) (.int (b : Int)) && PyData.eqvAll ((r.map fun (n : Nat) => (n : Int)).map PyData.int) ((s.map fun (n : Nat) => (n : Int)).map PyData.int)) = _
    rw [eqvA_ints r s]
    apply Bool.eq_iff_iff.mpr
    have : PyData.eqv (.int (a : Int)) (.int (b : Int)) = true ↔ a = b := by
      show ((a : Int) == (b : Int)) = true ↔ _
      rw [beq_iff_eq]
      omega
    rw [Bool.and_eq_true, this, decide_eq_true_eq, decide_eq_true_eq, List.cons.injEq]
theorem eqv_ints (ws us : List Nat) : PyData.eqv (intsD ws) (intsD us) = decide (ws = us) := eqvA_ints ws us
theorem ints_shaped (ws : List Nat) : SeqAt.shaped (intsD ws) = true := by
  unfold SeqAt.shaped
  rw [lay_intsD, Bool.true_and]
  have := dep_intsD ws
  exact decide_eq_true (by omega)
section
variable {P : Program} {w : World} {K : PySem.W.Frag} {mg : Str → Option Value} {base : Heap} {A : Ads}
theorem okS_Alphabet_iter (T : Txt K mg A) (ws : List Nat) : DK.FnS P w K mg base CX0 2 A.a_Alphabet_iter (DK.spIterN (PA1 K A.c_Alphabet ws) K) := by
  refine Fun.okS T.F_Alphabet_iter sc_Alphabet_iter T.b_Alphabet_iter (fun n vs H Q E h => ?_) (fun cdv B outer s H vs Q E hr h => ?_)
  · obtain ⟨a, t, rfl, _⟩ := h
    rfl
  · obtain ⟨a, t, rfl, ⟨dx, ha, ht⟩, q⟩ := h
    refine ⟨_, (pss_one (ps_ret (pe_callB DK.call_iterT (by rfl) T.n_iter (by decide +kernel) (pa_cons (pe_fld (pv 0) rfl) pa_nil)))), ?_⟩
    exact ⟨_, rfl, a, A.c_Alphabet, dx, _, _, rfl, ha, T.cl_Alphabet, T.na_Alphabet_words, rfl, t, _, rfl, ht, q⟩
theorem ok_Alphabet_contains (T : Txt K mg A) : FnOk P w K mg base CX0 1 A.a_Alphabet_contains A.d_Alphabet_contains ["self", "x"] (spCon K A.c_Alphabet) := by
  refine T.F_Alphabet_contains.ok sc_Alphabet_contains (fun vs H Q E h => ?_) (fun cdv B outer s H vs Q E hr h => ?_)
  · obtain ⟨a, ws, x, rfl, _⟩ := h
    rfl
  · obtain ⟨a, ws, x, rfl, ⟨dx, t, ha, ht⟩, q⟩ := h
    refine ⟨_, (pss_one (ps_ret (pe_cmpR op_in_seq (pv 1) (pe_fld (pv 0) rfl) (by rfl)))), ?_⟩
    refine ⟨_, rfl, _, rfl, a, A.c_Alphabet, dx, _, _, rfl, ha, T.cl_Alphabet, T.na_Alphabet_words, rfl, t, _, rfl, .inr ht, rfl, flat_ints ws, ?_⟩
    rw [inV_ints]
    exact q
theorem ok_Alphabet_len (T : Txt K mg A) : FnOk P w K mg base CX0 1 A.a_Alphabet_len A.d_Alphabet_len ["self"] (spLen K A.c_Alphabet) := by
  refine T.F_Alphabet_len.ok sc_Alphabet_len (fun vs H Q E h => ?_) (fun cdv B outer s H vs Q E hr h => ?_)
  · obtain ⟨a, ws, rfl, _⟩ := h
    rfl
  · obtain ⟨a, ws, rfl, ⟨dx, t, ha, ht⟩, q⟩ := h
    refine ⟨_, (pss_one (ps_ret (pe_callB len_seq (by rfl) T.n_len (by decide +kernel) (pa_cons (pe_fld (pv 0) rfl) pa_nil)))), ?_⟩
    refine ⟨_, rfl, a, A.c_Alphabet, dx, _, _, rfl, ha, T.cl_Alphabet, T.na_Alphabet_words, rfl, t, _, rfl, .inr ht, ?_⟩
    rw [intV_len]
    exact q
theorem ok_Alphabet_call (T : Txt K mg A) : FnOk P w K mg base CX0 2 A.a_Alphabet_call A.d_Alphabet_call ["self", "count"] (spCall K A.c_Alphabet) := by
  refine T.F_Alphabet_call.ok sc_Alphabet_call (fun vs H Q E h => ?_) (fun cdv B outer s H vs Q E hr h => ?_)
  · obtain ⟨a, ws, n, rfl, _⟩ := h
    rfl
  · obtain ⟨a, ws, n, rfl, ⟨dx, t, ha, ht⟩, hl, hn, q⟩ := h
    refine ⟨_, (pss_one (ps_ret (pe_call (ok_tuples_of T) (hr.mono (by omega)) rfl T.g_tuples_of T.F_tuples_of.kp T.b_tuples_of .nil pass0 (pa_cons (pe_fld (pv 0) rfl) (pa_cons (pv 1) pa_nil))))), ?_⟩
    exact ⟨_, rfl, a, A.c_Alphabet, dx, _, _, rfl, ha, T.cl_Alphabet, T.na_Alphabet_words, rfl, _, rfl, t, ws, n, rfl, ht, hl, hn, q⟩
theorem dp_ints {H : Hp} {t : Addr} {ws : List Nat} (h : SqT K H t (intV ws)) : Dp K H (.ref t) (intsD ws) := by
  rw [intV_ints] at h
  exact .tup h (DxAll.dp (dxAll_ints (S := noS) _))
theorem ok_Alphabet_eq (T : Txt K mg A) : FnOk P w K mg base CX0 1 A.a_Alphabet_eq A.d_Alphabet_eq ["self", "other"] (spEq K A.c_Alphabet) := by
  refine T.F_Alphabet_eq.ok sc_Alphabet_eq (fun vs H Q E h => ?_) (fun cdv B outer s H vs Q E hr h => ?_)
  · obtain ⟨a, b, ws, us, rfl, _⟩ := h
    rfl
  · obtain ⟨a, b, ws, us, rfl, ⟨dx, t, ha, ht⟩, ⟨dy, u, hb, hu⟩, q⟩ := h
    refine ⟨_, (pss_one (ps_ret (pe_and (pe_callB call_isi (by rfl) T.n_isinstance (by decide +kernel) (pa_cons (pv 1) (pa_cons (pe_glob (v := .ref A.c_Alphabet) rfl T.g_Alphabet rfl) pa_nil))) (pe_one (pe_cmpR (op_eqD hr.units) (pe_fld (pv 0) rfl) (pe_fld (pv 1) rfl) (nomark _)))))), ?_⟩
    refine ⟨_, rfl, .ref b, .ref A.c_Alphabet, _, _, _, rfl, .own _, T.ty_Alphabet hb, T.k_Alphabet_Alphabet, _, rfl, ?_⟩
    refine ifT rfl ?_
    refine ⟨_, rfl, a, A.c_Alphabet, dx, _, _, rfl, ha, T.cl_Alphabet, T.na_Alphabet_words, rfl, _, rfl, b, A.c_Alphabet, dy, _, _, rfl, hb, T.cl_Alphabet, T.na_Alphabet_words, rfl, ?_⟩
    refine ⟨_, _, dp_ints ht, dp_ints hu, ?_, ?_, ?_⟩
    · exact ints_shaped ws
    · exact ints_shaped us
    rw [eqv_ints]
    exact q
theorem dpAll_len {H : Hp} : ∀ {ds : List PyData} {xs : List V}, DpAll K H xs ds → xs.length = ds.length
  | [], _, .nil => rfl
  | _ :: _, _, .cons _ t => by rw [List.length_cons, List.length_cons, dpAll_len t]
theorem dpAll_get {H : Hp} : ∀ {ds : List PyData} {xs : List V} {i : Nat} {v : V}, DpAll K H xs ds → xs[i]? = some v → ∃ d, ds[i]? = some d ∧ Dp K H v d
  | [], _, _, _, .nil, e => by simp at e
  | d :: _, _, 0, _, .cons h _, e => by
    simp at e
    subst e
    exact ⟨d, rfl, h⟩
  | _ :: _, _, i + 1, v, .cons _ t, e => by
    obtain ⟨d, h1, h2⟩ := dpAll_get (i := i) (v := v) t (by simpa using e)
    exact ⟨d, by simpa using h1, h2⟩
theorem dp_ints_inv {H : Hp} : ∀ {ds : List PyData} {xs : List V}, DpAll K H xs ds → ds.all isW = true → xs = (ds.map toI).map V.int ∧ ds = (ds.map toI).map PyData.int
  | [], _, .nil, _ => ⟨rfl, rfl⟩
  | d :: r, _, .cons h t, e => by
    have e := Bool.and_eq_true_iff.mp e
    obtain ⟨h1, h2⟩ := dp_ints_inv t e.2
    cases h with
    | int i =>
      rw [h1]
      refine ⟨by rw [← h1, h1]; rfl, ?_⟩
      conv => lhs; rw [h2]
      rfl
    | _ => cases e.1
theorem ok_Alphabet_init (T : Txt K mg A) : FnOk P w K mg base (L2N.CX P w) 3 A.a_Alphabet_init A.d_Alphabet_init ["self", "words"] (spInit K A.c_Alphabet A.c_BadAlphabet) := by
  refine Fun.okN T.F_Alphabet_init sc_Alphabet_init (fun vs H Q E h => ?_) (fun cdv B outer s H vs Q E hr h => ?_)
  · obtain ⟨x, dx, v, d, rfl, _⟩ := h
    rfl
  · obtain ⟨x, dx, v, d, rfl, hx, hd, hk, hwd, bad, good⟩ := h
    refine ⟨_, (pss_cons (ps_if (PW.pt (pw_or (pt_not (pt_val (pe_callB call_isi (by rfl) T.n_isinstance (by decide +kernel) (pa_cons (pv 1) (pa_cons (pe_bltn (v := .ty "tuple") (u := .type "tuple") (by rfl) T.n_tuple (by decide +kernel) rfl) pa_nil))))) (pw_or (pt_not (pt_chain op_le op_le pe_int (pe_callB len_seq (by rfl) T.n_len (by decide +kernel) (pa_cons (pv 1) pa_nil)) pe_int)) (pw_or1 (pt_not (pt_val (pe_callB (cr_all rfl) (by rfl) T.n_all (by decide +kernel) (pa_cons (pe_lc (own := [("word", 2)]) rfl sc_Alphabet_init.nd (pi_tup (pv 1)) (blkOk_by (own := [("word", 2)]) (N := N_Alphabet_init) (sc := defScope s_Alphabet_init) (by decide +kernel)) (fun _ _ _ _ _ => pg_name (i := 2) sc_Alphabet_init.nd rfl (Or.inl rfl)) (fun _ _ _ _ _ => pts_nil) (fun _ _ _ _ _ => by exact (pe_call (ok_is_word T) (hr.mono (by omega)) rfl T.g_is_word T.F_is_word.kp T.b_is_word .nil pass0 (pa_cons (pv 2) pa_nil)))) pa_nil)))))))) (pss_one (L2N.ps_raise rfl (L2N.takes_of rfl rfl rfl rfl) (pmk_errN T.x_BadAlphabet (ok_BadAlphabet_init T) (hr.mono (by omega)) (pa_cons (pv 1) pa_nil)))) pss_nil)
    (pss_cons (ps_if (pt_cmpR op_ne (DK.pe_lenSetT rfl (by rfl) T.n_len (by rfl) T.n_set (pv 1)) (pe_callB len_seq (by rfl) T.n_len (by decide +kernel) (pa_cons (pv 1) pa_nil)) (nomark _)) (pss_one (L2N.ps_raise rfl (L2N.takes_of rfl rfl rfl rfl) (pmk_errN T.x_BadAlphabet (ok_BadAlphabet_init T) (hr.mono (by omega)) (pa_cons (pv 1) pa_nil)))) pss_nil)
    (pss_one (ps_fld (pv 0) (pv 1) rfl)))), ?_⟩
    have raise : goodD d = false → ∀ Hc, Same H Hc → ∀ Q' : XK, Q' = E → ∀ dz H2, Same Hc H2 → Hc dz = none → H2 dz = some (.xd [("words", v)]) → Q' (.ref A.c_BadAlphabet) (some dz) H2 := fun h Hc s1 Q' eQ dz H2 s2 n2 e2 => by
      rw [eQ]
      exact bad h dz H2 (s1.trans s2) (s1.free n2) e2
    refine ⟨_, rfl, v, .ty "tuple", _, _, _, rfl, .ty "tuple", dp_ty hd, kit_ty (kitT _ (dp_tn hd) "tuple" (by decide)), _, rfl, ?_⟩
    rcases hk with ⟨ds, rfl⟩ | ⟨ds, rfl⟩
    · refine ifT rfl ?_
      exact ⟨_, rfl, keep_end fun dz H2 s2 n2 e2 => raise rfl _ (Same.refl _) _ rfl dz H2 s2 n2 e2⟩
    refine ifF rfl ?_
    cases hd with
    | tup ht hds =>
      rename_i t xs
      have hxl : xs.length = ds.length := dpAll_len hds
      have hg : goodD (.tuple ds) = ((decide (1 ≤ ds.length) && decide (ds.length ≤ 4)) && (ds.all isW && decide ((ds.map toI).Nodup))) := rfl
      refine ⟨_, rfl, t, _, rfl, .inr ht, ?_⟩
      refine ⟨_, _, rfl, rfl, _, rfl, ifB (fun e1 => ?_) (fun e1 => ?_)⟩
      case refine_2 =>
        have e1 := of_decide_eq_false e1
        have hb : goodD (.tuple ds) = false := by rw [hg, decide_eq_false (show ¬ 1 ≤ ds.length by omega)]; rfl
        refine ⟨_, rfl, ifT rfl (ifT rfl ?_)⟩
        exact ⟨_, rfl, keep_end fun dz H2 s2 n2 e2 => raise hb _ (Same.refl _) _ rfl dz H2 s2 n2 e2⟩
      have e1 := of_decide_eq_true e1
      refine ⟨_, _, rfl, rfl, _, rfl, ifB (fun e2 => ?_) (fun e2 => ?_)⟩
      · have e2 : decide ((xs.length : Int) ≤ 4) = false := by simpa using e2
        have e2 := of_decide_eq_false e2
        have hb : goodD (.tuple ds) = false := by rw [hg, decide_eq_false (show ¬ ds.length ≤ 4 by omega), Bool.and_false]; rfl
        refine ifT rfl ?_
        exact ⟨_, rfl, keep_end fun dz H2 s2 n2 e2 => raise hb _ (Same.refl _) _ rfl dz H2 s2 n2 e2⟩
      have e2 : decide ((xs.length : Int) ≤ 4) = true := by simpa using e2
      have e2 := of_decide_eq_true e2
      refine ⟨_, rfl, t, rfl, ⟨_, ht⟩, fun D hD => ?_⟩
      refine lc_vals (walk_tup (K := K) (a := t) (xs := xs)) (fun i v => xs[i]? = some v) (fun i => .bl (isW (ds.getD i .none))) hD (fun H4 s4 => sqT_up ht s4) (by omega) (fun i H1 v H2 hi y => y) (fun i v H4 hi sm hv Q q => ?_) (fun H4 s4 e4 => ?_)
      · obtain ⟨d', h1, h2⟩ := dpAll_get hds hv
        have hg : ds.getD i .none = d' := by rw [List.getD_eq_getElem?_getD, h1]; rfl
        rw [hg] at q
        exact ⟨_, rfl, v, d', rfl, dpUp sm h2, q _ (Same.refl _)⟩
      have e5 : H4 D = some (.lst ((ds.map isW).map V.bl)) := by
        rw [e4, hxl, List.map_map]
        exact congrArg (fun z => some (HO.lst z)) (range_getD (fun d => V.bl (isW d)) .none ds)
      refine ⟨D, ds.map isW, rfl, SqL.of e5, _, rfl, ?_⟩
      have hall : (ds.map isW).all id = ds.all isW := by rw [List.all_map]; rfl
      rw [hall]
      cases hw : ds.all isW with
      | false =>
        have hb : goodD (.tuple ds) = false := by rw [hg, hw, Bool.false_and, Bool.and_false]
        refine ifT rfl ?_
        exact ⟨_, rfl, keep_end fun dz H2 s2 n2 e2 => raise hb _ s4 _ rfl dz H2 s2 n2 e2⟩
      | true =>
        refine ifF rfl ?_
        obtain ⟨hx1, hx2⟩ := dp_ints_inv hds hw
        have ht4 := sqT_up ht s4
        refine ⟨_, rfl, t, ds.map toI, rfl, by rw [← hx1]; exact ht4, by rw [List.length_map]; omega, fun c hc => ?_⟩
        refine ⟨_, rfl, t, _, rfl, .inr ht4, rfl, _, rfl, ?_⟩
        rw [List.length_map] at hc
        by_cases hnd : (ds.map toI).Nodup
        · have hcc := hc.mpr hnd
          have hgd : goodD (.tuple ds) = true := by rw [hg, hw, decide_eq_true (show 1 ≤ ds.length by omega), decide_eq_true (show ds.length ≤ 4 by omega), decide_eq_true hnd]; rfl
          refine ifF (by rw [hxl, hcc, decide_eq_true rfl]; rfl) ?_
          obtain ⟨ws, hws⟩ : ∃ ws : List Nat, ds.map toI = ws.map fun (n : Nat) => (n : Int) := by
            refine ⟨ds.map fun d => (toI d).toNat, ?_⟩
            rw [List.map_map]
            refine List.map_congr_left fun d hd => ?_
            have := List.all_eq_true.mp hw d hd
            cases d with
            | int i =>
              have := of_decide_eq_true this
              show i = ((i.toNat : Nat) : Int)
              omega
            | _ => cases this
          have hdd : PyData.tuple ds = intsD ws := by
            rw [hx2, hws]
            rfl
          exact ⟨_, rfl, _, rfl, x, A.c_Alphabet, dx, [], rfl, s4 _ _ hx, T.cl_Alphabet, T.na_Alphabet_words, by decide, good ws hdd hgd _ s4⟩
        · have hb : goodD (.tuple ds) = false := by rw [hg, decide_eq_false hnd, Bool.and_false, Bool.and_false]
          refine ifT (by
            rw [decide_eq_false fun z => hnd (hc.mp (by have := V.int.inj z; omega))]
            rfl) ?_
          exact ⟨_, rfl, keep_end fun dz H2 s2 n2 e2 => raise hb _ s4 _ rfl dz H2 s2 n2 e2⟩
end
end R1

namespace R1
open PySem PySem.Spec PyProof.Rows L2 RK
local macro_rules | `(tactic| walk_at "sq") => `(tactic| first
  | exact SqL.of upd_same | exact upd_same | exact SqL.of (by assumption) | exact SqL.of (by rw [upd_ne (by assumption)]; assumption) | assumption)
local macro_rules | `(tactic| walk_at "sd") => `(tactic| first
  | assumption | omega | (refine Or.inl ⟨?_, ?_⟩ <;> omega) | (show _ ∧ _; constructor <;> omega) | (show _ ≠ _; simp; omega) | (exact Or.inl ⟨by decide, by decide⟩) | (exact Or.inr ⟨by decide, by decide⟩) | (show _ < _; decide) | (show _ ≤ _; decide))
local macro_rules | `(tactic| walk_at "at") => `(tactic| first | rfl | (refine atI_intV ?_ ?_ <;> omega) | assumption)
local macro_rules | `(tactic| walk_at "s1") => `(tactic| first
  | refine ⟨_, rfl, ?_⟩ | refine ⟨_, _, rfl, rfl, ?_⟩ | refine ⟨rfl, ?_⟩
  | refine ⟨_, _, _, _, rfl, rfl, by walk_at "sq", by walk_at "at", ?_⟩
  | refine Or.inl ⟨_, rfl, ?_⟩
  | refine ⟨_, _, rfl, Or.inl (by walk_at "sq"), ?_⟩
  | refine And.intro (by walk_at "sd") ?_)
local macro_rules | `(tactic| walk_at "s") => `(tactic| repeat walk_at "s1")

def spWord : Sp := fun vs H Q _ => ∃ (c p : Addr), vs = [.ref p] ∧ Src c H p ∧ ∀ H' (w : Nat), w ≤ 65535 → Src c H' p → But p H H' → Q (.int (w : Int)) H'
def isI : PyData → Bool
  | .int _ => true
  | _ => false
def spIsNum (K : PySem.W.Frag) : Sp := fun vs H Q _ => ∃ (v : V) (d : PyData), vs = [v] ∧ Dp K H v d ∧ Q (.bl (isI d)) H
def spGood (K : PySem.W.Frag) : Sp := fun vs H Q _ => ∃ (a : Addr) (xs : List V) (ds : List PyData), vs = [.ref a] ∧ SqL K H a xs ∧ DpAll K H xs ds ∧ ds.length ≤ 1000 ∧ ∀ H', Same H H' → Q (.bl (goodD (.tuple ds))) H'
def spRowsL (K : PySem.W.Frag) : Sp := fun vs H Q _ => ∃ (a : Addr) (ws : List Nat) (n : Nat), vs = [.ref a, .int (n : Int)] ∧ SqL K H a (intV ws) ∧ ws.length ≤ 6 ∧ n ≤ 3 ∧ ∀ H' l, Same H H' → Dx K H' noS (.ref l) (.list ((rowsN ws n).map intsD)) → Q (.ref l) H'
def spApart (K : PySem.W.Frag) : Sp := fun vs H Q _ => ∃ (a : Addr) (ws : List Nat), vs = [.ref a] ∧ H a = some (.lst (intV ws)) ∧ ws.length ≤ 6 ∧ (∀ w ∈ ws, w ≤ 65535) ∧ ∀ H' l (us : List Nat), Same H H' → H l = none → H' l = some (.lst (intV us)) → us.length = ws.length → (∀ w ∈ us, w ≤ 65535) → Q (.ref l) H'
def spRefused (K : PySem.W.Frag) : Sp := fun vs H Q _ => ∃ (v : V) (d : PyData) (S : ASet), vs = [v] ∧ (∀ a, S a → H a ≠ none) ∧ Dx K H S v d ∧ ((∃ ds, d = .list ds) ∨ ∃ ds, d = .tuple ds) ∧ goodD d = false ∧ d.canLay0 = true ∧ d.depth ≤ 2 ∧ wdB d = true ∧ ∀ H', Q (.bl true) H'
theorem nodup_mem {ns : List Int} {z : Int} : (ns ++ [z]).Nodup ↔ ns.Nodup ∧ z ∉ ns := by
  rw [List.nodup_append]
  constructor
  · rintro ⟨h1, _, h3⟩
    exact ⟨h1, fun hz => h3 z hz z (by simp) rfl⟩
  · rintro ⟨h1, h2⟩
    refine ⟨h1, by simp, fun a ha b hb e => ?_⟩
    have : b = z := by simpa using hb
    rw [e, this] at ha
    exact h2 ha
theorem inV_intZ (x : Int) : ∀ ns : List Int, inV (.int x) (ns.map V.int) = decide (x ∈ ns)
  | [] => rfl
  | w :: r => by
    show (eqV (.int w) (.int x) || inV (.int x) (r.map V.int)) = _
    rw [inV_intZ x r]
    apply Bool.eq_iff_iff.mpr
    simp only [Bool.or_eq_true, decide_eq_true_eq, List.mem_cons]
    have : eqV (.int w) (.int x) = true ↔ x = w := by
      show decide (w = x) = true ↔ _
      rw [decide_eq_true_eq]
      exact eq_comm
    rw [this]
theorem flat_intZ (ns : List Int) : (ns.map V.int).all flatV = true := by
  rw [List.all_eq_true]
  intro v hv
  obtain ⟨n, _, rfl⟩ := List.mem_map.mp hv
  rfl
theorem all_take_succ {ds : List PyData} {i : Nat} (h : i < ds.length) : (ds.take (i + 1)).all isW = ((ds.take i).all isW && isW ds[i]) := by
  rw [List.take_add_one, List.getElem?_eq_getElem h, List.all_append]
  simp
theorem good_no {ds : List PyData} (h : ds.all isW = false ∨ ¬ (ds.map toI).Nodup) : goodD (.tuple ds) = false := by
  show ((_ && _) && (ds.all isW && decide ((ds.map toI).Nodup))) = false
  rcases h with h | h
  · rw [h, Bool.false_and, Bool.and_false]
  · rw [decide_eq_false h, Bool.and_false, Bool.and_false]
theorem all_of_take {ds : List PyData} {i : Nat} (h : (ds.take i).all isW = false) : ds.all isW = false := by
  apply Bool.eq_false_iff.mpr
  intro z
  rw [List.all_eq_true] at z
  have : (ds.take i).all isW = true := List.all_eq_true.mpr fun d hd => z d (List.mem_of_mem_take hd)
  rw [h] at this
  cases this
theorem dpAll_take {K : PySem.W.Frag} {H : Hp} : ∀ {xs : List V} {ds : List PyData} (n : Nat), DpAll K H xs ds → DpAll K H (xs.take n) (ds.take n)
  | _, _, 0, _ => .nil
  | _, _, _ + 1, .nil => .nil
  | _, _, n + 1, .cons h t => .cons h (dpAll_take n t)
section
variable {P : Program} {w : World} {K : PySem.W.Frag} {mg : Str → Option Value} {base : Heap} {A : Ads}
theorem ok_law_word (T : Txt K mg A) : FnOk P w K mg base CX0 3 A.a_law_word A.d_law_word ["_law_source_here"] spWord := by
  refine T.F_law_word.ok sc_law_word (fun vs H Q E h => ?_) (fun cdv B outer s H vs Q E hr h => ?_)
  · obtain ⟨c, p, rfl, _⟩ := h
    rfl
  · obtain ⟨c, p, rfl, hs, q⟩ := h
    refine ⟨_, (pss_cons (ps_set (i := 1) sc_law_word.nd rfl (.inl rfl) (pe_call (ok_law_draw T) (hr.mono (by omega)) rfl T.g_law_draw T.F_law_draw.kp T.b_law_draw .nil pass0 (pa_cons (pv 0) (pa_cons pe_int pa_nil))))
    (pss_cons (ps_if (pt_cmpR op_lt (pv 1) pe_int (nomark _)) (pss_one (ps_ret (pe_call (ok_law_draw T) (hr.mono (by omega)) rfl T.g_law_draw T.F_law_draw.kp T.b_law_draw .nil pass0 (pa_cons (pv 0) (pa_cons pe_int pa_nil))))) pss_nil)
    (pss_cons (ps_if (pt_cmpR op_eq (pv 1) pe_int (nomark _)) (pss_one (ps_ret (pe_call (ok_law_draw T) (hr.mono (by omega)) rfl T.g_law_draw T.F_law_draw.kp T.b_law_draw .nil pass0 (pa_cons (pv 0) (pa_cons pe_int pa_nil))))) pss_nil)
    (pss_one (ps_ret (pe_op op_sub pe_int (pe_call (ok_law_draw T) (hr.mono (by omega)) rfl T.g_law_draw T.F_law_draw.kp T.b_law_draw .nil pass0 (pa_cons (pv 0) (pa_cons pe_int pa_nil))))))))), ?_⟩
    walk_at "s"
    refine ⟨c, p, 4, rfl, hs, by decide, by decide, fun H1 way lw hs1 b1 => ?_⟩
    walk_at "s"
    refine ite2 (fun e => ?_) (fun e => ?_)
    · walk_at "s"
      exact ⟨c, p, 10, rfl, hs1, by decide, by decide, fun H2 r l2 hs2 b2 => q _ r (by omega) hs2 (b1.trans b2)⟩
    walk_at "s"
    refine ite2 (fun e => ?_) (fun e => ?_)
    · walk_at "s"
      exact ⟨c, p, 65536, rfl, hs1, by decide, by decide, fun H2 r l2 hs2 b2 => q _ r (by omega) hs2 (b1.trans b2)⟩
    walk_at "s"
    refine ⟨c, p, 3, rfl, hs1, by decide, by decide, fun H2 r l2 hs2 b2 => ?_⟩
    have := q _ (65535 - r) (by omega) hs2 (b1.trans b2)
    rw [show ((65535 - r : Nat) : Int) = 65535 - (r : Int) by omega] at this
    exact ⟨_, _, rfl, rfl, this⟩
theorem ok_law_is_number (T : Txt K mg A) : FnOk P w K mg base CX0 1 A.a_law_is_number A.d_law_is_number ["_law_thing"] (spIsNum K) := by
  refine T.F_law_is_number.ok sc_law_is_number (fun vs H Q E h => ?_) (fun cdv B outer s H vs Q E hr h => ?_)
  · obtain ⟨v, d, rfl, _⟩ := h
    rfl
  · obtain ⟨v, d, rfl, hd, q⟩ := h
    refine ⟨_, (pss_one (ps_ret (pe_and (pe_callB call_isi (by rfl) T.n_isinstance (by decide +kernel) (pa_cons (pv 0) (pa_cons (pe_bltn (v := .ty "int") (u := .type "int") (by rfl) T.n_int (by decide +kernel) rfl) pa_nil))) (pe_one (pe_not (pe_callB call_isi (by rfl) T.n_isinstance (by decide +kernel) (pa_cons (pv 0) (pa_cons (pe_bltn (v := .ty "bool") (u := .type "bool") (by rfl) T.n_bool (by decide +kernel) rfl) pa_nil)))))))), ?_⟩
    refine ⟨_, rfl, v, .ty "int", _, _, _, rfl, .ty "int", dp_ty hd, kit_ty (kitT _ (dp_tn hd) "int" (by decide)), _, rfl, ?_⟩
    cases hd with
    | non => exact ifF rfl q
    | str x => exact ifF rfl q
    | lst h t => exact ifF rfl q
    | tup h t => exact ifF rfl q
    | bl b => exact ifT rfl ⟨_, rfl, .bl b, .ty "bool", _, _, _, rfl, .ty "bool", dp_ty (K := K) (.bl b), kit_ty (kitT _ (dp_tn (K := K) (H := H) (.bl b)) "bool" (by decide)), _, rfl, q⟩
    | int i => exact ifT rfl ⟨_, rfl, .int i, .ty "bool", _, _, _, rfl, .ty "bool", dp_ty (K := K) (.int i), kit_ty (kitT _ (dp_tn (K := K) (H := H) (.int i)) "bool" (by decide)), _, rfl, q⟩
theorem ok_law_is_good (T : Txt K mg A) : FnOk P w K mg base CX0 2 A.a_law_is_good A.d_law_is_good ["_law_words"] (spGood K) := by
  refine T.F_law_is_good.ok sc_law_is_good (fun vs H Q E h => ?_) (fun cdv B outer s H vs Q E hr h => ?_)
  · obtain ⟨a, xs, ds, rfl, _⟩ := h
    rfl
  · obtain ⟨a, xs, ds, rfl, ha, hd, hl, q⟩ := h
    have hxl := dpAll_len hd
    refine ⟨_, (pss_cons (ps_if (pt_not (pt_chain op_le op_le pe_int (pe_callB len_seq (by rfl) T.n_len (by decide +kernel) (pa_cons (pv 0) pa_nil)) pe_int)) (pss_one (ps_ret pe_bl)) pss_nil)
    (pss_cons (ps_for PassesOwn.never rfl (pi_range1 (by rfl) T.n_range (pa_cons (pe_callB len_seq (by rfl) T.n_len (by decide +kernel) (pa_cons (pv 0) pa_nil)) pa_nil)) (pg_name (i := 1) sc_law_is_good.nd rfl (.inl rfl))
      (pss_one (ps_if (PW.pt (pw_or (pt_not (pt_val (pe_call (ok_law_is_number T) (hr.mono (by omega)) rfl T.g_law_is_number T.F_law_is_number.kp T.b_law_is_number .nil pass0 (pa_cons (pe_ix ix_list (pv 0) (pv 1) (fun _ _ => rfl)) pa_nil)))) (pw_or (pt_not (pt_chain op_le op_le pe_int (pe_ix ix_list (pv 0) (pv 1) (fun _ _ => rfl)) pe_int)) (pw_or1 (pt_cmpR op_in_seq (pe_ix ix_list (pv 0) (pv 1) (fun _ _ => rfl)) (pe_slice sl_list (pv 0) po_none (po_some (pv 1))) (by rfl)))))) (pss_one (ps_ret pe_bl)) pss_nil)))
    (pss_one (ps_ret pe_bl)))), ?_⟩
    have hg : goodD (.tuple ds) = ((decide (1 ≤ ds.length) && decide (ds.length ≤ 4)) && (ds.all isW && decide ((ds.map toI).Nodup))) := rfl
    refine ⟨_, rfl, a, _, rfl, .inl ha, _, _, rfl, rfl, _, rfl, ifB (fun e1 => ?_) (fun e1 => ?_)⟩
    case refine_2 =>
      have e1 := of_decide_eq_false e1
      have hb : goodD (.tuple ds) = false := by rw [hg, decide_eq_false (show ¬ 1 ≤ ds.length by omega)]; rfl
      rw [hb] at q
      exact ⟨_, rfl, ifT rfl (q _ (Same.refl _))⟩
    have e1 := of_decide_eq_true e1
    refine ⟨_, _, rfl, rfl, _, rfl, ifB (fun e2 => ?_) (fun e2 => ?_)⟩
    · have e2 : decide ((xs.length : Int) ≤ 4) = false := by simpa using e2
      have e2 := of_decide_eq_false e2
      have hb : goodD (.tuple ds) = false := by rw [hg, decide_eq_false (show ¬ ds.length ≤ 4 by omega), Bool.and_false]; rfl
      rw [hb] at q
      exact q _ (Same.refl _)
    have e2 : decide ((xs.length : Int) ≤ 4) = true := by simpa using e2
    have e2 := of_decide_eq_true e2
    refine ⟨_, rfl, a, _, rfl, .inl ha, _, rfl, by omega, by omega, ?_⟩
    rw [Int.toNat_natCast, hxl]
    refine for_it (walk_range (lo := 0) (n := ds.length)) (fun i σ Hc => ∃ o1, σ = [some (.ref a), o1] ∧ Same H Hc ∧ (ds.take i).all isW = true ∧ ((ds.take i).map toI).Nodup) ⟨_, rfl, Same.refl _, rfl, List.nodup_nil⟩ (fun _ _ _ _ _ => trivial) (fun i x σ Hc Hd hi y e => ?_) (fun σ Hc y => ?_)
    · obtain ⟨rfl, rfl⟩ := e
      obtain ⟨o1, rfl, sm, hal, hnd⟩ := y
      have ha1 := sqL_up ha sm
      obtain ⟨d, hdi, hdv⟩ := dpAll_get hd (List.getElem?_eq_getElem (show i < xs.length by omega))
      have hde : d = ds[i] := by rw [List.getElem?_eq_getElem hi] at hdi; exact (Option.some.inj hdi).symm
      subst hde
      have hdv := dpUp sm hdv
      have hat : atI xs (0 + (i : Int)) = some xs[i] := by
        rw [show 0 + (i : Int) = ((i : Nat) : Int) by omega]
        exact atI_nat (List.getElem?_eq_getElem (by omega))
      have hts := all_take_succ hi
      rw [hal, Bool.true_and] at hts
      have htm : (ds.take (i + 1)).map toI = (ds.take i).map toI ++ [toI ds[i]] := take_map toI ds i hi
      have hbadW : isW ds[i] = false → goodD (.tuple ds) = false := fun h => good_no (.inl (all_of_take (i := i + 1) (by rw [hts, h])))
      have htx := dp_ints_inv (dpAll_take i hd) hal
      generalize xs[i] = v at hat hdv
      generalize ds[i] = d at hdv hts htm hbadW
      refine ⟨_, rfl, _, rfl, a, _, _, _, rfl, rfl, ha1, hat, v, d, rfl, hdv, ?_⟩
      have hbadN : toI d ∈ (ds.take i).map toI → goodD (.tuple ds) = false := fun h => good_no (.inr fun z => by
        have z2 : ((ds.take (i + 1)).map toI).Nodup := by
          rw [List.map_take]
          exact List.Nodup.sublist (List.take_sublist _ _) z
        rw [htm] at z2
        exact (nodup_mem.mp z2).2 h)
      have ecut : cutV xs none (some (0 + (i : Int))) = ((ds.take i).map toI).map V.int := by
        rw [Int.zero_add, cutV_hi, htx.1]
      cases hdv with
      | int z =>
        refine ⟨_, rfl, ifF rfl ?_⟩
        refine ⟨_, rfl, _, rfl, a, _, _, _, rfl, rfl, ha1, hat, _, _, rfl, rfl, _, rfl, ifB (fun e3 => ?_) (fun e3 => ?_)⟩
        case refine_2 =>
          have e3 := of_decide_eq_false e3
          have hb := hbadW (decide_eq_false (by omega))
          rw [hb] at q
          exact ⟨_, rfl, ifT rfl (q _ sm)⟩
        have e3 := of_decide_eq_true e3
        refine ⟨_, _, rfl, rfl, _, rfl, ifB (fun e4 => ?_) (fun e4 => ?_)⟩
        · have e4 : decide (z ≤ 65535) = false := by simpa using e4
          have e4 := of_decide_eq_false e4
          have hb := hbadW (decide_eq_false (by omega))
          rw [hb] at q
          exact q _ sm
        have e4 : decide (z ≤ 65535) = true := by simpa using e4
        have e4 := of_decide_eq_true e4
        refine ⟨_, rfl, _, rfl, a, _, _, _, rfl, rfl, ha1, hat, _, rfl, ?_⟩
        unfold tNoPart
        refine ⟨_, rfl, _, rfl, a, _, rfl, ha1, fun l2 hl2 => ?_⟩
        refine ⟨l2, _, rfl, .inl (SqL.of upd_same), rfl, ?_, ?_⟩
        · rw [ecut]
          exact flat_intZ _
        rw [ecut, if_neg Bool.false_ne_true, inV_intZ]
        refine ⟨_, rfl, ifB (fun e5 => ?_) (fun e5 => ?_)⟩
        · have hb := hbadN (of_decide_eq_true e5)
          rw [hb] at q
          exact q _ (sm.trans (same_new hl2))
        · have e5 := of_decide_eq_false e5
          refine ⟨_, rfl, sm.trans (same_new hl2), ?_, ?_⟩
          · rw [hts]
            exact decide_eq_true ⟨e3, e4⟩
          · rw [htm]
            exact nodup_mem.mpr ⟨hnd, e5⟩
      | _ =>
        have hb := hbadW rfl
        rw [hb] at q
        exact ⟨_, rfl, ifT rfl (q _ sm)⟩
    · obtain ⟨o1, rfl, sm, hal, hnd⟩ := y
      rw [List.take_length] at hal hnd
      have hb : goodD (.tuple ds) = true := by rw [hg, hal, decide_eq_true hnd, decide_eq_true (show 1 ≤ ds.length by omega), decide_eq_true (show ds.length ≤ 4 by omega)]; rfl
      rw [hb] at q
      exact q _ sm
theorem ok_law_rows (T : Txt K mg A) : FnOk P w K mg base CX0 2 A.a_law_rows A.d_law_rows ["_law_words", "_law_count"] (spRowsL K) := by
  refine T.F_law_rows.ok sc_law_rows (fun vs H Q E h => ?_) (fun cdv B outer s H vs Q E hr h => ?_)
  · obtain ⟨a, ws, n, rfl, _⟩ := h
    rfl
  · obtain ⟨a, ws, n, rfl, ha, hwl, hn, q⟩ := h
    refine ⟨_, (pss_cons (ps_set (i := 2) sc_law_rows.nd rfl (.inl rfl) (pe_lst (pa_cons (pe_tup pa_nil) pa_nil)))
    (pss_cons (ps_for PassesOwn.never rfl (pi_range1 (by rfl) T.n_range (pa_cons (pv 1) pa_nil)) (pg_name (i := 3) sc_law_rows.nd rfl (.inl rfl))
      (pss_cons (ps_set (i := 4) sc_law_rows.nd rfl (.inl rfl) (pe_lst pa_nil))
    (pss_cons (ps_for PassesOwn.never rfl (pi_list (pv 2)) (pg_name (i := 5) sc_law_rows.nd rfl (.inr rfl))
      (pss_one (ps_set (i := 4) sc_law_rows.nd rfl (.inl rfl) (pe_op op_cat (pv 4) (pe_lc (own := [("_law_word_here", 6)]) rfl sc_law_rows.nd (pi_list (pv 0)) (blkOk_by (own := [("_law_word_here", 6)]) (N := N_law_rows) (sc := defScope s_law_rows) (by decide +kernel)) (fun _ _ _ _ _ => pg_name (i := 6) sc_law_rows.nd rfl (Or.inl rfl)) (fun _ _ _ _ _ => pts_nil) (fun _ _ _ _ _ => by exact (pe_op (r := rCatA K) op_catA (pv 5) (pe_tup (pa_cons (pv 6) pa_nil)))))))))
    (pss_one (ps_set (i := 2) sc_law_rows.nd rfl (.inl rfl) (pv 4))))))
    (pss_one (ps_ret (pv 2))))), ?_⟩
    refine ⟨lenOk (n := 0) rfl (by decide), fun q0 hq0 => ⟨lenOk (n := 1) rfl (by decide), fun l0 hl0 => ?_⟩⟩
    have e0 : upd H q0 (.tup []) q0 = some (.tup (intV [])) := upd_same
    have s0 := same_new (o := .tup []) hq0
    generalize upd H q0 (.tup []) = Ha at e0 s0 hl0 ⊢
    have e1 : upd Ha l0 (.lst [V.ref q0]) l0 = some (.lst [V.ref q0]) := upd_same
    have sb := same_new (o := .lst [V.ref q0]) hl0
    have eq0 := sb _ _ e0
    have s1 := s0.trans sb
    generalize upd Ha l0 (.lst [V.ref q0]) = H1 at e1 s1 eq0 ⊢
    have d0 : Dx K H1 noS (.ref l0) (.list ((rowsN ws 0).map intsD)) := .lst (XL.of e1 fun z => z.elim) (.cons (mk_ints eq0 fun z => z.elim) .nil)
    refine ⟨_, rfl, (n : Int), rfl, by omega, by omega, ?_⟩
    rw [Int.toNat_natCast]
    refine for_it (walk_range (lo := 0) (n := n)) (fun i σ Hc => ∃ o3 o4 o5 l, σ = [some (.ref a), some (.int (n : Int)), some (.ref l), o3, o4, o5, none] ∧ Same H Hc ∧ Dx K Hc noS (.ref l) (.list ((rowsN ws i).map intsD)))
      ⟨_, _, _, l0, rfl, s1, d0⟩ (fun _ _ _ _ _ => trivial) (fun i x σ Hc Hd hi y e => ?_) (fun σ Hc y => ?_)
    · obtain ⟨rfl, rfl⟩ := e
      obtain ⟨o3, o4, o5, l, rfl, sm, hd⟩ := y
      have hrl := rows_le hwl (n := i) (by omega)
      cases hd with
      | lst hxl hda =>
      rename_i xs
      have hlen : xs.length = (rowsN ws i).length := by rw [dxAll_len hda, List.length_map]
      refine ⟨lenOk (n := 0) rfl (by decide), fun m0 hm0 => ?_⟩
      have em : upd Hd m0 (.lst []) m0 = some (.lst []) := upd_same
      have sm0 := same_new (o := .lst []) hm0
      generalize upd Hd m0 (.lst []) = H2 at em sm0 ⊢
      refine ⟨_, rfl, l, rfl, ⟨_, (hxl.up (Out.of sm0)).sq⟩, ?_⟩
      have hwlen : (intV ws).length = ws.length := intV_len ws
      have lim : ∀ {n : Nat}, n ≤ 2000 → n ≤ sizeLine := fun h => Nat.le_trans (show _ ≤ 16000000 by omega) (by decide)
      refine for_it (walk_list (K := K) (a := l) (xs := xs)) (fun b σ Hz => ∃ o5 m mys, σ = [some (.ref a), some (.int (n : Int)), some (.ref l), some (.int (0 + (i : Int))), some (.ref m), o5, none] ∧ Same Hd Hz ∧ Hz m = some (.lst mys) ∧ DxAll K Hz noS mys ((((rowsN ws i).take b).flatMap (extR ws)).map intsD))
        ⟨_, m0, _, rfl, sm0, em, .nil⟩ (fun b σ Hz _ y => ?_) (fun b x σ Hz Hy hb y e => ?_) (fun σ Hz y => ?_)
      · obtain ⟨_, _, _, _, sz, _⟩ := y
        exact (hxl.up (Out.of sz)).sq
      · obtain ⟨rfl, e⟩ := e
        obtain ⟨o5, m, mys, rfl, sz, hm, hmd⟩ := y
        rw [hlen] at hb
        have hdx := Dx.of_get (DxAll.up (Out.of sz) hda) e (d := intsD (rowsN ws i)[b]) (by rw [List.getElem?_map, List.getElem?_eq_getElem hb]; rfl)
        obtain ⟨q1, rfl, hq1⟩ := dx_ints hdx
        have hrl2 := rows_mem ws i (List.getElem_mem hb)
        have htf := take_flat (extR ws) (rowsN ws i) b hb
        have hfl : (((rowsN ws i).take b).flatMap (extR ws)).length ≤ 1296 := by
          rw [ext_len, List.length_take]
          have h1 : min b (rowsN ws i).length * ws.length ≤ 216 * 6 := Nat.mul_le_mul (by omega) hwl
          omega
        generalize (rowsN ws i)[b] = r at hq1 hrl2 htf
        have hml : mys.length ≤ 1296 := by rw [dxAll_len hmd, List.length_map]; exact hfl
        have hay := sqL_up ha (sm.trans sz)
        refine ⟨_, rfl, _, rfl, a, rfl, ⟨_, hay⟩, fun D hD => ?_⟩
        refine lc_inv (walk_list (K := K) (a := a) (xs := intV ws)) (fun i v => (intV ws)[i]? = some v) (fun j acc Hw => Same Hy Hw ∧ DxAll K Hw (inS noS D) acc ((ws.take j).map fun w => intsD (r ++ [w]))) (by omega) ⟨same_new hD, .nil⟩ (fun j acc Hw h => sqL_up hay h.1) (fun i H1 v H2 hi y => y) (fun j v acc Hw hj hal pv eD hv Q q => ?_) (fun acc Hw hal pv eD => ?_)
        · obtain ⟨sw, dac⟩ := pv
          rw [hwlen] at hj
          have ev : v = .int ((ws[j] : Nat) : Int) := by
            unfold intV at hv
            rw [List.getElem?_map, List.getElem?_eq_getElem hj] at hv
            exact (Option.some.inj hv).symm
          subst ev
          refine ⟨_, rfl, _, rfl, lenOk (n := 1) rfl (by decide), fun q2 hq2 => ?_⟩
          have s2 := same_new (o := .tup [V.int ((ws[j] : Nat) : Int)]) hq2
          have nD : q2 ≠ D := fun z => by rw [z, eD] at hq2; cases hq2
          have eD2 := s2 _ _ eD
          refine catA_xt (S := inS noS D) (sqT_up hq1.sq (sw.trans s2)) (XT.of upd_same fun z => z.elim (fun z => z) nD) (by simp) (fun c hc => ?_) ?_ fun p H7 s7 hp7 => ?_
          · rcases hc with hc | hc
            · exact hc.elim
            · subst hc
              rw [eD2]
              exact fun z => nomatch z
          · rw [intV_len]
            show _ + 1 ≤ _
            omega
          have s27 := s2.trans s7
          refine q _ H7 (s27 _ _ eD) ⟨same_mut (sw.trans s27) hD, ?_⟩
          have o7 : Out (inS noS D) H7 (upd H7 D (.lst (acc ++ [V.ref p]))) := (Out.refl _ _).put (.inr rfl)
          rw [take_map _ _ _ hj]
          refine dxAll_app (DxAll.up o7 (DxAll.up (Out.of s27) dac)) (.cons (Dx.up o7 (.tup hp7 ?_)) .nil)
          rw [show intV r ++ [V.int ((ws[j] : Nat) : Int)] = intV (r ++ [ws[j]]) by rw [intV_app]; rfl, intV_ints]
          exact dxAll_ints _
        · obtain ⟨sw, dac⟩ := pv
          rw [hwlen] at hal dac
          rw [List.take_length] at dac
          refine ⟨m, D, mys, acc, rfl, rfl, sw _ _ hm, eD, lim (by omega), fun m2 hm2 => ?_⟩
          have s9 := same_new (o := .lst (mys ++ acc)) hm2
          refine ⟨_, m2, mys ++ acc, rfl, sz.trans (sw.trans s9), upd_same, ?_⟩
          rw [htf, List.map_append]
          refine dxAll_app (DxAll.up (Out.of (sw.trans s9)) hmd) (DxAll.up (Out.of s9) (DxAll.less (S := inS noS D) (fun _ z => z.elim) ?_))
          unfold extR
          rw [List.map_map]
          exact dac
      · obtain ⟨o5, m, mys, rfl, sz, hm, hmd⟩ := y
        rw [hlen, List.take_length] at hmd
        exact ⟨_, rfl, _, _, _, m, rfl, sm.trans sz, .lst (XL.of hm fun z => z.elim) hmd⟩
    · obtain ⟨o3, o4, o5, l, rfl, sm, hd⟩ := y
      exact ⟨_, rfl, q _ l sm hd⟩
end
end R1

namespace R1
open PySem PySem.Spec PyProof.Rows L2 RK
local macro_rules | `(tactic| walk_at "sq") => `(tactic| first
  | exact SqL.of upd_same | exact upd_same | exact SqL.of (by assumption) | exact SqL.of (by rw [upd_ne (by assumption)]; assumption) | assumption)
local macro_rules | `(tactic| walk_at "sd") => `(tactic| first
  | assumption | omega | (refine Or.inl ⟨?_, ?_⟩ <;> omega) | (show _ ∧ _; constructor <;> omega) | (show _ ≠ _; simp; omega) | (exact Or.inl ⟨by decide, by decide⟩) | (exact Or.inr ⟨by decide, by decide⟩) | (show _ < _; decide) | (show _ ≤ _; decide))
local macro_rules | `(tactic| walk_at "at") => `(tactic| first | rfl | (refine atI_intV ?_ ?_ <;> omega) | assumption)
local macro_rules | `(tactic| walk_at "s1") => `(tactic| first
  | refine ⟨_, rfl, ?_⟩ | refine ⟨_, _, rfl, rfl, ?_⟩ | refine ⟨rfl, ?_⟩
  | refine ⟨_, _, _, _, rfl, rfl, by walk_at "sq", by walk_at "at", ?_⟩
  | refine Or.inl ⟨_, rfl, ?_⟩
  | refine ⟨_, _, rfl, Or.inl (by walk_at "sq"), ?_⟩
  | refine And.intro (by walk_at "sd") ?_)
local macro_rules | `(tactic| walk_at "s") => `(tactic| repeat walk_at "s1")

section
variable {P : Program} {w : World} {K : PySem.W.Frag} {mg : Str → Option Value} {base : Heap} {A : Ads}
theorem ok_law_apart (T : Txt K mg A) : FnOk P w K mg base CX0 1 A.a_law_apart A.d_law_apart ["_law_words"] (spApart K) := by
  refine T.F_law_apart.ok sc_law_apart (fun vs H Q E h => ?_) (fun cdv B outer s H vs Q E hr h => ?_)
  · obtain ⟨a, ws, rfl, _⟩ := h
    rfl
  · obtain ⟨a, ws, rfl, ha, hwl, hw, q⟩ := h
    refine ⟨_, (pss_cons (ps_set (i := 1) sc_law_apart.nd rfl (.inl rfl) (pe_lst pa_nil))
    (pss_cons (ps_for PassesOwn.never rfl (pi_list (pv 0)) (pg_name (i := 2) sc_law_apart.nd rfl (.inl rfl))
      (pss_cons (ps_for PassesOwn.never rfl (pi_range1 (by rfl) T.n_range (pa_cons (pe_callB len_seq (by rfl) T.n_len (by decide +kernel) (pa_cons (pv 0) pa_nil)) pa_nil)) (pg_name (i := 3) sc_law_apart.nd rfl (.inl rfl))
      (pss_one (ps_if (pt_cmpR op_in_seq (pv 2) (pv 1) (by rfl)) (pss_one (ps_set (i := 2) sc_law_apart.nd rfl (.inl rfl) (pe_op op_mod (pe_callTy call_int1 (by rfl) T.n_int (by decide +kernel) (pa_cons (pe_op op_add (pv 2) pe_int) pa_nil)) pe_int))) pss_nil)))
    (pss_one (ps_expr (pe_bm PySem.F.plainAttrs_list PySem.F.slot_list_append PySem.F.type_list_append mt_append (pv 1) (pa_cons (pv 2) pa_nil))))))
    (pss_one (ps_ret (pv 1))))), ?_⟩
    have hwlen : (intV ws).length = ws.length := intV_len ws
    refine ⟨lenOk (n := 0) rfl (by decide), fun D hD => ?_⟩
    generalize hH1 : upd H D _ = H1
    have s1 : Same H H1 := by rw [← hH1]; exact same_new hD
    have e1 : H1 D = some (.lst (intV [])) := by rw [← hH1]; exact upd_same
    clear hH1
    refine ⟨_, rfl, a, rfl, ⟨_, SqL.of (s1 _ _ ha)⟩, ?_⟩
    refine for_it (walk_list (K := K) (a := a) (xs := intV ws)) (fun i σ Hc => ∃ o2 o3 us, σ = [some (.ref a), some (.ref D), o2, o3] ∧ Same H Hc ∧ Hc D = some (.lst (intV us)) ∧ us.length = i ∧ ∀ w ∈ us, w ≤ 65535) ⟨_, _, [], rfl, s1, e1, rfl, by simp⟩ (fun i σ Hc _ y => ?_) (fun i x σ Hc Hd hi y e => ?_) (fun σ Hc y => ?_)
    · obtain ⟨_, _, _, _, sm, _⟩ := y
      exact SqL.of (sm _ _ ha)
    · obtain ⟨rfl, e⟩ := e
      obtain ⟨o2, o3, us, rfl, sm, hDu, hul, hu⟩ := y
      rw [hwlen] at hi
      have ex : x = .int ((ws[i] : Nat) : Int) := by
        unfold intV at e
        rw [List.getElem?_map, List.getElem?_eq_getElem hi] at e
        exact (Option.some.inj e).symm
      subst ex
      have hw0 := hw _ (List.getElem_mem hi)
      refine ⟨_, rfl, a, _, rfl, .inl (SqL.of (sm _ _ ha)), _, rfl, by omega, by omega, ?_⟩
      rw [Int.toNat_natCast, hwlen]
      refine for_it (walk_range (lo := 0) (n := ws.length)) (fun j σ Hz => ∃ (o3 : Option V) (z : Nat), σ = [some (.ref a), some (.ref D), some (.int (z : Int)), o3] ∧ Hz = Hd ∧ z ≤ 65535) ⟨_, ws[i], rfl, rfl, hw0⟩ (fun _ _ _ _ _ => trivial) (fun j x σ Hz Hy hj y e => ?_) (fun σ Hz y => ?_)
      · obtain ⟨rfl, rfl⟩ := e
        obtain ⟨o3, z, rfl, rfl, hz⟩ := y
        refine ⟨_, rfl, _, rfl, D, _, rfl, .inl (SqL.of hDu), rfl, flat_ints us, _, rfl, ?_⟩
        rw [if_neg Bool.false_ne_true, inV_ints]
        refine ifB (fun e5 => ?_) (fun e5 => ?_)
        · refine ⟨_, rfl, _, _, rfl, rfl, .inl ⟨_, rfl, _, _, rfl, rfl, (by show (0 : Int) < 65536; decide), ?_⟩⟩
          refine ⟨_, (z + 1) % 65536, congrArg (fun k => [some (V.ref a), some (V.ref D), some (V.int k), _]) (show ((z : Int) + 1) % 65536 = (((z + 1) % 65536 : Nat) : Int) by omega), rfl, by omega⟩
        · exact ⟨_, z, rfl, rfl, hz⟩
      · obtain ⟨o3, z, rfl, rfl, hz⟩ := y
        have lim2 : us.length < sizeLine := Nat.lt_of_lt_of_le (show _ < 16000000 by omega) (by decide)
        refine ⟨_, rfl, .inl ⟨rfl, _, SqL.of hDu⟩, _, rfl, D, _, _, rfl, rfl, hDu, by rw [intV_len]; exact lim2, ?_⟩
        refine ⟨_, _, us ++ [z], rfl, same_mut sm hD, by rw [intV_app]; exact upd_same, by rw [List.length_append, hul]; rfl, fun x hx => ?_⟩
        rcases List.mem_append.mp hx with y | y
        · exact hu x y
        · rw [List.mem_singleton.mp y]
          exact hz
    · obtain ⟨o2, o3, us, rfl, sm, hDu, hul, hu⟩ := y
      rw [hwlen] at hul
      exact ⟨_, rfl, q _ D us sm hD hDu hul hu⟩
theorem ok_law_refused (T : Txt K mg A) : FnOk P w K mg base CX0 6 A.a_law_refused A.d_law_refused ["_law_argument"] (spRefused K) := by
  refine T.F_law_refused.ok sc_law_refused (fun vs H Q E h => ?_) (fun cdv B outer s H vs Q E hr h => ?_)
  · obtain ⟨v, d, S, rfl, _⟩ := h
    rfl
  · obtain ⟨v, d, S, rfl, hS, hd, hk, hb, hcl, hdp, hwd, q⟩ := h
    refine ⟨_, (pss_cons (ps_set (i := 1) sc_law_refused.nd rfl (.inl rfl) (pe_call (ok_plain T 3) (hr.mono (by omega)) rfl T.g_law_plain T.F_law_plain.kp T.b_law_plain .nil pass0 (pa_cons (pv 0) pa_nil)))
    (pss_one (ps_try_hitN (i := 2) rfl rfl sc_law_refused.nd rfl rfl ⟨rfl, by decide, .inl T.g_BadAlphabet⟩ (fun W pn xe tk _ => (pss_cons (ps_expr (DK.pe_makeS T.m_Alphabet (FnOk.raw (ok_Alphabet_init T) T.b_Alphabet_init .nil) (hr.mono (by omega)) rfl T.g_Alphabet (fun σ => L2N.passAt tk σ) (pa_cons (pv 0) pa_nil)))
    (pss_one (ps_ret pe_bl))))
      (fun a o cls d ps hz hf => (pss_cons (ps_if (PW.pt (pw_or (pt_val (pe_callB (call_isEx T.x_BadAlphabet.ex hz.zc hf) (by rfl) T.n_isinstance (by decide +kernel) (pa_cons (pv 2) (pa_cons (pe_glob (v := .ref A.c_BadWord) rfl T.g_BadWord rfl) pa_nil)))) (pw_or (pt_val (pe_callB (call_isEx T.x_BadAlphabet.ex hz.zc hf) (by rfl) T.n_isinstance (by decide +kernel) (pa_cons (pv 2) (pa_cons (pe_glob (v := .ref A.c_TooMany) rfl T.g_TooMany rfl) pa_nil)))) (pw_or1 (pt_not (pt_val (pe_callB (call_isEx T.x_BadAlphabet.ex hz.zc hf) (by rfl) T.n_isinstance (by decide +kernel) (pa_cons (pv 2) (pa_cons (pe_glob (v := .ref A.c_RomError) rfl T.g_RomError rfl) pa_nil))))))))) (pss_one (ps_ret pe_bl)) pss_nil)
    (pss_one (ps_ret (pe_and (pe_callB (call_isEx T.x_BadAlphabet.ex hz.zc hf) (by rfl) T.n_isinstance (by decide +kernel) (pa_cons (pv 2) (pa_cons (pe_bltn (v := .ty "ValueError") (u := .type "ValueError") (by rfl) T.n_ValueError (by decide +kernel) rfl) pa_nil))) (pe_and (pe_cmpR (r := rEqD K) (op_eqD (unitsH (L2H.roomH_mark hr _))) (L2H.pe_callH (okH_plain T 3) ((L2H.roomH_mark hr _).mono (by omega)) (hot_suite hz hf) rfl T.g_law_plain T.F_law_plain.kp T.b_law_plain (fun _ => pass_at0) (pa_cons (pe_xf T.x_BadAlphabet.xf T.x_BadAlphabet.no hz.zc hf (pv 2)) pa_nil)) (pv 1) (nomark _)) (pe_one (pe_cmpR (r := rEqD K) (op_eqD (unitsH (L2H.roomH_mark hr _))) (L2H.pe_callH (okH_plain T 3) ((L2H.roomH_mark hr _).mono (by omega)) (hot_suite hz hf) rfl T.g_law_plain T.F_law_plain.kp T.b_law_plain (fun _ => pass_at0) (pa_cons (pv 0) pa_nil)) (pv 1) (nomark _)))))))))))), ?_⟩
    refine ⟨_, rfl, v, d, S, rfl, hS, hd, hdp, hwd, fun H1 v1 s1 d1 => ?_⟩
    refine ⟨_, rfl, fun x dx nx ndx ne => ?_⟩
    have s2 : Same H1 (upd (upd H1 dx (.own x)) x (.ins A.c_Alphabet dx [])) := fun b o e => by
      rw [upd_ne (ne_of_none e nx), upd_ne (ne_of_none e ndx)]
      exact e
    have hx2 : upd (upd H1 dx (.own x)) x (.ins A.c_Alphabet dx []) x = some (.ins A.c_Alphabet dx []) := upd_same
    generalize upd (upd H1 dx (.own x)) x (.ins A.c_Alphabet dx []) = H2 at s2 hx2 ⊢
    refine ⟨x, dx, v, d, rfl, hx2, (Dx.up (Out.of (s1.trans s2)) hd).dp, hk, hwd, fun _ dz H3 s3 n3 e3 => ?_, fun ws _ hg => by rw [hb] at hg; cases hg⟩
    refine ⟨T.x_BadAlphabet.te, fun a ha => ?_⟩
    refine ⟨_, rfl, dz, rfl, rfl, .ref A.c_BadWord, .ref A.c_BadWord, false, _, rfl, fun _ h => h, T.k_BadAlphabet_BadWord, e3, false, rfl, ifF rfl ?_⟩
    refine ⟨_, rfl, dz, rfl, rfl, .ref A.c_TooMany, .ref A.c_TooMany, false, _, rfl, fun _ h => h, T.k_BadAlphabet_TooMany, e3, false, rfl, ifF rfl ?_⟩
    refine ⟨_, rfl, dz, rfl, rfl, .ref A.c_RomError, .ref A.c_RomError, true, _, rfl, fun _ h => h, T.k_BadAlphabet_RomError, e3, true, rfl, ifF rfl ?_⟩
    refine ⟨_, rfl, dz, rfl, rfl, .ty "ValueError", .type "ValueError", true, _, rfl, fun _ h => h, T.k_BadAlphabet_ValueError, e3, true, rfl, ifT rfl ?_⟩
    have s13 := s2.trans s3
    have s03 := s1.trans s13
    have hS3 : ∀ a, S a → H3 a ≠ none := fun a z y => hS a z (s03.free y)
    have hsh := plD_shaped hcl (Nat.le_trans hdp (by decide))
    refine ⟨_, rfl, rfl, rfl, dz, _, v, rfl, e3, rfl, v, d, S, rfl, hS3, Dx.up (Out.of s03) hd, hdp, hwd, fun H4 v4 s4 d4 => ?_⟩
    refine ⟨_, rfl, plD d, plD d, d4.dp, (Dx.up (Out.of (s13.trans s4)) d1).dp, hsh, hsh, ?_⟩
    rw [SeqAt.eqv_refl _ (plD_lay d hcl)]
    refine ⟨_, rfl, ifT rfl ?_⟩
    refine ⟨_, rfl, v, d, S, rfl, fun a z y => hS3 a z (s4.free y), Dx.up (Out.of (s03.trans s4)) hd, hdp, hwd, fun H5 v5 s5 d5 => ?_⟩
    refine ⟨_, rfl, plD d, plD d, d5.dp, (Dx.up (Out.of (s13.trans (s4.trans s5))) d1).dp, hsh, hsh, ?_⟩
    rw [SeqAt.eqv_refl _ (plD_lay d hcl)]
    exact q _
end
end R1

namespace R1
open PySem PySem.Spec PyProof.Rows L2 RK
local macro_rules | `(tactic| walk_at "sq") => `(tactic| first
  | exact SqL.of upd_same | exact upd_same | exact SqL.of (by assumption) | exact SqL.of (by rw [upd_ne (by assumption)]; assumption) | assumption)
local macro_rules | `(tactic| walk_at "sd") => `(tactic| first
  | assumption | omega | (refine Or.inl ⟨?_, ?_⟩ <;> omega) | (show _ ∧ _; constructor <;> omega) | (show _ ≠ _; simp; omega) | (exact Or.inl ⟨by decide, by decide⟩) | (exact Or.inr ⟨by decide, by decide⟩) | (show _ < _; decide) | (show _ ≤ _; decide))
local macro_rules | `(tactic| walk_at "at") => `(tactic| first | rfl | (refine atI_intV ?_ ?_ <;> omega) | assumption)
local macro_rules | `(tactic| walk_at "s1") => `(tactic| first
  | refine ⟨_, rfl, ?_⟩ | refine ⟨_, _, rfl, rfl, ?_⟩ | refine ⟨rfl, ?_⟩
  | refine ⟨_, _, _, _, rfl, rfl, by walk_at "sq", by walk_at "at", ?_⟩
  | refine Or.inl ⟨_, rfl, ?_⟩
  | refine ⟨_, _, rfl, Or.inl (by walk_at "sq"), ?_⟩
  | refine And.intro (by walk_at "sd") ?_)
local macro_rules | `(tactic| walk_at "s") => `(tactic| repeat walk_at "s1")

def spTells (K : PySem.W.Frag) (C : Addr) : Sp := fun vs H Q _ => ∃ (a wa pa : Addr) (ws ps : List Nat), vs = [.ref a, .ref wa, .ref pa] ∧ AlK K C a ws H ∧ H wa = some (.lst (intV ws)) ∧ H pa = some (.lst (intV ps)) ∧ ws.length ≤ 6 ∧ ps.length ≤ 1000 ∧ ∀ H', Same H H' → Q (.bl true) H'
def fitD (d : PyData) : Prop := d.canLay0 = true ∧ d.depth ≤ 2 ∧ wdB d = true
theorem eq_fin {K : PySem.W.Frag} {H H' : Hp} {S S' : ASet} {v v' : V} {d : PyData} (f : fitD d) (h1 : Dx K H S v (plD d)) (s : Same H H') (h2 : Dx K H' S' v' (plD d)) : Dp K H' v (plD d) ∧ Dp K H' v' (plD d) ∧ SeqAt.shaped (plD d) = true ∧ PyData.eqv (plD d) (plD d) = true :=
  ⟨(Dx.up (Out.of s) h1).dp, h2.dp, plD_shaped f.1 (Nat.le_trans f.2.1 (by decide)), SeqAt.eqv_refl _ (plD_lay d f.1)⟩
def lstD (ws : List Nat) : PyData := .list ((ws.map fun (n : Nat) => (n : Int)).map PyData.int)
theorem fit_lst {ws : List Nat} (h : ws.length ≤ 100000) : fitD (lstD ws) := by
  refine ⟨lay_ints _, ?_, ?_⟩
  · show PyData.depthAll _ + 1 ≤ 2
    rw [dep_ints]
    decide
  · show (decide (_ ≤ 100000) && wdA _) = true
    rw [wd_ints, List.length_map, List.length_map, decide_eq_true h]
    rfl
theorem dx_lst {K : PySem.W.Frag} {H : Hp} {p : Addr} {l : List Nat} (h : H p = some (.lst (intV l))) : Dx K H noS (.ref p) (lstD l) := by
  rw [intV_ints] at h
  exact .lst (XL.of h fun z => z.elim) (dxAll_ints _)
theorem lay_rows : ∀ rs : List (List Nat), PyData.canLayAll0 (rs.map intsD) = true
  | [] => rfl
  | r :: rs => by
    show ((intsD r).canLay0 && PyData.canLayAll0 (rs.map intsD)) = true
    rw [lay_intsD, lay_rows rs]
    rfl
theorem dep_rows : ∀ rs : List (List Nat), PyData.depthAll (rs.map intsD) ≤ 1
  | [] => Nat.zero_le _
  | r :: rs => by
    have h1 := dep_intsD r
    have h2 := dep_rows rs
    show max (intsD r).depth (PyData.depthAll (rs.map intsD)) ≤ 1
    omega
theorem wd_rows : ∀ rs : List (List Nat), (∀ r ∈ rs, r.length ≤ 100000) → wdA (rs.map intsD) = true
  | [], _ => rfl
  | r :: rs, h => by
    show (wdB (intsD r) && wdA (rs.map intsD)) = true
    rw [wd_intsD (h r List.mem_cons_self), wd_rows rs fun x hx => h x (List.mem_cons_of_mem _ hx)]
    rfl
theorem fit_rows {ws : List Nat} (h : ws.length ≤ 6) {n : Nat} (hn : n ≤ 3) : fitD (.list ((rowsN ws n).map intsD)) := by
  refine ⟨lay_rows _, ?_, ?_⟩
  · show PyData.depthAll _ + 1 ≤ 2
    have := dep_rows (rowsN ws n)
    omega
  · show (decide (_ ≤ 100000) && wdA _) = true
    have := rows_le h hn
    rw [wd_rows _ fun r hr => by rw [rows_mem ws n hr]; omega, List.length_map, decide_eq_true (by omega)]
    rfl
section
variable {P : Program} {w : World} {K : PySem.W.Frag} {mg : Str → Option Value} {base : Heap} {A : Ads}
theorem ok_law_tells (T : Txt K mg A) : FnOk P w K mg base CX0 6 A.a_law_tells A.d_law_tells ["_law_alphabet", "_law_words", "_law_probes"] (spTells K A.c_Alphabet) := by
  refine T.F_law_tells.ok sc_law_tells (fun vs H Q E h => ?_) (fun cdv B outer s H vs Q E hr h => ?_)
  · obtain ⟨a, wa, pa, ws, ps, rfl, _⟩ := h
    rfl
  · obtain ⟨a, wa, pa, ws, ps, rfl, hal, hw, hp, hwl, hpl, q⟩ := h
    refine ⟨_, (pss_cons (ps_if (PW.pt (pw_or (pt_cmpR op_ne (pe_callB (DK.call_lenO T.o_Alphabet_len (FnOk.raw (ok_Alphabet_len T) T.b_Alphabet_len .nil) pass0 (hr.mono (by omega))) (by rfl) T.n_len (by decide +kernel) (pa_cons (pv 0) pa_nil)) (pe_callB len_seq (by rfl) T.n_len (by decide +kernel) (pa_cons (pv 1) pa_nil)) (nomark _)) (pw_or1 (pt_cmpR (op_neD hr.units) (pe_call (ok_plain T 3) (hr.mono (by omega)) rfl T.g_law_plain T.F_law_plain.kp T.b_law_plain .nil pass0 (pa_cons (pe_callTy (DK.call_listO (El := E0) ⟨T.o_Alphabet_iter, (okS_Alphabet_iter T ws)⟩ pass0 T.o_Alphabet_len (FnOk.raw (ok_Alphabet_len T) T.b_Alphabet_len .nil) (hr.mono (by omega)) (hr.mono (by omega))) (by rfl) T.n_list (by decide +kernel) (pa_cons (pv 0) pa_nil)) pa_nil)) (pe_call (ok_plain T 3) (hr.mono (by omega)) rfl T.g_law_plain T.F_law_plain.kp T.b_law_plain .nil pass0 (pa_cons (pv 1) pa_nil)) (nomark _))))) (pss_one (ps_ret pe_bl)) pss_nil)
    (pss_cons (ps_for PassesOwn.never rfl (pi_list (pv 2)) (pg_name (i := 3) sc_law_tells.nd rfl (.inl rfl))
      (pss_one (ps_if (pt_cmpR op_ne (pe_cmpR (DK.op_inO T.o_Alphabet_contains (FnOk.raw (ok_Alphabet_contains T) T.b_Alphabet_contains .nil) pass0 (hr.mono (by omega))) (pv 3) (pv 0) (by rfl)) (pe_cmpR op_in_seq (pv 3) (pv 1) (by rfl)) (nomark _)) (pss_one (ps_ret pe_bl)) pss_nil)))
    (pss_cons (ps_for PassesOwn.never rfl (pi_range1 (by rfl) T.n_range (pa_cons pe_int pa_nil)) (pg_name (i := 4) sc_law_tells.nd rfl (.inl rfl))
      (pss_cons (ps_set (i := 5) sc_law_tells.nd rfl (.inl rfl) (pe_call (ok_plain T 3) (hr.mono (by omega)) rfl T.g_law_plain T.F_law_plain.kp T.b_law_plain .nil pass0 (pa_cons (pe_call (ok_law_rows T) (hr.mono (by omega)) rfl T.g_law_rows T.F_law_rows.kp T.b_law_rows .nil pass0 (pa_cons (pv 1) (pa_cons (pv 4) pa_nil))) pa_nil)))
    (pss_cons (ps_set (i := 6) sc_law_tells.nd rfl (.inl rfl) (StX.pe_callO (pv 0) T.co_Alphabet (FnOk.raw (ok_Alphabet_call T) T.b_Alphabet_call .nil) (hr.mono (by omega)) pass0 (pa_cons (pv 4) pa_nil)))
    (pss_cons (ps_if (pt_cmpR (op_neD hr.units) (pe_call (ok_plain T 3) (hr.mono (by omega)) rfl T.g_law_plain T.F_law_plain.kp T.b_law_plain .nil pass0 (pa_cons (pv 6) pa_nil)) (pv 5) (nomark _)) (pss_one (ps_ret pe_bl)) pss_nil)
    (pss_cons (ps_expr (pe_bm PySem.F.plainAttrs_list PySem.F.slot_list_append PySem.F.type_list_append mt_append (pv 6) (pa_cons (pe_tup (pa_cons pe_int (pa_cons pe_int pa_nil))) pa_nil)))
    (pss_one (ps_if (pt_cmpR (op_neD hr.units) (pe_call (ok_plain T 3) (hr.mono (by omega)) rfl T.g_law_plain T.F_law_plain.kp T.b_law_plain .nil pass0 (pa_cons (StX.pe_callO (pv 0) T.co_Alphabet (FnOk.raw (ok_Alphabet_call T) T.b_Alphabet_call .nil) (hr.mono (by omega)) pass0 (pa_cons (pv 4) pa_nil)) pa_nil)) (pv 5) (nomark _)) (pss_one (ps_ret pe_bl)) pss_nil)))))))
    (pss_one (ps_ret (pe_cmpR (op_eqD hr.units) (pe_call (ok_plain T 3) (hr.mono (by omega)) rfl T.g_law_plain T.F_law_plain.kp T.b_law_plain .nil pass0 (pa_cons (pe_lc (own := [("_law_word_here", 7)]) rfl sc_law_tells.nd (DK.pi_ownI (pv 0) ⟨T.o_Alphabet_iter, (okS_Alphabet_iter T ws)⟩ pass0 (hr.mono (by omega))) (blkOk_by (own := [("_law_word_here", 7)]) (N := N_law_tells) (sc := defScope s_law_tells) (by decide +kernel)) (fun _ _ _ _ _ => pg_name (i := 7) sc_law_tells.nd rfl (Or.inl rfl)) (fun _ _ _ _ _ => pts_nil) (fun _ _ _ _ _ => by exact (pv 7))) pa_nil)) (pe_call (ok_plain T 3) (hr.mono (by omega)) rfl T.g_law_plain T.F_law_plain.kp T.b_law_plain .nil pass0 (pa_cons (pv 1) pa_nil)) (nomark _))))))), ?_⟩
    have hal0 := hal
    obtain ⟨dx, t, ha, ht⟩ := hal
    have hwlen : (intV ws).length = ws.length := intV_len ws
    have ins : ∀ {Hc : Hp}, Same H Hc → Hc a = some (.ins A.c_Alphabet dx [("words", .ref t)]) := fun s => s _ _ ha
    refine ⟨_, rfl, a, dx, _, rfl, ha, a, ws, rfl, hal0, (ws.length : Int), rfl, ⟨by omega, by omega⟩, ?_⟩
    refine ⟨_, rfl, wa, _, rfl, .inl (SqL.of hw), rfl, _, rfl, ?_⟩
    rw [hwlen]
    refine ifF (by rw [decide_eq_true rfl]; rfl) ?_
    refine ⟨_, rfl, a, dx, _, t, intV ws, rfl, ha, ht, fun q1 hq1 => ⟨dx, same_new hq1 _ _ ha, sqT_up ht (same_new hq1)⟩, fun H2 hins hP => ?_, fun l1 hl1 => ?_⟩
    · obtain ⟨dy, h1, h2⟩ := hP
      exact ⟨a, ws, rfl, ⟨dy, t, h1, h2⟩, (ws.length : Int), rfl, ⟨by omega, by omega⟩, by rw [hwlen], rfl⟩
    have hfw : fitD (lstD ws) := fit_lst (by omega)
    have s1 := same_new (o := .lst (intV ws)) hl1
    have e1 : upd H l1 (.lst (intV ws)) l1 = some (.lst (intV ws)) := upd_same
    generalize upd H l1 (.lst (intV ws)) = H1 at s1 e1 ⊢
    refine ⟨_, lstD ws, noS, rfl, fun _ z => z.elim, dx_lst e1, hfw.2.1, hfw.2.2, fun H2 v2 s2 d2 => ?_⟩
    refine ⟨_, rfl, _, lstD ws, noS, rfl, fun _ z => z.elim, dx_lst ((s1.trans s2) _ _ hw), hfw.2.1, hfw.2.2, fun H3 v3 s3 d3 => ?_⟩
    have ef := eq_fin hfw d2 s3 d3
    refine ⟨_, _, ef.1, ef.2.1, ef.2.2.1, ef.2.2.1, ?_⟩
    rw [ef.2.2.2]
    refine ⟨_, rfl, ifF rfl ?_⟩
    have s03 := s1.trans (s2.trans s3)
    clear ef d2 d3
    refine ⟨_, rfl, pa, rfl, ⟨_, SqL.of (s03 _ _ hp)⟩, ?_⟩
    have hplen : (intV ps).length = ps.length := intV_len ps
    refine for_it (walk_list (K := K) (a := pa) (xs := intV ps)) (fun i σ Hc => ∃ o3, σ = [some (.ref a), some (.ref wa), some (.ref pa), o3, none, none, none, none] ∧ Hc = H3) ⟨_, rfl, rfl⟩ (fun i σ Hc _ y => ?_) (fun i x σ Hc Hd hi y e => ?_) (fun σ Hc y => ?_)
    · obtain ⟨_, _, rfl⟩ := y
      exact SqL.of (s03 _ _ hp)
    · obtain ⟨rfl, e⟩ := e
      obtain ⟨o3, rfl, rfl⟩ := y
      rw [hplen] at hi
      have ex : x = .int ((ps[i] : Nat) : Int) := by
        unfold intV at e
        rw [List.getElem?_map, List.getElem?_eq_getElem hi] at e
        exact (Option.some.inj e).symm
      subst ex
      refine ⟨_, rfl, _, rfl, a, dx, _, rfl, s03 _ _ ha, a, ws, ps[i], rfl, hal0.up s03, _, rfl, ?_⟩
      refine ⟨_, rfl, _, rfl, wa, _, rfl, .inl (SqL.of (s03 _ _ hw)), rfl, flat_ints ws, rfl, _, rfl, ?_⟩
      rw [if_neg Bool.false_ne_true, inV_ints, Bool.xor_false]
      exact ifF (by rw [decide_eq_true rfl]; rfl) ⟨_, rfl, rfl⟩
    obtain ⟨o3, rfl, rfl⟩ := y
    refine ⟨4, rfl, by decide, by decide, ?_⟩
    refine for_it (walk_range (lo := 0) (n := 4)) (fun i σ Hc => ∃ o4 o5 o6, σ = [some (.ref a), some (.ref wa), some (.ref pa), o3, o4, o5, o6, none] ∧ Same H Hc) ⟨_, _, _, rfl, s03⟩ (fun _ _ _ _ _ => trivial) (fun i x σ Hc Hd hi y e => ?_) (fun σ Hc y => ?_)
    · obtain ⟨rfl, rfl⟩ := e
      obtain ⟨o4, o5, o6, rfl, sc⟩ := y
      have hfr := fit_rows hwl (n := i) (by omega)
      have hi0 : (0 : Int) + (i : Int) = (i : Int) := by omega
      refine ⟨_, rfl, _, rfl, wa, ws, i, congrArg (fun z => [V.ref wa, V.int z]) hi0, SqL.of (sc _ _ hw), hwl, by omega, fun H4 l4 s4 d4 => ?_⟩
      refine ⟨_, _, noS, rfl, fun _ z => z.elim, d4, hfr.2.1, hfr.2.2, fun H5 v5 s5 d5 => ?_⟩
      have sc5 := sc.trans (s4.trans s5)
      refine ⟨_, rfl, a, rfl, _, rfl, .inr ⟨dx, _, sc5 _ _ ha⟩, a, ws, i, congrArg (fun z => [V.ref a, V.int z]) hi0, hal0.up sc5, hwl, by omega, fun H6 l6 xs6 s6 n6 e6 d6 => ?_⟩
      have d6l : Dx K H6 noS (.ref l6) (.list ((rowsN ws i).map intsD)) := .lst (XL.of e6 fun z => z.elim) (DxAll.less (S := inS noS l6) (fun _ z => z.elim) d6)
      refine ⟨_, rfl, _, _, noS, rfl, fun _ z => z.elim, d6l, hfr.2.1, hfr.2.2, fun H7 v7 s7 d7 => ?_⟩
      refine ⟨_, rfl, ?_⟩
      have ef := eq_fin hfr d5 (s6.trans s7) d7
      refine ⟨_, _, ef.2.1, ef.1, ef.2.2.1, ef.2.2.1, ?_⟩
      rw [ef.2.2.2]
      refine ⟨_, rfl, ifF rfl ?_⟩
      have e7 := s7 _ _ e6
      refine ⟨_, rfl, .inl ⟨rfl, _, SqL.of e7⟩, lenOk (n := 2) rfl (by decide), fun q8 hq8 => ?_⟩
      have s8 := same_new (o := .tup [V.int 7, V.int 7]) hq8
      have hx6 : xs6.length ≤ 216 := by
        rw [dxAll_len d6, List.length_map]
        exact rows_le hwl (by omega)
      refine ⟨l6, xs6, _, rfl, rfl, s8 _ _ e7, Nat.lt_of_lt_of_le (show _ < 16000000 by omega) (by decide), ?_⟩
      have s59 : Same H5 (upd (upd H7 q8 (.tup [V.int 7, V.int 7])) l6 (.lst (xs6 ++ [V.ref q8]))) := same_mut ((s6.trans s7).trans s8) n6
      generalize upd (upd H7 q8 (.tup [V.int 7, V.int 7])) l6 (.lst (xs6 ++ [V.ref q8])) = H9 at s59 ⊢
      have sc9 := sc5.trans s59
      refine ⟨_, rfl, a, rfl, _, rfl, .inr ⟨dx, _, sc9 _ _ ha⟩, a, ws, i, congrArg (fun z => [V.ref a, V.int z]) hi0, hal0.up sc9, hwl, by omega, fun H10 l10 xs10 s10 n10 e10 d10 => ?_⟩
      have d10l : Dx K H10 noS (.ref l10) (.list ((rowsN ws i).map intsD)) := .lst (XL.of e10 fun z => z.elim) (DxAll.less (S := inS noS l10) (fun _ z => z.elim) d10)
      refine ⟨_, _, noS, rfl, fun _ z => z.elim, d10l, hfr.2.1, hfr.2.2, fun H11 v11 s11 d11 => ?_⟩
      refine ⟨_, rfl, ?_⟩
      have ef := eq_fin hfr d5 (s59.trans (s10.trans s11)) d11
      refine ⟨_, _, ef.2.1, ef.1, ef.2.2.1, ef.2.2.1, ?_⟩
      rw [ef.2.2.2]
      exact ⟨_, rfl, ifF rfl ⟨_, _, _, rfl, sc9.trans (s10.trans s11)⟩⟩
    · obtain ⟨o4, o5, o6, rfl, sc⟩ := y
      refine ⟨_, rfl, a, t, dx, _, rfl, sc _ _ ha, ⟨dx, sc _ _ ha, sqT_up ht sc⟩, fun D hD => ?_⟩
      refine lc_vals (walk_tup (K := K) (a := t) (xs := intV ws)) (fun i v => (intV ws)[i]? = some v) (fun i => .int ((ws.getD i 0 : Nat) : Int)) hD (fun H4 s4 => sqT_up ht (sc.trans s4)) (by omega) (fun i H1 v H2 hi y => y) (fun i v H4 hi sm hv Q q => ?_) (fun H4 s4 e4 => ?_)
      · rw [hwlen] at hi
        have ev : v = .int ((ws.getD i 0 : Nat) : Int) := by
          unfold intV at hv
          rw [List.getElem?_map, List.getElem?_eq_getElem hi] at hv
          rw [List.getD_eq_getElem?_getD, List.getElem?_eq_getElem hi]
          exact (Option.some.inj hv).symm
        subst ev
        exact ⟨_, rfl, q _ (Same.refl _)⟩
      rw [hwlen, intV_range] at e4
      have sc4 := sc.trans s4
      refine ⟨_, lstD ws, noS, rfl, fun _ z => z.elim, dx_lst e4, hfw.2.1, hfw.2.2, fun H5 v5 s5 d5 => ?_⟩
      refine ⟨_, rfl, _, lstD ws, noS, rfl, fun _ z => z.elim, dx_lst ((sc4.trans s5) _ _ hw), hfw.2.1, hfw.2.2, fun H6 v6 s6 d6 => ?_⟩
      have ef := eq_fin hfw d5 s6 d6
      refine ⟨_, _, ef.1, ef.2.1, ef.2.2.1, ef.2.2.1, ?_⟩
      rw [ef.2.2.2]
      exact q _ (sc4.trans (s5.trans s6))
end
end R1

namespace R1
open PySem PySem.Spec PyProof.Rows L2 RK
local macro_rules | `(tactic| walk_at "sq") => `(tactic| first
  | exact SqL.of upd_same | exact upd_same | exact SqL.of (by assumption) | exact SqL.of (by rw [upd_ne (by assumption)]; assumption) | assumption)
local macro_rules | `(tactic| walk_at "sd") => `(tactic| first
  | assumption | omega | (refine Or.inl ⟨?_, ?_⟩ <;> omega) | (show _ ∧ _; constructor <;> omega) | (show _ ≠ _; simp; omega) | (exact Or.inl ⟨by decide, by decide⟩) | (exact Or.inr ⟨by decide, by decide⟩) | (show _ < _; decide) | (show _ ≤ _; decide))
local macro_rules | `(tactic| walk_at "at") => `(tactic| first | rfl | (refine atI_intV ?_ ?_ <;> omega) | assumption)
local macro_rules | `(tactic| walk_at "s1") => `(tactic| first
  | refine ⟨_, rfl, ?_⟩ | refine ⟨_, _, rfl, rfl, ?_⟩ | refine ⟨rfl, ?_⟩
  | refine ⟨_, _, _, _, rfl, rfl, by walk_at "sq", by walk_at "at", ?_⟩
  | refine Or.inl ⟨_, rfl, ?_⟩
  | refine ⟨_, _, rfl, Or.inl (by walk_at "sq"), ?_⟩
  | refine And.intro (by walk_at "sd") ?_)
local macro_rules | `(tactic| walk_at "s") => `(tactic| repeat walk_at "s1")

def goodW (ws : List Nat) : Prop := 1 ≤ ws.length ∧ ws.length ≤ 4 ∧ (∀ w ∈ ws, w ≤ 65535) ∧ ws.Nodup
theorem toI_ints (ws : List Nat) : (((ws.map fun (n : Nat) => (n : Int)).map PyData.int).map toI) = ws.map fun (n : Nat) => (n : Int) := by
  rw [List.map_map]
  conv => rhs; rw [← List.map_id (ws.map fun (n : Nat) => (n : Int))]
  rfl
theorem nodup_cast (ws : List Nat) : (ws.map fun (n : Nat) => (n : Int)).Nodup ↔ ws.Nodup := by
  unfold List.Nodup
  rw [List.pairwise_map]
  constructor
  · intro h
    exact h.imp fun hab e => hab (by rw [e])
  · intro h
    exact h.imp fun hab e => hab (by omega)
theorem good_iff (ws : List Nat) : goodD (intsD ws) = true ↔ goodW ws := by
  show ((decide (1 ≤ ((ws.map fun (n : Nat) => (n : Int)).map PyData.int).length) && decide (((ws.map fun (n : Nat) => (n : Int)).map PyData.int).length ≤ 4)) && (((ws.map fun (n : Nat) => (n : Int)).map PyData.int).all isW && decide ((((ws.map fun (n : Nat) => (n : Int)).map PyData.int).map toI).Nodup))) = true ↔ _
  rw [toI_ints, List.length_map, List.length_map]
  simp only [Bool.and_eq_true, decide_eq_true_eq]
  rw [nodup_cast]
  have : ((ws.map fun (n : Nat) => (n : Int)).map PyData.int).all isW = true ↔ ∀ w ∈ ws, w ≤ 65535 := by
    rw [List.all_eq_true]
    constructor
    · intro h w hw
      have := of_decide_eq_true (h (.int (w : Int)) (List.mem_map.mpr ⟨(w : Int), List.mem_map.mpr ⟨w, hw, rfl⟩, rfl⟩))
      omega
    · intro h d hd
      obtain ⟨z, hz, rfl⟩ := List.mem_map.mp hd
      obtain ⟨w, hw, rfl⟩ := List.mem_map.mp hz
      have := h w hw
      exact decide_eq_true ⟨by omega, by omega⟩
  rw [this]
  exact ⟨fun h => ⟨h.1.1, h.1.2, h.2.1, h.2.2⟩, fun h => ⟨⟨h.1, h.2.1⟩, h.2.2.1, h.2.2.2⟩⟩
theorem rev_eq {ws : List Nat} (h : goodW ws) : decide (ws = ws.reverse) = decide (ws.length = 1) := by
  rw [decide_eq_decide]
  obtain ⟨h1, _, _, hn⟩ := h
  constructor
  · intro e
    have e0 : ws[0]? = ws.reverse[0]? := by rw [← e]
    rw [List.getElem?_reverse (by omega)] at e0
    rw [List.getElem?_eq_getElem (by omega), List.getElem?_eq_getElem (by omega)] at e0
    have := (List.getElem_inj hn).mp (Option.some.inj e0)
    omega
  · intro e
    match ws, e with
    | [x], _ => rfl
theorem good_rev {ws : List Nat} (h : goodW ws) : goodW ws.reverse := ⟨by rw [List.length_reverse]; exact h.1, by rw [List.length_reverse]; exact h.2.1, fun w hw => h.2.2.1 w (List.mem_reverse.mp hw), by
  unfold List.Nodup
  rw [List.pairwise_reverse]
  exact List.Pairwise.imp (fun hab e => hab e.symm) h.2.2.2⟩
theorem good_less {ws : List Nat} (h : goodW ws) (k : Nat) (hk : k < ws.length) (h2 : 0 < (ws.take k ++ ws.drop (k + 1)).length) : goodW (ws.take k ++ ws.drop (k + 1)) := by
  rw [← List.eraseIdx_eq_take_drop_succ] at h2 ⊢
  have hs := List.eraseIdx_sublist ws k
  exact ⟨h2, Nat.le_trans hs.length_le h.2.1, fun w hw => h.2.2.1 w (hs.subset hw), List.Nodup.sublist hs h.2.2.2⟩
theorem less_ne {ws : List Nat} (k : Nat) (hk : k < ws.length) : decide (ws = ws.take k ++ ws.drop (k + 1)) = false := by
  apply decide_eq_false
  intro e
  have := congrArg List.length e
  rw [List.length_append, List.length_take, List.length_drop] at this
  omega
theorem eqv_lst (ws us : List Nat) : PyData.eqv (lstD ws) (lstD us) = decide (ws = us) := eqvA_ints ws us
theorem init_ok {K : PySem.W.Frag} {C B : Addr} {H1 : Hp} {x dx t : Addr} {us : List Nat} {Qd : Hp → Prop} {E : XK} (nx : H1 x = none) (ndx : H1 dx = none) (ht : SqT K H1 t (intV us)) (hg : goodW us) (q : ∀ H', Same H1 H' → AlK K C x us H' → Qd H') :
    spInit K C B [.ref x, .ref t] (upd (upd H1 dx (.own x)) x (.ins C dx [])) (fun v H2 => v = .non ∧ Qd H2) E := by
  have s2 : Same H1 (upd (upd H1 dx (.own x)) x (.ins C dx [])) := fun b o e => by
    rw [upd_ne (ne_of_none e nx), upd_ne (ne_of_none e ndx)]
    exact e
  refine ⟨x, dx, .ref t, intsD us, rfl, upd_same, dp_ints (sqT_up ht s2), .inr ⟨_, rfl⟩, wd_intsD (by have := hg.2.1; omega), fun hb => ?_, fun ws _ _ H' s => ⟨rfl, ?_⟩⟩
  · rw [(good_iff us).mpr hg] at hb
    cases hb
  · have s3 : Same H1 (upd H' x (.ins C dx [("words", .ref t)])) := same_mut (s2.trans s) nx
    exact q _ s3 ⟨dx, t, upd_same, sqT_up ht s3⟩
theorem lst_shaped (ws : List Nat) : SeqAt.shaped (lstD ws) = true := by
  unfold SeqAt.shaped
  have h1 : (lstD ws).canLay0 = true := lay_ints _
  have h2 : (lstD ws).depth ≤ 1 := by
    show PyData.depthAll _ + 1 ≤ 1
    rw [dep_ints]
    exact Nat.le_refl 1
  rw [h1, Bool.true_and]
  exact decide_eq_true (by omega)
theorem ints_dp {K : PySem.W.Frag} {H : Hp} (ws : List Nat) : DpAll K H (intV ws) ((ws.map fun (n : Nat) => (n : Int)).map PyData.int) := by
  rw [intV_ints]
  exact DxAll.dp (dxAll_ints (S := noS) _)
theorem eqO_ok {K : PySem.W.Frag} {C : Addr} {H : Hp} {a b : Addr} {ws us : List Nat} {Q : VK} {E : XK} (al1 : AlK K C a ws H) (al2 : AlK K C b us H) (q : Q (.bl (decide (ws = us))) H) : DK.rEqO C (fun vs H Q E => spEq K C (vs ++ []) H Q E) E (.ref a) (.ref b) H Q := by
  have h1 := al1
  have h2 := al2
  obtain ⟨dx, t, h1, _⟩ := h1
  obtain ⟨dy, u, h2, _⟩ := h2
  exact ⟨a, dx, _, b, dy, _, rfl, rfl, h1, h2, a, b, ws, us, rfl, al1, al2, _, rfl, q⟩
def spMade (K : PySem.W.Frag) : Sp := fun vs H Q _ => ∃ (wa pa : Addr) (ws ps : List Nat), vs = [.ref wa, .ref pa] ∧ H wa = some (.lst (intV ws)) ∧ H pa = some (.lst (intV ps)) ∧ goodW ws ∧ ps.length ≤ 1000 ∧ ∀ H', Same H H' → Q (.bl true) H'
section
variable {P : Program} {w : World} {K : PySem.W.Frag} {mg : Str → Option Value} {base : Heap} {A : Ads}
theorem ok_law_made (T : Txt K mg A) : FnOk P w K mg base CX0 7 A.a_law_made A.d_law_made ["_law_words", "_law_probes"] (spMade K) := by
  refine T.F_law_made.ok sc_law_made (fun vs H Q E h => ?_) (fun cdv B outer s H vs Q E hr h => ?_)
  · obtain ⟨wa, pa, ws, ps, rfl, _⟩ := h
    rfl
  · obtain ⟨wa, pa, ws, ps, rfl, hw, hp, hg, hpl, q⟩ := h
    refine ⟨_, (pss_cons (ps_setLc (i := 3) (own := [("_law_k", 2)]) rfl sc_law_made.nd rfl rfl (sw_true rfl rfl rfl (by decide +kernel)) (pi_range1 (by rfl) T.n_range (pa_cons (pe_callB len_seq (by rfl) T.n_len (by decide +kernel) (pa_cons (pv 0) pa_nil)) pa_nil)) (blkOk_by (own := [("_law_k", 2)]) (N := N_law_made) (sc := defScope s_law_made) (by decide +kernel)) (fun _ _ _ _ _ => pg_name (i := 2) sc_law_made.nd rfl (Or.inl rfl)) (fun _ _ _ _ _ => pts_nil) (fun _ _ _ _ _ => by exact (pe_ix (r := rIxL K) ix_list (pv 0) (pe_op op_sub (pe_op op_sub (pe_callB (r := Evl.rLenS K) len_seq (by rfl) T.n_len (by decide +kernel) (pa_cons (pv 0) pa_nil)) pe_int) (pv 2)) (fun _ _ => rfl))))
    (pss_cons (ps_set (i := 4) sc_law_made.nd rfl (.inl rfl) (pe_make T.m_Alphabet (ok_Alphabet_init T) (hr.mono (by omega)) rfl T.g_Alphabet T.b_Alphabet_init .nil passN (pa_cons (pe_callTy tuple_of (by rfl) T.n_tuple (by decide +kernel) (pa_cons (pv 0) pa_nil)) pa_nil)))
    (pss_cons (ps_set (i := 5) sc_law_made.nd rfl (.inl rfl) (pe_make T.m_Alphabet (ok_Alphabet_init T) (hr.mono (by omega)) rfl T.g_Alphabet T.b_Alphabet_init .nil passN (pa_cons (pe_callTy tuple_of (by rfl) T.n_tuple (by decide +kernel) (pa_cons (pv 3) pa_nil)) pa_nil)))
    (pss_cons (ps_if (PW.pt (pw_or (pt_not (pt_val (pe_call (ok_law_tells T) (hr.mono (by omega)) rfl T.g_law_tells T.F_law_tells.kp T.b_law_tells .nil pass0 (pa_cons (pv 4) (pa_cons (pv 0) (pa_cons (pv 1) pa_nil)))))) (pw_or1 (pt_not (pt_val (pe_call (ok_law_tells T) (hr.mono (by omega)) rfl T.g_law_tells T.F_law_tells.kp T.b_law_tells .nil pass0 (pa_cons (pv 5) (pa_cons (pv 3) (pa_cons (pv 1) pa_nil))))))))) (pss_one (ps_ret pe_bl)) pss_nil)
    (pss_cons (ps_if (PW.pt (pw_or (pt_not (pt_val (pe_call (ok_law_tells T) (hr.mono (by omega)) rfl T.g_law_tells T.F_law_tells.kp T.b_law_tells .nil pass0 (pa_cons (pv 4) (pa_cons (pv 0) (pa_cons (pv 1) pa_nil)))))) (pw_or1 (pt_not (pt_cmpR (DK.op_eqO T.o_Alphabet_eq (FnOk.raw (ok_Alphabet_eq T) T.b_Alphabet_eq .nil) pass0 (hr.mono (by omega))) (pv 4) (pe_make T.m_Alphabet (ok_Alphabet_init T) (hr.mono (by omega)) rfl T.g_Alphabet T.b_Alphabet_init .nil passN (pa_cons (pe_callTy tuple_of (by rfl) T.n_tuple (by decide +kernel) (pa_cons (pv 0) pa_nil)) pa_nil)) (nomark _)))))) (pss_one (ps_ret pe_bl)) pss_nil)
    (pss_cons (ps_if (pt_cmpR op_ne (pe_cmpR (DK.op_eqO T.o_Alphabet_eq (FnOk.raw (ok_Alphabet_eq T) T.b_Alphabet_eq .nil) pass0 (hr.mono (by omega))) (pv 4) (pv 5) (nomark _)) (pe_cmpR op_eq (pe_callB len_seq (by rfl) T.n_len (by decide +kernel) (pa_cons (pv 0) pa_nil)) pe_int (nomark _)) (nomark _)) (pss_one (ps_ret pe_bl)) pss_nil)
    (pss_cons (ps_for PassesOwn.never rfl (pi_range1 (by rfl) T.n_range (pa_cons (pe_callB len_seq (by rfl) T.n_len (by decide +kernel) (pa_cons (pv 0) pa_nil)) pa_nil)) (pg_name (i := 2) sc_law_made.nd rfl (.inl rfl))
      (pss_cons (ps_set (i := 6) sc_law_made.nd rfl (.inl rfl) (pe_op op_cat (pe_slice sl_list (pv 0) po_none (po_some (pv 2))) (pe_slice sl_list (pv 0) (po_some (pe_op op_add (pv 2) pe_int)) po_none)))
    (pss_cons (ps_set (i := 8) sc_law_made.nd rfl (.inl rfl) (pe_callB (cr_max rfl) (by rfl) T.n_max (by decide +kernel) (pa_cons (pe_lc (own := [("_law_word_here", 7)]) rfl sc_law_made.nd (pi_list (pv 0)) (blkOk_by (own := [("_law_word_here", 7)]) (N := N_law_made) (sc := defScope s_law_made) (by decide +kernel)) (fun _ _ _ _ _ => pg_name (i := 7) sc_law_made.nd rfl (Or.inl rfl)) (fun _ _ _ _ _ => pts_nil) (fun _ _ _ _ _ => by exact (pe_callTy call_int1 (by rfl) T.n_int (by decide +kernel) (pa_cons (pv 7) pa_nil)))) pa_nil)))
    (pss_cons (ps_set (i := 9) sc_law_made.nd rfl (.inl rfl) (pe_op op_cat (pe_op op_cat (pe_slice sl_list (pv 0) po_none (po_some (pv 2))) (pe_lst (pa_cons (pe_op op_mod (pe_callTy call_int1 (by rfl) T.n_int (by decide +kernel) (pa_cons (pe_op op_add (pv 8) pe_int) pa_nil)) pe_int) pa_nil))) (pe_slice sl_list (pv 0) (po_some (pe_op op_add (pv 2) pe_int)) po_none)))
    (pss_cons (ps_if (PW.pt (pw_and (pt_cmpR op_gt (pe_callB len_seq (by rfl) T.n_len (by decide +kernel) (pa_cons (pv 6) pa_nil)) pe_int (nomark _)) (pw_and1 (pt_cmpR (DK.op_eqO T.o_Alphabet_eq (FnOk.raw (ok_Alphabet_eq T) T.b_Alphabet_eq .nil) pass0 (hr.mono (by omega))) (pv 4) (pe_make T.m_Alphabet (ok_Alphabet_init T) (hr.mono (by omega)) rfl T.g_Alphabet T.b_Alphabet_init .nil passN (pa_cons (pe_callTy tuple_of (by rfl) T.n_tuple (by decide +kernel) (pa_cons (pv 6) pa_nil)) pa_nil)) (nomark _))))) (pss_one (ps_ret pe_bl)) pss_nil)
    (pss_one (ps_if (PW.pt (pw_and (pt_cmpR (op_neD hr.units) (pv 9) (pv 0) (nomark _)) (pw_and (pt_val (pe_call (ok_law_is_good T) (hr.mono (by omega)) rfl T.g_law_is_good T.F_law_is_good.kp T.b_law_is_good .nil pass0 (pa_cons (pv 9) pa_nil))) (pw_and1 (pt_cmpR (DK.op_eqO T.o_Alphabet_eq (FnOk.raw (ok_Alphabet_eq T) T.b_Alphabet_eq .nil) pass0 (hr.mono (by omega))) (pv 4) (pe_make T.m_Alphabet (ok_Alphabet_init T) (hr.mono (by omega)) rfl T.g_Alphabet T.b_Alphabet_init .nil passN (pa_cons (pe_callTy tuple_of (by rfl) T.n_tuple (by decide +kernel) (pa_cons (pv 9) pa_nil)) pa_nil)) (nomark _)))))) (pss_one (ps_ret pe_bl)) pss_nil)))))))
    (pss_one (ps_ret pe_bl))))))))), ?_⟩
    have hg1 := hg.1
    have hg4 := hg.2.1
    have hwlen : (intV ws).length = ws.length := intV_len ws
    refine ⟨_, rfl, wa, _, rfl, .inl (SqL.of hw), _, rfl, by omega, by omega, fun D hD => ?_⟩
    rw [Int.toNat_natCast, hwlen]
    refine lc_vals (walk_range (lo := 0) (n := ws.length)) (fun i v => v = .int (0 + (i : Int))) (fun i => .int ((ws.reverse.getD i 0 : Nat) : Int)) hD (fun _ _ => trivial) (by omega) (fun i H1 v H2 hi y => ⟨y.1, y.2⟩) (fun i v H4 hi sm hv Q q => ?_) (fun H4 s4 e4 => ?_)
    · subst hv
      have hat : atI (intV ws) ((ws.length : Int) - 1 - (0 + (i : Int))) = some (.int ((ws.reverse.getD i 0 : Nat) : Int)) := by
        rw [show (ws.length : Int) - 1 - (0 + (i : Int)) = ((ws.length - 1 - i : Nat) : Int) by omega]
        refine atI_nat ?_
        unfold intV
        rw [List.getElem?_map, List.getElem?_eq_getElem (by omega), List.getD_eq_getElem?_getD, List.getElem?_reverse hi, List.getElem?_eq_getElem (by omega)]
        rfl
      refine ⟨_, rfl, _, rfl, wa, _, rfl, .inl (SqL.of (sm _ _ hw)), _, _, rfl, rfl, _, rfl, _, _, rfl, rfl, ?_⟩
      rw [hwlen]
      exact ⟨wa, _, _, _, rfl, rfl, SqL.of (sm _ _ hw), hat, q _ (Same.refl _)⟩
    have er : H4 D = some (.lst (intV ws.reverse)) := by
      rw [e4, ← List.length_reverse (as := ws), intV_range]
    have hgr := good_rev hg
    refine ⟨_, rfl, wa, _, rfl, .inl ⟨SqL.of (s4 _ _ hw), fun t1 ht1 => fun x1 dx1 nx1 ndx1 ne1 => ?_⟩⟩
    refine init_ok nx1 ndx1 (SqT.of upd_same) hg fun H5 s5 al5 => ?_
    have s45 := (same_new (o := .tup (intV ws)) ht1).trans s5
    have er5 := s45 _ _ er
    have s05 := s4.trans s45
    refine ⟨_, rfl, D, _, rfl, .inl ⟨SqL.of er5, fun t2 ht2 => fun x2 dx2 nx2 ndx2 ne2 => ?_⟩⟩
    refine init_ok nx2 ndx2 (SqT.of upd_same) hgr fun H6 s6 al6 => ?_
    have s56 := (same_new (o := .tup (intV ws.reverse)) ht2).trans s6
    have al5' := al5.up s56
    have s06 := s05.trans s56
    have er6 := s56 _ _ er5
    refine ⟨_, rfl, _, rfl, _, rfl, x1, wa, pa, ws, ps, rfl, al5', s06 _ _ hw, s06 _ _ hp, by omega, hpl, fun H7 s7 => ?_⟩
    refine ⟨_, rfl, ifF rfl ?_⟩
    have s07 := s06.trans s7
    refine ⟨_, rfl, _, rfl, _, rfl, x2, D, pa, ws.reverse, ps, rfl, al6.up s7, s7 _ _ er6, s07 _ _ hp, by rw [List.length_reverse]; omega, hpl, fun H8 s8 => ⟨_, rfl, ifF rfl ?_⟩⟩
    have s68 := s7.trans s8
    have s08 := s06.trans s68
    refine ⟨_, rfl, _, rfl, _, rfl, x1, wa, pa, ws, ps, rfl, al5'.up s68, s08 _ _ hw, s08 _ _ hp, by omega, hpl, fun H9 s9 => ⟨_, rfl, ifF rfl ?_⟩⟩
    have s69 := s68.trans s9
    have s09 := s06.trans s69
    refine ⟨_, rfl, _, rfl, wa, _, rfl, .inl ⟨SqL.of (s09 _ _ hw), fun t3 ht3 => fun x3 dx3 nx3 ndx3 ne3 => ?_⟩⟩
    refine init_ok nx3 ndx3 (SqT.of upd_same) hg fun H10 s10 al10 => ?_
    have s610 := s69.trans ((same_new (o := .tup (intV ws)) ht3).trans s10)
    have s010 := s06.trans s610
    have al1 := al5'.up s610
    have al2 := al6.up s610
    refine eqO_ok al1 al10 ?_
    refine ⟨_, rfl, ?_⟩
    refine ifF (by rw [decide_eq_true rfl]; rfl) ?_
    refine ⟨_, rfl, _, rfl, eqO_ok al1 al2 ?_⟩
    refine ⟨_, rfl, wa, _, rfl, .inl (SqL.of (s010 _ _ hw)), rfl, rfl, _, rfl, ?_⟩
    have hre : decide (ws = ws.reverse) = decide (V.int ((intV ws).length : Int) = V.int 1) := by
      rw [rev_eq hg, hwlen, decide_eq_decide]
      constructor
      · intro e
        rw [e]
        rfl
      · intro e
        have := V.int.inj e
        omega
    refine ifF (by rw [hre, decide_eq_true rfl]; rfl) ?_
    refine ⟨_, rfl, wa, _, rfl, .inl (SqL.of (s010 _ _ hw)), _, rfl, by omega, by omega, ?_⟩
    rw [Int.toNat_natCast, hwlen]
    refine for_it (walk_range (lo := 0) (n := ws.length)) (fun i σ Hc => ∃ o2 o6 o8 o9, σ = [some (.ref wa), some (.ref pa), o2, some (.ref D), some (.ref x1), some (.ref x2), o6, none, o8, o9] ∧ Same H10 Hc) ⟨_, _, _, _, rfl, Same.refl _⟩ (fun _ _ _ _ _ => trivial) (fun i x σ Hc Hd hi y e => ?_) (fun σ Hc y => ?_)
    · obtain ⟨rfl, rfl⟩ := e
      obtain ⟨o2, o6, o8, o9, rfl, sc⟩ := y
      have sw := s010.trans sc
      have hi0 : (0 : Int) + (i : Int) = (i : Int) := by omega
      have elo : cutV (intV ws) none (some (0 + (i : Int))) = intV (ws.take i) := by
        rw [hi0, cutV_hi]
        exact (List.map_take ..).symm
      have ehi : cutV (intV ws) (some (0 + (i : Int) + 1)) none = intV (ws.drop (i + 1)) := by
        rw [hi0, show (i : Int) + 1 = ((i + 1 : Nat) : Int) by omega, cutV_lo]
        exact (List.map_drop ..).symm
      unfold tNoPart
      have lim : ∀ {n : Nat}, n ≤ 2000 → n ≤ sizeLine := fun h => Nat.le_trans (show _ ≤ 16000000 by omega) (by decide)
      refine ⟨_, rfl, _, rfl, _, rfl, wa, _, rfl, SqL.of (sw _ _ hw), fun l1 hl1 => ?_⟩
      have e1 : upd Hd l1 (.lst (cutV (intV ws) none (some (0 + (i : Int))))) l1 = some (.lst (intV (ws.take i))) := by rw [upd_same, elo]
      have s1 := same_new (o := .lst (cutV (intV ws) none (some (0 + (i : Int))))) hl1
      generalize upd Hd l1 (.lst (cutV (intV ws) none (some (0 + (i : Int))))) = G1 at e1 s1 ⊢
      refine ⟨_, rfl, _, rfl, _, _, rfl, rfl, _, rfl, wa, _, rfl, SqL.of (s1 _ _ (sw _ _ hw)), fun l2 hl2 => ?_⟩
      have e2 : upd G1 l2 (.lst (cutV (intV ws) (some (0 + (i : Int) + 1)) none)) l2 = some (.lst (intV (ws.drop (i + 1)))) := by rw [upd_same, ehi]
      have s2 := same_new (o := .lst (cutV (intV ws) (some (0 + (i : Int) + 1)) none)) hl2
      generalize upd G1 l2 (.lst (cutV (intV ws) (some (0 + (i : Int) + 1)) none)) = G2 at e2 s2 ⊢
      refine ⟨l1, l2, _, _, rfl, rfl, s2 _ _ e1, e2, lim (by rw [intV_len, intV_len, List.length_take, List.length_drop]; omega), fun l3 hl3 => ?_⟩
      have e3 : upd G2 l3 (.lst (intV (ws.take i) ++ intV (ws.drop (i + 1)))) l3 = some (.lst (intV (ws.take i ++ ws.drop (i + 1)))) := by rw [upd_same, intV_app]
      have s3 := same_new (o := .lst (intV (ws.take i) ++ intV (ws.drop (i + 1)))) hl3
      generalize upd G2 l3 (.lst (intV (ws.take i) ++ intV (ws.drop (i + 1)))) = G3 at e3 s3 ⊢
      have sc3 := sc.trans (s1.trans (s2.trans s3))
      have sw3 := s010.trans sc3
      clear e1 e2
      refine ⟨_, rfl, wa, rfl, ⟨_, SqL.of (sw3 _ _ hw)⟩, fun D9 hD9 => ?_⟩
      refine lc_vals (walk_list (K := K) (a := wa) (xs := intV ws)) (fun i v => (intV ws)[i]? = some v) (fun i => .int ((ws.getD i 0 : Nat) : Int)) hD9 (fun H4 s4 => SqL.of (s4 _ _ (sw3 _ _ hw))) (by omega) (fun i H1 v H2 hi y => y) (fun i v H4 hi sm hv Q q => ?_) (fun G4 s4 e4 => ?_)
      · rw [hwlen] at hi
        have ev : v = .int ((ws.getD i 0 : Nat) : Int) := by
          unfold intV at hv
          rw [List.getElem?_map, List.getElem?_eq_getElem hi] at hv
          rw [List.getD_eq_getElem?_getD, List.getElem?_eq_getElem hi]
          exact (Option.some.inj hv).symm
        subst ev
        exact ⟨_, rfl, .inl ⟨_, rfl, q _ (Same.refl _)⟩⟩
      rw [hwlen, intV_range, intV_ints] at e4
      refine ⟨D9, _, rfl, SqL.of e4, by rw [List.length_map]; omega, fun m hm hle => ?_⟩
      obtain ⟨mw, hmw, rfl⟩ := List.mem_map.mp hm
      have hmle := hg.2.2.1 _ hmw
      have sc4 := sc3.trans s4
      have sw4 := s010.trans sc4
      have e3' := s4 _ _ e3
      refine ⟨_, rfl, _, rfl, _, rfl, wa, _, rfl, SqL.of (sw4 _ _ hw), fun l5 hl5 => ?_⟩
      have e5 : upd G4 l5 (.lst (cutV (intV ws) none (some (0 + (i : Int))))) l5 = some (.lst (intV (ws.take i))) := by rw [upd_same, elo]
      have s5 := same_new (o := .lst (cutV (intV ws) none (some (0 + (i : Int))))) hl5
      generalize upd G4 l5 (.lst (cutV (intV ws) none (some (0 + (i : Int))))) = G5 at e5 s5 ⊢
      refine ⟨_, rfl, _, _, rfl, rfl, .inl ⟨_, rfl, _, _, rfl, rfl, (by show (0 : Int) < 65536; decide), lenOk (n := 1) rfl (by decide), fun l6 hl6 => ?_⟩⟩
      have e6 : upd G5 l6 (.lst [V.int (((mw : Int) + 1) % 65536)]) l6 = some (.lst (intV [(mw + 1) % 65536])) := by
        rw [upd_same, show ((mw : Int) + 1) % 65536 = (((mw + 1) % 65536 : Nat) : Int) by omega]
        rfl
      have s6 := same_new (o := .lst [V.int (((mw : Int) + 1) % 65536)]) hl6
      generalize upd G5 l6 (.lst [V.int (((mw : Int) + 1) % 65536)]) = G6 at e6 s6 ⊢
      refine ⟨l5, l6, _, _, rfl, rfl, s6 _ _ e5, e6, lim (by rw [intV_len, intV_len, List.length_take]; show _ + 1 ≤ _; omega), fun l7 hl7 => ?_⟩
      have e7 : upd G6 l7 (.lst (intV (ws.take i) ++ intV [(mw + 1) % 65536])) l7 = some (.lst (intV (ws.take i ++ [(mw + 1) % 65536]))) := by rw [upd_same, intV_app]
      have s7' := same_new (o := .lst (intV (ws.take i) ++ intV [(mw + 1) % 65536])) hl7
      generalize upd G6 l7 (.lst (intV (ws.take i) ++ intV [(mw + 1) % 65536])) = G7 at e7 s7' ⊢
      have sw7 := sw4.trans (s5.trans (s6.trans s7'))
      refine ⟨_, rfl, _, rfl, _, _, rfl, rfl, _, rfl, wa, _, rfl, SqL.of (sw7 _ _ hw), fun l8 hl8 => ?_⟩
      have e8 : upd G7 l8 (.lst (cutV (intV ws) (some (0 + (i : Int) + 1)) none)) l8 = some (.lst (intV (ws.drop (i + 1)))) := by rw [upd_same, ehi]
      have s8' := same_new (o := .lst (cutV (intV ws) (some (0 + (i : Int) + 1)) none)) hl8
      generalize upd G7 l8 (.lst (cutV (intV ws) (some (0 + (i : Int) + 1)) none)) = G8 at e8 s8' ⊢
      refine ⟨l7, l8, _, _, rfl, rfl, s8' _ _ e7, e8, lim (by rw [intV_len, intV_len, List.length_append, List.length_take, List.length_drop]; show _ + 1 + _ ≤ _; omega), fun l9 hl9 => ?_⟩
      have e9 : upd G8 l9 (.lst (intV (ws.take i ++ [(mw + 1) % 65536]) ++ intV (ws.drop (i + 1)))) l9 = some (.lst (intV (ws.take i ++ [(mw + 1) % 65536] ++ ws.drop (i + 1)))) := by rw [upd_same, intV_app (ws.take i ++ _)]
      have s9' := same_new (o := .lst (intV (ws.take i ++ [(mw + 1) % 65536]) ++ intV (ws.drop (i + 1)))) hl9
      generalize upd G8 l9 (.lst (intV (ws.take i ++ [(mw + 1) % 65536]) ++ intV (ws.drop (i + 1)))) = G9 at e9 s9' ⊢
      have s49 := s5.trans (s6.trans (s7'.trans (s8'.trans s9')))
      have sc9 := sc4.trans s49
      have e39 := s49 _ _ e3'
      clear e5 e6 e7 e8
      have hol : (ws.take i ++ [(mw + 1) % 65536] ++ ws.drop (i + 1)).length = ws.length := by
        rw [List.length_append, List.length_append, List.length_take, List.length_drop]
        show _ + 1 + _ = _
        omega
      generalize ws.take i ++ [(mw + 1) % 65536] ++ ws.drop (i + 1) = ot at e9 hol
      refine ⟨_, rfl, l3, _, rfl, .inl (SqL.of e39), _, _, rfl, rfl, _, rfl, ifB (fun el => ?_) (fun el => ?_)⟩
      · have el := of_decide_eq_true el
        rw [intV_len] at el
        have hgl := good_less hg i hi (by omega)
        refine ⟨_, rfl, _, rfl, l3, _, rfl, .inl ⟨SqL.of e39, fun t4 ht4 => fun x4 dx4 nx4 ndx4 ne4 => ?_⟩⟩
        refine init_ok nx4 ndx4 (SqT.of upd_same) hgl fun G10 s10 al10 => ?_
        have s910 := (same_new (o := .tup (intV (ws.take i ++ ws.drop (i + 1)))) ht4).trans s10
        have e9 := s910 _ _ e9
        have sc9 := sc9.trans s910
        refine eqO_ok (al1.up sc9) al10 ?_
        refine ⟨_, rfl, ifF (less_ne i hi) ?_⟩
        have sw9 := s010.trans sc9
        refine ⟨_, rfl, _, rfl, lstD ot, lstD ws, (dx_lst e9).dp, (dx_lst (sw9 _ _ hw)).dp, ?_, ?_, _, rfl, ?_⟩
        · exact lst_shaped ot
        · exact lst_shaped ws
        rw [eqv_lst]
        refine ifB (fun eo => ?_) (fun eo => ?_)
        · have hone : ¬ ot = ws := fun z => by
            rw [decide_eq_true z] at eo
            cases eo
          refine ⟨_, rfl, l9, _, _, rfl, SqL.of e9, ints_dp ot, by rw [List.length_map, List.length_map]; omega, fun G10 s10 => ⟨_, rfl, ?_⟩⟩
          show if goodD (intsD ot) = true then _ else _
          refine ifB (fun eg => ?_) (fun eg => ?_)
          · have hgo := (good_iff ot).mp eg
            refine ⟨_, rfl, _, rfl, l9, _, rfl, .inl ⟨SqL.of (s10 _ _ e9), fun t4 ht4 => fun x4 dx4 nx4 ndx4 ne4 => ?_⟩⟩
            refine init_ok nx4 ndx4 (SqT.of upd_same) hgo fun G11 s11 al11 => ?_
            have sc11 := sc9.trans (s10.trans ((same_new (o := .tup (intV ot)) ht4).trans s11))
            refine eqO_ok (al1.up sc11) al11 ?_
            refine ⟨_, rfl, ifF (decide_eq_false fun z => hone z.symm) ?_⟩
            exact ⟨_, _, _, _, rfl, sc11⟩
          · exact ⟨_, _, _, _, rfl, sc9.trans s10⟩
        · exact ⟨_, _, _, _, rfl, sc9⟩
      · skip
        have sw9 := s010.trans sc9
        refine ⟨_, rfl, _, rfl, lstD ot, lstD ws, (dx_lst e9).dp, (dx_lst (sw9 _ _ hw)).dp, ?_, ?_, _, rfl, ?_⟩
        · exact lst_shaped ot
        · exact lst_shaped ws
        rw [eqv_lst]
        refine ifB (fun eo => ?_) (fun eo => ?_)
        · have hone : ¬ ot = ws := fun z => by
            rw [decide_eq_true z] at eo
            cases eo
          refine ⟨_, rfl, l9, _, _, rfl, SqL.of e9, ints_dp ot, by rw [List.length_map, List.length_map]; omega, fun G10 s10 => ⟨_, rfl, ?_⟩⟩
          show if goodD (intsD ot) = true then _ else _
          refine ifB (fun eg => ?_) (fun eg => ?_)
          · have hgo := (good_iff ot).mp eg
            refine ⟨_, rfl, _, rfl, l9, _, rfl, .inl ⟨SqL.of (s10 _ _ e9), fun t4 ht4 => fun x4 dx4 nx4 ndx4 ne4 => ?_⟩⟩
            refine init_ok nx4 ndx4 (SqT.of upd_same) hgo fun G11 s11 al11 => ?_
            have sc11 := sc9.trans (s10.trans ((same_new (o := .tup (intV ot)) ht4).trans s11))
            refine eqO_ok (al1.up sc11) al11 ?_
            refine ⟨_, rfl, ifF (decide_eq_false fun z => hone z.symm) ?_⟩
            exact ⟨_, _, _, _, rfl, sc11⟩
          · exact ⟨_, _, _, _, rfl, sc9.trans s10⟩
        · exact ⟨_, _, _, _, rfl, sc9⟩
    · obtain ⟨o2, o6, o8, o9, rfl, sc⟩ := y
      exact q _ (s010.trans sc)
end
end R1

namespace R1
open PySem PySem.Spec PyProof.Rows L2 RK
local macro_rules | `(tactic| walk_at "sq") => `(tactic| first
  | exact SqL.of upd_same | exact upd_same | exact SqL.of (by assumption) | exact SqL.of (by rw [upd_ne (by assumption)]; assumption) | assumption)
local macro_rules | `(tactic| walk_at "sd") => `(tactic| first
  | assumption | omega | (refine Or.inl ⟨?_, ?_⟩ <;> omega) | (show _ ∧ _; constructor <;> omega) | (show _ ≠ _; simp; omega) | (exact Or.inl ⟨by decide, by decide⟩) | (exact Or.inr ⟨by decide, by decide⟩) | (show _ < _; decide) | (show _ ≤ _; decide))
local macro_rules | `(tactic| walk_at "at") => `(tactic| first | rfl | (refine atI_intV ?_ ?_ <;> omega) | assumption)
local macro_rules | `(tactic| walk_at "s1") => `(tactic| first
  | refine ⟨_, rfl, ?_⟩ | refine ⟨_, _, rfl, rfl, ?_⟩ | refine ⟨rfl, ?_⟩
  | refine ⟨_, _, _, _, rfl, rfl, by walk_at "sq", by walk_at "at", ?_⟩
  | refine Or.inl ⟨_, rfl, ?_⟩
  | refine ⟨_, _, rfl, Or.inl (by walk_at "sq"), ?_⟩
  | refine And.intro (by walk_at "sd") ?_)
local macro_rules | `(tactic| walk_at "s") => `(tactic| repeat walk_at "s1")

def spLaw (K : PySem.W.Frag) : Sp := fun vs H Q _ => ∃ (a : Addr) (ns : List Int), vs = [.ref a] ∧ SqL K H a (ns.map V.int) ∧ ns.length ≤ 63 ∧ ∀ H', Q (.bl true) H'
theorem fmodN {a b : Nat} (h : 0 < b) : (a : Int).fmod (b : Int) = ((a % b : Nat) : Int) := by
  rw [Int.fmod_eq_emod_of_nonneg _ (by omega)]
  exact (Int.natCast_emod a b).symm
theorem dxAll_set {K : PySem.W.Frag} {H : Hp} {S : ASet} {v : V} {d : PyData} : ∀ {xs : List V} {ds : List PyData} (i : Nat), DxAll K H S xs ds → Dx K H S v d → DxAll K H S (xs.set i v) (ds.set i d)
  | _, _, _, .nil, _ => .nil
  | _, _, 0, .cons _ t, h => .cons h t
  | _, _, i + 1, .cons a t, h => .cons a (dxAll_set i t h)
theorem good_ints {K : PySem.W.Frag} {H : Hp} {xs : List V} {ds : List PyData} (h : DpAll K H xs ds) (hg : goodD (.tuple ds) = true) : ∃ us, xs = intV us ∧ goodW us := by
  have hg' : ((decide (1 ≤ ds.length) && decide (ds.length ≤ 4)) && (ds.all isW && decide ((ds.map toI).Nodup))) = true := hg
  have hw : ds.all isW = true := (Bool.and_eq_true_iff.mp (Bool.and_eq_true_iff.mp hg').2).1
  obtain ⟨h1, h2⟩ := dp_ints_inv h hw
  have hws : ds.map toI = (ds.map fun d => (toI d).toNat).map fun (n : Nat) => (n : Int) := by
    rw [List.map_map]
    refine List.map_congr_left fun d hd => ?_
    have := List.all_eq_true.mp hw d hd
    cases d with
    | int i =>
      have := of_decide_eq_true this
      show i = ((i.toNat : Nat) : Int)
      omega
    | _ => cases this
  rw [hws] at h1 h2
  refine ⟨_, by rw [intV_ints]; exact h1, ?_⟩
  apply (good_iff _).mp
  rw [h2] at hg
  exact hg
theorem fit_tup : ∀ {ds : List PyData}, (∀ d ∈ ds, d.canLay0 = true ∧ d.depth ≤ 1 ∧ wdB d = true) → PyData.canLayAll0 ds = true ∧ PyData.depthAll ds ≤ 1 ∧ wdA ds = true
  | [], _ => ⟨rfl, Nat.zero_le _, rfl⟩
  | d :: r, h => by
    obtain ⟨a1, a2, a3⟩ := h d List.mem_cons_self
    obtain ⟨b1, b2, b3⟩ := fit_tup fun x hx => h x (List.mem_cons_of_mem _ hx)
    refine ⟨?_, ?_, ?_⟩
    · show (d.canLay0 && PyData.canLayAll0 r) = true
      rw [a1, b1]
      rfl
    · show max d.depth (PyData.depthAll r) ≤ 1
      omega
    · show (wdB d && wdA r) = true
      rw [a3, b3]
      rfl
theorem el_ints (us : List Nat) : ∀ d ∈ ((us.map fun (n : Nat) => (n : Int)).map PyData.int), d.canLay0 = true ∧ d.depth ≤ 1 ∧ wdB d = true := fun d hd => by
  obtain ⟨z, _, rfl⟩ := List.mem_map.mp hd
  exact ⟨rfl, Nat.zero_le _, rfl⟩
section
variable {P : Program} {w : World} {K : PySem.W.Frag} {mg : Str → Option Value} {base : Heap} {A : Ads}
theorem ok_law (T : Txt K mg A) : FnOk P w K mg base CX0 9 A.a_law A.d_law ["_law_script"] (spLaw K) := by
  refine T.F_law.ok sc_law (fun vs H Q E h => ?_) (fun cdv B outer s H vs Q E hr h => ?_)
  · obtain ⟨a, ns, rfl, _⟩ := h
    rfl
  · obtain ⟨a, ns, rfl, hS, hl, q⟩ := h
    refine ⟨_, (pss_cons (ps_set (i := 1) sc_law.nd rfl (.inr rfl) (pe_call (ok_law_source T) (hr.mono (by omega)) rfl T.g_law_source T.F_law_source.kp T.b_law_source .nil pass0 (pa_cons (pv 0) pa_nil)))
    (pss_cons (ps_set (i := 2) sc_law.nd rfl (.inl rfl) (pe_call (ok_law_draw T) (hr.mono (by omega)) rfl T.g_law_draw T.F_law_draw.kp T.b_law_draw .nil pass0 (pa_cons (pv 1) (pa_cons pe_int pa_nil))))
    (pss_cons (ps_set (i := 3) sc_law.nd rfl (.inl rfl) (pe_call (ok_law_draw T) (hr.mono (by omega)) rfl T.g_law_draw T.F_law_draw.kp T.b_law_draw .nil pass0 (pa_cons (pv 1) (pa_cons pe_int pa_nil))))
    (pss_cons (ps_set (i := 4) sc_law.nd rfl (.inl rfl) (pe_call (ok_law_draw T) (hr.mono (by omega)) rfl T.g_law_draw T.F_law_draw.kp T.b_law_draw .nil pass0 (pa_cons (pv 1) (pa_cons pe_int pa_nil))))
    (pss_cons (ps_set (i := 5) sc_law.nd rfl (.inl rfl) (pe_call (ok_law_draw T) (hr.mono (by omega)) rfl T.g_law_draw T.F_law_draw.kp T.b_law_draw .nil pass0 (pa_cons (pv 1) (pa_cons pe_int pa_nil))))
    (pss_cons (ps_setLc (i := 7) (own := [("_law_k", 6)]) rfl sc_law.nd rfl rfl (sw_true rfl rfl rfl (by decide +kernel)) (pi_range1 (by rfl) T.n_range (pa_cons (pv 2) pa_nil)) (blkOk_by (own := [("_law_k", 6)]) (N := N_law) (sc := defScope s_law) (by decide +kernel)) (fun _ _ _ _ _ => pg_name (i := 6) sc_law.nd rfl (Or.inl rfl)) (fun _ _ _ _ _ => pts_nil) (fun _ _ _ _ _ => by exact (pe_call (ok_law_word T) (hr.mono (by omega)) rfl T.g_law_word T.F_law_word.kp T.b_law_word .nil pass0 (pa_cons (pv 1) pa_nil))))
    (pss_cons (ps_set (i := 8) sc_law.nd rfl (.inl rfl) (pe_lst (pa_cons (pe_call (ok_law_word T) (hr.mono (by omega)) rfl T.g_law_word T.F_law_word.kp T.b_law_word .nil pass0 (pa_cons (pv 1) pa_nil)) (pa_cons pe_int (pa_cons pe_int pa_nil)))))
    (pss_cons (ps_for PassesOwn.never rfl (pi_list (pv 7)) (pg_name (i := 9) sc_law.nd rfl (.inl rfl))
      (pss_one (ps_set (i := 8) sc_law.nd rfl (.inl rfl) (pe_op op_cat (pv 8) (pe_lst (pa_cons (pv 9) (pa_cons (pe_op op_mod (pe_callTy call_int1 (by rfl) T.n_int (by decide +kernel) (pa_cons (pe_op op_add (pv 9) pe_int) pa_nil)) pe_int) pa_nil)))))))
    (pss_cons (ps_set (i := 7) sc_law.nd rfl (.inl rfl) (pe_call (ok_law_apart T) (hr.mono (by omega)) rfl T.g_law_apart T.F_law_apart.kp T.b_law_apart .nil pass0 (pa_cons (pv 7) pa_nil)))
    (pss_cons (ps_if (pt_cmpR op_eq (pv 3) pe_int (nomark _)) (pss_one (ps_ret (pe_call (ok_law_refused T) (hr.mono (by omega)) rfl T.g_law_refused T.F_law_refused.kp T.b_law_refused .nil pass0 (pa_cons (pe_callTy list_of (by rfl) T.n_list (by decide +kernel) (pa_cons (pv 7) pa_nil)) pa_nil)))) pss_nil)
    (pss_cons (ps_if (PW.pt (pw_and (pt_cmpR op_lt (pv 3) pe_int (nomark _)) (pw_and1 (pt_cmpR op_gt (pv 2) pe_int (nomark _))))) (pss_cons (ps_set (i := 10) sc_law.nd rfl (.inl rfl) (pe_op op_modN (pe_callTy call_int1 (by rfl) T.n_int (by decide +kernel) (pa_cons (pv 4) pa_nil)) (pv 2)))
    (pss_one (ps_asg (pe_ix ix_list (pv 7) (pe_op op_modN (pe_callTy call_int1 (by rfl) T.n_int (by decide +kernel) (pa_cons (pe_op op_add (pe_op op_add (pv 10) pe_int) (pe_op op_modN (pe_callTy call_int1 (by rfl) T.n_int (by decide +kernel) (pa_cons (pv 5) pa_nil)) (pe_op op_sub (pv 2) pe_int))) pa_nil)) (pv 2)) (fun _ _ => rfl)) (pg_sub (pv 7) (pv 10) set_list)))) pss_nil)
    (pss_cons (ps_if (PW.pt (pw_and (pt_cmpR op_eq (pv 3) pe_int (nomark _)) (pw_and1 (pt_cmpR op_gt (pv 2) pe_int (nomark _))))) (pss_one (ps_asg (pe_ix ix_tup (pe_tup (pa_cons pe_int (pa_cons pe_int (pa_cons (pe_un un_neg pe_int) (pa_cons pe_bl (pa_cons pe_bl (pa_cons pe_non (pa_cons pe_str (pa_cons (pe_tup (pa_cons pe_int pa_nil)) pa_nil))))))))) (pv 5) (fun _ _ => rfl)) (pg_sub (pv 7) (pe_op op_modN (pe_callTy call_int1 (by rfl) T.n_int (by decide +kernel) (pa_cons (pv 4) pa_nil)) (pv 2)) set_list))) pss_nil)
    (pss_cons (ps_if (pt_not (pt_val (pe_call (ok_law_is_good T) (hr.mono (by omega)) rfl T.g_law_is_good T.F_law_is_good.kp T.b_law_is_good .nil pass0 (pa_cons (pv 7) pa_nil)))) (pss_one (ps_ret (pe_call (ok_law_refused T) (hr.mono (by omega)) rfl T.g_law_refused T.F_law_refused.kp T.b_law_refused .nil pass0 (pa_cons (pe_callTy tuple_of (by rfl) T.n_tuple (by decide +kernel) (pa_cons (pv 7) pa_nil)) pa_nil)))) pss_nil)
    (pss_one (ps_ret (pe_call (ok_law_made T) (hr.mono (by omega)) rfl T.g_law_made T.F_law_made.kp T.b_law_made .nil pass0 (pa_cons (pv 7) (pa_cons (pv 8) pa_nil)))))))))))))))))), ?_⟩
    refine ⟨_, rfl, a, ns, rfl, hS, hl, fun H1 c p s1 nc np hs1 => ?_⟩
    refine ⟨_, rfl, c, p, 7, rfl, hs1, by decide, by decide, fun H2 cnt l2 hs2 b2 => ?_⟩
    refine ⟨_, rfl, c, p, 8, rfl, hs2, by decide, by decide, fun H3 way l3 hs3 b3 => ?_⟩
    refine ⟨_, rfl, c, p, 60, rfl, hs3, by decide, by decide, fun H4 place l4 hs4 b4 => ?_⟩
    refine ⟨_, rfl, c, p, 8, rfl, hs4, by decide, by decide, fun H5 spare l5 hs5 b5 => ?_⟩
    refine ⟨_, rfl, (cnt : Int), rfl, by omega, by omega, fun D hD => ?_⟩
    rw [Int.toNat_natCast]
    refine lc_inv (walk_range (lo := 0) (n := cnt)) (fun i v => True) (fun i acc H4 => Src c H4 p ∧ But p H5 H4 ∧ ∃ ws : List Nat, acc = intV ws ∧ ∀ w ∈ ws, w ≤ 65535) (by omega) ⟨src_up hs5 (same_new hD), But.of (same_new hD), [], rfl, by simp⟩ (fun _ _ _ _ => trivial) (fun i H1 v H2 hi y => ⟨y.1, trivial⟩) (fun i v acc H4 hi hl pv e5 _ Q q => ?_) (fun acc H6 hl4 pv e6 => ?_)
    · obtain ⟨hs4, b4, ws, rfl, hw⟩ := pv
      have np := src_ints hs4 e5
      refine ⟨_, rfl, c, p, rfl, hs4, fun H5 w hw5 hs5' b5 => ?_⟩
      refine q _ H5 (b5 _ _ np e5) ⟨src_put hs5' np fun z => src_cne hs5 (z ▸ hD), but_new (b4.trans b5) hD, ws ++ [w], by unfold intV; rw [List.map_append]; rfl, fun x hx => ?_⟩
      rcases List.mem_append.mp hx with z | z
      · exact hw x z
      · have := List.mem_singleton.mp z
        omega
    obtain ⟨hs6, b6, ws, rfl, hw⟩ := pv
    have hn : ws.length = cnt := by unfold intV at hl4; rw [List.length_map] at hl4; exact hl4
    have nD := src_ints hs6 e6
    refine ⟨_, rfl, c, p, rfl, hs6, fun H7 w7 hw7 hs7 b7 => ⟨lenOk (n := 3) rfl (by decide), fun p0 hp0 => ?_⟩⟩
    have e7 := b7 _ _ nD e6
    have ep0 : upd H7 p0 (.lst [V.int (w7 : Int), V.int 0, V.int 65535]) p0 = some (.lst (intV [w7, 0, 65535])) := upd_same
    have s8 := same_new (o := .lst [V.int (w7 : Int), V.int 0, V.int 65535]) hp0
    generalize upd H7 p0 (.lst [V.int (w7 : Int), V.int 0, V.int 65535]) = H8 at ep0 s8 ⊢
    have e8 := s8 _ _ e7
    refine ⟨_, rfl, D, rfl, ⟨_, SqL.of e8⟩, ?_⟩
    have hwlen : (intV ws).length = ws.length := intV_len ws
    refine for_it (walk_list (K := K) (a := D) (xs := intV ws)) (fun i σ Hc => ∃ o9 pr ps, σ = [some (.ref a), some (.ref p), some (.int (cnt : Int)), some (.int (way : Int)), some (.int (place : Int)), some (.int (spare : Int)), none, some (.ref D), some (.ref pr), o9, none] ∧ Same H8 Hc ∧ Hc pr = some (.lst (intV ps)) ∧ ps.length = 3 + 2 * i) ⟨_, p0, _, rfl, Same.refl _, ep0, rfl⟩ (fun i σ Hc _ y => ?_) (fun i x σ Hc Hd hi y e => ?_) (fun σ Hc y => ?_)
    · obtain ⟨_, _, _, _, sm, _⟩ := y
      exact SqL.of (sm _ _ e8)
    · obtain ⟨rfl, e⟩ := e
      obtain ⟨o9, pr, ps, rfl, sm, hpr, hpl⟩ := y
      rw [hwlen] at hi
      have ex : x = .int ((ws[i] : Nat) : Int) := by
        unfold intV at e
        rw [List.getElem?_map, List.getElem?_eq_getElem hi] at e
        exact (Option.some.inj e).symm
      subst ex
      generalize ws[i] = u
      refine ⟨_, rfl, _, rfl, _, rfl, _, _, rfl, rfl, .inl ⟨_, rfl, _, _, rfl, rfl, (by show (0 : Int) < 65536; decide), lenOk (n := 2) rfl (by decide), fun l9 hl9 => ?_⟩⟩
      have n9 : pr ≠ l9 := ne_of_none hpr hl9
      refine ⟨pr, l9, _, _, rfl, rfl, by rw [upd_ne n9]; exact hpr, upd_same, Nat.le_trans (show _ ≤ 1000 by rw [intV_len]; show _ + 2 ≤ _; omega) (by decide), fun l10 hl10 => ?_⟩
      refine ⟨_, l10, ps ++ [u, (u + 1) % 65536], rfl, sm.trans ((same_new hl9).trans (same_new hl10)), upd_same.trans ?_, by rw [List.length_append, hpl]; show _ + 2 = _; omega⟩
      show some (HO.lst (intV ps ++ [V.int (u : Int), V.int (((u : Int) + 1) % 65536)])) = some (HO.lst (intV (ps ++ [u, (u + 1) % 65536])))
      rw [intV_app, show ((u : Int) + 1) % 65536 = (((u + 1) % 65536 : Nat) : Int) by omega]
      rfl
    obtain ⟨o9, pr, ps, rfl, sm, hpr, hpl⟩ := y
    refine ⟨_, rfl, D, ws, rfl, sm _ _ e8, by omega, hw, fun H9 l us s9 n9 el ul hu => ?_⟩
    have hpr9 := s9 _ _ hpr
    have nlp : l ≠ pr := fun z => by rw [z] at n9; rw [n9] at hpr; cases hpr
    have hpl6 : ps.length ≤ 1000 := by rw [hpl, hwlen]; omega
    have hulen : (intV us).length = us.length := intV_len us
    refine ⟨_, rfl, rfl, _, rfl, ifB (fun e7 => ?_) (fun e7 => ?_)⟩
    · refine ⟨_, rfl, l, _, rfl, .inl (SqL.of el), fun m hm => ?_⟩
      have fl := fit_lst (ws := us) (by omega)
      exact ⟨.ref m, lstD us, noS, rfl, fun _ z => z.elim, dx_lst upd_same, .inl ⟨_, rfl⟩, rfl, fl.1, fl.2.1, fl.2.2, fun H' => q H'⟩
    refine ⟨_, rfl, _, _, rfl, rfl, _, rfl, ifB (fun ew => ?_) (fun ew => ?_)⟩
    · have ew := of_decide_eq_true ew
      have w2 : ∀ {A B : Prop}, B → (if decide (V.int (way : Int) = V.int 2) = true then A else B) := fun b => ifF (decide_eq_false fun z => by have := V.int.inj z; omega) b
      refine ⟨_, rfl, _, _, rfl, rfl, _, rfl, ifB (fun ec => ?_) (fun ec => ?_)⟩
      · have ec := of_decide_eq_true ec
        have hcu : us.length = cnt := by omega
        refine ⟨_, rfl, .inl ⟨_, rfl, _, rfl, _, _, rfl, rfl, (by show (cnt : Int) ≠ 0; omega), ?_⟩⟩
        dsimp only
        rw [fmodN (show 0 < cnt by omega)]
        have hat0 : place % cnt < cnt := Nat.mod_lt _ (by omega)
        generalize place % cnt = at' at hat0
        have e1 : (spare : Int).fmod ((cnt : Int) - 1) = ((spare % (cnt - 1) : Nat) : Int) := by
          rw [show (cnt : Int) - 1 = ((cnt - 1 : Nat) : Int) by omega]
          exact fmodN (by omega)
        have hix : ((at' : Int) + 1 + (spare : Int).fmod ((cnt : Int) - 1)).fmod (cnt : Int) = (((at' + 1 + spare % (cnt - 1)) % cnt : Nat) : Int) := by
          rw [e1, show (at' : Int) + 1 + ((spare % (cnt - 1) : Nat) : Int) = ((at' + 1 + spare % (cnt - 1) : Nat) : Int) by omega]
          exact fmodN (by omega)
        have hij : (at' + 1 + spare % (cnt - 1)) % cnt < us.length := by rw [hcu]; exact Nat.mod_lt _ (by omega)
        have hget : atI (intV us) (((at' : Int) + 1 + (spare : Int).fmod ((cnt : Int) - 1)).fmod (cnt : Int)) = some (.int ((us.getD ((at' + 1 + spare % (cnt - 1)) % cnt) 0 : Nat) : Int)) := by
          rw [hix]
          refine atI_nat ?_
          unfold intV
          rw [List.getElem?_map, List.getElem?_eq_getElem hij, List.getD_eq_getElem?_getD, List.getElem?_eq_getElem hij]
          rfl
        refine ⟨_, rfl, _, rfl, _, _, rfl, rfl, _, rfl, .inl ⟨_, rfl, _, rfl, _, _, rfl, rfl, _, _, rfl, rfl, (by show (cnt : Int) - 1 ≠ 0; omega), _, _, rfl, rfl, .inl ⟨_, rfl, _, rfl, _, _, rfl, rfl, (by show (cnt : Int) ≠ 0; omega), l, _, _, _, rfl, rfl, SqL.of el, hget, ?_⟩⟩⟩
        generalize us.getD ((at' + 1 + spare % (cnt - 1)) % cnt) 0 = u
        refine ⟨_, rfl, _, rfl, l, intV us, (at' : Int), at', rfl, rfl, el, ?_, ?_⟩
        · show (if 0 ≤ (at' : Int) then (if (at' : Int) < ((intV us).length : Int) then some ((at' : Int)).toNat else none) else _) = _
          rw [if_pos (by omega), if_pos (by omega)]
          rfl
        refine ⟨_, rfl, rfl, _, rfl, w2 ?_⟩
        have ex : upd H9 l (.lst ((intV us).set at' (V.int (u : Int)))) l = some (.lst (intV (us.set at' u))) := by
          rw [upd_same]
          unfold intV
          rw [List.map_set]
        have epr : upd H9 l (.lst ((intV us).set at' (V.int (u : Int)))) pr = some (.lst (intV ps)) := by
          rw [upd_ne (Ne.symm nlp)]
          exact hpr9
        have hel := el_ints (us.set at' u)
        have hdl : (((us.set at' u).map fun (n : Nat) => (n : Int)).map PyData.int).length ≤ 1000 := by rw [List.length_map, List.length_map, List.length_set]; omega
        generalize upd H9 l (.lst ((intV us).set at' (V.int (u : Int)))) = HF at ex epr ⊢
        have hd : DxAll K HF noS (intV (us.set at' u)) (((us.set at' u).map fun (n : Nat) => (n : Int)).map PyData.int) := by
          rw [intV_ints]
          exact dxAll_ints _
        generalize intV (us.set at' u) = xs at ex hd
        generalize ((us.set at' u).map fun (n : Nat) => (n : Int)).map PyData.int = ds at hd hdl hel
        refine ⟨_, rfl, l, xs, ds, rfl, SqL.of ex, DxAll.dp hd, by omega, fun G sG => ⟨_, rfl, ?_⟩⟩
        refine ifB (fun eg => ?_) (fun eg => ?_)
        · have hbad : goodD (.tuple ds) = false := by
            cases hh : goodD (.tuple ds) with
            | false => rfl
            | true => rw [hh] at eg; cases eg
          have ft := fit_tup hel
          refine ⟨_, rfl, l, _, rfl, .inl ⟨SqL.of (sG _ _ ex), fun t ht => ?_⟩⟩
          refine ⟨.ref t, .tuple ds, noS, rfl, fun _ z => z.elim, .tup (XT.of upd_same fun z => z.elim) (DxAll.up (Out.of (sG.trans (same_new ht))) hd), .inr ⟨_, rfl⟩, hbad, ft.1, ?_, ?_, fun H' => q H'⟩
          · show PyData.depthAll ds + 1 ≤ 2
            have := ft.2.1
            omega
          · show (decide (ds.length ≤ 100000) && wdA ds) = true
            rw [ft.2.2, decide_eq_true (by omega)]
            rfl
        · have hgood : goodD (.tuple ds) = true := by
            cases hh : goodD (.tuple ds) with
            | true => rfl
            | false => rw [hh] at eg; cases eg
          obtain ⟨us', rfl, hgw⟩ := good_ints (DxAll.dp hd) hgood
          exact ⟨_, rfl, _, rfl, l, pr, us', ps, rfl, sG _ _ ex, sG _ _ epr, hgw, hpl6, fun H' _ => q H'⟩
      · refine ⟨_, rfl, rfl, _, rfl, w2 ?_⟩
        have ex := el
        have hd : DxAll K H9 noS (intV us) ((us.map fun (n : Nat) => (n : Int)).map PyData.int) := by
          rw [intV_ints]
          exact dxAll_ints _
        have hdl : ((us.map fun (n : Nat) => (n : Int)).map PyData.int).length ≤ 1000 := by rw [List.length_map, List.length_map]; omega
        have hel := el_ints us
        have epr := hpr9
        generalize intV us = xs at ex hd
        generalize (us.map fun (n : Nat) => (n : Int)).map PyData.int = ds at hd hdl hel
        refine ⟨_, rfl, l, xs, ds, rfl, SqL.of ex, DxAll.dp hd, by omega, fun G sG => ⟨_, rfl, ?_⟩⟩
        refine ifB (fun eg => ?_) (fun eg => ?_)
        · have hbad : goodD (.tuple ds) = false := by
            cases hh : goodD (.tuple ds) with
            | false => rfl
            | true => rw [hh] at eg; cases eg
          have ft := fit_tup hel
          refine ⟨_, rfl, l, _, rfl, .inl ⟨SqL.of (sG _ _ ex), fun t ht => ?_⟩⟩
          refine ⟨.ref t, .tuple ds, noS, rfl, fun _ z => z.elim, .tup (XT.of upd_same fun z => z.elim) (DxAll.up (Out.of (sG.trans (same_new ht))) hd), .inr ⟨_, rfl⟩, hbad, ft.1, ?_, ?_, fun H' => q H'⟩
          · show PyData.depthAll ds + 1 ≤ 2
            have := ft.2.1
            omega
          · show (decide (ds.length ≤ 100000) && wdA ds) = true
            rw [ft.2.2, decide_eq_true (by omega)]
            rfl
        · have hgood : goodD (.tuple ds) = true := by
            cases hh : goodD (.tuple ds) with
            | true => rfl
            | false => rw [hh] at eg; cases eg
          obtain ⟨us', rfl, hgw⟩ := good_ints (DxAll.dp hd) hgood
          exact ⟨_, rfl, _, rfl, l, pr, us', ps, rfl, sG _ _ ex, sG _ _ epr, hgw, hpl6, fun H' _ => q H'⟩
    · refine ⟨_, rfl, rfl, _, rfl, ifB (fun e2 => ?_) (fun e2 => ?_)⟩
      · refine ⟨_, rfl, _, _, rfl, rfl, _, rfl, ifB (fun ec => ?_) (fun ec => ?_)⟩
        · have ec := of_decide_eq_true ec
          have hcu : us.length = cnt := by omega
          refine ⟨_, rfl, lenOk (n := 1) rfl (by decide), fun q1 hq1 => ⟨lenOk (n := 8) rfl (by decide), fun q2 hq2 => ?_⟩⟩
          have t1 := same_new (o := .tup [V.int 1]) hq1
          have et1 : upd H9 q1 (.tup [V.int 1]) q1 = some (.tup (intV [1])) := upd_same
          have el1 := t1 _ _ el
          have epr1 := t1 _ _ hpr9
          generalize upd H9 q1 (.tup [V.int 1]) = HA at t1 et1 el1 epr1 hq2 ⊢
          have t2 := same_new (o := .tup [V.int 65536, V.int 65537, V.int (-1), V.bl true, V.bl false, V.non, V.str (Str.ofString "a"), V.ref q1]) hq2
          have et2 : upd HA q2 (.tup [V.int 65536, V.int 65537, V.int (-1), V.bl true, V.bl false, V.non, V.str (Str.ofString "a"), V.ref q1]) q2 = some (.tup [V.int 65536, V.int 65537, V.int (-1), V.bl true, V.bl false, V.non, V.str (Str.ofString "a"), V.ref q1]) := upd_same
          have et1' := t2 _ _ et1
          have el2 := t2 _ _ el1
          have epr2 := t2 _ _ epr1
          generalize upd HA q2 (.tup [V.int 65536, V.int 65537, V.int (-1), V.bl true, V.bl false, V.non, V.str (Str.ofString "a"), V.ref q1]) = HB at et1' el2 epr2 et2 ⊢
          obtain ⟨v, d, hat, hdv, hdf⟩ : ∃ (v : V) (d : PyData), atI [V.int 65536, V.int 65537, V.int (-1), V.bl true, V.bl false, V.non, V.str (Str.ofString "a"), V.ref q1] (spare : Int) = some v ∧ (∀ {Hz : Hp}, Hz q1 = some (.tup (intV [1])) → Dx K Hz noS v d) ∧ (d.canLay0 = true ∧ d.depth ≤ 1 ∧ wdB d = true) := by
            match spare, l5 with
            | 0, _ => exact ⟨_, .int 65536, rfl, fun _ => .int _, rfl, by decide, rfl⟩
            | 1, _ => exact ⟨_, .int 65537, rfl, fun _ => .int _, rfl, by decide, rfl⟩
            | 2, _ => exact ⟨_, .int (-1), rfl, fun _ => .int _, rfl, by decide, rfl⟩
            | 3, _ => exact ⟨_, .bool true, rfl, fun _ => .bl _, rfl, by decide, rfl⟩
            | 4, _ => exact ⟨_, .bool false, rfl, fun _ => .bl _, rfl, by decide, rfl⟩
            | 5, _ => exact ⟨_, .none, rfl, fun _ => .non, rfl, by decide, rfl⟩
            | 6, _ => exact ⟨_, .str (Str.ofString "a"), rfl, fun _ => .str _, by decide +kernel, Nat.zero_le _, rfl⟩
            | 7, _ => exact ⟨_, intsD [1], rfl, fun h => mk_ints h fun z => z.elim, lay_intsD _, dep_intsD _, wd_intsD (by decide)⟩
            | n + 8, h => exact absurd h (by omega)
          refine ⟨_, rfl, q2, _, _, _, rfl, rfl, SqT.of et2, hat, _, rfl, _, rfl, .inl ⟨_, rfl, _, rfl, _, _, rfl, rfl, (by show (cnt : Int) ≠ 0; omega), ?_⟩⟩
          dsimp only
          rw [fmodN (show 0 < cnt by omega)]
          have hat0 : place % cnt < cnt := Nat.mod_lt _ (by omega)
          generalize place % cnt = at' at hat0
          refine ⟨l, intV us, (at' : Int), at', rfl, rfl, el2, ?_, ?_⟩
          · show (if 0 ≤ (at' : Int) then (if (at' : Int) < ((intV us).length : Int) then some ((at' : Int)).toNat else none) else _) = _
            rw [if_pos (by omega), if_pos (by omega)]
            rfl
          have nlq : q1 ≠ l := fun z => by rw [z, el2] at et1'; cases et1'
          have ex : upd HB l (.lst ((intV us).set at' v)) l = some (.lst ((intV us).set at' v)) := upd_same
          have epr : upd HB l (.lst ((intV us).set at' v)) pr = some (.lst (intV ps)) := by
            rw [upd_ne (Ne.symm nlp)]
            exact epr2
          have eq1 : upd HB l (.lst ((intV us).set at' v)) q1 = some (.tup (intV [1])) := by
            rw [upd_ne nlq]
            exact et1'
          generalize upd HB l (.lst ((intV us).set at' v)) = HF at ex epr eq1 ⊢
          have hd : DxAll K HF noS ((intV us).set at' v) (((us.map fun (n : Nat) => (n : Int)).map PyData.int).set at' d) := by
            rw [intV_ints]
            exact dxAll_set at' (dxAll_ints _) (hdv eq1)
          have hdl : (((us.map fun (n : Nat) => (n : Int)).map PyData.int).set at' d).length ≤ 1000 := by rw [List.length_set, List.length_map, List.length_map]; omega
          have hel : ∀ x ∈ ((us.map fun (n : Nat) => (n : Int)).map PyData.int).set at' d, x.canLay0 = true ∧ x.depth ≤ 1 ∧ wdB x = true := fun x hx => by
            rcases List.mem_or_eq_of_mem_set hx with z | z
            · exact el_ints us x z
            · rw [z]
              exact hdf
          generalize (intV us).set at' v = xs at ex hd
          generalize ((us.map fun (n : Nat) => (n : Int)).map PyData.int).set at' d = ds at hd hdl hel
          refine ⟨_, rfl, l, xs, ds, rfl, SqL.of ex, DxAll.dp hd, by omega, fun G sG => ⟨_, rfl, ?_⟩⟩
          refine ifB (fun eg => ?_) (fun eg => ?_)
          · have hbad : goodD (.tuple ds) = false := by
              cases hh : goodD (.tuple ds) with
              | false => rfl
              | true => rw [hh] at eg; cases eg
            have ft := fit_tup hel
            refine ⟨_, rfl, l, _, rfl, .inl ⟨SqL.of (sG _ _ ex), fun t ht => ?_⟩⟩
            refine ⟨.ref t, .tuple ds, noS, rfl, fun _ z => z.elim, .tup (XT.of upd_same fun z => z.elim) (DxAll.up (Out.of (sG.trans (same_new ht))) hd), .inr ⟨_, rfl⟩, hbad, ft.1, ?_, ?_, fun H' => q H'⟩
            · show PyData.depthAll ds + 1 ≤ 2
              have := ft.2.1
              omega
            · show (decide (ds.length ≤ 100000) && wdA ds) = true
              rw [ft.2.2, decide_eq_true (by omega)]
              rfl
          · have hgood : goodD (.tuple ds) = true := by
              cases hh : goodD (.tuple ds) with
              | true => rfl
              | false => rw [hh] at eg; cases eg
            obtain ⟨us', rfl, hgw⟩ := good_ints (DxAll.dp hd) hgood
            exact ⟨_, rfl, _, rfl, l, pr, us', ps, rfl, sG _ _ ex, sG _ _ epr, hgw, hpl6, fun H' _ => q H'⟩
        · skip
          have ex := el
          have hd : DxAll K H9 noS (intV us) ((us.map fun (n : Nat) => (n : Int)).map PyData.int) := by
            rw [intV_ints]
            exact dxAll_ints _
          have hdl : ((us.map fun (n : Nat) => (n : Int)).map PyData.int).length ≤ 1000 := by rw [List.length_map, List.length_map]; omega
          have hel := el_ints us
          have epr := hpr9
          generalize intV us = xs at ex hd
          generalize (us.map fun (n : Nat) => (n : Int)).map PyData.int = ds at hd hdl hel
          refine ⟨_, rfl, l, xs, ds, rfl, SqL.of ex, DxAll.dp hd, by omega, fun G sG => ⟨_, rfl, ?_⟩⟩
          refine ifB (fun eg => ?_) (fun eg => ?_)
          · have hbad : goodD (.tuple ds) = false := by
              cases hh : goodD (.tuple ds) with
              | false => rfl
              | true => rw [hh] at eg; cases eg
            have ft := fit_tup hel
            refine ⟨_, rfl, l, _, rfl, .inl ⟨SqL.of (sG _ _ ex), fun t ht => ?_⟩⟩
            refine ⟨.ref t, .tuple ds, noS, rfl, fun _ z => z.elim, .tup (XT.of upd_same fun z => z.elim) (DxAll.up (Out.of (sG.trans (same_new ht))) hd), .inr ⟨_, rfl⟩, hbad, ft.1, ?_, ?_, fun H' => q H'⟩
            · show PyData.depthAll ds + 1 ≤ 2
              have := ft.2.1
              omega
            · show (decide (ds.length ≤ 100000) && wdA ds) = true
              rw [ft.2.2, decide_eq_true (by omega)]
              rfl
          · have hgood : goodD (.tuple ds) = true := by
              cases hh : goodD (.tuple ds) with
              | true => rfl
              | false => rw [hh] at eg; cases eg
            obtain ⟨us', rfl, hgw⟩ := good_ints (DxAll.dp hd) hgood
            exact ⟨_, rfl, _, rfl, l, pr, us', ps, rfl, sG _ _ ex, sG _ _ epr, hgw, hpl6, fun H' _ => q H'⟩
      · skip
        have ex := el
        have hd : DxAll K H9 noS (intV us) ((us.map fun (n : Nat) => (n : Int)).map PyData.int) := by
          rw [intV_ints]
          exact dxAll_ints _
        have hdl : ((us.map fun (n : Nat) => (n : Int)).map PyData.int).length ≤ 1000 := by rw [List.length_map, List.length_map]; omega
        have hel := el_ints us
        have epr := hpr9
        generalize intV us = xs at ex hd
        generalize (us.map fun (n : Nat) => (n : Int)).map PyData.int = ds at hd hdl hel
        refine ⟨_, rfl, l, xs, ds, rfl, SqL.of ex, DxAll.dp hd, by omega, fun G sG => ⟨_, rfl, ?_⟩⟩
        refine ifB (fun eg => ?_) (fun eg => ?_)
        · have hbad : goodD (.tuple ds) = false := by
            cases hh : goodD (.tuple ds) with
            | false => rfl
            | true => rw [hh] at eg; cases eg
          have ft := fit_tup hel
          refine ⟨_, rfl, l, _, rfl, .inl ⟨SqL.of (sG _ _ ex), fun t ht => ?_⟩⟩
          refine ⟨.ref t, .tuple ds, noS, rfl, fun _ z => z.elim, .tup (XT.of upd_same fun z => z.elim) (DxAll.up (Out.of (sG.trans (same_new ht))) hd), .inr ⟨_, rfl⟩, hbad, ft.1, ?_, ?_, fun H' => q H'⟩
          · show PyData.depthAll ds + 1 ≤ 2
            have := ft.2.1
            omega
          · show (decide (ds.length ≤ 100000) && wdA ds) = true
            rw [ft.2.2, decide_eq_true (by omega)]
            rfl
        · have hgood : goodD (.tuple ds) = true := by
            cases hh : goodD (.tuple ds) with
            | true => rfl
            | false => rw [hh] at eg; cases eg
          obtain ⟨us', rfl, hgw⟩ := good_ints (DxAll.dp hd) hgood
          exact ⟨_, rfl, _, rfl, l, pr, us', ps, rfl, sG _ _ ex, sG _ _ epr, hgw, hpl6, fun H' _ => q H'⟩
end
/-! ### what the top has left; the end -/
theorem all_mk {l : PySem.W.OpenLaw} {w : World} {K : PySem.W.Frag} {h : Heap} {mg : Str → Option Value} {fa f1 f2 f3 f4 f5 f6 f7 f8 f9 f10 f11 f12 f13 f14 f15 f16 f17 f18 f19 f20 f21 f22 C_BadAlphabet C_RomError C_BadWord C_TooMany C_Alphabet : Addr} (X : K.In h) (G : h.Ns mainGlobals mg) (hfa : mg "law" = some (.ref fa))
    {od1 an1 od2 an2 od3 an3 od4 an4 od5 an5 od6 an6 od7 an7 od8 an8 od9 an9 od10 an10 od11 an11 od12 an12 od13 an13 od14 an14 od15 an15 od16 an16 od17 an17 od18 an18 od19 an19 od20 an20 od21 an21 od22 an22 : Option Addr} {sl1 sl2 sl3 sl4 sl5 sl6 sl7 sl8 sl9 sl10 sl11 sl12 sl13 sl14 sl15 sl16 sl17 sl18 sl19 sl20 sl21 sl22 : Array (Option Value)} {oc1 kV1 dc1 pm1 cd1 ct1 oc2 kV2 dc2 pm2 cd2 ct2 oc3 kV3 dc3 pm3 cd3 ct3 oc4 kV4 dc4 pm4 cd4 ct4 oc5 kV5 dc5 pm5 cd5 ct5 oc6 kV6 dc6 pm6 cd6 ct6 oc7 kV7 dc7 pm7 cd7 ct7 oc8 kV8 dc8 pm8 cd8 ct8 oc9 kV9 dc9 pm9 cd9 ct9 oc10 kV10 dc10 pm10 cd10 ct10 oc11 kV11 dc11 pm11 cd11 ct11 oc12 kV12 dc12 pm12 cd12 ct12 oc13 kV13 dc13 pm13 cd13 ct13 oc14 kV14 dc14 pm14 cd14 ct14 oc15 kV15 dc15 pm15 cd15 ct15 oc16 kV16 dc16 pm16 cd16 ct16 oc17 kV17 dc17 pm17 cd17 ct17 oc18 kV18 dc18 pm18 cd18 ct18 oc19 kV19 dc19 pm19 cd19 ct19 oc20 kV20 dc20 pm20 cd20 ct20 oc21 kV21 dc21 pm21 cd21 ct21 oc22 kV22 dc22 pm22 cd22 ct22 : Value}
    {nm_BadAlphabet qq_BadAlphabet : Str} {N_BadAlphabet : Addr} {bs_BadAlphabet bm_BadAlphabet : List Value} {sn_BadAlphabet : List Str} {sub_BadAlphabet : List Value} {ab_BadAlphabet : Bool} {col_BadAlphabet : Option Bool} {dd_BadAlphabet : Option Addr} {m0_BadAlphabet m1_BadAlphabet m2_BadAlphabet m3_BadAlphabet m5_BadAlphabet : Option Value}
    (a1 : PySem.W.nsIn K mainGlobals "is_between" = some (some (.ref f1)))
    (l1 : K.lookup f1 = some ⟨oc1, od1, .func (PySem.W.fnOf "is_between" "is_between" (defArgs s_is_between) (defBody s_is_between) (defScope s_is_between) .none kV1 dc1 pm1 an1 cd1 ct1), sl1⟩)
    (c1 : PySem.W.codeIn K cd1 "is_between" = true)
    (k1 : PySem.W.keepIn K (.ref f1) = true)
    (a2 : PySem.W.nsIn K mainGlobals "is_word" = some (some (.ref f2)))
    (l2 : K.lookup f2 = some ⟨oc2, od2, .func (PySem.W.fnOf "is_word" "is_word" (defArgs s_is_word) (defBody s_is_word) (defScope s_is_word) .none kV2 dc2 pm2 an2 cd2 ct2), sl2⟩)
    (c2 : PySem.W.codeIn K cd2 "is_word" = true)
    (k2 : PySem.W.keepIn K (.ref f2) = true)
    (a3 : PySem.W.nsIn K mainGlobals "tuples_of" = some (some (.ref f3)))
    (l3 : K.lookup f3 = some ⟨oc3, od3, .func (PySem.W.fnOf "tuples_of" "tuples_of" (defArgs s_tuples_of) (defBody s_tuples_of) (defScope s_tuples_of) .none kV3 dc3 pm3 an3 cd3 ct3), sl3⟩)
    (c3 : PySem.W.codeIn K cd3 "tuples_of" = true)
    (k3 : PySem.W.keepIn K (.ref f3) = true)
    (a4 : PySem.W.nsIn K mainGlobals "_law_source" = some (some (.ref f4)))
    (l4 : K.lookup f4 = some ⟨oc4, od4, .func (PySem.W.fnOf "_law_source" "_law_source" (defArgs s_law_source) (defBody s_law_source) (defScope s_law_source) .none kV4 dc4 pm4 an4 cd4 ct4), sl4⟩)
    (c4 : PySem.W.codeIn K cd4 "_law_source" = true)
    (k4 : PySem.W.keepIn K (.ref f4) = true)
    (a5 : PySem.W.nsIn K mainGlobals "_law_draw" = some (some (.ref f5)))
    (l5 : K.lookup f5 = some ⟨oc5, od5, .func (PySem.W.fnOf "_law_draw" "_law_draw" (defArgs s_law_draw) (defBody s_law_draw) (defScope s_law_draw) .none kV5 dc5 pm5 an5 cd5 ct5), sl5⟩)
    (c5 : PySem.W.codeIn K cd5 "_law_draw" = true)
    (k5 : PySem.W.keepIn K (.ref f5) = true)
    (a6 : PySem.W.nsIn K mainGlobals "_law_word" = some (some (.ref f6)))
    (l6 : K.lookup f6 = some ⟨oc6, od6, .func (PySem.W.fnOf "_law_word" "_law_word" (defArgs s_law_word) (defBody s_law_word) (defScope s_law_word) .none kV6 dc6 pm6 an6 cd6 ct6), sl6⟩)
    (c6 : PySem.W.codeIn K cd6 "_law_word" = true)
    (k6 : PySem.W.keepIn K (.ref f6) = true)
    (a7 : PySem.W.nsIn K mainGlobals "_law_is_number" = some (some (.ref f7)))
    (l7 : K.lookup f7 = some ⟨oc7, od7, .func (PySem.W.fnOf "_law_is_number" "_law_is_number" (defArgs s_law_is_number) (defBody s_law_is_number) (defScope s_law_is_number) .none kV7 dc7 pm7 an7 cd7 ct7), sl7⟩)
    (c7 : PySem.W.codeIn K cd7 "_law_is_number" = true)
    (k7 : PySem.W.keepIn K (.ref f7) = true)
    (a8 : PySem.W.nsIn K mainGlobals "_law_plain" = some (some (.ref f8)))
    (l8 : K.lookup f8 = some ⟨oc8, od8, .func (PySem.W.fnOf "_law_plain" "_law_plain" (defArgs s_law_plain) (defBody s_law_plain) (defScope s_law_plain) .none kV8 dc8 pm8 an8 cd8 ct8), sl8⟩)
    (c8 : PySem.W.codeIn K cd8 "_law_plain" = true)
    (k8 : PySem.W.keepIn K (.ref f8) = true)
    (a9 : PySem.W.nsIn K mainGlobals "_law_is_good" = some (some (.ref f9)))
    (l9 : K.lookup f9 = some ⟨oc9, od9, .func (PySem.W.fnOf "_law_is_good" "_law_is_good" (defArgs s_law_is_good) (defBody s_law_is_good) (defScope s_law_is_good) .none kV9 dc9 pm9 an9 cd9 ct9), sl9⟩)
    (c9 : PySem.W.codeIn K cd9 "_law_is_good" = true)
    (k9 : PySem.W.keepIn K (.ref f9) = true)
    (a10 : PySem.W.nsIn K mainGlobals "_law_rows" = some (some (.ref f10)))
    (l10 : K.lookup f10 = some ⟨oc10, od10, .func (PySem.W.fnOf "_law_rows" "_law_rows" (defArgs s_law_rows) (defBody s_law_rows) (defScope s_law_rows) .none kV10 dc10 pm10 an10 cd10 ct10), sl10⟩)
    (c10 : PySem.W.codeIn K cd10 "_law_rows" = true)
    (k10 : PySem.W.keepIn K (.ref f10) = true)
    (a11 : PySem.W.nsIn K mainGlobals "_law_apart" = some (some (.ref f11)))
    (l11 : K.lookup f11 = some ⟨oc11, od11, .func (PySem.W.fnOf "_law_apart" "_law_apart" (defArgs s_law_apart) (defBody s_law_apart) (defScope s_law_apart) .none kV11 dc11 pm11 an11 cd11 ct11), sl11⟩)
    (c11 : PySem.W.codeIn K cd11 "_law_apart" = true)
    (k11 : PySem.W.keepIn K (.ref f11) = true)
    (a12 : PySem.W.nsIn K mainGlobals "_law_refused" = some (some (.ref f12)))
    (l12 : K.lookup f12 = some ⟨oc12, od12, .func (PySem.W.fnOf "_law_refused" "_law_refused" (defArgs s_law_refused) (defBody s_law_refused) (defScope s_law_refused) .none kV12 dc12 pm12 an12 cd12 ct12), sl12⟩)
    (c12 : PySem.W.codeIn K cd12 "_law_refused" = true)
    (k12 : PySem.W.keepIn K (.ref f12) = true)
    (a13 : PySem.W.nsIn K mainGlobals "_law_tells" = some (some (.ref f13)))
    (l13 : K.lookup f13 = some ⟨oc13, od13, .func (PySem.W.fnOf "_law_tells" "_law_tells" (defArgs s_law_tells) (defBody s_law_tells) (defScope s_law_tells) .none kV13 dc13 pm13 an13 cd13 ct13), sl13⟩)
    (c13 : PySem.W.codeIn K cd13 "_law_tells" = true)
    (k13 : PySem.W.keepIn K (.ref f13) = true)
    (a14 : PySem.W.nsIn K mainGlobals "_law_made" = some (some (.ref f14)))
    (l14 : K.lookup f14 = some ⟨oc14, od14, .func (PySem.W.fnOf "_law_made" "_law_made" (defArgs s_law_made) (defBody s_law_made) (defScope s_law_made) .none kV14 dc14 pm14 an14 cd14 ct14), sl14⟩)
    (c14 : PySem.W.codeIn K cd14 "_law_made" = true)
    (k14 : PySem.W.keepIn K (.ref f14) = true)
    (a15 : PySem.W.nsIn K mainGlobals "law" = some (some (.ref f15)))
    (l15 : K.lookup f15 = some ⟨oc15, od15, .func (PySem.W.fnOf "law" "law" (defArgs s_law) (defBody s_law) (defScope s_law) .none kV15 dc15 pm15 an15 cd15 ct15), sl15⟩)
    (c15 : PySem.W.codeIn K cd15 "law" = true)
    (k15 : PySem.W.keepIn K (.ref f15) = true)
    (l16 : K.lookup f16 = some ⟨oc16, od16, .func (PySem.W.fnOf "__init__" "BadAlphabet.__init__" (defArgs s_BadAlphabet_init) (defBody s_BadAlphabet_init) (defScope s_BadAlphabet_init) .none kV16 dc16 pm16 an16 cd16 ct16), sl16⟩)
    (c16 : PySem.W.codeIn K cd16 "BadAlphabet.__init__" = true)
    (k16 : PySem.W.keepIn K (.ref f16) = true)
    (l17 : K.lookup f17 = some ⟨oc17, od17, .func (PySem.W.fnOf "__init__" "Alphabet.__init__" (defArgs s_Alphabet_init) (defBody s_Alphabet_init) (defScope s_Alphabet_init) .none kV17 dc17 pm17 an17 cd17 ct17), sl17⟩)
    (c17 : PySem.W.codeIn K cd17 "Alphabet.__init__" = true)
    (k17 : PySem.W.keepIn K (.ref f17) = true)
    (l18 : K.lookup f18 = some ⟨oc18, od18, .func (PySem.W.fnOf "__iter__" "Alphabet.__iter__" (defArgs s_Alphabet_iter) (defBody s_Alphabet_iter) (defScope s_Alphabet_iter) .none kV18 dc18 pm18 an18 cd18 ct18), sl18⟩)
    (c18 : PySem.W.codeIn K cd18 "Alphabet.__iter__" = true)
    (k18 : PySem.W.keepIn K (.ref f18) = true)
    (l19 : K.lookup f19 = some ⟨oc19, od19, .func (PySem.W.fnOf "__contains__" "Alphabet.__contains__" (defArgs s_Alphabet_contains) (defBody s_Alphabet_contains) (defScope s_Alphabet_contains) .none kV19 dc19 pm19 an19 cd19 ct19), sl19⟩)
    (c19 : PySem.W.codeIn K cd19 "Alphabet.__contains__" = true)
    (k19 : PySem.W.keepIn K (.ref f19) = true)
    (l20 : K.lookup f20 = some ⟨oc20, od20, .func (PySem.W.fnOf "__len__" "Alphabet.__len__" (defArgs s_Alphabet_len) (defBody s_Alphabet_len) (defScope s_Alphabet_len) .none kV20 dc20 pm20 an20 cd20 ct20), sl20⟩)
    (c20 : PySem.W.codeIn K cd20 "Alphabet.__len__" = true)
    (k20 : PySem.W.keepIn K (.ref f20) = true)
    (l21 : K.lookup f21 = some ⟨oc21, od21, .func (PySem.W.fnOf "__call__" "Alphabet.__call__" (defArgs s_Alphabet_call) (defBody s_Alphabet_call) (defScope s_Alphabet_call) .none kV21 dc21 pm21 an21 cd21 ct21), sl21⟩)
    (c21 : PySem.W.codeIn K cd21 "Alphabet.__call__" = true)
    (k21 : PySem.W.keepIn K (.ref f21) = true)
    (l22 : K.lookup f22 = some ⟨oc22, od22, .func (PySem.W.fnOf "__eq__" "Alphabet.__eq__" (defArgs s_Alphabet_eq) (defBody s_Alphabet_eq) (defScope s_Alphabet_eq) .none kV22 dc22 pm22 an22 cd22 ct22), sl22⟩)
    (c22 : PySem.W.codeIn K cd22 "Alphabet.__eq__" = true)
    (k22 : PySem.W.keepIn K (.ref f22) = true)
    (gc_BadAlphabet : PySem.W.nsIn K mainGlobals "BadAlphabet" = some (some (.ref C_BadAlphabet)))
    (xl_BadAlphabet : K.lookup C_BadAlphabet = some (excClassObj nm_BadAlphabet qq_BadAlphabet C_BadAlphabet N_BadAlphabet bs_BadAlphabet bm_BadAlphabet true sn_BadAlphabet sub_BadAlphabet ab_BadAlphabet col_BadAlphabet dd_BadAlphabet m0_BadAlphabet m1_BadAlphabet m2_BadAlphabet m3_BadAlphabet m5_BadAlphabet "ValueError.__new__"))
    (vb_BadAlphabet : PySem.HandSPX.refsVE bm_BadAlphabet = true)
    (sa_BadAlphabet : PySem.W.findIn K (.ref C_BadAlphabet) "__setattr__" = some (some (.builtin "object.__setattr__")))
    (ec_BadAlphabet : PySem.W.subIn K (.ref C_BadAlphabet) (.type "BaseException") = some true)
    (tc_BadAlphabet : PySem.W.typeIn K (.ref C_BadAlphabet) = some (.type "type"))
    (kc_BadAlphabet : PySem.W.keepIn K (.ref C_BadAlphabet) = true)
    (no_BadAlphabet : PySem.W.findIn K (.ref C_BadAlphabet) "words" = some none)
    (ic_BadAlphabet : PySem.W.findIn K (.ref C_BadAlphabet) "__init__" = some (some (.ref f16)))
    (ti_BadAlphabet : PySem.W.typeIn K (.ref f16) = some (.type "function"))
    (ga_BadAlphabet : PySem.W.findIn K (.ref C_BadAlphabet) "__getattribute__" = some (some (.builtin "BaseException.__getattribute__")))
    (gg_BadAlphabet : PySem.W.findIn K (.ref C_BadAlphabet) "__getattr__" = some none)
    (hd_BadAlphabet : PySem.W.hasDictIn K C_BadAlphabet = true)
    (ha_BadAlphabet : PySem.W.findIn K (.ref C_BadAlphabet) "__class__" = some (some (.builtin "object.__class__")))
    (hm_BadAlphabet : PySem.W.mroIn K C_BadAlphabet (.type "object") = some true)
    (ss_BadAlphabet : PySem.W.subIn K (.ref C_BadAlphabet) (.ref C_BadAlphabet) = some true)
    (hn0 : PySem.W.specialIn K (.builtin "object.__class__") "__get__" = some (some (.builtin "getset_descriptor.__get__")))
    (ht0 : PySem.W.takesIn K (.builtin "object.__class__") = some true)
    (gc_RomError : PySem.W.nsIn K mainGlobals "RomError" = some (some (.ref C_RomError)))
    (gc_BadWord : PySem.W.nsIn K mainGlobals "BadWord" = some (some (.ref C_BadWord)))
    (gc_TooMany : PySem.W.nsIn K mainGlobals "TooMany" = some (some (.ref C_TooMany)))
    (gc_Alphabet : PySem.W.nsIn K mainGlobals "Alphabet" = some (some (.ref C_Alphabet)))
    (ic_Alphabet_init : PySem.W.findIn K (.ref C_Alphabet) "__init__" = some (some (.ref f17)))
    (fn_Alphabet_init : PySem.W.isFn K (.ref f17) = true)
    (mk_Alphabet : PySem.W.makesIn K C_Alphabet = true)
    (kp_Alphabet : PySem.W.keepIn K (.ref C_Alphabet) = true)
    (ic_Alphabet_iter : PySem.W.findIn K (.ref C_Alphabet) "__iter__" = some (some (.ref f18)))
    (fn_Alphabet_iter : PySem.W.isFn K (.ref f18) = true)
    (ic_Alphabet_contains : PySem.W.findIn K (.ref C_Alphabet) "__contains__" = some (some (.ref f19)))
    (fn_Alphabet_contains : PySem.W.isFn K (.ref f19) = true)
    (ic_Alphabet_len : PySem.W.findIn K (.ref C_Alphabet) "__len__" = some (some (.ref f20)))
    (fn_Alphabet_len : PySem.W.isFn K (.ref f20) = true)
    (ic_Alphabet_call : PySem.W.findIn K (.ref C_Alphabet) "__call__" = some (some (.ref f21)))
    (fn_Alphabet_call : PySem.W.isFn K (.ref f21) = true)
    (fi_Alphabet_call : PySem.W.fnIn K f21 = true)
    (ic_Alphabet_eq : PySem.W.findIn K (.ref C_Alphabet) "__eq__" = some (some (.ref f22)))
    (fn_Alphabet_eq : PySem.W.isFn K (.ref f22) = true)
    (pg_Alphabet : PySem.W.plainGet K C_Alphabet Str.empty = true)
    (hd_Alphabet : PySem.W.hasDictIn K C_Alphabet = true)
    (po_Alphabet : PySem.W.plainOver K C_Alphabet = true)
    (sa_Alphabet : PySem.W.findIn K (.ref C_Alphabet) "__setattr__" = some (some (.builtin "object.__setattr__")))
    (na_Alphabet_words : PySem.W.findIn K (.ref C_Alphabet) "words" = some none)
    (ha_Alphabet : PySem.W.findIn K (.ref C_Alphabet) "__class__" = some (some (.builtin "object.__class__")))
    (hm_Alphabet : PySem.W.mroIn K C_Alphabet (.type "object") = some true)
    (ki_BadAlphabet_RomError : PySem.W.kitOne K (.ref C_BadAlphabet) (.ref C_RomError) = some true)
    (ki_BadAlphabet_ValueError : PySem.W.kitOne K (.ref C_BadAlphabet) (.type "ValueError") = some true)
    (ki_BadAlphabet_BadWord : PySem.W.kitOne K (.ref C_BadAlphabet) (.ref C_BadWord) = some false)
    (ki_BadAlphabet_TooMany : PySem.W.kitOne K (.ref C_BadAlphabet) (.ref C_TooMany) = some false)
    (ki_Alphabet_Alphabet : PySem.W.kitOne K (.ref C_Alphabet) (.ref C_Alphabet) = some true)
    (z_ValueError : PySem.W.nsIn K mainGlobals "ValueError" = some none)
    (z_abs : PySem.W.nsIn K mainGlobals "abs" = some none)
    (z_all : PySem.W.nsIn K mainGlobals "all" = some none)
    (z_bool : PySem.W.nsIn K mainGlobals "bool" = some none)
    (z_int : PySem.W.nsIn K mainGlobals "int" = some none)
    (z_isinstance : PySem.W.nsIn K mainGlobals "isinstance" = some none)
    (z_iter : PySem.W.nsIn K mainGlobals "iter" = some none)
    (z_len : PySem.W.nsIn K mainGlobals "len" = some none)
    (z_list : PySem.W.nsIn K mainGlobals "list" = some none)
    (z_max : PySem.W.nsIn K mainGlobals "max" = some none)
    (z_range : PySem.W.nsIn K mainGlobals "range" = some none)
    (z_set : PySem.W.nsIn K mainGlobals "set" = some none)
    (z_tuple : PySem.W.nsIn K mainGlobals "tuple" = some none) :
    ∃ fd : FuncData, (∀ (s : Shared) (v : Value), BindsTo s fd ⟨[v], []⟩ [("_law_script", v)]) ∧ ∀ base : Heap, K.In base → base.Ns mainGlobals mg → FnOk l.prog w K mg base CX0 9 fa fd ["_law_script"] (spLaw K) := by
  have e : f15 = fa := Value.ref.inj (Option.some.inj ((PySem.W.mg_of X G a15).symm.trans hfa))
  subst e
  have T : Txt K mg ⟨f1, (PySem.W.fnOf "is_between" "is_between" (defArgs s_is_between) (defBody s_is_between) (defScope s_is_between) .none kV1 dc1 pm1 an1 cd1 ct1), f2, (PySem.W.fnOf "is_word" "is_word" (defArgs s_is_word) (defBody s_is_word) (defScope s_is_word) .none kV2 dc2 pm2 an2 cd2 ct2), f3, (PySem.W.fnOf "tuples_of" "tuples_of" (defArgs s_tuples_of) (defBody s_tuples_of) (defScope s_tuples_of) .none kV3 dc3 pm3 an3 cd3 ct3), f4, (PySem.W.fnOf "_law_source" "_law_source" (defArgs s_law_source) (defBody s_law_source) (defScope s_law_source) .none kV4 dc4 pm4 an4 cd4 ct4), f5, (PySem.W.fnOf "_law_draw" "_law_draw" (defArgs s_law_draw) (defBody s_law_draw) (defScope s_law_draw) .none kV5 dc5 pm5 an5 cd5 ct5), f6, (PySem.W.fnOf "_law_word" "_law_word" (defArgs s_law_word) (defBody s_law_word) (defScope s_law_word) .none kV6 dc6 pm6 an6 cd6 ct6), f7, (PySem.W.fnOf "_law_is_number" "_law_is_number" (defArgs s_law_is_number) (defBody s_law_is_number) (defScope s_law_is_number) .none kV7 dc7 pm7 an7 cd7 ct7), f8, (PySem.W.fnOf "_law_plain" "_law_plain" (defArgs s_law_plain) (defBody s_law_plain) (defScope s_law_plain) .none kV8 dc8 pm8 an8 cd8 ct8), f9, (PySem.W.fnOf "_law_is_good" "_law_is_good" (defArgs s_law_is_good) (defBody s_law_is_good) (defScope s_law_is_good) .none kV9 dc9 pm9 an9 cd9 ct9), f10, (PySem.W.fnOf "_law_rows" "_law_rows" (defArgs s_law_rows) (defBody s_law_rows) (defScope s_law_rows) .none kV10 dc10 pm10 an10 cd10 ct10), f11, (PySem.W.fnOf "_law_apart" "_law_apart" (defArgs s_law_apart) (defBody s_law_apart) (defScope s_law_apart) .none kV11 dc11 pm11 an11 cd11 ct11), f12, (PySem.W.fnOf "_law_refused" "_law_refused" (defArgs s_law_refused) (defBody s_law_refused) (defScope s_law_refused) .none kV12 dc12 pm12 an12 cd12 ct12), f13, (PySem.W.fnOf "_law_tells" "_law_tells" (defArgs s_law_tells) (defBody s_law_tells) (defScope s_law_tells) .none kV13 dc13 pm13 an13 cd13 ct13), f14, (PySem.W.fnOf "_law_made" "_law_made" (defArgs s_law_made) (defBody s_law_made) (defScope s_law_made) .none kV14 dc14 pm14 an14 cd14 ct14), f15, (PySem.W.fnOf "law" "law" (defArgs s_law) (defBody s_law) (defScope s_law) .none kV15 dc15 pm15 an15 cd15 ct15), C_BadAlphabet, f16, (PySem.W.fnOf "__init__" "BadAlphabet.__init__" (defArgs s_BadAlphabet_init) (defBody s_BadAlphabet_init) (defScope s_BadAlphabet_init) .none kV16 dc16 pm16 an16 cd16 ct16), C_RomError, C_BadWord, C_TooMany, C_Alphabet, f17, (PySem.W.fnOf "__init__" "Alphabet.__init__" (defArgs s_Alphabet_init) (defBody s_Alphabet_init) (defScope s_Alphabet_init) .none kV17 dc17 pm17 an17 cd17 ct17), f18, (PySem.W.fnOf "__iter__" "Alphabet.__iter__" (defArgs s_Alphabet_iter) (defBody s_Alphabet_iter) (defScope s_Alphabet_iter) .none kV18 dc18 pm18 an18 cd18 ct18), f19, (PySem.W.fnOf "__contains__" "Alphabet.__contains__" (defArgs s_Alphabet_contains) (defBody s_Alphabet_contains) (defScope s_Alphabet_contains) .none kV19 dc19 pm19 an19 cd19 ct19), f20, (PySem.W.fnOf "__len__" "Alphabet.__len__" (defArgs s_Alphabet_len) (defBody s_Alphabet_len) (defScope s_Alphabet_len) .none kV20 dc20 pm20 an20 cd20 ct20), f21, (PySem.W.fnOf "__call__" "Alphabet.__call__" (defArgs s_Alphabet_call) (defBody s_Alphabet_call) (defScope s_Alphabet_call) .none kV21 dc21 pm21 an21 cd21 ct21), f22, (PySem.W.fnOf "__eq__" "Alphabet.__eq__" (defArgs s_Alphabet_eq) (defBody s_Alphabet_eq) (defScope s_Alphabet_eq) .none kV22 dc22 pm22 an22 cd22 ct22)⟩ :=
    { F_is_between := fun_mk (st := s_is_between) l1 c1 k1,
      g_is_between := PySem.W.mg_of X G a1,
      b_is_between := (fun_mk (st := s_is_between) l1 c1 k1).binds (ps := ["thing", "least", "most"]) fun _ _ _ _ _ _ us hl => match us, hl with | [_, _, _], _ => rfl,
      F_is_word := fun_mk (st := s_is_word) l2 c2 k2,
      g_is_word := PySem.W.mg_of X G a2,
      b_is_word := (fun_mk (st := s_is_word) l2 c2 k2).binds (ps := ["thing"]) fun _ _ _ _ _ _ us hl => match us, hl with | [_], _ => rfl,
      F_tuples_of := fun_mk (st := s_tuples_of) l3 c3 k3,
      g_tuples_of := PySem.W.mg_of X G a3,
      b_tuples_of := (fun_mk (st := s_tuples_of) l3 c3 k3).binds (ps := ["words", "count"]) fun _ _ _ _ _ _ us hl => match us, hl with | [_, _], _ => rfl,
      F_law_source := fun_mk (st := s_law_source) l4 c4 k4,
      g_law_source := PySem.W.mg_of X G a4,
      b_law_source := (fun_mk (st := s_law_source) l4 c4 k4).binds (ps := ["_law_script"]) fun _ _ _ _ _ _ us hl => match us, hl with | [_], _ => rfl,
      F_law_draw := fun_mk (st := s_law_draw) l5 c5 k5,
      g_law_draw := PySem.W.mg_of X G a5,
      b_law_draw := (fun_mk (st := s_law_draw) l5 c5 k5).binds (ps := ["_law_source_here", "_law_below"]) fun _ _ _ _ _ _ us hl => match us, hl with | [_, _], _ => rfl,
      F_law_word := fun_mk (st := s_law_word) l6 c6 k6,
      g_law_word := PySem.W.mg_of X G a6,
      b_law_word := (fun_mk (st := s_law_word) l6 c6 k6).binds (ps := ["_law_source_here"]) fun _ _ _ _ _ _ us hl => match us, hl with | [_], _ => rfl,
      F_law_is_number := fun_mk (st := s_law_is_number) l7 c7 k7,
      g_law_is_number := PySem.W.mg_of X G a7,
      b_law_is_number := (fun_mk (st := s_law_is_number) l7 c7 k7).binds (ps := ["_law_thing"]) fun _ _ _ _ _ _ us hl => match us, hl with | [_], _ => rfl,
      F_law_plain := fun_mk (st := s_law_plain) l8 c8 k8,
      g_law_plain := PySem.W.mg_of X G a8,
      b_law_plain := (fun_mk (st := s_law_plain) l8 c8 k8).binds (ps := ["_law_thing"]) fun _ _ _ _ _ _ us hl => match us, hl with | [_], _ => rfl,
      F_law_is_good := fun_mk (st := s_law_is_good) l9 c9 k9,
      g_law_is_good := PySem.W.mg_of X G a9,
      b_law_is_good := (fun_mk (st := s_law_is_good) l9 c9 k9).binds (ps := ["_law_words"]) fun _ _ _ _ _ _ us hl => match us, hl with | [_], _ => rfl,
      F_law_rows := fun_mk (st := s_law_rows) l10 c10 k10,
      g_law_rows := PySem.W.mg_of X G a10,
      b_law_rows := (fun_mk (st := s_law_rows) l10 c10 k10).binds (ps := ["_law_words", "_law_count"]) fun _ _ _ _ _ _ us hl => match us, hl with | [_, _], _ => rfl,
      F_law_apart := fun_mk (st := s_law_apart) l11 c11 k11,
      g_law_apart := PySem.W.mg_of X G a11,
      b_law_apart := (fun_mk (st := s_law_apart) l11 c11 k11).binds (ps := ["_law_words"]) fun _ _ _ _ _ _ us hl => match us, hl with | [_], _ => rfl,
      F_law_refused := fun_mk (st := s_law_refused) l12 c12 k12,
      g_law_refused := PySem.W.mg_of X G a12,
      b_law_refused := (fun_mk (st := s_law_refused) l12 c12 k12).binds (ps := ["_law_argument"]) fun _ _ _ _ _ _ us hl => match us, hl with | [_], _ => rfl,
      F_law_tells := fun_mk (st := s_law_tells) l13 c13 k13,
      g_law_tells := PySem.W.mg_of X G a13,
      b_law_tells := (fun_mk (st := s_law_tells) l13 c13 k13).binds (ps := ["_law_alphabet", "_law_words", "_law_probes"]) fun _ _ _ _ _ _ us hl => match us, hl with | [_, _, _], _ => rfl,
      F_law_made := fun_mk (st := s_law_made) l14 c14 k14,
      g_law_made := PySem.W.mg_of X G a14,
      b_law_made := (fun_mk (st := s_law_made) l14 c14 k14).binds (ps := ["_law_words", "_law_probes"]) fun _ _ _ _ _ _ us hl => match us, hl with | [_, _], _ => rfl,
      F_law := fun_mk (st := s_law) l15 c15 k15,
      g_law := PySem.W.mg_of X G a15,
      b_law := (fun_mk (st := s_law) l15 c15 k15).binds (ps := ["_law_script"]) fun _ _ _ _ _ _ us hl => match us, hl with | [_], _ => rfl,
      F_BadAlphabet_init := fun_mk (st := s_BadAlphabet_init) l16 c16 k16,
      x_BadAlphabet := ⟨PySem.W.mg_of X G gc_BadAlphabet, ⟨⟨_, _, _, _, _, _, _, _, _, _, _, _, _, _, _, xl_BadAlphabet, vb_BadAlphabet⟩, sa_BadAlphabet, ec_BadAlphabet, tc_BadAlphabet, kc_BadAlphabet⟩, no_BadAlphabet, ic_BadAlphabet, ti_BadAlphabet, (fun_mk (st := s_BadAlphabet_init) l16 c16 k16).binds (ps := ["self", "words"]) fun _ _ _ _ _ _ us hl => match us, hl with | [_, _], _ => rfl, ⟨ga_BadAlphabet, gg_BadAlphabet, ec_BadAlphabet, hd_BadAlphabet⟩, ⟨ga_BadAlphabet, gg_BadAlphabet, ec_BadAlphabet, hd_BadAlphabet, ha_BadAlphabet, hn0, ht0, hm_BadAlphabet⟩, PySem.W.exm_ref ec_BadAlphabet hd_BadAlphabet tc_BadAlphabet ss_BadAlphabet⟩,
      F_Alphabet_init := fun_mk (st := s_Alphabet_init) l17 c17 k17,
      b_Alphabet_init := (fun_mk (st := s_Alphabet_init) l17 c17 k17).binds (ps := ["self", "words"]) fun _ _ _ _ _ _ us hl => match us, hl with | [_, _], _ => rfl,
      m_Alphabet := ⟨mk_Alphabet, ic_Alphabet_init, fn_Alphabet_init, kp_Alphabet⟩,
      F_Alphabet_iter := fun_mk (st := s_Alphabet_iter) l18 c18 k18,
      b_Alphabet_iter := (fun_mk (st := s_Alphabet_iter) l18 c18 k18).binds (ps := ["self"]) fun _ _ _ _ _ _ us hl => match us, hl with | [_], _ => rfl,
      o_Alphabet_iter := ⟨ic_Alphabet_iter, fn_Alphabet_iter⟩,
      F_Alphabet_contains := fun_mk (st := s_Alphabet_contains) l19 c19 k19,
      b_Alphabet_contains := (fun_mk (st := s_Alphabet_contains) l19 c19 k19).binds (ps := ["self", "x"]) fun _ _ _ _ _ _ us hl => match us, hl with | [_, _], _ => rfl,
      o_Alphabet_contains := ⟨ic_Alphabet_contains, fn_Alphabet_contains⟩,
      F_Alphabet_len := fun_mk (st := s_Alphabet_len) l20 c20 k20,
      b_Alphabet_len := (fun_mk (st := s_Alphabet_len) l20 c20 k20).binds (ps := ["self"]) fun _ _ _ _ _ _ us hl => match us, hl with | [_], _ => rfl,
      o_Alphabet_len := ⟨ic_Alphabet_len, fn_Alphabet_len⟩,
      F_Alphabet_call := fun_mk (st := s_Alphabet_call) l21 c21 k21,
      b_Alphabet_call := (fun_mk (st := s_Alphabet_call) l21 c21 k21).binds (ps := ["self", "count"]) fun _ _ _ _ _ _ us hl => match us, hl with | [_, _], _ => rfl,
      co_Alphabet := ⟨ic_Alphabet_call, fn_Alphabet_call, fi_Alphabet_call⟩,
      F_Alphabet_eq := fun_mk (st := s_Alphabet_eq) l22 c22 k22,
      b_Alphabet_eq := (fun_mk (st := s_Alphabet_eq) l22 c22 k22).binds (ps := ["self", "other"]) fun _ _ _ _ _ _ us hl => match us, hl with | [_, _], _ => rfl,
      o_Alphabet_eq := ⟨ic_Alphabet_eq, fn_Alphabet_eq⟩,
      cl_Alphabet := ⟨pg_Alphabet, hd_Alphabet, po_Alphabet, sa_Alphabet⟩,
      na_Alphabet_words := na_Alphabet_words,
      ty_Alphabet := fun e => .base (.ins e ⟨pg_Alphabet, hd_Alphabet, po_Alphabet, sa_Alphabet⟩ ha_Alphabet hn0 ht0 hm_Alphabet),
      g_BadAlphabet := PySem.W.mg_of X G gc_BadAlphabet,
      g_RomError := PySem.W.mg_of X G gc_RomError,
      g_BadWord := PySem.W.mg_of X G gc_BadWord,
      g_TooMany := PySem.W.mg_of X G gc_TooMany,
      g_Alphabet := PySem.W.mg_of X G gc_Alphabet,
      k_BadAlphabet_RomError := ki_BadAlphabet_RomError,
      k_BadAlphabet_ValueError := ki_BadAlphabet_ValueError,
      k_BadAlphabet_BadWord := ki_BadAlphabet_BadWord,
      k_BadAlphabet_TooMany := ki_BadAlphabet_TooMany,
      k_Alphabet_Alphabet := ki_Alphabet_Alphabet,
      n_ValueError := PySem.W.mg_none_of X G z_ValueError,
      n_abs := PySem.W.mg_none_of X G z_abs,
      n_all := PySem.W.mg_none_of X G z_all,
      n_bool := PySem.W.mg_none_of X G z_bool,
      n_int := PySem.W.mg_none_of X G z_int,
      n_isinstance := PySem.W.mg_none_of X G z_isinstance,
      n_iter := PySem.W.mg_none_of X G z_iter,
      n_len := PySem.W.mg_none_of X G z_len,
      n_list := PySem.W.mg_none_of X G z_list,
      n_max := PySem.W.mg_none_of X G z_max,
      n_range := PySem.W.mg_none_of X G z_range,
      n_set := PySem.W.mg_none_of X G z_set,
      n_tuple := PySem.W.mg_none_of X G z_tuple }
  exact ⟨(PySem.W.fnOf "law" "law" (defArgs s_law) (defBody s_law) (defScope s_law) .none kV15 dc15 pm15 an15 cd15 ct15), fun s v => .of_eq rfl, fun base _ _ => ok_law T⟩
end R1
open PySem PySem.W PyProof.Rows
set_option maxHeartbeats 0 in
theorem PySem.Challenge.cw_romwright_k47_alphabets_holds : PySem.Challenge.rw_romwright_k47_alphabets.Holds := by
  w_on; o_law; k_head; (case hw => w_witness2)
  k_fill
  refine L2.walk_of (l := PySem.Challenge.rw_romwright_k47_alphabets) (n := 63) (k := 9) (x := "_law_script") (CX := fun _ => L2.CX0) (sp := fun w => R1.spLaw _) rfl (by decide) rfl ⟨rfl, by decide, by decide⟩ (fun w h Y => PySem.W.kIn_of Y) ?F (fun _ _ a ns hl _ hS => ⟨a, ns, rfl, hS, hl, fun _ => rfl⟩) (fun _ _ _ _ _ h => h)
  case F =>
    intro w mg fa h KX G hmg
    refine' R1.all_mk KX G hmg ?a1 ?l1 ?c1 ?k1 ?a2 ?l2 ?c2 ?k2 ?a3 ?l3 ?c3 ?k3 ?a4 ?l4 ?c4 ?k4 ?a5 ?l5 ?c5 ?k5 ?a6 ?l6 ?c6 ?k6 ?a7 ?l7 ?c7 ?k7 ?a8 ?l8 ?c8 ?k8 ?a9 ?l9 ?c9 ?k9 ?a10 ?l10 ?c10 ?k10 ?a11 ?l11 ?c11 ?k11 ?a12 ?l12 ?c12 ?k12 ?a13 ?l13 ?c13 ?k13 ?a14 ?l14 ?c14 ?k14 ?a15 ?l15 ?c15 ?k15 ?l16 ?c16 ?k16 ?l17 ?c17 ?k17 ?l18 ?c18 ?k18 ?l19 ?c19 ?k19 ?l20 ?c20 ?k20 ?l21 ?c21 ?k21 ?l22 ?c22 ?k22 ?gc_BadAlphabet ?xl_BadAlphabet ?vb_BadAlphabet ?sa_BadAlphabet ?ec_BadAlphabet ?tc_BadAlphabet ?kc_BadAlphabet ?no_BadAlphabet ?ic_BadAlphabet ?ti_BadAlphabet ?ga_BadAlphabet ?gg_BadAlphabet ?hd_BadAlphabet ?ha_BadAlphabet ?hm_BadAlphabet ?ss_BadAlphabet ?hn0 ?ht0 ?gc_RomError ?gc_BadWord ?gc_TooMany ?gc_Alphabet ?ic_Alphabet_init ?fn_Alphabet_init ?mk_Alphabet ?kp_Alphabet ?ic_Alphabet_iter ?fn_Alphabet_iter ?ic_Alphabet_contains ?fn_Alphabet_contains ?ic_Alphabet_len ?fn_Alphabet_len ?ic_Alphabet_call ?fn_Alphabet_call ?fi_Alphabet_call ?ic_Alphabet_eq ?fn_Alphabet_eq ?pg_Alphabet ?hd_Alphabet ?po_Alphabet ?sa_Alphabet ?na_Alphabet_words ?ha_Alphabet ?hm_Alphabet ?ki_BadAlphabet_RomError ?ki_BadAlphabet_ValueError ?ki_BadAlphabet_BadWord ?ki_BadAlphabet_TooMany ?ki_Alphabet_Alphabet ?z_ValueError ?z_abs ?z_all ?z_bool ?z_int ?z_isinstance ?z_iter ?z_len ?z_list ?z_max ?z_range ?z_set ?z_tuple
    (case a1 => k_is)
    (case a2 => k_is)
    (case a3 => k_is)
    (case a4 => k_is)
    (case a5 => k_is)
    (case a6 => k_is)
    (case a7 => k_is)
    (case a8 => k_is)
    (case a9 => k_is)
    (case a10 => k_is)
    (case a11 => k_is)
    (case a12 => k_is)
    (case a13 => k_is)
    (case a14 => k_is)
    (case a15 => k_is)
    (case gc_BadAlphabet => k_is)
    (case gc_RomError => k_is)
    (case gc_BadWord => k_is)
    (case gc_TooMany => k_is)
    (case gc_Alphabet => k_is)
    (case ic_BadAlphabet => k_is)
    (case ic_Alphabet_init => k_is)
    (case ic_Alphabet_iter => k_is)
    (case ic_Alphabet_contains => k_is)
    (case ic_Alphabet_len => k_is)
    (case ic_Alphabet_call => k_is)
    (case ic_Alphabet_eq => k_is)
    (case l1 => k_is)
    (case c1 => k_is)
    (case k1 => k_is)
    (case l2 => k_is)
    (case c2 => k_is)
    (case k2 => k_is)
    (case l3 => k_is)
    (case c3 => k_is)
    (case k3 => k_is)
    (case l4 => k_is)
    (case c4 => k_is)
    (case k4 => k_is)
    (case l5 => k_is)
    (case c5 => k_is)
    (case k5 => k_is)
    (case l6 => k_is)
    (case c6 => k_is)
    (case k6 => k_is)
    (case l7 => k_is)
    (case c7 => k_is)
    (case k7 => k_is)
    (case l8 => k_is)
    (case c8 => k_is)
    (case k8 => k_is)
    (case l9 => k_is)
    (case c9 => k_is)
    (case k9 => k_is)
    (case l10 => k_is)
    (case c10 => k_is)
    (case k10 => k_is)
    (case l11 => k_is)
    (case c11 => k_is)
    (case k11 => k_is)
    (case l12 => k_is)
    (case c12 => k_is)
    (case k12 => k_is)
    (case l13 => k_is)
    (case c13 => k_is)
    (case k13 => k_is)
    (case l14 => k_is)
    (case c14 => k_is)
    (case k14 => k_is)
    (case l15 => k_is)
    (case c15 => k_is)
    (case k15 => k_is)
    (case l16 => k_is)
    (case c16 => k_is)
    (case k16 => k_is)
    (case l17 => k_is)
    (case c17 => k_is)
    (case k17 => k_is)
    (case l18 => k_is)
    (case c18 => k_is)
    (case k18 => k_is)
    (case l19 => k_is)
    (case c19 => k_is)
    (case k19 => k_is)
    (case l20 => k_is)
    (case c20 => k_is)
    (case k20 => k_is)
    (case l21 => k_is)
    (case c21 => k_is)
    (case k21 => k_is)
    (case l22 => k_is)
    (case c22 => k_is)
    (case k22 => k_is)
    (case xl_BadAlphabet => k_is)
    (case vb_BadAlphabet => first | k_is | decide +kernel)
    (case sa_BadAlphabet => k_is)
    (case ec_BadAlphabet => k_is)
    (case tc_BadAlphabet => k_is)
    (case kc_BadAlphabet => k_is)
    (case no_BadAlphabet => k_is)
    (case ti_BadAlphabet => k_is)
    (case ga_BadAlphabet => k_is)
    (case gg_BadAlphabet => k_is)
    (case hd_BadAlphabet => k_is)
    (case ha_BadAlphabet => k_is)
    (case hm_BadAlphabet => k_is)
    (case ss_BadAlphabet => k_is)
    (case hn0 => k_is)
    (case ht0 => k_is)
    (case fn_Alphabet_init => k_is)
    (case mk_Alphabet => k_is)
    (case kp_Alphabet => k_is)
    (case fn_Alphabet_iter => k_is)
    (case fn_Alphabet_contains => k_is)
    (case fn_Alphabet_len => k_is)
    (case fn_Alphabet_call => k_is)
    (case fi_Alphabet_call => k_is)
    (case fn_Alphabet_eq => k_is)
    (case pg_Alphabet => k_is)
    (case hd_Alphabet => k_is)
    (case po_Alphabet => k_is)
    (case sa_Alphabet => k_is)
    (case na_Alphabet_words => k_is)
    (case ha_Alphabet => k_is)
    (case hm_Alphabet => k_is)
    (case ki_BadAlphabet_RomError => first | k_is | kit_is | decide +kernel)
    (case ki_BadAlphabet_ValueError => first | k_is | kit_is | decide +kernel)
    (case ki_BadAlphabet_BadWord => first | k_is | kit_is | decide +kernel)
    (case ki_BadAlphabet_TooMany => first | k_is | kit_is | decide +kernel)
    (case ki_Alphabet_Alphabet => first | k_is | kit_is | decide +kernel)
    (case z_ValueError => k_is)
    (case z_abs => k_is)
    (case z_all => k_is)
    (case z_bool => k_is)
    (case z_int => k_is)
    (case z_isinstance => k_is)
    (case z_iter => k_is)
    (case z_len => k_is)
    (case z_list => k_is)
    (case z_max => k_is)
    (case z_range => k_is)
    (case z_set => k_is)
    (case z_tuple => k_is)

